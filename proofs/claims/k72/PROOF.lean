import PyProof.Rows.All
import Wide.All
import OpenK.AllK
import Wide.FinOn
import Lean
import PyProof.EqAt
import PyProof.EqKinds
import PyProof.TupleCall
import PyProof.NeKinds
import PyProof.SumAny
import KE.KDictList
import KE.KDictOf
import PyProof.AttrMissHeap
import PyProof.Conv_int_bool
import PyProof.TupleOfStr
import PyProof.CollectIter
import PyProof.ListRange
import PyProof.DictWalks
import PyProof.ConsumeS
import PyProof.WalkInts
import PyProof.Draws
import PyProof.EnumFor
import PyProof.EnumStmt
import KE.KDictLaws
import KE.KRevIter
import KE.KDictSum
import PyProof.SeqRoads2
import PyProof.EqAt
import PyProof.EnumMake
import PyProof.ZipIter
import PyProof.InstStore
import PyProof.InstStoreFacts
import PyProof.ExcInit
import PyProof.ExcClass2
import PyProof.NsDelKeeps
import PyProof.ExcArgsOwn
import PyProof.Rows.SetFrom
import PyProof.SetRoads
import KE.IntTextText
import KE.KIntText
import PyProof.StrBlock2
import PyProof.FString5
import PyProof.CallStr
import PyProof.StrWalks
import PyProof.StrCalls
import PyProof.StrCalls2
import PyProof.SliceStr2
import PyProof.StrBlockI
import PyProof.Rows.StrJoin2
import PyProof.CallRoads3
import PyProof.TupleKey
import KE.KIsAll
import PyProof.Rows.Range3
import PyProof.AutoListH
import PyProof.Rows.SortShell
import PyProof.StrCalls6
import PyProof.StrLawsReplace
import PySem.Challenge.RW_tryweir_k72_whole_events_written_and_rea
open PySem.W (Frag)
open List (mem_range filterMap_cons mem_cons_self mem_cons_of_mem mem_cons mem_append mem_append_left mem_append_right append_nil nodup_cons of_mem_zip length_take getElem?_append_right getElem?_append_left getElem?_map mem_of_getElem? length_append length_map size_toArray all_cons any_cons replicate_succ flatten_cons append_assoc length_singleton map_nil map_cons find?_cons lookup_cons all_eq_true getElem_of_mem nil_append getElem?_set getElem?_take getElem?_eq_getElem mem_map length_cons getElem_toArray mem_singleton map_append length_nil not_mem_nil)
set_option Elab.async false
set_option linter.all false
set_option maxRecDepth 100000
local macro_rules | `(tactic| ac_rfl) => `(tactic| exact ⟨rfl, rfl, rfl, by decide +kernel, rfl, by decide +kernel, by decide +kernel⟩)
abbrev Q0:=@List.getElem?_eq_getElem
abbrev Q1:=@PySem.wpAny_bind
abbrev Q2:=@PySem.Heap.get?_push_of_some
abbrev Q3:=@Nat.le_refl
abbrev Q4:=@Bool.false_ne_true
abbrev Q5:=@Nat.lt_of_lt_of_le
abbrev Q6:=@List.getElem?_append_left
abbrev Q7:=@List.getElem?_append_right
abbrev Q8:=@Int.fmod_eq_emod_of_nonneg
abbrev Q9:=@List.mem_of_getElem?
abbrev Qa:=@List.getElem?_map
abbrev Qb:=@Option.some.inj
abbrev Qc:=@PySem.Heap.lt_size
abbrev Qd:=@PySem.wpAny_pure
abbrev Qe:=@PySem.wpAny_mono
abbrev Qf:=@List.length_map
abbrev Qg:=@List.size_toArray
abbrev Qh:=@Nat.le_trans
abbrev Qi:=@Nat.ne_of_lt
abbrev Qj:=@PySem.Heap.get?_push_size
abbrev Qk:=@List.mem_append_right
abbrev Ql:=@List.length_append
abbrev Qm:=@Nat.lt_irrefl
abbrev Qn:=@List.length_cons
abbrev Qo:=@Bool.and_eq_true
abbrev Qp:=@decide_eq_true
abbrev Qq:=@decide_eq_false
namespace My
open PySem
noncomputable def zkF:Stmt->Bool
 | .Assign [.Name x _] _ _=>!(x == "__name__")
 | _=>true
noncomputable abbrev pg:Program:=PySem.Challenge.rw_tryweir_k72_whole_events_written_and_rea.prog
noncomputable def vw:Program:={ pg with main:={ pg.main with body:=pg.main.body.filter zkF } }
end My
section
open PySem PySem.W PyProof.Rows in
local macro_rules | `(tactic| o_head $H) => `(tactic| refine holds_open (q := My.vw) (loose := []) (Xt := fun s => xlAt My.vw [] s && recOk (RowW.records (OpenRow.toRowW (OpenLaw.row PySem.Challenge.rw_tryweir_k72_whole_events_written_and_rea))) s) (XP := XL My.vw []) (Yf := Hook.obs $H) (Ya := Hook.val $H) (YP := Hook.says $H) (N := 40000) (by intro w; kernel_rfl) (Hook.of $H) (Hook.keeps $H) (fun s e => xl_of s (Bool.and_eq_true_iff.mp e).1) XL.keeps (by rfl) (by rfl) (by rfl) (fun s e => recFacts_of (Bool.and_eq_true_iff.mp e).2) (by rfl) (by first | assumption | decide +kernel) (by decide +kernel) ⟨rfl, rfl, rfl, rfl, rfl, by decide +kernel⟩ ?hw ?hc)
open PySem PySem.W PyProof.Rows in
set_option maxHeartbeats 0 in
noncomputable def My.hdD:Σ' P:Prop,P->PySem.Challenge.rw_tryweir_k72_whole_events_written_and_rea.Holds:=by
 refine ⟨?P,fun hc=>?_⟩
 rotate_left
 ·w_on;o_law;k_head;(case hw=>w_witness2)
  exact hc
end
namespace L2
open PySem PySem.Spec PyProof.Rows
noncomputable abbrev Key:=Sum Int Str
noncomputable def zgu:Key->Value->Bool
 | .inl k,v=>Value.isInt k v
 | .inr x,v=>Value.isStrOf x v
noncomputable def zkD (w:World):Key->Int
 | .inl k=>hashInt k
 | .inr x=>hashStr w x
theorem yq:∀ {k:Key} {v:Value},zgu k v = true->(∃ i t,k = Sum.inl i/\v = Value.int i t)\/(∃ x t,k = Sum.inr x/\v = Value.str x t)
 | .inl i,v,h=>by
  obtain ⟨t,e⟩:=Value.isInt_shape (k:=i) (v:=v) h
  exact .inl ⟨i,t,rfl,e⟩
 | .inr x,v,h=>by
  obtain ⟨t,e⟩:=Value.isStrOf_shape (x:=x) (v:=v) h
  exact .inr ⟨x,t,rfl,e⟩
theorem ziR (a b:Int):decide ((Sum.inl a:Key) = Sum.inl b) = (a == b):=by
 by_cases e:a = b
 ·subst e;simp
 ·have h:¬ (Sum.inl a:Key) = Sum.inl b:=fun q=>e (Sum.inl.inj q)
  rw [Qq h]
  exact (beq_eq_false_iff_ne.mpr e).symm
theorem ziO (a b:Str):decide ((Sum.inr a:Key) = Sum.inr b) = decide (a = b):=by
 by_cases e:a = b
 ·subst e;simp
 ·have h:¬ (Sum.inr a:Key) = Sum.inr b:=fun q=>e (Sum.inr.inj q)
  rw [Qq h,Qq e]
theorem ziQ (a:Int) (b:Str):decide ((Sum.inl a:Key) = Sum.inr b) = false:=Qq (fun q=>nomatch q)
theorem ziP (a:Str) (b:Int):decide ((Sum.inr a:Key) = Sum.inl b) = false:=Qq (fun q=>nomatch q)
noncomputable def zdn (prog:Program) (w:World):PySem.KeyKind prog w Key where
 is:=zgu
 hash:=zkD w
 inj:=fun v a b ha hb=>by
  rcases yq ha with ⟨i,t,rfl,rfl⟩ | ⟨x,t,rfl,rfl⟩
  ·rcases yq hb with ⟨j,u,rfl,e⟩ | ⟨y,u,rfl,e⟩
   ·injection e with e1 _;rw [e1]
   ·exact nomatch e
  ·rcases yq hb with ⟨j,u,rfl,e⟩ | ⟨y,u,rfl,e⟩
   ·exact nomatch e
   ·injection e with e1 _;rw [e1]
 byValue:=fun k v h=>by
  rcases yq h with ⟨i,t,rfl,rfl⟩ | ⟨x,t,rfl,rfl⟩ <;> rfl
 pyHash:=fun hv h=>by
  rcases yq hv with ⟨i,t,rfl,rfl⟩ | ⟨x,t,rfl,rfl⟩
  ·exact wpAny_pyHash_int h
  ·exact wpAny_pyHash_str h
 eqBool:=fun hu hv h=>by
  rcases yq hu with ⟨i,t,rfl,rfl⟩ | ⟨x,t,rfl,rfl⟩
  ·rcases yq hv with ⟨j,u,rfl,rfl⟩ | ⟨y,u,rfl,rfl⟩
   ·rw [ziR] at h;exact wpAny_eqBool_int h
   ·rw [ziQ] at h;exact SeqAt.EqAt.int_str i t y u _ _ _ _ h
  ·rcases yq hv with ⟨j,u,rfl,rfl⟩ | ⟨y,u,rfl,rfl⟩
   ·rw [ziP] at h;exact SeqAt.EqAt.str_int x t j u _ _ _ _ h
   ·rw [ziO] at h;exact wpAny_eqBool_str h
 «strs»:=fun k x t v h=>by
  rcases yq h with ⟨i,u,rfl,e⟩ | ⟨y,u,rfl,e⟩
  ·exact nomatch e
  ·injection e with e1 _
   subst e1
   cases v <;> rfl
inductive V where
 | non | bl (b:Bool) | int (i:Int) | str (x:Str) | byt (b:Array UInt8) | flt (b:UInt64) | ref (a:Addr) | ty (n:String)
 deriving DecidableEq
noncomputable def RelV:V->Value->Prop
 | .non,u=>u = Value.none
 | .bl b,u=>u = Value.bool b
 | .int i,u=>∃ t,u = Value.int i t
 | .str x,u=>∃ t,u = Value.str x t
 | .byt b,u=>∃ t,u = Value.bytes b t
 | .flt b,u=>∃ t,u = Value.float b t
 | .ref a,u=>u = Value.ref a
 | .ty n,u=>u = Value.type n
noncomputable abbrev Vals:List V->List Value->Prop:=Paired RelV
variable {xs:List V} {us:List Value}
theorem Vals.length (r:Vals xs us):xs.length = us.length:=Paired.length r
theorem Vals.get:∀ {xs:List V} {us:List Value} {i:Nat} {x:V},Vals xs us->xs[i]? = some x->∃ u,us[i]? = some u/\RelV x u
 | _,_,_,_,.nil,e=>by simp at e
 | _,_,0,_,.cons r _,e=>by simp at e;subst e;exact ⟨_,rfl,r⟩
 | _,_,i + 1,x,.cons _ t,e=>by
  obtain ⟨u,h1,h2⟩:=Vals.get (i:=i) (x:=x) t (by simpa using e)
  exact ⟨u,by simpa using h1,h2⟩
theorem Vals.set {x:V} {u:Value} (r:RelV x u):∀ {xs:List V} {us:List Value} (i:Nat),Vals xs us->Vals (xs.set i x) (us.set i u)
 | _,_,_,.nil=>.nil
 | _,_,0,.cons _ t=>.cons r t
 | _,_,i + 1,.cons q t=>.cons q (Vals.set r i t)
theorem Vals.append:∀ {xs ys:List V} {us ws:List Value},Vals xs us->Vals ys ws->Vals (xs ++ ys) (us ++ ws)
 | _,_,_,_,.nil,s=>s
 | _,_,_,_,.cons r t,s=>.cons r (Vals.append t s)
theorem Vals.take:∀ {xs:List V} {us:List Value} (n:Nat),Vals xs us->Vals (xs.take n) (us.take n)
 | _,_,0,_=>.nil
 | _,_,_ + 1,.nil=>.nil
 | _,_,n + 1,.cons r t=>.cons r (Vals.take n t)
theorem Vals.drop:∀ {xs:List V} {us:List Value} (n:Nat),Vals xs us->Vals (xs.drop n) (us.drop n)
 | _,_,0,r=>r
 | _,_,_ + 1,.nil=>.nil
 | _,_,n + 1,.cons _ t=>Vals.drop n t
theorem Vals.none_of:∀ {xs:List V} {us:List Value} {i:Nat},Vals xs us->xs[i]? = none->us[i]? = none:=fun {xs us i} r e=>by
 have h1:=r.length
 have h2:xs.length<=i:=List.getElem?_eq_none_iff.mp e
 exact List.getElem?_eq_none_iff.mpr (by omega)
noncomputable def zjp:Option V->Option Value->Prop
 | some v,some u=>RelV v u
 | none,none=>True
 | _,_=>False
noncomputable def KV {κ:Type}:List (κ × V)->List (κ × Value)->Prop:=Paired fun (p:κ × V) (q:κ × Value)=>p.1 = q.1/\RelV p.2 q.2
noncomputable def kV:Key->V
 | .inl i=>.int i
 | .inr x=>.str x
inductive HO where
 | lst (xs:List V)
 | tup (xs:List V)
 | dK (kvs:List (Key × V)) | dT (kvs:List (List Key × V))
 | set (S:Int->Bool) (n:Nat)
 | ins (C dx:Addr) (fs:List (Str × V))
 | own (x:Addr)
 | xd (fs:List (Str × V))
 | met (f x:Addr)
 | rng (lo hi:Int)
 | frz (o:Obj) (u:HO)
 | tbl (ps:Array Value)
 | ext (φ:Heap->Prop)
noncomputable abbrev Hp:=Addr->Option HO
noncomputable def upd (H:Hp) (a:Addr) (o:HO):Hp:=fun b=>if b = a then some o else H b
variable {o:HO} {H:Hp}
theorem yt {a:Addr} :upd H a o a = some o:=by unfold upd;rw [if_pos rfl]
theorem yd {a b:Addr} (h:b ≠ a):upd H a o b = H b:=by unfold upd;rw [if_neg h]
theorem zbc {a b:Addr} {u:HO} (h:H a = some o) (h':H b = some u) (d:o ≠ u):a ≠ b:=by
 intro e;subst e;rw [h] at h';exact d (Qb h')
theorem yf {a b:Addr} (h:H a = some o) (h':H b = none):a ≠ b:=by
 intro e;subst e;rw [h] at h';cases h'
def NoDict (h:Heap) (a:Addr):Prop:=∀ o,h.get? a = some o->o.dict = none
variable {h:Heap} {n:Nat}
theorem NoDict.new {its:Array Value} {n:Nat}:NoDict (h.push { cls:=.type "tuple",data:=.seq its n }) h.objs.size:=fun o e=>by
 rw [Qj _ rfl] at e;cases e;rfl
section
variable (P:Program) (w:World)
noncomputable def ObjOk (H:Hp) (h:Heap) (a:Addr):HO->Prop
 | .lst xs=>xs.length<=sizeLine/\∃ (its:List Value) (n:Nat),Vals xs its/\h.get? a = some { cls:=.type "list",data:=.seq its.toArray n }
 | .tup xs=>xs.length<=sizeLine/\∃ its:List Value,Vals xs its/\IsTup h a its.toArray/\NoDict h a
 | .dK kvs=>kvs.length<=sizeLine/\(a == sysModules) = false/\∃ vs,KV kvs vs/\h.DictOf (zdn P w) a vs
 | .dT kvs=>kvs.length<=sizeLine/\(a == sysModules) = false/\∃ xs:List (List Key × Addr × Value),
   Paired (fun (p:List Key × V) (q:List Key × Addr × Value)=>p.1 = q.1/\H q.2.1 = some (.tup (p.1.map kV))/\RelV p.2 q.2.2) kvs xs /\
   ∃ o es ep,h.get? a = some o/\o.ExactDict/\o.data = .dict es ep/\es.toList = xs.map (entryOfKey (tupleKind (zdn P w)))/\(xs.map (·.1)).Nodup
 | .set S n=>h.SetOf (intKind P w) a S n
 | .ins C dx fs=>H dx = some (.own a)/\fs.length<=1000/\dx ≠ a/\h.get? a = some (PySem.W.instObj C dx) /\
   ∃ mA,h.Ns1 dx mA/\(∀ f,zjp (fs.lookup f) (mA f))/\PySem.Within mA (fs.map (·.1))
 | .own _=>∃ o,h.get? a = some o
 | .xd fs=>∃ mA,h.Ns1 a mA/\∀ f,zjp (fs.lookup f) (mA f)
 | .rng lo hi=>∃ t u v,h.get? a = some { cls:=.type "range",data:=.fields #[.int lo t,.int hi u,.int 1 v] }
 | .frz o u=>h.get? a = some o/\ObjOk H h a u
 | .tbl ps=>h.get? a = some { cls:=.none,data:=.fields ps }
 | .met f x=>h.get? a = some (PySem.W.methodObj (.ref f) (.ref x))
 | .ext φ=>φ h/\(∃ o,h.get? a = some o)/\∀ h1 h2:Heap,φ h1->(∀ o,h1.get? a = some o->h2.get? a = some o)->φ h2
def HOk (H:Hp) (h:Heap):Prop:=∀ a o,H a = some o->ObjOk P w H h a o
end
variable {h':Heap} {H':Hp} {P:Program} {w:World}
section
variable {a:Addr}
theorem ObjOk.lt (x:ObjOk P w H h a o):a < h.objs.size:=by
 cases o with
 | lst xs=>obtain ⟨_,_,_,_,e⟩:=x;exact Qc e
 | tup xs=>obtain ⟨_,_,_,p,_⟩:=x;exact p.lt
 | dK kvs=>obtain ⟨_,_,_,_,o,_,_,e,_⟩:=x;exact Qc e
 | dT kvs=>obtain ⟨_,_,_,_,o,_,_,e,_⟩:=x;exact Qc e
 | set S n=>obtain ⟨o,_,_,_,e,_⟩:=x;exact Qc e
 | ins C dx fs=>obtain ⟨_,_,_,e,_⟩:=x;exact Qc e
 | own y=>obtain ⟨_,e⟩:=x;exact Qc e
 | xd fs=>obtain ⟨_,⟨_,_,_,e,_⟩,_⟩:=x;exact Qc e
 | rng lo hi=>obtain ⟨_,_,_,e⟩:=x;exact Qc e
 | frz ob u=>obtain ⟨e,_⟩:=x;exact Qc e
 | tbl ps=>exact Qc (show h.get? a = some _ from x)
 | met f y=>exact Qc (show h.get? a = some _ from x)
 | ext φ=>obtain ⟨_,⟨_,e⟩,_⟩:=x;exact Qc e
theorem Paired.mapP {α β:Type} {F G:α->β->Prop}:∀ {l₁:List α} {l₂:List β},Paired F l₁ l₂->(∀ a b,F a b->G a b)->Paired G l₁ l₂
 | _,_,.nil,_=>.nil
 | _,_,.cons r t,f=>.cons (f _ _ r) (Paired.mapP t f)
theorem ObjOk.stay (x:ObjOk P w H h a o) (k:∀ b u,(b = a\/H b = some (.own a))->h.get? b = some u->h'.get? b = some u)
  (ho:∀ b,H b = some (.own a)->H' b = some (.own a)) (ht:∀ b xs,H b = some (.tup xs)->H' b = some (.tup xs)):ObjOk P w H' h' a o:=by
 induction o with
 | lst xs=>obtain ⟨z,its,n,r,e⟩:=x;exact ⟨z,its,n,r,k _ _ (.inl rfl) e⟩
 | tup xs=>obtain ⟨z,its,r,⟨ob,e,c⟩,nd⟩:=x;exact ⟨z,its,r,⟨ob,k _ _ (.inl rfl) e,c⟩,fun o q=>nd o (by rw [k _ _ (.inl rfl) e] at q;rw [e];exact q)⟩
 | dK kvs=>obtain ⟨z,y,vs,r,ob,es,ep,e,c⟩:=x;exact ⟨z,y,vs,r,ob,es,ep,k _ _ (.inl rfl) e,c⟩
 | dT kvs=>
  obtain ⟨z,y,xs,r,ob,es,ep,e,c⟩:=x
  exact ⟨z,y,xs,Paired.mapP r fun p q z=>⟨z.1,ht _ _ z.2.1,z.2.2⟩,ob,es,ep,k _ _ (.inl rfl) e,c⟩
 | set S n=>obtain ⟨ob,es,ep,t,e,c⟩:=x;exact ⟨ob,es,ep,t,k _ _ (.inl rfl) e,c⟩
 | ins C dx fs=>
  obtain ⟨d,z,ne,e,mA,⟨od,es,ep,e2,c⟩,r⟩:=x
  exact ⟨ho _ d,z,ne,k _ _ (.inl rfl) e,mA,⟨od,es,ep,k _ _ (.inr d) e2,c⟩,r⟩
 | own y=>obtain ⟨ob,e⟩:=x;exact ⟨ob,k _ _ (.inl rfl) e⟩
 | xd fs=>obtain ⟨mA,⟨od,es,ep,e,c⟩,r⟩:=x;exact ⟨mA,⟨od,es,ep,k _ _ (.inl rfl) e,c⟩,r⟩
 | rng lo hi=>obtain ⟨t,u,v,e⟩:=x;exact ⟨t,u,v,k _ _ (.inl rfl) e⟩
 | frz ob u ih=>obtain ⟨e,q⟩:=x;exact ⟨k _ _ (.inl rfl) e,ih q⟩
 | tbl ps=>
  have e:h.get? a = some { cls:=.none,data:=.fields ps }:=x
  show h'.get? a = some { cls:=.none,data:=.fields ps }
  exact k a _ (.inl rfl) e
 | met f y=>
  have e:h.get? a = some (PySem.W.methodObj (.ref f) (.ref y)):=x
  show h'.get? a = some (PySem.W.methodObj (.ref f) (.ref y))
  exact k a _ (.inl rfl) e
 | ext φ=>obtain ⟨p,⟨o,e⟩,st⟩:=x;exact ⟨st _ _ p fun o q=>k _ _ (.inl rfl) q,⟨o,k _ _ (.inl rfl) e⟩,st⟩
theorem HOk.lt (x:HOk P w H h) (e:H a = some o):a < h.objs.size:=(x a o e).lt
theorem HOk.fresh (x:HOk P w H h) (e:h.objs.size<=a):H a = none:=by
 cases q:H a with
 | none=>rfl
 | some u=>exact absurd (Q5 (x.lt q) e) (Qm _)
theorem HOk.kept (x:HOk P w H h) (k:∀ b u,h.get? b = some u->h'.get? b = some u):HOk P w H h':=fun a o e=>
 (x a o e).stay (fun b u _ q=>k b u q) (fun _ q=>q) fun _ _ q=>q
theorem HOk.laid (x:HOk P w H h) (k:∀ b u,h.get? b = some u->h'.get? b = some u) (hp:h.objs.size<=a) (new:ObjOk P w (upd H a o) h' a o):HOk P w (upd H a o) h':=fun b u e=>by
 have hn:=x.fresh hp
 by_cases hb:b = a
 ·subst hb;rw [yt] at e;cases e;exact new
 ·rw [yd hb] at e
  exact (x b u e).stay (fun c v _ q=>k c v q) (fun c q=>by rw [yd (yf q hn)];exact q) fun c xs q=>by rw [yd (yf q hn)];exact q
end
def Rd (H:Hp) (a:Addr) (u:HO):Prop:=H a = some u\/∃ o,H a = some (.frz o u)
theorem Rd.ok {a:Addr} {u:HO} (r:Rd H a u) (x:HOk P w H h):ObjOk P w H h a u:=by
 rcases r with r | ⟨o,r⟩
 ·exact x a u r
 ·obtain ⟨_,q⟩:=x a _ r
  exact q
noncomputable def Mut:Option HO->Prop
 | some (.lst _)=>True
 | some (.dK _)=>True
 | some (.dT _)=>True
 | some (.set _ _)=>True
 | some (.ins _ _ _)=>True
 | some (.ext _)=>True
 | _=>False
section
variable {x e:Addr} {o':HO}
theorem HOk.write (ok:HOk P w H h) (mu:Mut (H x)) (he:e = x\/H e = some (.own x)) (k:∀ b u,b ≠ e->h.get? b = some u->h'.get? b = some u) (heo:∃ u,h'.get? e = some u)
  (new:ObjOk P w (upd H x o') h' x o'):HOk P w (upd H x o') h':=fun b u q=>by
 have nown:∀ c y,H c = some (.own y)->c ≠ x:=fun c y r z=>by subst z;rw [r] at mu;exact mu
 have ntup:∀ c xs,H c = some (.tup xs)->c ≠ x:=fun c xs r z=>by subst z;rw [r] at mu;exact mu
 by_cases hb:b = x
 ·subst hb;rw [yt] at q;cases q;exact new
 ·rw [yd hb] at q
  by_cases hbe:b = e
  ·have q':H b = some (.own x):=by
    rcases he with z | z
    ·exact absurd (hbe.trans z) hb
    ·rw [hbe];exact z
   rw [q] at q';cases q'
   obtain ⟨v,hv⟩:=heo
   exact ⟨v,by rw [hbe];exact hv⟩
  ·refine (ok b u q).stay (fun c v hc r=>k c v ?_ r) (fun c r=>by rw [yd (nown c b r)];exact r) fun c xs r=>by rw [yd (ntup c xs r)];exact r
   rcases hc with rfl | hc
   ·exact hbe
   ·rintro rfl
    rcases he with z | z
    ·exact nown c b hc z
    ·rw [hc] at z;cases z;exact hb rfl
end
structure Un (fs ex:List Addr) (H H':Hp) (h h':Heap):Prop where
 keep:∀ b o,h.get? b = some o->H b = none->b ∉ fs->b ∉ ex->h'.get? b = some o
 slot:∀ b o,h.get? b = some o->H b = none->b ∈ fs->b ∉ ex->∃ sl,h'.get? b = some { o with slots:=sl }
 free:∀ b o,h.get? b = some o->H b = none->b ∉ ex->H' b = none
 there:∀ b o,h.get? b = some o->b ∉ ex->∃ o',h'.get? b = some o'
 tups:∀ b xs,H b = some (.tup xs)->H' b = some (.tup xs)
 frzs:∀ b o u,H b = some (.frz o u)->H' b = some (.frz o u)
 tbls:∀ b ps,H b = some (.tbl ps)->∃ more,H' b = some (.tbl (ps ++ more))
section
variable {fs fs' ex ex':List Addr} {H1 H2:Hp} {h1 h2:Heap} {a x e:Addr}
theorem Un.any (u:Un fs ex H H1 h h1) {b:Addr} {ob:Obj} (q:h.get? b = some ob) (n:H b = none) (hx:b ∉ ex):∃ sl,h1.get? b = some { ob with slots:=sl }:=by
 by_cases hb:b ∈ fs
 ·exact u.slot b ob q n hb hx
 ·exact ⟨ob.slots,u.keep b ob q n hb hx⟩
theorem Un.kept (k:∀ b u,h.get? b = some u->h'.get? b = some u):Un fs ex H H h h':=
 ⟨fun b ob q _ _ _=>k b ob q,fun b ob q _ _ _=>⟨ob.slots,k b ob q⟩,fun _ _ _ n _=>n,fun b ob q _=>⟨ob,k b ob q⟩,fun _ _ q=>q,fun _ _ _ q=>q,fun _ ps q=>⟨#[],by rw [q];simp⟩⟩
theorem Un.refl:Un fs ex H H h h:=Un.kept fun _ _ q=>q
theorem Un.laid (k:∀ b u,h.get? b = some u->h'.get? b = some u) (hp:h.objs.size<=a) (hn:H a = none):Un fs ex H (upd H a o) h h' where
 keep:=fun b u q _ _ _=>k b u q
 slot:=fun b u q _ _ _=>⟨u.slots,k b u q⟩
 free:=fun b u q n _=>by rw [yd (Qi (Q5 (Qc q) hp))];exact n
 there:=fun b u q _=>⟨u,k b u q⟩
 tups:=fun b xs q=>by rw [yd (yf q hn)];exact q
 frzs:=fun b u xs q=>by rw [yd (yf q hn)];exact q
 tbls:=fun b ps q=>⟨#[],by rw [yd (yf q hn),q];simp⟩
theorem Un.write (mu:Mut (H x)) (he:e = x\/H e = some (.own x)) (k:∀ b u,b ≠ e->h.get? b = some u->h'.get? b = some u) (heo:∃ u,h'.get? e = some u):Un fs ex H (upd H x o) h h':=by
 have hx:∀ b,H b = none->b ≠ x:=fun b n z=>by subst z;rw [n] at mu;exact mu
 have hb:∀ b,H b = none->b ≠ e:=fun b n z=>by
  subst z
  rcases he with r | r
  ·exact hx b n r
  ·rw [n] at r;cases r
 have hm:∀ b u,H b = some u->¬ Mut (some u)->b ≠ x:=fun b u q nm z=>by subst z;rw [q] at mu;exact nm mu
 refine ⟨fun b u q n _ _=>k b u (hb b n) q,fun b u q n _ _=>⟨u.slots,k b u (hb b n) q⟩,fun b u q n _=>by rw [yd (hx b n)];exact n,fun b u q _=>?_,
  fun b xs q=>by rw [yd (hm b _ q fun z=>z)];exact q,fun b u xs q=>by rw [yd (hm b _ q fun z=>z)];exact q,fun b ps q=>⟨#[],by rw [yd (hm b _ q fun z=>z),q];simp⟩⟩
 by_cases hbe:b = e
 ·subst hbe;exact heo
 ·exact ⟨u,k b u hbe q⟩
end
noncomputable def trk (h:Heap) (H:Hp):List Addr:=(List.range h.objs.size).filter fun a=>(H a).isSome
noncomputable def zan (h:Heap) (H:Hp):Heap:=PySem.W.hideAll h (trk h H)
theorem zeN (h:Heap) (H:Hp):(zan h H).objs.size = h.objs.size:=PySem.W.hideAll_size _ _
theorem zfQ {b:Addr} {o:Obj} (e:h.get? b = some o) (n:H b = none):(zan h H).get? b = some o:=
 PySem.W.hideAll_get _ e fun hm=>by
  have q:(H b).isSome = true:=(List.mem_filter.mp hm).2
  rw [n] at q;simp at q
theorem zhf {b:Addr} {o:Obj} (e:(zan h H).get? b = some o):h.get? b = some o/\H b = none:=by
 have e':h.get? b = some o:=PySem.W.of_hideAll (trk h H) e
 refine ⟨e',?_⟩
 cases q:H b with
 | none=>rfl
 | some x=>
  have hm:b ∈ trk h H:=List.mem_filter.mpr ⟨mem_range.mpr (Qc e'),by simp [q]⟩
  have z:(zan h H).get? b = none:=PySem.W.hideAll_none (trk h H) hm
  rw [z] at e;cases e
noncomputable def zhP (g h:Heap) (L:Addr):List (Addr × Obj):=(List.range h.objs.size).filterMap fun a=>if a = L\/(g.get? a).isSome = true then none else (h.get? a).map fun o=>(a,o)
noncomputable def rest (g h:Heap) (L d:Addr):List (Addr × Obj):=(zhP g h L).filter fun p=>decide (p.1 ≠ d)
structure Mod (K:Frag) (mg:Str->Option Value) (base:Heap):Prop where
 kin:K.In base
 glob:base.Ns mainGlobals mg
 blt:∃ mb,base.Ns builtinsNs mb/\∀ x:Str,x ≠ "__name__"->mb x = bootBuiltins x
 nolimit:base.NoLimit
structure Cx where
 prog:Program
 w:World
 K:Frag
 mg:Str->Option Value
 base:Heap
 A:Around
 N:List Str
 s₀:Shared
 H₀:Hp
 env:Env
 outer:List Env
 stack:List Env
 ex:List Addr
 fn:Str->Bool
 calm:Bool
 pn:List (Addr × Obj)
 xe:Value->Shared->Prop
noncomputable def frs (l:List Env):List Addr:=l.filterMap (·.frame)
noncomputable abbrev Cx.fs (X:Cx):List Addr:=frs X.outer
def Vis (sc:Scope) (x:Str):Prop:=sc.names.lookup x = some .local\/sc.names.lookup x = some .cell\/sc.names.lookup x = some .free
def Loc (sc:Scope) (x:Str):Prop:=sc.names.lookup x = some .local\/sc.names.lookup x = some .cell
def Look (env:Env) (h:Heap) (m:Str->Option Value) (x:Str) (u:Value):Prop:=
 (env.kindOf x = some .local/\m x = some u)\/((env.kindOf x = some .cell\/env.kindOf x = some .free)/\∃ c,env.cells.lookup x = some c/\h.IsCell c (some u))
structure Cx.Ok (X:Cx):Prop where
 mod:Mod X.K X.mg X.base
 kind:X.env.scope.kind = .function
 glob:X.env.globals = mainGlobals
 blt:X.env.builtins = builtinsNs
 above:X.s₀.heap.objs.size<=X.env.locals
 inj:∀ x y c,X.env.cells.lookup x = some c->X.env.cells.lookup y = some c->x = y
 has:∀ x,(X.env.kindOf x = some .cell\/X.env.kindOf x = some .free)->∃ c,X.env.cells.lookup x = some c
 cab:∀ x c,X.fn x = true->X.env.cells.lookup x = some c->X.s₀.heap.objs.size<=c
 hd:X.calm = true->X.A.handled = none
 frames:X.A.frames = some X.stack
 stk:X.stack = X.outer\/(X.stack = X.env :: X.outer/\X.env.frame = some X.env.locals)
 exf:∀ b ∈ X.ex,b ≠ X.env.locals/\∀ x c,X.env.cells.lookup x = some c->c ≠ b
 bs:∀ b o,X.base.get? b = some o->X.s₀.heap.get? b = some o/\X.H₀ b = none
 bsz:X.base.objs.size<=X.s₀.heap.objs.size
 noex:∀ b o,X.base.get? b = some o->b ∉ X.ex
 exfs:∀ b ∈ X.ex,b ∉ X.fs
 funs:X.s₀.heap.FunFrames X.base X.outer
 frf:∀ b ∈ X.fs,X.H₀ b = none
structure Inv (X:Cx) (pins:List (Addr × Obj)) (σ:List (Option V)) (H:Hp) (s:Shared):Prop where
 ok:X.Ok
 os:s.os = X.s₀.os
 bare:AllBare s.gens
 base:Un X.fs X.ex X.H₀ H X.s₀.heap s.heap
 loc:∃ m,s.heap.Ns X.env.locals m/\∀ (i:Nat) (x:Str) (v:V),X.N[i]? = some x->σ[i]? = some (some v)->Vis X.env.scope x->∃ u,RelV v u/\Look X.env s.heap m x u
 cell:∀ x c,X.env.cells.lookup x = some c->∃ v,s.heap.IsCell c v
 free:H X.env.locals = none
 freeC:∀ x c,X.env.cells.lookup x = some c->H c = none
 pin:∀ p ∈ X.pn ++ pins,s.heap.get? p.1 = some p.2/\H p.1 = none/\p.1 ≠ X.env.locals/\p.1 ∉ X.fs/\∀ v,p.2.data ≠ .cell v
 hok:HOk X.prog X.w H s.heap
 len:σ.length = X.N.length
variable {it:Addr} {A:Around} {g':Array GenState} {X:Cx} {d':Drawn} {pins:List (Addr × Obj)} {ch:List Addr} {N:List Str} {M:Model} {i j t':Nat} {s s':Shared} {x:Str} {v:V} {u:Value} {E:Value->Shared->Prop}
section
variable {σ:List (Option V)}
theorem Cx.Ok.nofr (ok:X.Ok) {b:Addr} {o:Obj} (e:X.base.get? b = some o):b ∉ X.fs:=fun hb=>by
 have:=(ok.funs.mem hb).1
 rw [e] at this;cases this
theorem Inv.bs (I:Inv X pins σ H s):∀ b o,X.base.get? b = some o->s.heap.get? b = some o/\H b = none:=fun b o e=>
 ⟨I.base.keep b o (I.ok.bs b o e).1 (I.ok.bs b o e).2 (I.ok.nofr e) (I.ok.noex b o e),I.base.free b o (I.ok.bs b o e).1 (I.ok.bs b o e).2 (I.ok.noex b o e)⟩
theorem Inv.bk (I:Inv X pins σ H s):∀ b o,X.base.get? b = some o->s.heap.get? b = some o:=fun b o e=>(I.bs b o e).1
theorem Inv.mod (I:Inv X pins σ H s):Mod X.K X.mg X.base:=I.ok.mod
theorem Inv.kIn (I:Inv X pins σ H s):X.K.In s.heap:=I.ok.mod.kin.keeps I.bk
theorem Inv.fr (I:Inv X pins σ H s):∃ m,Fr X.base X.env.locals s.heap m:=
 let ⟨m,hn,_⟩:=I.loc
 ⟨m,hn,I.bk,Qh I.ok.bsz I.ok.above⟩
theorem Inv.lt (I:Inv X pins σ H s):X.env.locals < s.heap.objs.size:=let ⟨_,hn,_⟩:=I.loc;hn.lt
theorem Inv.sz (I:Inv X pins σ H s):X.s₀.heap.objs.size<=s.heap.objs.size:=Qh I.ok.above (Nat.le_of_lt I.lt)
theorem Inv.nofs (I:Inv X pins σ H s) {a:Addr} (h:s.heap.objs.size<=a):a ∉ X.fs:=fun hb=>by
 obtain ⟨_,o,ho,_⟩:=I.ok.funs.mem hb
 exact absurd (Q5 (Qc ho) (Qh I.sz h)) (Qm _)
theorem Inv.cne (I:Inv X pins σ H s):∀ x c,X.env.cells.lookup x = some c->c ≠ X.env.locals:=fun x c e z=>by
 obtain ⟨v,o,ho,hd⟩:=I.cell x c e
 obtain ⟨m,⟨o',es,ep,ho',hd',_⟩,_⟩:=I.loc
 rw [z,ho'] at ho;cases ho;rw [hd'] at hd;cases hd
theorem Inv.funs (I:Inv X pins σ H s):s.heap.FunFrames X.base X.outer:=by
 have all:∀ (l:List Env),(∀ b ∈ frs l,b ∈ X.fs)->X.s₀.heap.FunFrames X.base l->s.heap.FunFrames X.base l:=by
  intro l
  induction l with
  | nil=>intro _ _;trivial
  | cons env r ih=>
   intro hs hl
   obtain ⟨hk,⟨L,o,hf,hn,ho,hd⟩,hr⟩:=hl
   have hL:L ∈ X.fs:=hs L (by unfold frs;rw [filterMap_cons,hf];exact mem_cons_self)
   obtain ⟨sl,e⟩:=I.base.slot L o ho (I.ok.frf L hL) hL fun z=>I.ok.exfs L z hL
   exact ⟨hk,⟨L,_,hf,hn,e,hd⟩,ih (fun b hb=>hs b (by unfold frs;rw [filterMap_cons,hf];exact mem_cons_of_mem _ hb)) hr⟩
 exact all X.outer (fun _ hb=>hb) I.ok.funs
theorem Inv.stack (I:Inv X pins σ H s):s.heap.FunFrames X.base X.stack:=by
 rcases I.ok.stk with e | ⟨e,hf⟩
 ·rw [e];exact I.funs
 ·rw [e]
  obtain ⟨m,hn,_⟩:=I.loc
  refine .cons (by rw [I.ok.kind];decide) hf hn ?_ I.funs
  exact Heap.get?_none_of_le (Qh I.ok.bsz I.ok.above)
theorem Inv.stkSub (I:Inv X pins σ H s):∀ b ∈ frs X.stack,b ∈ X.env.locals :: X.fs:=fun b hb=>by
 rcases I.ok.stk with e | ⟨e,hf⟩
 ·rw [e] at hb;exact mem_cons_of_mem _ hb
 ·rw [e] at hb
  unfold frs at hb
  rw [filterMap_cons,hf] at hb
  exact hb
theorem Inv.stkFree (I:Inv X pins σ H s):∀ b ∈ frs X.stack,H b = none:=fun b hb=>by
 rcases mem_cons.mp (I.stkSub b hb) with e | hb
 ·rw [e];exact I.free
 ·obtain ⟨_,o,ho,_⟩:=I.ok.funs.mem hb
  exact I.base.free b o ho (I.ok.frf b hb) fun z=>I.ok.exfs b z hb
theorem Inv.step {t':Nat} {d':Drawn} (I:Inv X pins σ H s)
 (hch:∀ b ∈ ch,(b ∈ X.ex\/X.s₀.heap.objs.size<=b)/\b ≠ X.env.locals/\(∀ x c,X.env.cells.lookup x = some c->c ≠ b)/\∀ p ∈ X.pn ++ pins,p.1 ≠ b)
 (keep:∀ b o,b ≠ X.env.locals->b ∉ X.fs->b ∉ ch->s.heap.get? b = some o->H b = none->h'.get? b = some o)
 (slot:∀ b o,b ≠ X.env.locals->b ∈ X.fs->b ∉ ch->s.heap.get? b = some o->H b = none->∃ sl,h'.get? b = some { o with slots:=sl }) (free:∀ b o,b ∉ ch->s.heap.get? b = some o->H b = none->H' b = none)
 (there:∀ b o,b ∉ ch->s.heap.get? b = some o->∃ o',h'.get? b = some o')
 (tups:∀ b xs,H b = some (.tup xs)->H' b = some (.tup xs)) (frzs:∀ b o u,H b = some (.frz o u)->H' b = some (.frz o u)) (tbls:∀ b ps,H b = some (.tbl ps)->∃ more,H' b = some (.tbl (ps ++ more)))
 (ns:∀ m,s.heap.Ns X.env.locals m->h'.Ns X.env.locals m) (hok:HOk X.prog X.w H' h') (hg:AllBare g') :
  Inv X pins σ H' { s with heap:=h',gens:=g',drawn:=d',toks:=t' }:=by
 have neL:∀ b o,X.s₀.heap.get? b = some o->b ≠ X.env.locals:=fun b o e=>Qi (Q5 (Qc e) I.ok.above)
 have neC:∀ b o,X.s₀.heap.get? b = some o->b ∉ X.ex->b ∉ ch:=fun b o e hx hb=>by
  rcases (hch b hb).1 with z | z
  ·exact hx z
  ·exact absurd (Q5 (Qc e) z) (Qm _)
 have cellK:∀ x c,X.env.cells.lookup x = some c->∀ v,s.heap.IsCell c v->h'.IsCell c v:=fun x c e v h9=>by
  obtain ⟨o,ho,hd⟩:=h9
  have nch:c ∉ ch:=fun z=>(hch c z).2.2.1 x c e rfl
  by_cases hc:c ∈ X.fs
  ·obtain ⟨sl,q⟩:=slot c o (I.cne x c e) hc nch ho (I.freeC x c e)
   exact ⟨_,q,hd⟩
  ·exact ⟨o,keep c o (I.cne x c e) hc nch ho (I.freeC x c e),hd⟩
 refine ⟨I.ok,I.os,hg,⟨fun b o e n hb hx=>?_,fun b o e n hb hx=>?_,fun b o e n hx=>?_,fun b o e hx=>?_,fun b xs e=>tups b xs (I.base.tups b xs e),fun b o xs e=>frzs b o xs (I.base.frzs b o xs e),fun b ps e=>?_⟩,?_,fun x c e=>?_,?_,fun x c e=>?_,fun p hp=>?_,hok,I.len⟩
 ·exact keep b o (neL b o e) hb (neC b o e hx) (I.base.keep b o e n hb hx) (I.base.free b o e n hx)
 ·obtain ⟨sl,e1⟩:=I.base.slot b o e n hb hx
  obtain ⟨sl',e2⟩:=slot b _ (neL b o e) hb (neC b o e hx) e1 (I.base.free b o e n hx)
  exact ⟨sl',e2⟩
 ·obtain ⟨o',e1⟩:=I.base.there b o e hx
  exact free b o' (neC b o e hx) e1 (I.base.free b o e n hx)
 ·obtain ⟨o',e1⟩:=I.base.there b o e hx
  exact there b o' (neC b o e hx) e1
 ·obtain ⟨m1,e1⟩:=I.base.tbls b ps e
  obtain ⟨m2,e2⟩:=tbls b _ e1
  exact ⟨m1 ++ m2,by rw [e2,Array.append_assoc]⟩
 ·obtain ⟨m,hn,hl⟩:=I.loc
  refine ⟨m,ns m hn,fun i x v e1 e2 e3=>?_⟩
  obtain ⟨u,r,l⟩:=hl i x v e1 e2 e3
  refine ⟨u,r,?_⟩
  rcases l with l | ⟨k,c,e,z⟩
  ·exact .inl l
  ·exact .inr ⟨k,c,e,cellK x c e _ z⟩
 ·obtain ⟨v,z⟩:=I.cell x c e
  exact ⟨v,cellK x c e v z⟩
 ·obtain ⟨m,⟨o,_,_,ho,_⟩,_⟩:=I.loc
  exact free _ o (fun z=>(hch _ z).2.1 rfl) ho I.free
 ·obtain ⟨v,o,ho,hd⟩:=I.cell x c e
  exact free c o (fun z=>(hch c z).2.2.1 x c e rfl) ho (I.freeC x c e)
 ·obtain ⟨e,n,ne,nf,d⟩:=I.pin p hp
  have nch:p.1 ∉ ch:=fun z=>(hch p.1 z).2.2.2 p hp rfl
  exact ⟨keep p.1 p.2 ne nf nch e n,free p.1 p.2 nch e n,ne,nf,d⟩
theorem Inv.un {t':Nat} (I:Inv X pins σ H s) (u:Un X.fs [] H H' s.heap h') (hok:HOk X.prog X.w H' h'):Inv X pins σ H' { s with heap:=h',toks:=t' }:=by
 obtain ⟨m,⟨o,es,ep,ho,r⟩,_⟩:=id I.loc
 obtain ⟨sl,hL⟩:=u.any ho I.free (by simp)
 exact I.step (g':=s.gens) (d':=s.drawn) (ch:=[]) (fun _ z=>nomatch z) (fun b o _ hb _ e n=>u.keep b o e n hb (by simp)) (fun b o _ hb _ e n=>u.slot b o e n hb (by simp)) (fun b o _ e n=>u.free b o e n (by simp)) (fun b o _ e=>u.there b o e (by simp)) u.tups u.frzs u.tbls (fun m' hm=>by
  obtain ⟨o',es',ep',ho',r'⟩:=hm
  rw [ho] at ho';cases ho'
  exact ⟨_,es',ep',hL,r'⟩) hok I.bare
theorem Inv.call {t':Nat} {d':Drawn} (I:Inv X pins σ H s) (u:Un (frs X.stack) ch H H' s.heap h') (hok:HOk X.prog X.w H' h') (hg:AllBare g')
 (hch:∀ b ∈ ch,(b ∈ X.ex\/X.s₀.heap.objs.size<=b)/\b ≠ X.env.locals/\(∀ x c,X.env.cells.lookup x = some c->c ≠ b)/\∀ p ∈ X.pn ++ pins,p.1 ≠ b) :
  Inv X pins σ H' { s with heap:=h',gens:=g',drawn:=d',toks:=t' }:=by
 obtain ⟨m,⟨o,es,ep,ho,r⟩,_⟩:=id I.loc
 obtain ⟨sl,hL⟩:=u.any ho I.free fun z=>(hch _ z).2.1 rfl
 exact I.step (ch:=ch) hch (fun b o hL hb hc e n=>u.keep b o e n (fun z=>(mem_cons.mp (I.stkSub b z)).elim hL hb) hc) (fun b o _ _ hc e n=>u.any e n hc) (fun b o hc e n=>u.free b o e n hc) (fun b o hc e=>u.there b o e hc) u.tups u.frzs u.tbls (fun m' hm=>by
  obtain ⟨o',es',ep',ho',r'⟩:=hm
  rw [ho] at ho';cases ho'
  exact ⟨_,es',ep',hL,r'⟩) hok hg
theorem Inv.turned {t':Nat} (I:Inv X pins σ H s) (k:∀ b o,b ≠ it->s.heap.get? b = some o->h'.get? b = some o) (hn:H it = none) (hL:it ≠ X.env.locals)
 (h1:it ∈ X.ex\/X.s₀.heap.objs.size<=it) (h2:∀ x c,X.env.cells.lookup x = some c->c ≠ it) (h3:∀ p ∈ X.pn ++ pins,p.1 ≠ it):Inv X pins σ H { s with heap:=h',toks:=t' }:=by
 have nit:∀ b u,H b = some u->b ≠ it:=fun b u e z=>by rw [z,hn] at e;cases e
 refine I.step (g':=s.gens) (d':=s.drawn) (ch:=[it]) (fun b hb=>?_) (fun b o _ _ hc e _=>k b o (fun z=>hc (by simp [z])) e) (fun b o _ _ hc e _=>⟨o.slots,k b o (fun z=>hc (by simp [z])) e⟩) (fun _ _ _ _ n=>n)
  (fun b o hc e=>⟨o,k b o (fun z=>hc (by simp [z])) e⟩) (fun _ _ e=>e) (fun _ _ _ e=>e) (fun b ps e=>⟨#[],by rw [e];simp⟩) (fun m hm=>?_) (fun b u e=>?_) I.bare
 ·have e:b = it:=by simpa using hb
  subst e
  exact ⟨h1,hL,h2,h3⟩
 ·obtain ⟨o,es,ep,ho,r⟩:=hm
  exact ⟨o,es,ep,k _ o (Ne.symm hL) ho,r⟩
 ·refine (I.hok b u e).stay (fun c v hc q=>k c v ?_ q) (fun _ q=>q) fun _ _ q=>q
  rcases hc with z | z
  ·rw [z];exact nit b u e
  ·exact nit c _ z
theorem Inv.tok (I:Inv X pins σ H s) (t:Nat):Inv X pins σ H { s with toks:=t }:=I.un (h':=s.heap) (t':=t) Un.refl I.hok
theorem Inv.kept {t':Nat} (I:Inv X pins σ H s) (k:∀ b u,s.heap.get? b = some u->h'.get? b = some u):Inv X pins σ H { s with heap:=h',toks:=t' }:=I.un (Un.kept k) (I.hok.kept k)
theorem Inv.laid {a:Addr} {t':Nat} (I:Inv X pins σ H s) (k:∀ b u,s.heap.get? b = some u->h'.get? b = some u) (hp:s.heap.objs.size<=a) (new:ObjOk X.prog X.w (upd H a o) h' a o) :
  Inv X pins σ (upd H a o) { s with heap:=h',toks:=t' }:=I.un (Un.laid k hp (I.hok.fresh hp)) (I.hok.laid k hp new)
theorem Inv.write {x e:Addr} {t':Nat} (I:Inv X pins σ H s) (mu:Mut (H x)) (he:e = x\/H e = some (.own x)) (k:∀ b u,b ≠ e->s.heap.get? b = some u->h'.get? b = some u) (heo:∃ u,h'.get? e = some u)
 (new:ObjOk X.prog X.w (upd H x o) h' x o):Inv X pins σ (upd H x o) { s with heap:=h',toks:=t' }:=I.un (Un.write mu he k heo) (I.hok.write mu he k heo new)
theorem Inv.pins_of {pins':List (Addr × Obj)} (I:Inv X pins σ H s) (h:∀ p ∈ pins',s.heap.get? p.1 = some p.2/\H p.1 = none/\p.1 ≠ X.env.locals/\p.1 ∉ X.fs/\∀ v,p.2.data ≠ .cell v):Inv X pins' σ H s:=
 ⟨I.ok,I.os,I.bare,I.base,I.loc,I.cell,I.free,I.freeC,fun p hp=>(mem_append.mp hp).elim (fun z=>I.pin p (mem_append_left _ z)) (h p),I.hok,I.len⟩
theorem zcu (hN:N.Nodup) (a:N[i]? = some x) (b:N[j]? = some x):i = j:=by
 obtain ⟨h1,e1⟩:=List.getElem?_eq_some_iff.mp a
 obtain ⟨h2,e2⟩:=List.getElem?_eq_some_iff.mp b
 exact (List.getElem_inj hN).mp (e1.trans e2.symm)
theorem zem {Q:Unit->Shared->Prop} (I:Inv X pins σ H s) (hN:X.N.Nodup) (hi:X.N[i]? = some x) (hx:Loc X.env.scope x) (r:RelV v u)
 (h:∀ s',Inv X pins (σ.set i (some v)) H s'->(∃ a,Heap.SameBut a s.heap s'.heap/\(a = X.env.locals\/X.env.cells.lookup x = some a))->Q () s') (hf:X.fn x = true\/X.env.scope.names.lookup x = some .local:=by first | exact .inl rfl | exact .inr rfl | assumption):wpAny M A (storeName X.env x u) Q E s:=by
 obtain ⟨m,hn,hl⟩:=id I.loc
 have hcls:(X.env.scope.kind == .class || (X.env.scope.kind == .module && X.env.locals != X.env.globals)) = false:=by rw [I.ok.kind];rfl
 have hiσ:i < σ.length:=by rw [I.len];exact (List.getElem?_eq_some_iff.mp hi).1
 have cne:=I.cne
 have tracked:∀ {a:Addr} {h':Heap},(∃ o,s.heap.get? a = some o/\H a = none)->Heap.SameBut a s.heap h'->HOk X.prog X.w H h':=fun {a h'} ha hs b ob e=>by
  obtain ⟨_,_,hfree⟩:=ha
  refine (I.hok b ob e).stay (fun c w' hc q=>(hs.2 c ?_).trans q) (fun _ q=>q) fun _ _ q=>q
  rintro rfl
  rcases hc with rfl | hc
  ·rw [hfree] at e;cases e
  ·rw [hfree] at hc;cases hc
 rcases hx with hk | hk
 ·refine wpAny_storeName_local hk hn (fun h' hn' hs=>?_) hcls
  obtain ⟨oL,_,_,hoL,_⟩:=id hn
  refine h _ ⟨I.ok,I.os,I.bare,⟨fun b o e n hb hx=>?_,fun b o e n hb hx=>?_,I.base.free,fun b o e hx=>?_,I.base.tups,I.base.frzs,I.base.tbls⟩,⟨_,hn',fun j y v' e1 e2 e3=>?_⟩,fun y c e=>?_,I.free,I.freeC,fun p hp=>?_,tracked ⟨oL,hoL,I.free⟩ hs,by simpa using I.len⟩ ⟨_,hs,.inl rfl⟩
  ·exact (hs.2 b (Qi (Q5 (Qc e) I.ok.above))).trans (I.base.keep b o e n hb hx)
  ·obtain ⟨sl,e1⟩:=I.base.slot b o e n hb hx
   exact ⟨sl,(hs.2 b (Qi (Q5 (Qc e) I.ok.above))).trans e1⟩
  ·obtain ⟨o',e1⟩:=I.base.there b o e hx
   exact ⟨o',(hs.2 b (Qi (Q5 (Qc e) I.ok.above))).trans e1⟩
  ·by_cases hj:j = i
   ·subst hj
    rw [hi] at e1;cases e1
    rw [List.getElem?_set_self hiσ] at e2
    cases e2
    exact ⟨u,r,.inl ⟨hk,by simp⟩⟩
   ·rw [List.getElem?_set_ne (Ne.symm hj)] at e2
    obtain ⟨u',r',q⟩:=hl j y v' e1 e2 e3
    refine ⟨u',r',?_⟩
    rcases q with ⟨k,e⟩ | ⟨k,c,e,z⟩
    ·refine .inl ⟨k,?_⟩
     have:y ≠ x:=fun e=>hj (zcu hN e1 (e ▸ hi))
     simp [this,e]
    ·exact .inr ⟨k,c,e,z.sameBut hs (cne y c e)⟩
  ·obtain ⟨w',z⟩:=I.cell y c e
   exact ⟨w',z.sameBut hs (cne y c e)⟩
  ·obtain ⟨e,n,ne,nf,d⟩:=I.pin p hp
   exact ⟨(hs.2 p.1 ne).trans e,n,ne,nf,d⟩
 ·have hfn:X.fn x = true:=by
   rcases hf with z | z
   ·exact z
   ·rw [z] at hk;cases hk
  obtain ⟨c,hc⟩:=I.ok.has x (.inl hk)
  obtain ⟨w',z⟩:=I.cell x c hc
  refine wpAny_storeName_cell I.ok.kind hk hc z (fun h' hc' hs=>?_)
  obtain ⟨oc,hoc,hocd⟩:=id z
  refine h { s with heap:=h' } ⟨I.ok,I.os,I.bare,⟨fun b o e n hb hx=>?_,fun b o e n hb hx=>?_,I.base.free,fun b o e hx=>?_,I.base.tups,I.base.frzs,I.base.tbls⟩,⟨m,hn.sameBut hs (Ne.symm (cne x c hc)),fun j y v' e1 e2 e3=>?_⟩,fun y c' e=>?_,I.free,I.freeC,fun p hp=>?_,tracked ⟨oc,hoc,I.freeC x c hc⟩ hs,by simpa using I.len⟩ ⟨c,hs,.inr hc⟩
  ·exact (hs.2 b (Qi (Q5 (Qc e) (I.ok.cab x c hfn hc)))).trans (I.base.keep b o e n hb hx)
  ·obtain ⟨sl,e1⟩:=I.base.slot b o e n hb hx
   exact ⟨sl,(hs.2 b (Qi (Q5 (Qc e) (I.ok.cab x c hfn hc)))).trans e1⟩
  ·obtain ⟨o',e1⟩:=I.base.there b o e hx
   exact ⟨o',(hs.2 b (Qi (Q5 (Qc e) (I.ok.cab x c hfn hc)))).trans e1⟩
  ·by_cases hj:j = i
   ·subst hj
    rw [hi] at e1;cases e1
    rw [List.getElem?_set_self hiσ] at e2
    cases e2
    exact ⟨u,r,.inr ⟨.inl hk,c,hc,hc'⟩⟩
   ·rw [List.getElem?_set_ne (Ne.symm hj)] at e2
    obtain ⟨u',r',q⟩:=hl j y v' e1 e2 e3
    refine ⟨u',r',?_⟩
    rcases q with q | ⟨k,c',e,z'⟩
    ·exact .inl q
    ·refine .inr ⟨k,c',e,z'.sameBut hs ?_⟩
     rintro rfl
     exact hj (zcu hN e1 (I.ok.inj _ _ _ e hc ▸ hi))
  ·by_cases hcc:c' = c
   ·subst hcc;exact ⟨_,hc'⟩
   ·obtain ⟨w2,z2⟩:=I.cell y c' e
    exact ⟨w2,z2.sameBut hs hcc⟩
  ·obtain ⟨e,n,ne,nf,d⟩:=I.pin p hp
   refine ⟨(hs.2 p.1 ?_).trans e,n,ne,nf,d⟩
   intro q
   rw [q,hoc] at e
   have q':oc = p.2:=Qb e
   exact d w' (by rw [← q'];exact hocd)
theorem zcd {Q:Unit->Shared->Prop} (I:Inv X pins σ H s) (hN:X.N.Nodup) (hi:X.N[i]? = some x) (hx:Loc X.env.scope x) (r:RelV v u)
 (h:∀ s',Inv X pins (σ.set i (some v)) H s'->Q () s') (hf:X.fn x = true\/X.env.scope.names.lookup x = some .local:=by first | exact .inl rfl | exact .inr rfl | assumption):wpAny M A (storeName X.env x u) Q E s:=
 zem I hN hi hx r (fun s' I' _=>h s' I') hf
theorem Inv.call' (I:Inv X pins σ H s) (ho:s'.os = s.os) (u:Un (frs X.stack) ch H H' s.heap s'.heap) (hok:HOk X.prog X.w H' s'.heap) (hg:AllBare s'.gens)
 (hch:∀ b ∈ ch,(b ∈ X.ex\/X.s₀.heap.objs.size<=b)/\b ≠ X.env.locals/\(∀ x c,X.env.cells.lookup x = some c->c ≠ b)/\∀ p ∈ X.pn ++ pins,p.1 ≠ b):Inv X pins σ H' s':=by
 obtain ⟨h',g',d',t',o'⟩:=s'
 have e:o' = s.os:=ho
 subst e
 exact I.call (g':=g') (t':=t') (d':=d') u hok hg hch
end
noncomputable abbrev XK:=Value->Option Addr->Hp->Prop
noncomputable abbrev St:=List (Option V)
noncomputable abbrev VK:=V->Hp->Prop
noncomputable abbrev TE:=St->Hp->VK->Prop
noncomputable abbrev TT:=St->Hp->(Bool->Hp->Prop)->Prop
noncomputable abbrev TA:=St->Hp->(List V->Hp->Prop)->Prop
structure Ends where
 nx:St->Hp->Prop
 rt:VK
 bk:St->Hp->Prop:=fun _ _=>False
 ct:St->Hp->Prop:=fun _ _=>False
noncomputable abbrev TS:=Ends->St->Hp->Prop
def EP (X:Cx) (pins:List (Addr × Obj)) (σ:St) (Q:VK) (u:Value) (s':Shared):Prop:=∃ v H',Inv X pins σ H' s'/\RelV v u/\Q v H'
def TP (X:Cx) (pins:List (Addr × Obj)) (σ:St) (Q:Bool->Hp->Prop) (b:Bool) (s':Shared):Prop:=∃ H',Inv X pins σ H' s'/\Q b H'
def AP (X:Cx) (pins:List (Addr × Obj)) (σ:St) (Q:List V->Hp->Prop) (us:List Value) (s':Shared):Prop:=∃ vs H',Inv X pins σ H' s'/\Vals vs us/\Q vs H'
def SP (X:Cx) (pins:List (Addr × Obj)) (D:Ends) (f:Flow) (s':Shared):Prop:=
 match f with
 | .next=>∃ σ' H',Inv X pins σ' H' s'/\D.nx σ' H'
 | .brk=>∃ σ' H',Inv X pins σ' H' s'/\D.bk σ' H'
 | .cont=>∃ σ' H',Inv X pins σ' H' s'/\D.ct σ' H'
 | .ret u=>∃ v σ' H',Inv X pins σ' H' s'/\RelV v u/\D.rt v H'
def PE (X:Cx) (e:Expr) (t:TE):Prop:=
 ∀ (pins:List (Addr × Obj)) (s:Shared) (σ:St) (H:Hp) (Q:VK),Inv X pins σ H s->t σ H Q->wpAny (model X.prog X.w) X.A (eval e X.env) (EP X pins σ Q) X.xe s
def PT (X:Cx) (e:Expr) (t:TT):Prop:=
 ∀ (pins:List (Addr × Obj)) (s:Shared) (σ:St) (H:Hp) (Q:Bool->Hp->Prop),Inv X pins σ H s->t σ H Q->wpAny (model X.prog X.w) X.A (isTrue e X.env (eval e X.env)) (TP X pins σ Q) X.xe s
def PW (X:Cx) (e:Expr) (t:TT):Prop:=
 ∀ (whole:Sem Value) (pins:List (Addr × Obj)) (s:Shared) (σ:St) (H:Hp) (Q:Bool->Hp->Prop),Inv X pins σ H s->t σ H Q->wpAny (model X.prog X.w) X.A (isTrue e X.env whole) (TP X pins σ Q) X.xe s
variable {e:Expr}
theorem PW.pt {t:TT} (h:PW X e t):PT X e t:=h _
def PA (X:Cx) (es:List Expr) (t:TA):Prop:=
 ∀ (pos:Pos) (pins:List (Addr × Obj)) (s:Shared) (σ:St) (H:Hp) (Q:List V->Hp->Prop),Inv X pins σ H s->t σ H Q->wpAny (model X.prog X.w) X.A (spliced (backTo pos (starEach es X.env))) (AP X pins σ Q) X.xe s
def PS (X:Cx) (st:Stmt) (t:TS):Prop:=
 ∀ (pins:List (Addr × Obj)) (s:Shared) (σ:St) (H:Hp) (D:Ends),Inv X pins σ H s->t D σ H->wpAny (model X.prog X.w) X.A (exec st X.env) (SP X pins D) X.xe s
def PSs (X:Cx) (st:List Stmt) (t:TS):Prop:=
 ∀ (pins:List (Addr × Obj)) (s:Shared) (σ:St) (H:Hp) (D:Ends),Inv X pins σ H s->t D σ H->wpAny (model X.prog X.w) X.A (execs st X.env) (SP X pins D) X.xe s
theorem thn {α:Type} {t:Sem α} {Q Q':α->Shared->Prop} (h:wpAny M A t Q E s) (hQ:∀ a s,Q a s->Q' a s):wpAny M A t Q' E s:=Qe h hQ fun _ _ x=>x
variable {op:CmpOp} {c:Expr} {pos:Pos} {σ:St} {ta tb:TE} {R:V->V->Hp->Prop} {Q:Value->Shared->Prop}
section
theorem bin {a b:Expr} (ha:PE X a ta) (hb:PE X b tb) (I:Inv X pins σ H s) (h:ta σ H fun x H1=>tb σ H1 fun y H2=>R x y H2)
 {α:Type} {Q:α->Shared->Prop} {f:Value->Value->Sem α}
 (hf:∀ v u s2 x y H2,Inv X pins σ H2 s2->RelV x v->RelV y u->R x y H2->wpAny (model X.prog X.w) X.A (f v u) Q X.xe s2) :
  wpAny (model X.prog X.w) X.A (eval a X.env) (fun v s₁=>wpAny (model X.prog X.w) X.A (eval b X.env) (fun u s₂=>wpAny (model X.prog X.w) X.A (f v u) Q X.xe s₂) X.xe s₁) X.xe s:=by
 refine thn (ha pins s σ H _ I h) fun v s1 ⟨x,H1,I1,r1,q1⟩=>?_
 refine thn (hb pins s1 σ H1 _ I1 q1) fun u s2 ⟨y,H2,I2,r2,q2⟩=>?_
 exact hf v u s2 x y H2 I2 r1 r2 q2
noncomputable def zdx (i:Nat):TE:=fun σ H Q=>∃ v,σ[i]? = some (some v)/\Q v H
noncomputable def tC (v:V):TE:=fun _ H Q=>Q v H
theorem zir (hN:X.N[i]? = some x) (hv:Vis X.env.scope x) (hd:(x == ("__debug__":Str)) = false:=by decide) (hcd:(x == ("__classdict__":Str)) = false:=by decide):PE X (.Name x pos) (zdx i):=by
 intro pins s σ H Q I h
 obtain ⟨v,e,h⟩:=h
 obtain ⟨m,hn,hl⟩:=I.loc
 obtain ⟨u,r,l⟩:=hl i x v hN e hv
 have fin:EP X pins σ Q u s:=⟨v,H,I,r,h⟩
 rcases l with ⟨hk,hm⟩ | ⟨hk,c,hc,hcell⟩
 ·exact wpAny_Name (wpAny_loadName_local I.ok.kind hk hn hm fin) hd
 ·rcases hk with hk | hk
  ·exact wpAny_Name (wpAny_loadName_cell I.ok.kind hk hc hcell fin) hd
  ·exact wpAny_Name (wpAny_loadName_free I.ok.kind hk hc hcell fin hcd) hd
theorem ziw {i j pos}:PE X (.Constant (.int i) j pos) (tC (.int i)):=fun _ _ _ H _ I h=>wpAny_Constant_int ⟨.int i,H,I.tok _,⟨_,rfl⟩,h⟩
theorem zjJ {b j pos}:PE X (.Constant (.bool b) j pos) (tC (.bl b)):=fun _ _ _ H _ I h=>Constant_bool ⟨.bl b,H,I,rfl,h⟩
theorem ziu {j pos}:PE X (.Constant .none j pos) (tC .non):=fun _ _ _ H _ I h=>Constant_none ⟨.non,H,I,rfl,h⟩
theorem zit {x j pos}:PE X (.Constant (.str x) j pos) (tC (.str x)):=fun _ _ _ H _ I h=>Calls.Constant_str ⟨.str x,H,I.tok _,⟨_,rfl⟩,h⟩
def Gl (X:Cx) (x:Str):Prop:=X.env.kindOf x = some .globalImplicit
theorem y9 (I:Inv X pins σ H s) (hg:Gl X x) (hm:X.mg x = some u) (h:Q u s)
 (hd:(x == ("__debug__":Str)) = false:=by decide):wpAny (model X.prog X.w) X.A (eval (.Name x pos) X.env) Q E s:=
 Calls.Name_function_global I.ok.kind hg (Calls.loadGlobal_global (by rw [I.ok.glob];exact I.mod.glob.keeps I.bk) hm h) hd
theorem zcy (I:Inv X pins σ H s) (hg:Gl X x) (hm:X.mg x = none) (hv:bootBuiltins x = some u) (h:Q u s)
 (hn:x ≠ "__name__":=by decide) (hd:(x == ("__debug__":Str)) = false:=by decide):wpAny (model X.prog X.w) X.A (eval (.Name x pos) X.env) Q E s:=by
 obtain ⟨mb,h1,h2⟩:=I.mod.blt
 exact Calls.Name_function_global I.ok.kind hg (Calls.loadGlobal_builtin (by rw [I.ok.glob];exact I.mod.glob.keeps I.bk) hm (by rw [I.ok.blt];exact h1.keeps I.bk) ((h2 x hn).trans hv) h) hd
theorem zdg (hg:Gl X x) (hm:X.mg x = some u) (r:RelV v u) (hd:(x == ("__debug__":Str)) = false:=by decide):PE X (.Name x pos) (tC v):=
 fun _ _ _ H _ I h=>y9 I hg hm ⟨v,H,I,r,h⟩ hd
theorem zg5 (hg:Gl X x) (hm:X.mg x = none) (hv:bootBuiltins x = some u) (r:RelV v u) (hn:x ≠ "__name__":=by decide) (hd:(x == ("__debug__":Str)) = false:=by decide):PE X (.Name x pos) (tC v):=
 fun _ _ _ H _ I h=>zcy I hg hm hv ⟨v,H,I,r,h⟩ hn hd
variable {a b:Expr}
def PC (X:Cx) (op:CmpOp) (a b:Expr) (t:TE):Prop:=
 ∀ (pins:List (Addr × Obj)) (s:Shared) (σ:St) (H:Hp) (Q:VK),Inv X pins σ H s->t σ H Q->
  wpAny (model X.prog X.w) X.A (eval a X.env) (fun v s₁=>wpAny (model X.prog X.w) X.A (eval b X.env) (fun u s₂=>wpAny (model X.prog X.w) X.A (compareOp op v u) (EP X pins σ Q) X.xe s₂) X.xe s₁) X.xe s
theorem zfH (b:Expr) (h:op ≠ .In) (h2:op ≠ .NotIn):behindInMarks op b = false:=by
 have e1:(op == CmpOp.In) = false:=by cases op <;> first | rfl | exact absurd rfl h
 have e2:(op == CmpOp.NotIn) = false:=by cases op <;> first | rfl | exact absurd rfl h2
 cases b <;> simp [behindInMarks,e1,e2]
noncomputable def tB (t:TE):TT:=fun σ H Q=>t σ H fun x H1=>∃ c,x = .bl c/\Q c H1
theorem zk6 {t:TE} (h:PC X op a b t) (h1:behindInMarks op b = false:=by first | exact zfH _ (by decide) (by decide) | rfl):PT X (.Compare a [op] [b] pos) (tB t):=by
 intro pins s σ H Q I hw
 refine wpAny_isTrue_Compare1 (thn (h pins s σ H _ I hw) fun v s1 h1=>thn h1 fun u s2 h2=>thn h2 fun c s3 ⟨x,H1,I1,r1,q1⟩=>?_) h1
 obtain ⟨d,rfl,q⟩:=q1
 cases r1
 exact wpAny_truthy_bool ⟨H1,I1,q⟩
theorem zig {t:TE} (h:PE X e t) (he:∀ whole,isTrue e X.env whole = (do let v ← whole;standAt e.pos;holding [v] (truthy v)):=by intro _;rfl):PT X e (tB t):=by
 intro pins s σ H Q I hw
 refine isTrue_plain (thn (h pins s σ H _ I hw) fun v s1 ⟨x,H1,I1,r1,q1⟩=>?_) (he _)
 obtain ⟨d,rfl,q⟩:=q1
 cases r1
 exact wpAny_truthy_bool ⟨H1,I1,q⟩
variable {tA tB':TT} {rest:List Expr}
noncomputable def zkk (t u:TT):TT:=fun σ H Q=>t σ H fun c H1=>if c = true then u σ H1 Q else Q false H1
noncomputable def tOr (t u:TT):TT:=fun σ H Q=>t σ H fun c H1=>if c = true then Q true H1 else u σ H1 Q
noncomputable def zke (t:TT):TT:=fun σ H Q=>t σ H fun c H1=>Q (!c) H1
theorem zgQ (ha:PT X a tA):PW X (.BoolOp .And [a] pos) tA:=by
 intro wh pins s σ H Q I h
 refine isTrue_and (thn (ha pins s σ H Q I h) fun c s1 e=>?_)
 cases c with
 | true=>exact isTrue_and_nil e
 | false=>exact e
theorem zie (ha:PT X a tA):PW X (.BoolOp .Or [a] pos) tA:=by
 intro wh pins s σ H Q I h
 refine isTrue_or (thn (ha pins s σ H Q I h) fun c s1 e=>?_)
 cases c with
 | false=>exact isTrue_or_nil e
 | true=>exact e
theorem zif (ha:PT X a tA) (hb:PW X (.BoolOp .And (b :: rest) pos) tB'):PW X (.BoolOp .And (a :: b :: rest) pos) (zkk tA tB'):=by
 intro wh pins s σ H Q I h
 refine isTrue_and (thn (ha pins s σ H _ I h) fun c s1 ⟨H1,I1,q1⟩=>?_)
 cases c with
 | true=>exact hb wh pins s1 σ H1 Q I1 q1
 | false=>exact ⟨H1,I1,q1⟩
theorem zjF (ha:PT X a tA) (hb:PW X (.BoolOp .Or (b :: rest) pos) tB'):PW X (.BoolOp .Or (a :: b :: rest) pos) (tOr tA tB'):=by
 intro wh pins s σ H Q I h
 refine isTrue_or (thn (ha pins s σ H _ I h) fun c s1 ⟨H1,I1,q1⟩=>?_)
 cases c with
 | true=>exact ⟨H1,I1,q1⟩
 | false=>exact hb wh pins s1 σ H1 Q I1 q1
theorem zih (ha:PT X a tA):PT X (.UnaryOp .Not a pos) (zke tA):=by
 intro pins s σ H Q I h
 exact isTrue_not (ha pins s σ H (fun c H1=>Q (!c) H1) I h)
noncomputable def tIf (t:TT) (ta tb:TE):TE:=fun σ H Q=>t σ H fun c H1=>if c = true then ta σ H1 Q else tb σ H1 Q
theorem zfA (hc:PT X c tA) (ha:PE X a ta) (hb:PE X b tb):PE X (.IfExp c a b pos) (tIf tA ta tb):=by
 intro pins s σ H Q I h
 refine wpAny_IfExp (thn (hc pins s σ H _ I h) fun d s1 ⟨H1,I1,q1⟩=>?_)
 cases d with
 | true=>exact ha pins s1 σ H1 Q I1 q1
 | false=>exact hb pins s1 σ H1 Q I1 q1
end
def SqL (K:Frag) (H:Hp) (a:Addr) (xs:List V):Prop:=
 Rd H a (.lst xs) \/
  ∃ (o:Obj) (its:Array Value) (n:Nat),K.lookup a = some o/\o.cls = .type "list"/\o.dict = none/\o.data = .seq its n/\its.size<=sizeLine/\Vals xs its.toList
def SqT (K:Frag) (H:Hp) (a:Addr) (xs:List V):Prop:=
 Rd H a (.tup xs) \/
  ∃ (o:Obj) (its:Array Value) (n:Nat),K.lookup a = some o/\o.cls = .type "tuple"/\o.dict = none/\o.data = .seq its n/\its.size<=sizeLine/\Vals xs its.toList
noncomputable def zkP:Value->Option V
 | .none=>some .non
 | .bool b=>some (.bl b)
 | .int i _=>some (.int i)
 | .str x _=>some (.str x)
 | .bytes b _=>some (.byt b)
 | .float b _=>some (.flt b)
 | .ref a=>some (.ref a)
 | .type n=>some (.ty n)
 | _=>none
theorem RelV.abs {x:V} (r:RelV x u):zkP u = some x:=by
 cases x with
 | non=>cases r;rfl
 | bl _=>cases r;rfl
 | int _=>obtain ⟨t,rfl⟩:=r;rfl
 | str _=>obtain ⟨t,rfl⟩:=r;rfl
 | byt _=>obtain ⟨t,rfl⟩:=r;rfl
 | flt _=>obtain ⟨t,rfl⟩:=r;rfl
 | ref _=>cases r;rfl
 | ty _=>cases r;rfl
variable {y:V}
theorem RelV.inj {x:V} (r:RelV x u) (q:RelV y u):x = y:=Qb (r.abs.symm.trans q.abs)
theorem Vals.inj:∀ {xs ys:List V} {us:List Value},Vals xs us->Vals ys us->xs = ys
 | _,_,_,.nil,.nil=>rfl
 | _,_,_,.cons r t,.cons r' t'=>by rw [r.inj r',Vals.inj t t']
section
variable {a:Addr} {ys:List V}
theorem Inv.list (I:Inv X pins σ H s) (h:SqL X.K H a xs):∃ its:List Value,Vals xs its/\PlainL s.heap a its.toArray/\xs.length<=sizeLine:=by
 rcases h with h | ⟨o,its,n,hk,hc,hd,hs,hz,r⟩
 ·obtain ⟨z,its,n,r,e⟩:=h.ok I.hok
  exact ⟨its,r,⟨_,n,e,rfl,rfl,rfl⟩,z⟩
 ·refine ⟨its.toList,r,⟨o,n,I.kIn a o hk,hc,hd,by simpa using hs⟩,?_⟩
  have e:=r.length
  simp only [Array.length_toList] at e
  omega
theorem Inv.tuple (I:Inv X pins σ H s) (h:SqT X.K H a xs):∃ its:List Value,Vals xs its/\IsTup s.heap a its.toArray/\xs.length<=sizeLine:=by
 rcases h with h | ⟨o,its,n,hk,hc,_,hs,hz,r⟩
 ·obtain ⟨z,its,r,p,_⟩:=h.ok I.hok
  exact ⟨its,r,p,z⟩
 ·refine ⟨its.toList,r,⟨o,I.kIn a o hk,hc,n,by simpa using hs⟩,?_⟩
  have e:=r.length
  simp only [Array.length_toList] at e
  omega
theorem Inv.list_inj (I:Inv X pins σ H s) (h:SqL X.K H a xs) (h':SqL X.K H a ys):xs = ys:=by
 obtain ⟨its,r,⟨o,n,e,_,_,d⟩,_⟩:=I.list h
 obtain ⟨its',r',⟨o',n',e',_,_,d'⟩,_⟩:=I.list h'
 rw [e] at e';cases e'
 rw [d] at d'
 injection d' with d1 _
 have:its = its':=by simpa using congrArg Array.toList d1
 subst this
 exact r.inj r'
theorem Inv.tuple_inj (I:Inv X pins σ H s) (h:SqT X.K H a xs) (h':SqT X.K H a ys):xs = ys:=by
 obtain ⟨its,r,⟨o,e,_,n,d⟩,_⟩:=I.tuple h
 obtain ⟨its',r',⟨o',e',_,n',d'⟩,_⟩:=I.tuple h'
 rw [e] at e';cases e'
 rw [d] at d'
 injection d' with d1 _
 have:its = its':=by simpa using congrArg Array.toList d1
 subst this
 exact r.inj r'
end
noncomputable abbrev Cx.wish (X:Cx) (E:Value->Shared->Prop):Cx:={ X with xe:=E }
noncomputable abbrev Cx.nox (X:Cx):Cx:=X.wish fun _ _=>False
theorem Cx.Ok.wish (ok:X.Ok) (E:Value->Shared->Prop):(X.wish E).Ok:=
 ⟨ok.mod,ok.kind,ok.glob,ok.blt,ok.above,ok.inj,ok.has,ok.cab,ok.hd,ok.frames,ok.stk,ok.exf,ok.bs,ok.bsz,ok.noex,ok.exfs,ok.funs,ok.frf⟩
theorem Cx.Ok.unwish (ok:(X.wish E).Ok):X.Ok:=
 ⟨ok.mod,ok.kind,ok.glob,ok.blt,ok.above,ok.inj,ok.has,ok.cab,ok.hd,ok.frames,ok.stk,ok.exf,ok.bs,ok.bsz,ok.noex,ok.exfs,ok.funs,ok.frf⟩
section
theorem Inv.wish (I:Inv X pins σ H s) (E:Value->Shared->Prop):Inv (X.wish E) pins σ H s:=⟨I.ok.wish E,I.os,I.bare,I.base,I.loc,I.cell,I.free,I.freeC,I.pin,I.hok,I.len⟩
theorem Inv.unwish (I:Inv (X.wish E) pins σ H s):Inv X pins σ H s:=⟨I.ok.unwish,I.os,I.bare,I.base,I.loc,I.cell,I.free,I.freeC,I.pin,I.hok,I.len⟩
theorem SP.unwish {D:Ends} {f:Flow} (h:SP (X.wish E) pins D f s'):SP X pins D f s':=by
 cases f with
 | next=>obtain ⟨σ',H',I,q⟩:=h;exact ⟨σ',H',I.unwish,q⟩
 | brk=>obtain ⟨σ',H',I,q⟩:=h;exact ⟨σ',H',I.unwish,q⟩
 | cont=>obtain ⟨σ',H',I,q⟩:=h;exact ⟨σ',H',I.unwish,q⟩
 | ret u=>obtain ⟨v,σ',H',I,r,q⟩:=h;exact ⟨v,σ',H',I.unwish,r,q⟩
theorem PE.nox {t:TE} (h:PE X.nox e t):PE X e t:=fun pins s σ H Q I hw=>
 Qe (h pins s σ H Q (I.wish _) hw) (fun _ _ ⟨v,H',I',r,q⟩=>⟨v,H',I'.unwish,r,q⟩) fun _ _ z=>False.elim z
theorem PT.nox {t:TT} (h:PT X.nox e t):PT X e t:=fun pins s σ H Q I hw=>
 Qe (h pins s σ H Q (I.wish _) hw) (fun _ _ ⟨H',I',q⟩=>⟨H',I'.unwish,q⟩) fun _ _ z=>False.elim z
theorem PSs.nox {st:List Stmt} {t:TS} (h:PSs X.nox st t):PSs X st t:=fun pins s σ H D I hw=>
 Qe (h pins s σ H D (I.wish _) hw) (fun _ _ q=>q.unwish) fun _ _ z=>False.elim z
end
variable {te:TE} {tc:TT}
section
variable {st:Stmt} {rest:List Stmt} {t u:TS}
noncomputable def zjx:TS:=fun D σ H=>D.nx σ H
noncomputable def zkc (t u:TS):TS:=fun D σ H=>t { D with nx:=u D } σ H
theorem zgU:PSs X [] zjx:=fun _ _ σ H _ I h=>wpAny_execs_nil ⟨σ,H,I,h⟩
theorem zfv (h1:PS X st t) (h2:PSs X rest u):PSs X (st :: rest) (zkc t u):=by
 intro pins s σ H D I h
 refine wpAny_execs_cons (thn (h1 pins s σ H { D with nx:=u D } I h) fun f s1 q=>?_)
 cases f with
 | next=>
  obtain ⟨σ',H',I',q⟩:=q
  exact h2 pins s1 σ' H' D I' q
 | ret v=>exact q
 | brk=>exact q
 | cont=>exact q
theorem zgT (h1:PS X st t):PSs X [st] t:=by
 intro pins s σ H D I h
 refine wpAny_execs_cons (thn (h1 pins s σ H D I h) fun f s1 q=>?_)
 cases f with
 | next=>exact wpAny_execs_nil q
 | ret v=>exact q
 | brk=>exact q
 | cont=>exact q
theorem Inv.quiet (I:Inv X pins σ H s):interactive X.env = false:=by simp [interactive,I.ok.kind]
noncomputable def zjy (te:TE):TS:=fun D σ H=>te σ H fun _ H1=>D.nx σ H1
theorem zgW (he:PE X e te) (hs:swapsWith e none pos.line X.env = pure false:=by rfl):PS X (.Expr e pos) (zjy te):=by
 intro pins s σ H D I h
 exact wpAny_Expr_any (thn (he pins s σ H _ I h) fun v s1 ⟨x,H1,I1,r1,q1⟩=>⟨σ,H1,I1,q1⟩) I.quiet hs
noncomputable def zkd (te:TE):TS:=fun D σ H=>te σ H D.rt
theorem zij (he:PE X e te):PS X (.Return (some e) pos) (zkd te):=by
 intro pins s σ H D I h
 exact wpAny_Return_some (thn (he pins s σ H _ I h) fun v s1 ⟨x,H1,I1,r1,q1⟩=>⟨x,σ,H1,I1,r1,q1⟩)
noncomputable def zkh (c:TT) (t u:TS):TS:=fun D σ H=>c σ H fun b H1=>if b = true then t D σ H1 else u D σ H1
theorem zjG {a b:List Stmt} (hc:PT X c tc) (ha:PSs X a t) (hb:PSs X b u):PS X (.If c a b pos) (zkh tc t u):=by
 intro pins s σ H D I h
 refine wpAny_If (thn (hc pins s σ H _ I h) fun d s1 ⟨H1,I1,q1⟩=>?_)
 cases d with
 | true=>exact ha pins s1 σ H1 D I1 q1
 | false=>exact hb pins s1 σ H1 D I1 q1
end
noncomputable abbrev TG:=V->St->Hp->(St->Hp->Prop)->Prop
noncomputable abbrev TGs:=List V->St->Hp->(St->Hp->Prop)->Prop
def PG (X:Cx) (target:Expr) (t:TG):Prop:=
 ∀ (pins:List (Addr × Obj)) (s:Shared) (σ:St) (H:Hp) (v:V) (u:Value) (Q:St->Hp->Prop),Inv X pins σ H s->RelV v u->t v σ H Q->
  wpAny (model X.prog X.w) X.A (assign target X.env u) (fun _ s'=>∃ σ' H',Inv X pins σ' H' s'/\Q σ' H') X.xe s
def PGs (X:Cx) (ts:List Expr) (t:TGs):Prop:=
 ∀ (pins:List (Addr × Obj)) (s:Shared) (σ:St) (H:Hp) (vs:List V) (us:List Value) (Q:St->Hp->Prop),Inv X pins σ H s->Vals vs us->t vs σ H Q->
  wpAny (model X.prog X.w) X.A (assignInOrder ((assignEach ts X.env).map (·.2)) us) (fun _ s'=>∃ σ' H',Inv X pins σ' H' s'/\Q σ' H') X.xe s
noncomputable abbrev zd5:=V->V->V->Hp->(Hp->Prop)->Prop
def zcZ (X:Cx) (t:zd5):Prop:=
 ∀ (pins:List (Addr × Obj)) (s:Shared) (σ:St) (H:Hp) (o i v:V) (ov iv u:Value) (Q:Hp->Prop),Inv X pins σ H s->RelV o ov->RelV i iv->RelV v u->t o i v H Q->
  wpAny (model X.prog X.w) X.A (setItem ov iv u) (fun _ s'=>∃ H',Inv X pins σ H' s'/\Q H') X.xe s
variable {tg:Expr} {g:TG}
section
noncomputable def zb0 (i:Nat):TG:=fun v σ H Q=>Q (σ.set i (some v)) H
theorem zaL (hN:X.N.Nodup) (hi:X.N[i]? = some x) (hx:Loc X.env.scope x) (hf:X.fn x = true\/X.env.scope.names.lookup x = some .local:=by first | exact .inl rfl | exact .inr rfl | assumption):PG X (.Name x pos) (zb0 i):=by
 intro pins s σ H v u Q I r h
 exact wpAny_assign_Name (zcd I hN hi hx r (fun s' I'=>⟨_,H,I',h⟩) hf)
noncomputable def zkI (to ti:TE) (t:zd5):TG:=fun v σ H Q=>to σ H fun o H1=>ti σ H1 fun i H2=>t o i v H2 fun H3=>Q σ H3
theorem zio {o i:Expr} {to ti:TE} {t:zd5} (ho:PE X o to) (hi:PE X i ti) (hs:zcZ X t)
  (ha:∀ v,assign (.Subscript o i pos) X.env v = (do
   let ov ← holding [v] (eval o X.env)
   let iv ← holding [v,ov] (eval i X.env)
   standAt pos
   holding [v,ov,iv] (setItem ov iv v)
   release [v,ov,iv] []):=by intro _;rfl):PG X (.Subscript o i pos) (zkI to ti t):=by
 intro pins s σ H v u Q I r h
 rw [ha]
 refine Q1 (wpAny_holding (thn (ho pins s σ H _ I h) fun ov s1 ⟨x,H1,I1,r1,q1⟩=>?_))
 refine Q1 (wpAny_holding (thn (hi pins s1 σ H1 _ I1 q1) fun iv s2 ⟨y,H2,I2,r2,q2⟩=>?_))
 refine Q1 (wpAny_standAt (Q1 (wpAny_holding (thn (hs pins s2 σ H2 x y v ov iv u _ I2 r1 r2 r q2) fun _ s3 ⟨H3,I3,q3⟩=>?_))))
 exact wpAny_release ⟨σ,H3,I3,q3⟩
noncomputable def zh3 (te:TE) (g:TG):TS:=fun D σ H=>te σ H fun x H1=>g x σ H1 D.nx
theorem zil (he:PE X e te) (hg:PG X tg g) (hs:swapsWithSole [tg] e pos.line X.env = pure false:=by rfl) (hw:swappedStores [tg] e X.env = pure none:=by rfl)
 (h1:(assignEach [tg] X.env).map (·.2) = [assign tg X.env]:=by rfl):PS X (.Assign [tg] e pos) (zh3 te g):=by
 intro pins s σ H D I h
 refine wpAny_Assign_stores (thn (he pins s σ H _ I h) fun v s1 ⟨x,H1,I1,r1,q1⟩=>?_) hs hw
 rw [h1]
 exact thn (hg pins s1 σ H1 x v _ I1 r1 q1) fun _ s2 q=>q
theorem zii {pos':Pos} (hN:X.N.Nodup) (hi:X.N[i]? = some x) (hx:Loc X.env.scope x) (he:PE X e te) (hs:swapsWith e (some (.Name x pos')) pos.line X.env = pure false:=by rfl) (hf:X.fn x = true\/X.env.scope.names.lookup x = some .local:=by first | exact .inl rfl | exact .inr rfl | assumption) :
  PS X (.Assign [.Name x pos'] e pos) (zh3 te (zb0 i)):=by
 intro pins s σ H D I h
 refine wpAny_Assign_Name (thn (he pins s σ H _ I h) fun v s1 ⟨y,H1,I1,r1,q1⟩=>?_) hs
 exact zcd I1 hN hi hx r1 (fun s2 I2=>⟨_,H1,I2,q1⟩) hf
end
variable {body:List Stmt}
section
noncomputable def zh1 (c:TT) (tb:TS):TS:=fun D σ H=>∃ W:Nat->St->Hp->Prop,(∃ m,W m σ H)/\∀ m σ H,W m σ H->
 c σ H fun b H1=>if b = true then ∃ N:St->Hp->Prop,(∀ σ' H',N σ' H'->∃ m',m' < m/\W m' σ' H')/\tb { D with nx:=N,ct:=N,bk:=D.nx } σ H1 else D.nx σ H1
theorem zfw {tb:TS} (hp:PassesOwn (model X.prog X.w) X.A X.env X.xe) (hc:PT X c tc) (hb:PSs X body tb):PS X (.While c body [] pos) (zh1 tc tb):=by
 intro pins s σ H D I h
 obtain ⟨W,⟨m0,w0⟩,turn⟩:=h
 refine wpAny_While (codeAny_whileLoop (fun n s'=>∃ σ' H',Inv X pins σ' H' s'/\W n σ' H') ?_ m0 ⟨σ,H,I,w0⟩)
 rintro n s1 ⟨σ1,H1,I1,w1⟩
 refine wpAny_passesOwn hp (thn (hc pins s1 σ1 H1 _ I1 (turn n σ1 H1 w1)) fun b s2 ⟨H2,I2,q2⟩=>?_)
 cases b with
 | true=>
  obtain ⟨N,hN,q2⟩:=q2
  rw [if_pos rfl]
  refine wpAny_passesOwn hp (thn (hb pins s2 σ1 H2 _ I2 q2) fun f s3 q3=>?_)
  cases f with
  | next=>
   obtain ⟨σ3,H3,I3,n3⟩:=q3
   obtain ⟨m',hm,w3⟩:=hN σ3 H3 n3
   exact ⟨m',hm,σ3,H3,I3,w3⟩
  | cont=>
   obtain ⟨σ3,H3,I3,n3⟩:=q3
   obtain ⟨m',hm,w3⟩:=hN σ3 H3 n3
   exact ⟨m',hm,σ3,H3,I3,w3⟩
  | brk=>exact q3
  | ret v=>exact q3
 | false=>
  rw [if_neg Q4]
  exact wpAny_execs_nil ⟨σ1,H2,I2,q2⟩
end
structure It where
 go:Nat->Hp->Prop
 yld:Nat->Hp->V->Hp->Prop
 stop:Nat->Hp->Prop
def za4 (X:Cx) (pins:List (Addr × Obj)) (H:Hp) (b:Addr):Prop:=
 H b = none/\b ≠ X.env.locals/\b ∉ X.fs/\(b ∈ X.ex\/X.s₀.heap.objs.size<=b)/\(∀ x c,X.env.cells.lookup x = some c->c ≠ b)/\∀ p ∈ X.pn ++ pins,p.1 ≠ b
theorem Inv.fpOk {b:Addr} (I:Inv X pins σ H s) (hb:s.heap.objs.size<=b) (hn:H' b = none):za4 X pins H' b:=by
 refine ⟨hn,Nat.ne_of_gt (Q5 I.lt hb),I.nofs hb,.inr (Qh I.sz hb),fun x c e z=>?_,fun p hp z=>?_⟩
 ·obtain ⟨v,q⟩:=I.cell x c e
  exact absurd (Q5 q.lt (by rw [z];exact hb)) (Qm _)
 ·exact absurd (Q5 (Qc (I.pin p hp).1) (by rw [z];exact hb)) (Qm _)
structure Turn (P:Program) (w:World) (K:Frag) (tg:Expr) (J:It) (fp:List Addr) (it:Addr) (tn:Nat->Heap->Prop):Prop where
 mem:it ∈ fp
 obj:∀ i h,tn i h->∀ b ∈ fp,∃ o,h.get? b = some o/\∀ v,o.data ≠ .cell v
 keep:∀ i h h',tn i h->(∀ b ∈ fp,∀ o,h.get? b = some o->h'.get? b = some o)->tn i h'
 item:∀ (X:Cx),X.prog = P->X.w = w->X.K = K->X.calm = true->∀ (i:Nat) (pins:List (Addr × Obj)) (s:Shared) (σ:St) (H:Hp) (E:Value->Shared->Prop),Inv X pins σ H s->(∀ b ∈ fp,za4 X pins H b)->tn i s.heap->J.go i H->
  wpAny (model P w) X.A (pyNext (.ref it)) (fun r s1=>∃ u,r = some u /\
   wpAny (model P w) X.A (letOwnedTupleGo tg (.ref it) u) (fun _ s2=>∃ x H',Inv X pins σ H' s2/\RelV x u/\J.yld i H x H'/\tn (i + 1) s2.heap/\∀ b ∈ fp,H' b = none) E s1) E s
 done:∀ (X:Cx),X.prog = P->X.w = w->X.K = K->X.calm = true->∀ (i:Nat) (pins:List (Addr × Obj)) (s:Shared) (σ:St) (H:Hp) (E:Value->Shared->Prop),Inv X pins σ H s->(∀ b ∈ fp,za4 X pins H b)->tn i s.heap->J.stop i H->
  wpAny (model P w) X.A (pyNext (.ref it)) (fun r s1=>r = none/\Inv X pins σ H s1) E s
 self:∀ (A:Around) (i:Nat) (s:Shared) (Q:Value->Shared->Prop) (E:Value->Shared->Prop),tn i s.heap->Q (.ref it) s->wpAny (model P w) A (pyIter (.ref it)) Q E s
noncomputable abbrev TI:=St->Hp->(It->Hp->Prop)->Prop
def PIE (X:Cx) (pins:List (Addr × Obj)) (σ:St) (tg:Expr) (R:It->Hp->Prop) (itv:Value) (s2:Shared):Prop:=
 ∃ (it:Addr) (fp:List Addr) (tn:Nat->Heap->Prop) (J:It) (H':Hp),itv = .ref it/\Inv X pins σ H' s2/\Turn X.prog X.w X.K tg J fp it tn/\tn 0 s2.heap/\(∀ b ∈ fp,za4 X pins H' b)/\R J H'
def PI (X:Cx) (tg iter:Expr) (wi:TI):Prop:=
 ∀ (pins:List (Addr × Obj)) (s:Shared) (σ:St) (H:Hp) (R:It->Hp->Prop),Inv X pins σ H s->wi σ H R->
  wpAny (model X.prog X.w) X.A (eval iter X.env) (fun v s1=>wpAny (model X.prog X.w) X.A (pyIter v) (PIE X pins σ tg R) X.xe s1) X.xe s
theorem zdU {o:Obj} {n:String} {vs:Array Value} {Q:Unit->Shared->Prop} (ho:s.heap.get? it = some o) (hc:o.cls = .type n) (hd:o.data = .fields vs)
 (hn:["enumerate","zip","dict_itemiterator","dict_reverseitemiterator","odict_iterator","itertools.zip_longest","itertools.pairwise"].contains n = false) (hQ:Q () s):wpAny M A (letOwnedTupleGo tg (.ref it) u) Q E s:=by
 unfold letOwnedTupleGo
 cases tg <;> first
  | exact Qd hQ
  | (cases u <;> first
    | exact Qd hQ
    | (refine Q1 (wpAny_load ho ?_)
       rw [hc,hd]
       show wpAny M A (if (["enumerate","zip","dict_itemiterator","dict_reverseitemiterator","odict_iterator","itertools.zip_longest","itertools.pairwise"].contains n && vs[0]? == some (rawInt _)) = true then _ else _) Q E s
       rw [if_neg (by intro h;rw [hn,Bool.false_and] at h;cases h)]
       exact Qd hQ))
noncomputable def Itl (K:Frag) (a:Addr):It:=
 ⟨fun i H=>∃ xs x,SqL K H a xs/\xs[i]? = some x,fun i H x H'=>H' = H/\∀ xs,SqL K H a xs->xs[i]? = some x,fun i H=>∃ xs,SqL K H a xs/\xs.length<=i⟩
noncomputable def Itt (K:Frag) (a:Addr):It:=
 ⟨fun i H=>∃ xs x,SqT K H a xs/\xs[i]? = some x,fun i H x H'=>H' = H/\∀ xs,SqT K H a xs->xs[i]? = some x,fun i H=>∃ xs,SqT K H a xs/\xs.length<=i⟩
variable {K:Frag}
theorem zek (a it:Addr):Turn P w K tg (Itl K a) [it] it (fun i h=>h.IsListIter it a i) where
 mem:=by simp
 obj:=fun i h st b hb=>by
  have e:b = it:=by simpa using hb
  subst e
  obtain ⟨o,e,c,d⟩:=st
  exact ⟨o,e,fun v z=>by rw [d] at z;cases z⟩
 keep:=fun i h h' st k=>st.at fun o e=>k it (by simp) o e
 item:=by
  intro X hP hw hK hc i pins s σ H E I hf st hg
  subst hP hw hK
  obtain ⟨xs,x,hq,hx⟩:=hg
  obtain ⟨its,rv,p,hz⟩:=I.list hq
  obtain ⟨u,hu,ru⟩:=rv.get hx
  obtain ⟨f0,f1,f2,f3,f4,f5⟩:=hf it (by simp)
  refine wpAny_pyNext_list_item st p.isList (x:=u) (by simpa using hu) fun h' st' sb=>?_
  have I1:Inv X pins σ H { s with heap:=h' }:=I.turned (t':=s.toks) (fun b o hb e=>(sb.2 b hb).trans e) f0 f1 f3 f4 f5
  obtain ⟨o,e,c,d⟩:=id st'
  exact ⟨u,rfl,zdU (s:={ s with heap:=h' }) e c d (by decide) ⟨x,H,I1,ru,⟨rfl,fun ys hy=>by rw [I.list_inj hy hq];exact hx⟩,st',fun b hb=>(hf b hb).1⟩⟩
 done:=by
  intro X hP hw hK hc i pins s σ H E I hf st hg
  subst hP hw hK
  obtain ⟨xs,hq,hx⟩:=hg
  obtain ⟨its,rv,p,hz⟩:=I.list hq
  obtain ⟨f0,f1,f2,f3,f4,f5⟩:=hf it (by simp)
  have hl:=rv.length
  exact wpAny_pyNext_list_end (I.ok.hd hc) st p.isList (by simp;omega) fun h' eb=>⟨rfl,I.turned (t':=s.toks) (fun b o hb e=>eb b o hb e) f0 f1 f3 f4 f5⟩
 self:=fun _ _ _ _ _ st h=>wpAny_pyIter_listiter st h
theorem zdv (a it:Addr):Turn P w K tg (Itt K a) [it] it (fun i h=>h.IsTupleIter it a i) where
 mem:=by simp
 obj:=fun i h st b hb=>by
  have e:b = it:=by simpa using hb
  subst e
  obtain ⟨o,e,c,d⟩:=st
  exact ⟨o,e,fun v z=>by rw [d] at z;cases z⟩
 keep:=fun i h h' st k=>st.at fun o e=>k it (by simp) o e
 item:=by
  intro X hP hw hK hc i pins s σ H E I hf st hg
  subst hP hw hK
  obtain ⟨xs,x,hq,hx⟩:=hg
  obtain ⟨its,rv,p,hz⟩:=I.tuple hq
  obtain ⟨u,hu,ru⟩:=rv.get hx
  obtain ⟨f0,f1,f2,f3,f4,f5⟩:=hf it (by simp)
  refine wpAny_pyNext_tuple_item st (show s.heap.IsTuple a its.toArray from p) (x:=u) (by simpa using hu) fun h' st' sb=>?_
  have I1:Inv X pins σ H { s with heap:=h' }:=I.turned (t':=s.toks) (fun b o hb e=>(sb.2 b hb).trans e) f0 f1 f3 f4 f5
  obtain ⟨o,e,c,d⟩:=id st'
  exact ⟨u,rfl,zdU (s:={ s with heap:=h' }) e c d (by decide) ⟨x,H,I1,ru,⟨rfl,fun ys hy=>by rw [I.tuple_inj hy hq];exact hx⟩,st',fun b hb=>(hf b hb).1⟩⟩
 done:=by
  intro X hP hw hK hc i pins s σ H E I hf st hg
  subst hP hw hK
  obtain ⟨xs,hq,hx⟩:=hg
  obtain ⟨its,rv,p,hz⟩:=I.tuple hq
  obtain ⟨f0,f1,f2,f3,f4,f5⟩:=hf it (by simp)
  have hl:=rv.length
  exact wpAny_pyNext_tuple_end (I.ok.hd hc) st (show s.heap.IsTuple a its.toArray from p) (by simp;omega) fun h' eb=>⟨rfl,I.turned (t':=s.toks) (fun b o hb e=>eb b o hb e) f0 f1 f3 f4 f5⟩
 self:=fun _ _ _ _ _ st h=>wpAny_pyIter_tupleiter st h
variable {l:Expr} {fp:List Addr} {tl:TE}
section
noncomputable def zjS (K:Frag) (tl:TE):TI:=fun σ H R=>tl σ H fun x H1=>∃ a,x = .ref a/\(∃ xs,SqL K H1 a xs)/\R (Itl K a) H1
noncomputable def zkH (K:Frag) (tl:TE):TI:=fun σ H R=>tl σ H fun x H1=>∃ a,x = .ref a/\(∃ xs,SqT K H1 a xs)/\R (Itt K a) H1
theorem zg1 (hl:PE X l tl):PI X tg l (zjS X.K tl):=by
 intro pins s σ H R I h
 refine thn (hl pins s σ H _ I h) fun v s1 ⟨x,H1,I1,r1,q1⟩=>?_
 obtain ⟨a,e,⟨xs,hq⟩,q⟩:=q1
 subst e
 cases r1
 obtain ⟨its,rv,p,hz⟩:=I1.list hq
 refine wpAny_pyIter_list p.isList ?_
 refine ⟨s1.heap.objs.size,[s1.heap.objs.size],_,_,H1,rfl,I1.kept (t':=s1.toks) fun b o e=>Q2 _ e,zek a _,⟨_,Qj _ rfl,rfl,rfl⟩,fun b hb=>?_,q⟩
 have e:b = s1.heap.objs.size:=by simpa using hb
 subst e
 exact I1.fpOk (Q3 _) (I1.hok.fresh (Q3 _))
theorem zin (hl:PE X l tl):PI X tg l (zkH X.K tl):=by
 intro pins s σ H R I h
 refine thn (hl pins s σ H _ I h) fun v s1 ⟨x,H1,I1,r1,q1⟩=>?_
 obtain ⟨a,e,⟨xs,hq⟩,q⟩:=q1
 subst e
 cases r1
 obtain ⟨its,rv,p,hz⟩:=I1.tuple hq
 refine wpAny_pyIter_tuple (show s1.heap.IsTuple a its.toArray from p) ?_
 refine ⟨s1.heap.objs.size,[s1.heap.objs.size],_,_,H1,rfl,I1.kept (t':=s1.toks) fun b o e=>Q2 _ e,zdv a _,⟨_,Qj _ rfl,rfl,rfl⟩,fun b hb=>?_,q⟩
 have e:b = s1.heap.objs.size:=by simpa using hb
 subst e
 exact I1.fpOk (Q3 _) (I1.hok.fresh (Q3 _))
noncomputable def zki (wi:TI) (g:TG) (tb:TS):TS:=fun D σ H=>wi σ H fun J H1=>∃ W:Nat->Nat->St->Hp->Prop,(∃ m,W 0 m σ H1)/\∀ i m σ H,W i m σ H->
 (J.stop i H/\D.nx σ H)\/(J.go i H/\∃ N:St->Hp->Prop,(∀ σ' H',N σ' H'->∃ m',m' < m/\W (i + 1) m' σ' H')/\∀ x H',J.yld i H x H'->g x σ H' fun σ2 H2=>tb { D with nx:=N,ct:=N,bk:=D.nx } σ2 H2)
noncomputable def zaz (fp:List Addr) (h:Heap):List (Addr × Obj):=fp.filterMap fun b=>(h.get? b).map fun o=>(b,o)
theorem yR {b:Addr} {o:Obj} (hb:b ∈ fp) (e:h.get? b = some o):(b,o) ∈ zaz fp h:=List.mem_filterMap.mpr ⟨b,hb,by rw [e];rfl⟩
theorem zeB {p:Addr × Obj} (hp:p ∈ zaz fp h):p.1 ∈ fp/\h.get? p.1 = some p.2:=by
 obtain ⟨b,hb,e⟩:=List.mem_filterMap.mp hp
 cases q:h.get? b with
 | none=>rw [q] at e;cases e
 | some o=>
  rw [q] at e
  have e':(b,o) = p:=Qb e
  subst e'
  exact ⟨hb,q⟩
theorem Inv.pinned (I:Inv X pins σ H s) (hf:∀ b ∈ fp,za4 X pins H b) (ho:∀ b ∈ fp,∃ o,s.heap.get? b = some o/\∀ v,o.data ≠ .cell v):Inv X (pins ++ zaz fp s.heap) σ H s:=
 I.pins_of fun p hp=>(mem_append.mp hp).elim (fun z=>I.pin p (Qk _ z)) fun z=>by
  obtain ⟨hb,e⟩:=zeB z
  obtain ⟨f0,f1,f2,_⟩:=hf p.1 hb
  obtain ⟨o,e',d⟩:=ho p.1 hb
  rw [e] at e';cases e'
  exact ⟨e,f0,f1,f2,d⟩
theorem Inv.unpinned {pl:List (Addr × Obj)} (I:Inv X (pins ++ pl) σ H s):Inv X pins σ H s:=I.pins_of fun p hp=>I.pin p (Qk _ (mem_append_left _ hp))
theorem zik {iter:Expr} {wi:TI} {tb:TS} (hp:PassesOwn (model X.prog X.w) X.A X.env X.xe) (hc:X.calm = true) (hi:PI X tg iter wi) (hg:PG X tg g) (hb:PSs X body tb)
 (hs:∀ x,foldedSetIterable iter X.env x = pure x:=by intro _;rfl):PS X (.For tg iter body [] pos) (zki wi g tb):=by
 intro pins s σ H D I h
 refine wpAny_For (thn (hi pins s σ H _ I h) fun v s1 h1=>thn h1 fun itv s2 h2=>?_) hs
 obtain ⟨it,fp,tn,J,H2,e,I2,T,st2,f2,W,⟨m0,w0⟩,turn⟩:=h2
 subst e
 -- what stays true of the iterator's objects through the loop
 have stat:∀ {H':Hp},(∀ b ∈ fp,H' b = none)->∀ b ∈ fp,za4 X pins H' b:=fun hn b hb=>⟨hn b hb,(f2 b hb).2⟩
 refine codeAny_forLoop_any (fun n s'=>∃ i σ' H',Inv X pins σ' H' s'/\tn i s'.heap/\(∀ b ∈ fp,H' b = none)/\W i n σ' H') ?_ m0 ⟨0,σ,H2,I2,st2,fun b hb=>(f2 b hb).1,w0⟩
 rintro n s3 ⟨i,σ3,H3,I3,st3,fr3,w3⟩
 rcases turn i n σ3 H3 w3 with ⟨stop,qn⟩ | ⟨go,N,hN,step⟩
 ·refine wpAny_passesOwn hp (thn (T.done X rfl rfl rfl hc i pins s3 σ3 H3 X.xe I3 (stat fr3) st3 stop) fun r s4 ⟨hr,I4⟩=>?_)
  subst hr
  exact wpAny_execs_nil ⟨σ3,H3,I4,qn⟩
 ·refine wpAny_passesOwn hp (thn (T.item X rfl rfl rfl hc i pins s3 σ3 H3 X.xe I3 (stat fr3) st3 go) fun r s4 ⟨u,hr,h4⟩=>?_)
  subst hr
  refine wpAny_passesOwn hp (thn h4 fun _ s5 ⟨x,H5,I5,r5,y5,st5,fr5⟩=>?_)
  have I5':=I5.pinned (stat fr5) (T.obj _ _ st5)
  refine wpAny_passesOwn hp (thn (hg _ s5 σ3 H5 x u _ I5' r5 (step x H5 y5)) fun _ s6 ⟨σ6,H6,I6,q6⟩=>?_)
  refine wpAny_passesOwn hp (thn (hb _ s6 σ6 H6 _ I6 q6) fun f s7 q7=>?_)
  have again:∀ {σ7:St} {H7:Hp},Inv X (pins ++ zaz fp s5.heap) σ7 H7 s7->N σ7 H7->∃ m,m < n/\∃ i σ' H',Inv X pins σ' H' s7/\tn i s7.heap/\(∀ b ∈ fp,H' b = none)/\W i m σ' H':=fun {σ7 H7} I7 n7=>by
   obtain ⟨m',hm,w7⟩:=hN σ7 H7 n7
   refine ⟨m',hm,i + 1,σ7,H7,I7.unpinned,T.keep _ _ _ st5 fun b hb o e=>(I7.pin (b,o) (Qk _ (Qk _ (yR hb e)))).1,fun b hb=>?_,w7⟩
   obtain ⟨o,e,d⟩:=T.obj _ _ st5 b hb
   exact (I7.pin (b,o) (Qk _ (Qk _ (yR hb e)))).2.1
  cases f with
  | next=>obtain ⟨σ7,H7,I7,n7⟩:=q7;exact again I7 n7
  | cont=>obtain ⟨σ7,H7,I7,n7⟩:=q7;exact again I7 n7
  | brk=>obtain ⟨σ7,H7,I7,q7⟩:=q7;exact ⟨σ7,H7,I7.unpinned,q7⟩
  | ret v=>obtain ⟨x7,σ7,H7,I7,r7,q7⟩:=q7;exact ⟨x7,σ7,H7,I7.unpinned,r7,q7⟩
end
noncomputable abbrev R2:=V->V->Hp->VK->Prop
def OpR (X:Cx) (f:Value->Value->Sem Value) (r:R2):Prop:=
 ∀ (pins:List (Addr × Obj)) (s:Shared) (σ:St) (H:Hp) (x y:V) (v u:Value) (Q:VK),Inv X pins σ H s->RelV x v->RelV y u->r x y H Q->
  wpAny (model X.prog X.w) X.A (f v u) (EP X pins σ Q) X.xe s
def UnR (X:Cx) (f:Value->Sem Value) (r:V->Hp->VK->Prop):Prop:=
 ∀ (pins:List (Addr × Obj)) (s:Shared) (σ:St) (H:Hp) (x:V) (v:Value) (Q:VK),Inv X pins σ H s->RelV x v->r x H Q->
  wpAny (model X.prog X.w) X.A (f v) (EP X pins σ Q) X.xe s
def CallR (X:Cx) (f:Value) (r:List V->Hp->VK->Prop):Prop:=
 ∀ (pins:List (Addr × Obj)) (s:Shared) (σ:St) (H:Hp) (xs:List V) (us:List Value) (Q:VK),Inv X pins σ H s->Vals xs us->r xs H Q->
  wpAny (model X.prog X.w) X.A (call f us) (EP X pins σ Q) X.xe s
noncomputable def tOp (r:R2) (ta tb:TE):TE:=fun σ H Q=>ta σ H fun x H1=>tb σ H1 fun y H2=>r x y H2 Q
noncomputable def rI (C:Int->Int->Prop) (g:Int->Int->V):R2:=fun x y H Q=>∃ i j,x = .int i/\y = .int j/\C i j/\Q (g i j) H
noncomputable def rI0 (g:Int->Int->V):R2:=fun x y H Q=>∃ i j,x = .int i/\y = .int j/\Q (g i j) H
variable {r:R2} {f:Value->Value->Sem Value}
section
variable {a b:Expr} {tc:TE}
theorem zgc (ha:PE X a ta) (hb:PE X b tb) (I:Inv X pins σ H s)
 (h:ta σ H fun x H1=>tb σ H1 fun y H2=>R x y H2) 
 (hf:∀ v u s2 x y H2,Inv X pins σ H2 s2->RelV x v->RelV y u->R x y H2->wpAny (model X.prog X.w) X.A (f v u) Q X.xe s2) :
  wpAny (model X.prog X.w) X.A (eval a X.env) (fun v s₁=>wpAny (model X.prog X.w) X.A (eval b X.env) (fun u s₂=>wpAny (model X.prog X.w) X.A (f v u) Q X.xe s₂) X.xe s₁) X.xe s:=by
 refine thn (ha pins s σ H _ I h) fun v s1 ⟨x,H1,I1,r1,q1⟩=>?_
 refine thn (hb pins s1 σ H1 _ I1 q1) fun u s2 ⟨y,H2,I2,r2,q2⟩=>?_
 exact hf v u s2 x y H2 I2 r1 r2 q2
theorem zjH {op:Operator} (ho:OpR X (binaryOp op) r) (ha:PE X a ta) (hb:PE X b tb):PE X (.BinOp a op b pos) (tOp r ta tb):=by
 intro pins s σ H Q I h
 exact wpAny_BinOp (zgc ha hb I h fun v u s2 x y H2 I2 rx ry q=>ho pins s2 σ H2 x y v u Q I2 rx ry q)
theorem opI {C:Int->Int->Prop} {g:Int->Int->Int}
 (rule:∀ (i j:Int) (t u:Tok) (s:Shared) (Q:Value->Shared->Prop) (E:Value->Shared->Prop),C i j->Q (.int (g i j) s.toks) { s with toks:=s.toks + 1 }->wpAny (model X.prog X.w) X.A (f (.int i t) (.int j u)) Q E s) :
  OpR X f (rI C fun i j=>.int (g i j)):=by
 intro pins s σ H x y v u Q I rx ry h
 obtain ⟨i,j,rfl,rfl,hc,q⟩:=h
 obtain ⟨t,rfl⟩:=rx
 obtain ⟨t',rfl⟩:=ry
 exact rule i j t t' s _ _ hc ⟨.int (g i j),H,I.tok _,⟨_,rfl⟩,q⟩
theorem ziF {g:Int->Int->Int}
 (rule:∀ (i j:Int) (t u:Tok) (s:Shared) (Q:Value->Shared->Prop) (E:Value->Shared->Prop),Q (.int (g i j) s.toks) { s with toks:=s.toks + 1 }->wpAny (model X.prog X.w) X.A (f (.int i t) (.int j u)) Q E s) :
  OpR X f (rI0 fun i j=>.int (g i j)):=by
 intro pins s σ H x y v u Q I rx ry h
 obtain ⟨i,j,rfl,rfl,q⟩:=h
 obtain ⟨t,rfl⟩:=rx
 obtain ⟨t',rfl⟩:=ry
 exact rule i j t t' s _ _ ⟨.int (g i j),H,I.tok _,⟨_,rfl⟩,q⟩
theorem zfF {g:Int->Int->Bool}
 (rule:∀ (i j:Int) (t u:Tok) (s:Shared) (Q:Value->Shared->Prop) (E:Value->Shared->Prop),Q (.bool (g i j)) s->wpAny (model X.prog X.w) X.A (f (.int i t) (.int j u)) Q E s) :
  OpR X f (rI0 fun i j=>.bl (g i j)):=by
 intro pins s σ H x y v u Q I rx ry h
 obtain ⟨i,j,rfl,rfl,q⟩:=h
 obtain ⟨t,rfl⟩:=rx
 obtain ⟨t',rfl⟩:=ry
 exact rule i j t t' s _ _ ⟨.bl (g i j),H,I,rfl,q⟩
def zkQ (i j:Int):Prop:=0<=j/\j<=1000000/\i.natAbs < 2 ^ 64
def CMul (i j:Int):Prop:=(-(2 ^ 64) < i/\i < 2 ^ 64)\/(-(2 ^ 64) < j/\j < 2 ^ 64)
theorem CMul.ok {i j:Int} (h:CMul i j):IntMulOk i j:=by
 rcases h with ⟨h1,h2⟩ | ⟨h1,h2⟩
 ·exact .of_left (intBits_le_64 h1 h2)
 ·exact .of_right (intBits_le_64 h1 h2)
theorem ziE:OpR X (binaryOp .Add) (rI0 fun i j=>.int (i + j)):=ziF fun _ _ _ _ _ _ _ q=>add_int q
theorem ziB:OpR X (binaryOp .Sub) (rI0 fun i j=>.int (i - j)):=ziF fun _ _ _ _ _ _ _ q=>sub_int q
theorem zhb:OpR X (binaryOp .Mod) (rI (fun _ j=>j ≠ 0) fun i j=>.int (i.fmod j)):=opI fun _ _ _ _ _ _ _ hc q=>mod_int' hc q
theorem ziC:OpR X (binaryOp .Pow) (rI zkQ fun i j=>.int (i ^ j.toNat)):=opI fun _ _ _ _ _ _ _ hc q=>pow_int_small hc.1 hc.2.1 hc.2.2 q
end
variable {op':CmpOp} {r':R2}
section
variable {a b:Expr} {tc:TE}
theorem zeU {Q:VK} {k k':Bool} (I:Inv X pins σ H s) (q:Q (.bl k) H) (e:k = k'):EP X pins σ Q (.bool k') s:=by
 subst e
 exact ⟨.bl k,H,I,rfl,q⟩
theorem zjL:OpR X (compareOp .Lt) (rI0 fun i j=>.bl (decide (i < j))):=zfF fun _ _ _ _ _ _ _ q=>lt_int q
theorem zjM:OpR X (compareOp .LtE) (rI0 fun i j=>.bl (decide (i<=j))):=zfF fun _ _ _ _ _ _ _ q=>le_int q
theorem zjN:OpR X (compareOp .Gt) (rI0 fun i j=>.bl (decide (j < i))):=zfF fun _ _ _ _ _ _ _ q=>gt_int q
theorem zg9:OpR X (compareOp .IsNot) (fun x y H Q=>y = .non/\Q (.bl (!decide (x = .non))) H):=by
 intro pins s σ H x y v u Q I rx ry h
 obtain ⟨rfl,q⟩:=h
 cases ry
 refine isnot_none_gen (zeU I q ?_)
 cases x <;> first
  | (cases rx;rfl)
  | (obtain ⟨t,rfl⟩:=rx;rfl)
theorem zm (b:Expr) (h:op ≠ .In:=by decide) (h2:op ≠ .NotIn:=by decide):behindInMarks op b = false:=by
 have e1:(op == CmpOp.In) = false:=by cases op <;> first | rfl | exact absurd rfl h
 have e2:(op == CmpOp.NotIn) = false:=by cases op <;> first | rfl | exact absurd rfl h2
 cases b <;> simp [behindInMarks,e1,e2]
theorem zg4 (ho:OpR X (compareOp op) r) (ha:PE X a ta) (hb:PE X b tb) (hm:behindInMarks op b = false):PE X (.Compare a [op] [b] pos) (tOp r ta tb):=by
 intro pins s σ H Q I h
 exact wpAny_Compare1 (zgc ha hb I h fun v u s2 x y H2 I2 rx ry q=>ho pins s2 σ H2 x y v u Q I2 rx ry q) hm
noncomputable def zgk (t:TE):TT:=fun σ H Q=>t σ H fun x H'=>∃ k,x = .bl k/\Q k H'
theorem zgS (ho:OpR X (compareOp op) r) (ha:PE X a ta) (hb:PE X b tb) (hm:behindInMarks op b = false):PT X (.Compare a [op] [b] pos) (zgk (tOp r ta tb)):=by
 intro pins s σ H Q I h
 refine wpAny_isTrue_Compare1 (thn (ha pins s σ H _ I h) fun v s1 ⟨x,H1,I1,r1,q1⟩=>thn (hb pins s1 σ H1 _ I1 q1) fun u s2 ⟨y,H2,I2,r2,q2⟩=>
  thn (ho pins s2 σ H2 x y v u _ I2 r1 r2 q2) fun c s3 ⟨z,H3,I3,r3,k,e,q3⟩=>?_) hm
 subst e
 cases r3
 exact wpAny_truthy_bool ⟨H3,I3,q3⟩
noncomputable def zca (r r':R2) (ta tb tc:TE):TE:=fun σ H Q=>ta σ H fun x H1=>tb σ H1 fun y H2=>r x y H2 fun z H3=>∃ k,z = .bl k /\
 (if k = true then tc σ H3 fun w' H4=>r' y w' H4 Q else Q (.bl false) H3)
theorem zfB (ho:OpR X (compareOp op) r) (ho':OpR X (compareOp op') r') (ha:PE X a ta) (hb:PE X b tb) (hc:PE X c tc)
 (hm:lastMarks [op,op'] [b,c] = false:=by with_unfolding_all rfl):PE X (.Compare a [op,op'] [b,c] pos) (zca r r' ta tb tc):=by
 intro pins s σ H Q I h
 refine Compare_chain (thn (ha pins s σ H _ I h) fun v s1 ⟨x,H1,I1,r1,q1⟩=>chain_link (thn (hb pins s1 σ H1 _ I1 q1) fun u s2 ⟨y,H2,I2,r2,q2⟩=>
  thn (ho pins s2 σ H2 x y v u _ I2 r1 r2 q2) fun d s3 ⟨z,H3,I3,r3,k,e,q3⟩=>?_)) hm
 subst e
 cases r3
 refine wpAny_truthy_bool ?_
 cases k with
 | false=>exact ite_ff ⟨.bl false,H3,I3,rfl,q3⟩
 | true=>exact ite_tt (chain_last (thn (hc pins s3 σ H3 _ I3 q3) fun w' s4 ⟨z',H4,I4,r4,q4⟩=>ho' pins s4 σ H4 y z' u w' Q I4 r2 r4 q4))
theorem zfu (ho:OpR X (compareOp op) r) (ho':OpR X (compareOp op') r') (ha:PE X a ta) (hb:PE X b tb) (hc:PE X c tc)
 (hm:lastMarks [op,op'] [b,c] = false:=by with_unfolding_all rfl):PT X (.Compare a [op,op'] [b,c] pos) (zgk (zca r r' ta tb tc)):=by
 intro pins s σ H Q I h
 refine isTrue_chain (thn (ha pins s σ H _ I h) fun v s1 ⟨x,H1,I1,r1,q1⟩=>test_link (thn (hb pins s1 σ H1 _ I1 q1) fun u s2 ⟨y,H2,I2,r2,q2⟩=>
  thn (ho pins s2 σ H2 x y v u _ I2 r1 r2 q2) fun d s3 ⟨z,H3,I3,r3,k,e,q3⟩=>?_)) hm
 subst e
 cases r3
 refine wpAny_truthy_bool ?_
 cases k with
 | false=>
  obtain ⟨k',e',q'⟩:=q3
  cases e'
  exact ite_ff ⟨H3,I3,q'⟩
 | true=>
  refine ite_tt (test_last (thn (hc pins s3 σ H3 _ I3 q3) fun w' s4 ⟨z',H4,I4,r4,q4⟩=>thn (ho' pins s4 σ H4 y z' u w' _ I4 r2 r4 q4) fun d' s5 ⟨z2,H5,I5,r5,k2,e2,q5⟩=>?_))
  subst e2
  cases r5
  exact wpAny_truthy_bool ⟨H5,I5,q5⟩
theorem y8:(sizeLine:Nat) < 2 ^ 63:=by rw [sizeLine_eq];decide
theorem zdK:OpR X (binaryOp .Add) (fun x y H Q=>∃ i j,x = .str i/\y = .str j/\i.length + j.length<=sizeLine/\Q (.str (i ++ j)) H):=by
 intro pins s σ H x y v u Q I rx ry h
 obtain ⟨i,j,rfl,rfl,hz,q⟩:=h
 obtain ⟨t,rfl⟩:=rx
 obtain ⟨t',rfl⟩:=ry
 exact add_str (fun t' tk=>⟨.str (i ++ j),H,I.tok _,⟨_,rfl⟩,q⟩) hz
theorem vals1 {x:V} (r:Vals [x] us):∃ u,us = [u]/\RelV x u:=by
 cases r with
 | cons r1 r2=>cases r2;exact ⟨_,rfl,r1⟩
theorem vals2 {x:V} (r:Vals [x,y] us):∃ u w',us = [u,w']/\RelV x u/\RelV y w':=by
 cases r with
 | cons r1 r2=>
  cases r2 with
  | cons r3 r4=>cases r4;exact ⟨_,_,rfl,r1,r3⟩
theorem zgb:CallR X (.builtin "abs") (fun xs H Q=>∃ i,xs = [.int i]/\Q (.int (if i < 0 then -i else i)) H):=by
 intro pins s σ H xs us Q I r h
 obtain ⟨i,rfl,q⟩:=h
 obtain ⟨u,rfl,t,rfl⟩:=vals1 r
 exact call_abs_int fun u tk=>⟨.int (if i < 0 then -i else i),H,I.tok _,⟨_,rfl⟩,q⟩
theorem ze5 (hc:X.calm = true):CallR X (.builtin "max") (fun xs H Q=>∃ i j,xs = [.int i,.int j]/\Q (.int (if j > i then j else i)) H):=by
 intro pins s σ H xs us Q I r h
 obtain ⟨i,j,rfl,q⟩:=h
 obtain ⟨u,w',rfl,⟨t,rfl⟩,⟨t',rfl⟩⟩:=vals2 r
 refine max_two_ints (I.ok.hd hc) fun h' tk k=>⟨_,H,I.kept k,?_,q⟩
 by_cases hj:j > i
 ·rw [if_pos hj,if_pos hj];exact ⟨_,rfl⟩
 ·rw [if_neg hj,if_neg hj];exact ⟨_,rfl⟩
theorem zcN:CallR X (.type "str") (fun xs H Q=>∃ i,xs = [.int i]/\i.natAbs.log2 < 1920/\Q (.str (toString i)) H):=by
 intro pins s σ H xs us Q I r h
 obtain ⟨i,rfl,hz,q⟩:=h
 obtain ⟨u,rfl,t,rfl⟩:=vals1 r
 exact PySem.P.str_of_int hz ⟨.str _,H,I.tok _,⟨_,rfl⟩,q⟩
end
structure ObjM (h:Heap) (x dx C:Addr) (mA:Str->Option Value):Prop where
 obj:h.get? x = some (PySem.W.instObj C dx)
 ns:h.Ns1 dx mA
 ne:dx ≠ x
variable {dx:Addr} {mA:Str->Option Value}
theorem zeE (n:h.Ns1 dx mA):∃ od,h.get? dx = some od/\∀ name,PySem.W.lookIn name od = some (mA name):=by
 obtain ⟨o,es,ep,ho,hd,hk,_,hm⟩:=n
 refine ⟨o,ho,fun name=>?_⟩
 have e:=hm name
 unfold nsFind findBy at e
 rw [← Array.find?_toList] at e
 unfold PySem.W.lookIn
 rw [hd]
 dsimp only
 split
 ·rename_i y q
  rw [q] at e
  exact congrArg some e
 ·rename_i q
  rw [q] at e
  have a:es.toList.any (·.refKey) = false:=by
   rw [List.any_eq_false]
   intro y hy
   obtain ⟨z,t,hkey⟩:=hk y (Array.mem_toList_iff.mp hy)
   simp [DictEntry.refKey,hkey]
  have a':¬ es.toList.any (·.refKey) = true:=by rw [a];exact Q4
  rw [if_neg a']
  exact congrArg some e
theorem ObjM.look {x C:Addr} (I:ObjM h x dx C mA):∃ od,PySem.W.InstAt h x (PySem.W.instObj C dx) C (some od)/\∀ name,PySem.W.lookIn name od = some (mA name):=
 let ⟨od,ho,hl⟩:=zeE I.ns
 ⟨od,⟨I.obj,rfl,rfl,ho⟩,hl⟩
noncomputable def zft (f:Str) (v:V):List (Str × V)->List (Str × V)
 | []=>[(f,v)]
 | (g,x) :: r=>if g = f then (g,v) :: r else (g,x) :: zft f v r
structure Cls (K:Frag) (C:Addr):Prop where
 pg:PySem.W.plainGet K C Str.empty = true
 hd:PySem.W.hasDictIn K C = true
 po:PySem.W.plainOver K C = true
 sa:PySem.W.findIn K (.ref C) "__setattr__" = some (some (.builtin "object.__setattr__"))
structure Con (K:Frag) (C:Addr) (f:Str) (v:V) (u:Value):Prop where
 at_:PySem.W.findIn K (.ref C) f = some (some u)
 rel:RelV v u
 get:PySem.W.specialIn K u "__get__" = some none
 cp:PySem.W.copiedNames.contains f = false
structure Meth (K:Frag) (C:Addr) (m:Str) (f:Addr):Prop where
 at_:PySem.W.findIn K (.ref C) m = some (some (.ref f))
 fn:PySem.W.isFn K (.ref f) = true
 kp:PySem.W.keepIn K (.ref f) = true
section
variable {c:Value} {b:Bool}
inductive TyOf (K:Frag) (H:Hp):V->Value->Prop where
 | non:TyOf K H .non (.type "NoneType")
 | bl (x:Bool):TyOf K H (.bl x) (.type "bool")
 | int (i:Int):TyOf K H (.int i) (.type "int")
 | str (x:Str):TyOf K H (.str x) (.type "str")
 | flt (x:UInt64):TyOf K H (.flt x) (.type "float")
 | lst {a:Addr} {xs:List V} (e:H a = some (.lst xs)):TyOf K H (.ref a) (.type "list")
 | frz {a:Addr} {o:Obj} {xs:List V} (e:H a = some (.frz o (.lst xs))):TyOf K H (.ref a) (.type "list")
 | tup {a:Addr} {xs:List V} (e:H a = some (.tup xs)):TyOf K H (.ref a) (.type "tuple")
 | dK {a:Addr} {kvs:List (Key × V)} (e:H a = some (.dK kvs)):TyOf K H (.ref a) (.type "dict")
 | dT {a:Addr} {kvs:List (List Key × V)} (e:H a = some (.dT kvs)):TyOf K H (.ref a) (.type "dict")
 | ins {a C dx:Addr} {fs:List (Str × V)} (e:H a = some (.ins C dx fs)) (cl:Cls K C) (ha:PySem.W.findIn K (.ref C) "__class__" = some (some (.builtin "object.__class__")))
   (hn:PySem.W.specialIn K (.builtin "object.__class__") "__get__" = some (some (.builtin "getset_descriptor.__get__"))) (htk:PySem.W.takesIn K (.builtin "object.__class__") = some true)
   (hm:PySem.W.mroIn K C (.type "object") = some true):TyOf K H (.ref a) (.ref C)
end
structure Room (k:Nat) (A:Around):Prop where
 hd:A.handled = none
 dp:A.depth + 3 * k + 5 < recursionLimit
 un:A.units + 16 * k + 200 < cLine
variable {k:Nat}
theorem Room.mono (r:Room k A) (h:j<=k):Room j A:=⟨r.hd,by have:=r.dp;omega,by have:=r.un;omega⟩
theorem Room.deeper (r:Room (k + 1) A) (env:Env):Room k (A.deeper env):=
 ⟨r.hd,by have:=r.dp;show A.depth + 1 + 3 * k + 5 < _;omega,by have:=r.un;show A.units + 3 + 16 * k + 200 < _;omega⟩
theorem Room.in1 (r:Room (k + 1) A):Room k A.in1:=
 ⟨r.hd,by have:=r.dp;show A.depth + 3 * k + 5 < _;omega,by have:=r.un;show A.units + 1 + 16 * k + 200 < _;omega⟩
variable {kw:List (Str × Value)}
theorem zdR {C:Addr} :(A.under (.builtin "type.__call__" ⟨.ref C :: us,kw⟩)).depth = A.depth + 1:=by
 first | rfl | simp [Around.under,Code.weight,Code.isCreation,Code.isGuard,Code.isCaller,Code.frames,Code.isFrame,guardIds]
theorem zdQ {C:Addr} :(A.under (.builtin "type.__call__" ⟨.ref C :: us,kw⟩)).units = A.units + 1:=by
 first | rfl | simp [Around.under,Code.cUnits,Code.frames,Code.isFrame]
theorem Room.make (r:Room (k + 1) A) (C:Addr) (us:List Value) (kw:List (Str × Value)):Room k (A.under (.builtin "type.__call__" ⟨.ref C :: us,kw⟩)):=
 ⟨r.hd,by have:=r.dp;rw [zdR];omega,by have:=r.un;rw [zdQ];omega⟩
theorem Room.depth (r:Room k A):A.depth < recursionLimit:=by have:=r.dp;omega
theorem Room.units (r:Room k A):A.units + 64 < cLine:=by have:=r.un;omega
theorem Room.units0 (r:Room k A):A.units < cLine:=by have:=r.un;omega
noncomputable def zkf:TA:=fun _ H Q=>Q [] H
noncomputable def zbY (ta:TE) (tr:TA):TA:=fun σ H Q=>ta σ H fun x H1=>tr σ H1 fun xs H2=>Q (x :: xs) H2
variable {es:List Expr} {t:TA}
section
theorem ziA:PA X [] zkf:=fun _ _ _ _ H Q I h=>Calls.spliced_nil ⟨[],H,I,.nil,h⟩
theorem zg6 (ha:PE X e te) (hr:PA X es t) (hs:starEach (e :: es) X.env = (false,eval e X.env) :: starEach es X.env:=by rfl):PA X (e :: es) (zbY te t):=by
 intro pos pins s σ H Q I h
 rw [hs]
 show wpAny _ _ (spliced ((false,eval e X.env) :: backTo pos (starEach es X.env))) _ _ s
 refine Calls.spliced_cons (thn (ha pins s σ H _ I h) fun u s1 ⟨x,H1,I1,r1,q1⟩=>?_)
 exact thn (hr pos pins s1 σ H1 _ I1 q1) fun us s2 ⟨xs,H2,I2,r2,q2⟩=>⟨x :: xs,H2,I2,.cons r1 r2,q2⟩
noncomputable def zkb (t:TA):TE:=fun σ H Q=>t σ H fun xs H1=>xs.length<=sizeLine/\∀ p,H1 p = none->Q (.ref p) (upd H1 p (.tup xs))
noncomputable def zkg (t:TA):TE:=fun σ H Q=>t σ H fun xs H1=>xs.length<=sizeLine/\∀ p,H1 p = none->Q (.ref p) (upd H1 p (.lst xs))
theorem zis {x1} (h:PA X es t):PE X (.Tuple es x1 pos) (zkb t):=by
 intro pins s σ H Q I hq
 refine wpAny_Tuple_spliced (thn (h pos pins s σ H _ I hq) fun us s1 ⟨xs,H1,I1,r,z,q⟩=>⟨by rw [← r.length];exact z,?_⟩)
 have hf:H1 s1.heap.objs.size = none:=I1.hok.fresh (Q3 _)
 refine ⟨.ref s1.heap.objs.size,upd H1 s1.heap.objs.size (.tup xs),I1.laid (t':=s1.toks) (fun b u e=>Q2 _ e) (Q3 _) ?_,rfl,q _ hf⟩
 exact ⟨z,us,r,⟨_,Qj _ rfl,rfl,_,rfl⟩,NoDict.new⟩
theorem ziv (h:PA X es t):PE X (.List es pos) (zkg t):=by
 intro pins s σ H Q I hq
 refine wpAny_List_spliced (thn (h pos pins s σ H _ I hq) fun us s1 ⟨xs,H1,I1,r,z,q⟩=>⟨by rw [← r.length];exact z,?_⟩)
 have hf:H1 s1.heap.objs.size = none:=I1.hok.fresh (Q3 _)
 refine ⟨.ref s1.heap.objs.size,upd H1 s1.heap.objs.size (.lst xs),I1.laid (t':=s1.toks) (fun b u e=>Q2 _ e) (Q3 _) ?_,rfl,q _ hf⟩
 exact ⟨z,us,0,r,Qj _ rfl⟩
end
noncomputable abbrev Sp:=List V->Hp->VK->XK->Prop
noncomputable abbrev CXT:=List Env->Hp->Shared->XK->Value->Shared->Prop
structure Env0 (P:Program) (w:World) (K:Frag) (mg:Str->Option Value) (base:Heap) (A:Around) (outer:List Env) (s:Shared) (H:Hp):Prop where
 frames:A.frames = some outer
 mod:Mod K mg base
 bs:∀ b o,base.get? b = some o->s.heap.get? b = some o/\H b = none
 bsz:base.objs.size<=s.heap.objs.size
 funs:s.heap.FunFrames base outer
 frf:∀ b ∈ frs outer,H b = none
 hok:HOk P w H s.heap
 bare:AllBare s.gens
def CE (outer:List Env) (P:Program) (w:World) (H:Hp) (s:Shared) (Q:VK) (u:Value) (s':Shared):Prop:=
 ∃ v H',s'.os = s.os/\AllBare s'.gens/\Un (frs outer) [] H H' s.heap s'.heap/\HOk P w H' s'.heap/\RelV v u/\Q v H'
def CR (CX:CXT) (outer:List Env) (P:Program) (w:World) (H:Hp) (s:Shared) (Q:VK) (E:XK) (r:Result) (s':Shared):Prop:=
 match r with
 | .ok (.ret u)=>CE outer P w H s Q u s'
 | .ok _=>False
 | .error e=>CX outer H s E e s'
structure FnOk (P:Program) (w:World) (K:Frag) (mg:Str->Option Value) (base:Heap) (CX:CXT) (k:Nat) (f:Addr) (fd:FuncData) (ps:List Str) (sp:Sp):Prop where
 len:∀ vs H Q E,sp vs H Q E->vs.length = ps.length
 run:∀ (A:Around) (outer:List Env) (s:Shared) (H:Hp) (args:Args) (us:List Value) (vs:List V) (Q:VK) (E:XK),Room k A->Env0 P w K mg base A outer s H->BindsTo s fd args (ps.zip us)->Vals vs us->sp vs H Q E->
  codeAny (model P w) A (.call (.ref f) args) (CR CX outer P w H s Q E) s
variable {CX:CXT} {fd:FuncData} {base:Heap} {ps:List Str} {sp:Sp} {mg:Str->Option Value}
theorem FnOk.mono {f:Addr} (F:FnOk P w K mg base CX j f fd ps sp) (h:j<=k) :
  FnOk P w K mg base CX k f fd ps sp:=⟨F.len,fun A outer s H args us vs Q E hr=>F.run A outer s H args us vs Q E (hr.mono h)⟩
section
theorem Inv.env0 (I:Inv X pins σ H s):Env0 X.prog X.w X.K X.mg X.base X.A X.stack s H:=
 ⟨I.ok.frames,I.ok.mod,I.bs,Qh I.ok.bsz I.sz,I.stack,I.stkFree,I.hok,I.bare⟩
theorem Inv.after {Q:VK} (I:Inv X pins σ H s) (h:CE X.stack X.prog X.w H s Q u s'):EP X pins σ Q u s':=by
 obtain ⟨v,H',os,bare,un,hok,r,q⟩:=h
 obtain ⟨hh,g,d,t,os'⟩:=s'
 obtain rfl:os' = s.os:=os
 exact ⟨v,H',I.call (h':=hh) (g':=g) (d':=d) (t':=t) (ch:=[]) un hok bare (fun b z=>absurd z (by simp)),r,q⟩
end
noncomputable def zgm (sp:Sp) (dvs:List V) (E:XK) (t:TA):TE:=fun σ H Q=>t σ H fun vs H1=>sp (vs ++ dvs) H1 Q E
def Binds (K:Frag) (fd:FuncData) (ps:List Str) (ds:List Value):Prop:=
 ∀ (s:Shared) (us:List Value),K.In s.heap->(us ++ ds).length = ps.length->BindsTo s fd ⟨us,[]⟩ (ps.zip (us ++ ds))
theorem Binds.all (h:∀ us:List Value,us.length = ps.length->bindArgs fd ⟨us,[]⟩ = pure (ps.zip us)):Binds K fd ps []:=fun s us _ hl=>by
 rw [append_nil] at hl ⊢
 exact .of_eq (h us hl)
def Passes (CX:CXT) (X:Cx) (E:XK):Prop:=∀ (pins:List (Addr × Obj)) (σ:St) (H:Hp) (s:Shared) (e:Value) (s':Shared),Inv X pins σ H s->CX X.stack H s E e s'->X.xe e s'
variable {vs:List V} {apos:Pos} {m:Str}
section
variable {f C:Addr} {dvs:List V} {ds:List Value} {E:XK} {p:Pos} {o:Expr}
theorem zh7 {Q:VK} (F:FnOk X.prog X.w X.K X.mg X.base CX k f fd ps sp) (hr:Room k X.A) (hb:Binds X.K fd ps ds) (hd:Vals dvs ds) (hx:Passes CX X E)
 (I:Inv X pins σ H s) (r:Vals vs us) (h:sp (vs ++ dvs) H Q E):wpAny (model X.prog X.w) X.A (call (.ref f) us) (EP X pins σ Q) X.xe s:=by
 have r2:Vals (vs ++ dvs) (us ++ ds):=r.append hd
 have hl:(us ++ ds).length = ps.length:=by rw [← r2.length];exact F.len _ _ _ _ h
 refine wpAny_call (codeAny_mono (F.run X.A X.stack s H ⟨us,[]⟩ (us ++ ds) (vs ++ dvs) Q E hr I.env0 (hb s us I.kIn hl) r2 h) fun r s' hq=>?_)
 cases r with
 | error e=>exact hx pins σ H s e s' I hq
 | ok fl=>
  cases fl with
  | ret u=>exact I.after hq
  | next=>exact False.elim hq
  | brk=>exact False.elim hq
  | cont=>exact False.elim hq
theorem zdh (F:FnOk X.prog X.w X.K X.mg X.base CX k f fd ps sp) (hr:Room k X.A) (hg:Gl X x) (hm:X.mg x = some (.ref f)) (hk:PySem.W.keepIn X.K (.ref f) = true) (hb:Binds X.K fd ps ds) (hd:Vals dvs ds) (hx:Passes CX X E)
  (ha:PA X (e :: es) t) (hdb:(x == ("__debug__":Str)) = false:=by decide) (he:starEach (e :: es) X.env = (false,eval e X.env) :: starEach es X.env:=by rfl) (hpl:(backTo pos (starEach es X.env)).any (·.1) = false:=by rfl) :
  PE X (.Call (.Name x p) (e :: es) [] pos) (zgm sp dvs E t):=by
 intro pins s σ H Q I h
 refine wpAny_Call_Name_kw (y9 I hg hm ?_ hdb)
 refine PySem.W.callWith_K (h₀:=X.base) I.ok.mod.kin hk (thn (ha pos pins s σ H _ I h) fun us s1 ⟨vs,H1,I1,r,q⟩=>⟨I1.kIn,?_⟩) he hpl
 exact zh7 F hr hb hd hx I1 r q
structure Mk (K:Frag) (C f:Addr):Prop where
 makes:PySem.W.makesIn K C = true
 init:PySem.W.findIn K (.ref C) "__init__" = some (some (.ref f))
 fn:PySem.W.isFn K (.ref f) = true
 kp:PySem.W.keepIn K (.ref C) = true
end
section
variable {f C:Addr} {ks:List Str} {E:XK} {p kpos:Pos} {o:Expr} {kws:List Keyword} {tk:TA} {nm:Option Str}
structure KBinds (K:Frag) (fd:FuncData) (ps ks:List Str) (g:List Value->List Value->List Value) (gV:List V->List V->List V):Prop where
 to:∀ (s:Shared) (us ws:List Value),K.In s.heap->(g us ws).length = ps.length->BindsTo s fd ⟨us,ks.zip ws⟩ (ps.zip (g us ws))
 rel:∀ {vs:List V} {us:List Value} {zs:List V} {ws:List Value},Vals vs us->Vals zs ws->Vals (gV vs zs) (g us ws)
end
structure FnScope (N P:List Str) (sc:Scope):Prop where
 kind:sc.kind = .function
 co:sc.isCoroutine = false
 gen:sc.isGenerator = false
 nd:N.Nodup
 pre:N.take P.length = P
 par:∀ x ∈ P,sc.names.lookup x = some .local\/sc.names.lookup x = some .cell
 nofree:∀ y ∈ sc.names,y.2 ≠ .free
theorem zbP {kindOf:Str->Option NameKind} {x:Str}:∀ {binds:List (Str × Value)} {m:Str->Option Value},(∀ v,(x,v) ∉ binds)->bindL kindOf binds m x = m x
 | [],_,_=>rfl
 | (n,v) :: r,m,h=>by
  unfold bindL
  rw [zbP fun w hw=>h w (mem_cons_of_mem _ hw)]
  split
  ·have:x ≠ n:=by rintro rfl;exact h v mem_cons_self
   simp [this]
  ·rfl
theorem zbR {kindOf:Str->Option NameKind} {x:Str}:∀ {binds:List (Str × Value)} {m:Str->Option Value},(∀ v,(x,v) ∉ binds)->bindC kindOf binds m x = m x
 | [],_,_=>rfl
 | (n,v) :: r,m,h=>by
  unfold bindC
  rw [zbR fun w hw=>h w (mem_cons_of_mem _ hw)]
  split
  ·rfl
  ·have:x ≠ n:=by rintro rfl;exact h v mem_cons_self
   simp [this]
theorem zbQ {kindOf:Str->Option NameKind} {x:Str} {v:Value}:∀ {P:List Str} {vs:List Value} {i:Nat} {m:Str->Option Value},P.Nodup->P[i]? = some x->vs[i]? = some v->kindOf x = some .local->
  bindL kindOf (P.zip vs) m x = some v
 | [],_,_,_,_,h,_,_=>by simp at h
 | _ :: _,[],_,_,_,_,h,_=>by simp at h
 | p :: P,w :: vs,0,m,nd,h1,h2,hk=>by
  simp at h1 h2;subst h1;subst h2
  show bindL kindOf ((p,w) :: P.zip vs) m p = _
  unfold bindL
  rw [zbP fun v hv=>(nodup_cons.mp nd).1 (of_mem_zip hv).1,if_pos hk]
  simp
 | p :: P,w :: vs,i + 1,m,nd,h1,h2,hk=>by
  show bindL kindOf ((p,w) :: P.zip vs) m x = _
  unfold bindL
  exact zbQ (i:=i) (nodup_cons.mp nd).2 (by simpa using h1) (by simpa using h2) hk
theorem zbS {kindOf:Str->Option NameKind} {x:Str} {v:Value}:∀ {P:List Str} {vs:List Value} {i:Nat} {m:Str->Option Value},P.Nodup->P[i]? = some x->vs[i]? = some v->kindOf x ≠ some .local->
  bindC kindOf (P.zip vs) m x = some v
 | [],_,_,_,_,h,_,_=>by simp at h
 | _ :: _,[],_,_,_,_,h,_=>by simp at h
 | p :: P,w :: vs,0,m,nd,h1,h2,hk=>by
  simp at h1 h2;subst h1;subst h2
  show bindC kindOf ((p,w) :: P.zip vs) m p = _
  unfold bindC
  rw [zbR fun v hv=>(nodup_cons.mp nd).1 (of_mem_zip hv).1,if_neg hk]
  simp
 | p :: P,w :: vs,i + 1,m,nd,h1,h2,hk=>by
  show bindC kindOf ((p,w) :: P.zip vs) m x = _
  unfold bindC
  exact zbS (i:=i) (nodup_cons.mp nd).2 (by simpa using h1) (by simpa using h2) hk
noncomputable def start (N:List Str) (vs:List V):St:=vs.map some ++ List.replicate (N.length - vs.length) none
noncomputable def qL (CX:CXT) (P:Program) (w:World) (K:Frag) (mg:Str->Option Value) (base:Heap) (N:List Str) (qual:Str) (scope:Scope) (f:Addr) (cd:Value) (A:Around) (outer:List Env) (s:Shared) (H:Hp) (E:XK):Cx where
 prog:=P
 w:=w
 K:=K
 mg:=mg
 base:=base
 A:=A.deeper (envOfC qual scope s.heap.objs.size f cd)
 N:=N
 s₀:=s
 H₀:=H
 env:=envOfC qual scope s.heap.objs.size f cd
 outer:=outer
 stack:=envOfC qual scope s.heap.objs.size f cd :: outer
 ex:=[]
 calm:=true
 fn:=fun _=>true
 pn:=[]
 xe:=fun e s'=>wpAny (model P w) (A.deeper (envOfC qual scope s.heap.objs.size f cd)) (leaving (envOfC qual scope s.heap.objs.size f cd) e) (fun _ s''=>CX outer H s E e s'') (fun e' s''=>CX outer H s E e' s'') s'
theorem zcL {sc:Scope} (h:sc.names.lookup x = some .cell):∃ c,(cellsFrom n sc.names []).lookup x = some c:=by
 have q:=PySem.W.cellsFrom_some sc.names n [] (.inl h)
 exact Option.isSome_iff_exists.mp q
variable {scope:Scope} {qual:Str}
theorem zeM {f:Addr} {cd:Value} {outer:List Env} {s1:Shared} {E:XK} 
 (S:FnScope N ps scope) (hd:A.handled = none) (e0:Env0 P w K mg base A outer s H) (hl:vs.length = ps.length) (r:Vals vs us)
 (x:InCallC s s.heap.objs.size (bindL (envOfC qual scope s.heap.objs.size f cd).kindOf (ps.zip us) fun _=>none) (cellsFrom (s.heap.objs.size + 1) scope.names []) (bindC (envOfC qual scope s.heap.objs.size f cd).kindOf (ps.zip us) fun _=>none) s1) :
  Inv (qL CX P w K mg base N qual scope f cd A outer s H E) [] (start N vs) H s1:=by
 have hpl:ps.length<=N.length:=by have:=congrArg List.length S.pre;rw [length_take] at this;omega
 obtain ⟨h1,tk,rfl,hk⟩:=x.done
 have noA:∀ b:Addr,b ∉ (qL CX P w K mg base N qual scope f cd A outer s H E).ex:=fun b z=>absurd (show b ∈ ([]:List Addr) from z) (by simp)
 refine ⟨⟨e0.mod,S.kind,rfl,rfl,Q3 _,fun y z c h1 h2=>?_,fun y hy=>?_,fun y c _ h=>?_,fun _=>hd,Around.frames_deeper e0.frames,.inr ⟨rfl,rfl⟩,fun b z=>absurd z (noA b),e0.bs,e0.bsz,fun b _ _=>noA b,fun b z=>absurd z (noA b),e0.funs,e0.frf⟩,
  rfl,e0.bare,Un.kept hk,⟨_,x.toInCall.ns,fun i y v h1 h2 h3=>?_⟩,fun y c h=>⟨_,x.cell y c h⟩,e0.hok.fresh (Q3 _),fun y c h=>?_,fun p hp=>absurd (show p ∈ ([]:List (Addr × Obj)) from hp) (by simp),e0.hok.kept hk,?_⟩
 ·exact name_of_addr x.apart (PySem.mem_of_lookup h1) (PySem.mem_of_lookup h2)
 ·have hy:scope.names.lookup y = some .cell\/scope.names.lookup y = some .free:=hy
  rcases hy with hy | hy
  ·exact zcL hy
  ·exact absurd rfl (S.nofree _ (PySem.mem_of_lookup hy))
 ·exact Nat.le_of_lt (x.above y c (PySem.mem_of_lookup h))
 ·have hi:i < vs.length:=by
   unfold start at h2
   by_cases hi:i < vs.length
   ·exact hi
   ·rw [Q7 (by simpa using hi)] at h2
    rw [List.getElem?_replicate] at h2
    split at h2 <;> cases h2
  have ha:vs[i]? = some v:=by
   unfold start at h2
   rw [Q6 (by simpa using hi),Qa] at h2
   cases e:vs[i]? with
   | none=>rw [e] at h2;cases h2
   | some a=>rw [e] at h2;cases h2;rfl
  obtain ⟨u,hu,rv⟩:=r.get ha
  have hp:ps[i]? = some y:=by
   rw [← S.pre,List.getElem?_take_of_lt (by omega)];exact h1
  have ndP:ps.Nodup:=by rw [← S.pre];exact S.nd.sublist (List.take_sublist _ _)
  refine ⟨u,rv,?_⟩
  rcases S.par y (Q9 hp) with k | k
  ·exact .inl ⟨k,zbQ ndP hp hu k⟩
  ·obtain ⟨c,e⟩:=zcL (n:=s.heap.objs.size + 1) k
   refine .inr ⟨.inl k,c,e,?_⟩
   have q:=x.cell y c e
   rw [zbS ndP hp hu (by show scope.names.lookup y ≠ _;rw [k];decide)] at q
   exact q
 ·exact e0.hok.fresh (Nat.le_of_lt (x.above y c (PySem.mem_of_lookup h)))
 ·unfold start
  show _ = N.length
  rw [Ql,Qf,List.length_replicate]
  omega
theorem zgx {f:Addr} {name:Str} {params:Arguments} {dV kV doc pm cdv ct oc:Value} {an od:Option Addr}
 {osl:Array (Option Value)} (lk:K.lookup f = some ⟨oc,od,.func (PySem.W.fnOf name qual params body scope dV kV doc pm an cdv ct),osl⟩) (hcd:PySem.W.codeIn K cdv qual = true) (S:FnScope N ps scope)
 (len:∀ vs H Q E,sp vs H Q E->vs.length = ps.length)
 (hbody:∀ (A:Around) (outer:List Env) (s:Shared) (H:Hp) (vs:List V) (Q:VK) (E:XK),Room k (A.deeper (envOfC qual scope s.heap.objs.size f cdv))->sp vs H Q E->
 ∃ t,PSs (qL CX P w K mg base N qual scope f cdv A outer s H E) body t/\t { nx:=fun _ H'=>Q .non H',rt:=Q } (start N vs) H) :
  FnOk P w K mg base CX (k + 1) f (PySem.W.fnOf name qual params body scope dV kV doc pm an cdv ct) ps sp:=by
 refine ⟨len,fun A outer s H args us vs Q E hr e0 hb r hsp=>?_⟩
 have hl:=len _ _ _ _ hsp
 have KX:K.In s.heap:=e0.mod.kin.keeps fun b o e=>(e0.bs b o e).1
 have lim:s.heap.NoLimit:=e0.mod.nolimit.keeps fun b o e=>(e0.bs b o e).1
 have hkind:∀ y ∈ ps.zip us,scope.names.lookup y.1 = some .local\/(scope.names.lookup y.1 = some .cell/\((cellsFrom (s.heap.objs.size + 1) scope.names []).lookup y.1).isSome = true):=fun ⟨n,v⟩ hy=>by
  rcases S.par n (of_mem_zip hy).1 with q | q
  ·exact .inl q
  ·exact .inr ⟨q,PySem.W.cellsFrom_some _ _ _ (.inl q)⟩
 refine codeAny_call_function hr.depth (KX _ _ lk) rfl S.co S.gen rfl (PySem.W.codeRec_of KX hcd) (hb _ _ _ _ ?_)
 refine wpAny_newFunctionEnv_cells S.kind hkind fun env he s1 x=>?_
 subst he
 refine ⟨lim.keeps x.toInCall.keep,codeAny_func ?_⟩
 obtain ⟨t,ht,hq⟩:=hbody A outer s H vs Q E (hr.deeper _) hsp
 have I:Inv (qL CX P w K mg base N qual scope f cdv A outer s H E) [] (start N vs) H s1:=zeM S hr.hd e0 hl r x
 refine Qe (ht [] s1 (start N vs) H _ I hq) (fun fl s' hs=>?_) fun e s' hs=>hs
 have fin:∀ {σ':St} {H':Hp} {v:V} {u:Value},Inv (qL CX P w K mg base N qual scope f cdv A outer s H E) [] σ' H' s'->RelV v u->Q v H'->CE outer P w H s Q u s':=
  fun {σ' H' v u} J rv q=>⟨v,H',J.os,J.bare,J.base,J.hok,rv,q⟩
 cases fl with
 | ret u=>
  obtain ⟨v,σ',H',J,rv,q⟩:=hs
  exact fin J rv q
 | next=>
  obtain ⟨σ',H',J,q⟩:=hs
  exact fin (v:=V.non) (u:=Value.none) J rfl q
 | brk=>
  obtain ⟨_,_,_,q⟩:=hs
  exact False.elim q
 | cont=>
  obtain ⟨_,_,_,q⟩:=hs
  exact False.elim q
section
variable {p:Pos} {id T:String} {r:List V->Hp->VK->Prop}
noncomputable def tCB (r:List V->Hp->VK->Prop) (t:TA):TE:=fun σ H Q=>t σ H fun vs H1=>r vs H1 Q
theorem zfC (hc:CallR X (.builtin id) r) (hg:Gl X x) (hm:X.mg x = none) (hv:bootBuiltins x = some (.builtin id)) (ha:PA X (e :: es) t) (hn:x ≠ "__name__":=by decide) (hdb:(x == ("__debug__":Str)) = false:=by decide)
  (he:starEach (e :: es) X.env = (false,eval e X.env) :: starEach es X.env:=by rfl) (hpl:(backTo pos (starEach es X.env)).any (·.1) = false:=by rfl):PE X (.Call (.Name x p) (e :: es) [] pos) (tCB r t):=by
 intro pins s σ H Q I h
 refine wpAny_Call_Name_kw (zcy I hg hm hv ?_ hn hdb)
 exact PyProof.Rows.callWith_builtin1 (thn (ha pos pins s σ H _ I h) fun us s1 ⟨vs,H1,I1,r1,q1⟩=>hc pins s1 σ H1 vs us Q I1 r1 q1) he hpl
theorem zew (hc:CallR X (.type T) r) (hg:Gl X x) (hm:X.mg x = none) (hv:bootBuiltins x = some (.type T)) (ha:PA X (e :: es) t) (hn:x ≠ "__name__":=by decide) (hdb:(x == ("__debug__":Str)) = false:=by decide)
  (he:starEach (e :: es) X.env = (false,eval e X.env) :: starEach es X.env:=by rfl) (hpl:(backTo pos (starEach es X.env)).any (·.1) = false:=by rfl):PE X (.Call (.Name x p) (e :: es) [] pos) (tCB r t):=by
 intro pins s σ H Q I h
 refine wpAny_Call_Name_kw (zcy I hg hm hv ?_ hn hdb)
 exact PyProof.Rows.callWith_type1 (thn (ha pos pins s σ H _ I h) fun us s1 ⟨vs,H1,I1,r1,q1⟩=>hc pins s1 σ H1 vs us Q I1 r1 q1) he hpl
end
end L2
namespace HT
open PySem PyProof.Rows
variable {sl t:Addr} {vl vu:Value} {Q:Value->Shared->Prop}
section
variable {prog:Program} {w:World} {A:Around} {E:Value->Shared->Prop} {s:Shared}
theorem zhK {b:Addr} {vs ws:List Value} (ht:IsTup s.heap t vs.toArray) (hb:IsTup s.heap b ws.toArray) (hv:vs ≠ [])
 (h1:ws = []->Q (.ref t) s) (h2:ws ≠ []->Q (.ref s.heap.objs.size) { s with heap:=s.heap.push { cls:=.type "tuple",data:=.seq (vs ++ ws).toArray } })
 (hsz:vs.length + ws.length<=sizeLine):wpAny (model prog w) A (binaryOp .Add (.ref t) (.ref b)) Q E s:=by
 obtain ⟨⟨cls,dd,data,sl⟩,ho,hc,n,hd⟩:=id ht
 obtain ⟨⟨cls2,dd2,data2,sl2⟩,ho2,hc2,n2,hd2⟩:=id hb
 simp only at hc hd hc2 hd2
 subst hc hd hc2 hd2
 have e:vs.toArray ++ ws.toArray = (vs ++ ws).toArray:=by simp
 by_cases hw:ws = []
 ·exact concat_meets ⟨_,ho,rfl⟩ ⟨_,ho2,rfl⟩ noFill_tuple_add seq_tuple_add PySem.F.slot_tuple_add PySem.F.entry_tuple_add (PySem.F.args_tuple_add_2 _ _)
   (tuple_addW1 t b vs.toArray ws.toArray n n2 dd dd2 sl sl2 (by simpa using hv) (by simp [hw])) ⟨ho,ho2,h1 hw⟩
 ·refine concat_meets ⟨_,ho,rfl⟩ ⟨_,ho2,rfl⟩ noFill_tuple_add seq_tuple_add PySem.F.slot_tuple_add PySem.F.entry_tuple_add (PySem.F.args_tuple_add_2 _ _)
   (tuple_addW2 t b vs.toArray ws.toArray n n2 dd dd2 sl sl2 (by simpa using hv) (by simpa using hw) (by rw [Qg,Qg];exact hsz)) ⟨ho,ho2,?_⟩
  rw [e]
  exact h2 hw
noncomputable def sIx (n d:Nat):Option Int->Nat
 | none=>d
 | some v=>if v < 0 then (v + (n:Int)).toNat else min v.toNat n
theorem zh6 (n d:Nat) (hd:d<=n) (o:Option Int):sIx n d o<=n:=by
 cases o with
 | none=>exact hd
 | some v=>
  show (if v < 0 then (v + (n:Int)).toNat else min v.toNat n)<=n
  by_cases hv:v < 0
  ·rw [if_pos hv];omega
  ·rw [if_neg hv];exact Nat.min_le_right _ _
theorem zdr (v:Int) (n d:Nat):(if v < 0 then max (v + (n:Int)) 0 else min v (n:Int)) = ((sIx n d (some v):Nat):Int):=by
 show (if v < 0 then max (v + (n:Int)) 0 else min v (n:Int)) = (((if v < 0 then (v + (n:Int)).toNat else min v.toNat n):Nat):Int)
 by_cases hv:v < 0
 ·simp only [if_pos hv];omega
 ·simp only [if_neg hv];omega
theorem zd3 (lo hi:Option Int) (n:Nat):Builtin.Slice.sliceAdjust lo hi 1 (n:Int) = (((sIx n 0 lo:Nat):Int),((sIx n n hi:Nat):Int)):=by
 have h1:¬ ((1:Int) < 0):=by omega
 unfold Builtin.Slice.sliceAdjust
 simp only [h1,if_false]
 refine Prod.ext ?_ ?_
 ·cases lo with
  | none=>rfl
  | some v=>exact zdr v n 0
 ·cases hi with
  | none=>rfl
  | some v=>exact zdr v n n
theorem zdH (i j:Nat):Builtin.Slice.slicePlaces (i:Int) (j:Int) 1 = j - i:=by
 unfold Builtin.Slice.slicePlaces
 have h1:(1:Int) > 0:=by omega
 simp only [h1,if_true,Int.ediv_one]
 split <;> omega
theorem za9 {v:Value} {o:Option Int} {Q:Option Int->Shared->Prop} (p:IsPart v o) (h:Q o s):wpAny (model prog w) A (Builtin.Slice.slicePartIndex v) Q E s:=by
 cases p with
 | none=>exact slicePart_none h
 | int i t=>exact slicePart_int h
theorem qU {lo hi:Option Int} {n:Nat} {Q:Int × Int × Nat->Shared->Prop} (hs:s.heap.IsSliceOf sl vl vu .none) (pl:IsPart vl lo) (pu:IsPart vu hi)
 (h:Q (((sIx n 0 lo:Nat):Int),1,sIx n n hi - sIx n 0 lo) s):wpAny (model prog w) A (Builtin.Slice.sliceApplied (.ref sl) (pure (n:Int))) Q E s:=by
 obtain ⟨os,hos,hcs,hds⟩:=id hs
 unfold Builtin.Slice.sliceApplied Builtin.Slice.sliceFields
 refine Q1 (Q1 (wpAny_field hos hds (x:=vl) rfl (Q1 (wpAny_field hos hds (x:=vu) rfl (Q1 (wpAny_field hos hds (x:=.none) rfl (Qd ?_)))))))
 refine Q1 (slicePart_none ?_)
 show wpAny _ _ (if ((1:Int) == 0) = true then _ else _) _ _ s
 rw [if_neg (by decide)]
 refine Q1 (za9 pl (Q1 (za9 pu (Q1 (Qd ?_)))))
 show wpAny _ _ (match Builtin.Slice.sliceAdjust lo hi 1 (n:Int) with | (lo,hi)=>pure (lo,(1:Int),Builtin.Slice.slicePlaces lo hi 1)) _ _ s
 rw [zd3 lo hi n]
 show wpAny _ _ (pure (((sIx n 0 lo:Nat):Int),(1:Int),Builtin.Slice.slicePlaces ((sIx n 0 lo:Nat):Int) ((sIx n n hi:Nat):Int) 1)) _ _ s
 rw [zdH]
 exact Qd h
theorem zfx (xs:Array Value) (i k:Nat):((List.range k).filterMap fun (m:Nat)=>xs[((i:Int) + (m:Int) * 1).toNat]?).toArray = ((xs.toList.drop i).take k).toArray:=by
 have e:(fun (m:Nat)=>xs[((i:Int) + (m:Int) * 1).toNat]?) = fun m=>xs[i + m]?:=by
  funext m
  have:((i:Int) + (m:Int) * 1).toNat = i + m:=by omega
  rw [this]
 rw [e]
 have:=pick_run xs i k
 rw [List.filterMap_map] at this
 have e2:((fun x=>xs[x]?) ∘ fun x=>i + x) = fun m=>xs[i + m]?:=rfl
 rw [e2] at this
 rw [this]
theorem zaR {items:Array Value} {lo hi:Option Int} (ht:IsTup s.heap t items) (hs:s.heap.IsSliceOf sl vl vu .none) (pl:IsPart vl lo) (pu:IsPart vu hi)
 (hw:¬ (sIx items.size 0 lo = 0/\sIx items.size items.size hi = items.size))
 (h:Q (.ref s.heap.objs.size) { s with heap:=s.heap.push { cls:=.type "tuple",data:=.seq ((items.toList.drop (sIx items.size 0 lo)).take (sIx items.size items.size hi - sIx items.size 0 lo)).toArray } })
 (hsz:items.size<=sizeLine):wpAny (model prog w) A (getItem (.ref t) (.ref sl)) Q E s:=by
 have htake:sizeOk (.seq ((items.toList.drop (sIx items.size 0 lo)).take (sIx items.size items.size hi - sIx items.size 0 lo)).toArray):=by
  show ((items.toList.drop (sIx items.size 0 lo)).take (sIx items.size items.size hi - sIx items.size 0 lo)).toArray.size<=sizeLine
  rw [Qg,length_take,List.length_drop,Array.length_toList]
  omega
 have hj:sIx items.size items.size hi<=items.size:=zh6 _ _ (Q3 _) hi
 obtain ⟨os,hos,hcs,hds⟩:=id hs
 have hTs:s.TypeIs (.ref sl) "slice":=⟨os,hos,hcs⟩
 unfold getItem
 try with_reducible refine wpAny_holding ?_
 first | refine Q1 (Qd ?_) | skip
 refine Q1 (wpAny_sequenceKey ht.typeIs (by decide) ?_)
 refine Q1 (wpAny_callSpecial?_slot (name:=Str.ofString "__getitem__") ht.typeIs PyProof.Rows.slot_tuple_getitem
  (wpAny_call_entry PyProof.Rows.slot_tuple_getitem ht.typeIs entry_tuple_getitem ?_ (args_tuple_getitem _ _)))
 show wpAny _ _ (Builtin.Tuple.tupleItemsOf (.ref t) >>= _) _ _ s
 refine Q1 (tupleItemsOf_ ht ?_)
 refine Q1 (wpAny_typeOf hTs ?_)
 rw [if_pos (by decide)]
 refine Q1 (qU hs pl pu ?_)
 have hno:¬ ((((sIx items.size 0 lo:Nat):Int) == 0 && (1:Int) == 1 && (sIx items.size items.size hi - sIx items.size 0 lo) == items.size) = true):=by
  intro q
  rw [Qo,Qo] at q
  have q1:((sIx items.size 0 lo:Nat):Int) = 0:=eq_of_beq q.1.1
  have q2:sIx items.size items.size hi - sIx items.size 0 lo = items.size:=eq_of_beq q.2
  exact hw ⟨by omega,by omega⟩
 show wpAny _ _ (if (((sIx items.size 0 lo:Nat):Int) == 0 && (1:Int) == 1 && (sIx items.size items.size hi - sIx items.size 0 lo) == items.size) = true then _ else _) _ _ s
 rw [if_neg hno,zfx]
 first
  | exact Q1 (m:=Builtin.Tuple.tupleExact _) (wpAny_newObj_type (Qd ⟨_,rfl,Qd h⟩) htake)
  | exact Q1 (m:=Builtin.Tuple.tupleExact _) (wpAny_newObj_type (Q1 (Qd (Qd ⟨_,rfl,Qd h⟩))) htake)
  | exact Q1 (Q1 (m:=Builtin.Tuple.tupleExact _) (wpAny_newObj_type (Qd (Qd ⟨_,rfl,Qd h⟩)) htake))
  | exact Q1 (Q1 (m:=Builtin.Tuple.tupleExact _) (wpAny_newObj_type (Qd ⟨_,rfl,Qd h⟩) htake))
end
end HT
namespace L2
open PySem PySem.Spec PyProof.Rows
noncomputable abbrev TO:=St->Hp->(Option Int->Hp->Prop)->Prop
def PO (X:Cx) (e:Option Expr) (t:TO):Prop:=
 ∀ (pins:List (Addr × Obj)) (s:Shared) (σ:St) (H:Hp) (Q:Option Int->Hp->Prop),Inv X pins σ H s->t σ H Q->
  wpAny (model X.prog X.w) X.A (evalPart e X.env) (fun u s'=>∃ o H',Inv X pins σ H' s'/\IsPart u o/\Q o H') X.xe s
noncomputable def zgI:TO:=fun _ H Q=>Q none H
noncomputable def zjw (t:TE):TO:=fun σ H Q=>t σ H fun x H1=>∃ i,x = .int i/\Q (some i) H1
variable {X:Cx} {e:Expr} {xs:List V} {pos:Pos}
section
variable {te:TE} {lo hi:Option Expr} {tl th:TO} {p2:Pos}
theorem zgZ:PO X none zgI:=by
 intro pins s σ H Q I h
 rw [evalPart_none]
 exact Qd ⟨none,H,I,.none,h⟩
theorem zgY (h:PE X e te):PO X (some e) (zjw te):=by
 intro pins s σ H Q I hw
 rw [evalPart_some]
 refine thn (h pins s σ H _ I hw) fun u s1 ⟨x,H1,I1,r1,q1⟩=>?_
 obtain ⟨i,rfl,q⟩:=q1
 obtain ⟨t,rfl⟩:=r1
 exact ⟨some i,H1,I1,.int i t,q⟩
def SlR (X:Cx) (r:V->Option Int->Option Int->Hp->VK->Prop):Prop:=
 ∀ (pins:List (Addr × Obj)) (s:Shared) (σ:St) (H:Hp) (x:V) (v vl vu:Value) (lo hi:Option Int) (sl:Addr) (Q:VK),Inv X pins σ H s->RelV x v->s.heap.IsSliceOf sl vl vu .none->IsPart vl lo->IsPart vu hi->r x lo hi H Q->
  ∃ T id,typeLookup (.type T) "__getitem__" = pure (some (.builtin id))/\s.TypeIs v T/\wpAny (model X.prog X.w) X.A (getItem v (.ref sl)) (EP X pins σ Q) X.xe s
noncomputable def tSl (r:V->Option Int->Option Int->Hp->VK->Prop) (te:TE) (tl th:TO):TE:=fun σ H Q=>te σ H fun x H1=>tl σ H1 fun l H2=>th σ H2 fun u H3=>r x l u H3 Q
theorem zfz {r:V->Option Int->Option Int->Hp->VK->Prop} (hr:SlR X r) (he:PE X e te) (hl:PO X lo tl) (hu:PO X hi th):PE X (.Subscript e (.Slice lo hi none p2) pos) (tSl r te tl th):=by
 intro pins s σ H Q I h
 refine Subscript_ (thn (he pins s σ H _ I h) fun v s1 ⟨x,H1,I1,r1,q1⟩=>?_)
 refine wpAny_Slice (thn (hl pins s1 σ H1 _ I1 q1) fun vl s2 ⟨l,H2,I2,pl,q2⟩=>thn (hu pins s2 σ H2 _ I2 q2) fun vu s3 ⟨u,H3,I3,pu,q3⟩=>?_)
 rw [evalPart_none]
 refine Qd ?_
 have I4:Inv X pins σ H3 { s3 with heap:=s3.heap.push { cls:=.type "slice",data:=.fields #[vl,vu,.none] } }:=I3.kept (t':=s3.toks) fun b ob q=>Q2 _ q
 obtain ⟨T,id,hT,ht,hg⟩:=hr pins { s3 with heap:=s3.heap.push { cls:=.type "slice",data:=.fields #[vl,vu,.none] } } σ H3 x v vl vu l u s3.heap.objs.size Q I4 r1 (Heap.IsSliceOf.new ..) pl pu q3
 show wpAny (model X.prog X.w) X.A (subscriptTail e (.Slice lo hi none p2) v (.ref s3.heap.objs.size)) (EP X pins σ Q) X.xe { s3 with heap:=s3.heap.push { cls:=.type "slice",data:=.fields #[vl,vu,.none] } }
 exact tail_any (ops:=[.ref s3.heap.objs.size,v]) ht hT hg (by with_unfolding_all rfl)
noncomputable def cutV (xs:List V) (lo hi:Option Int):List V:=(xs.drop (HT.sIx xs.length 0 lo)).take (HT.sIx xs.length xs.length hi - HT.sIx xs.length 0 lo)
theorem zaV (xs:List V) (lo hi:Option Int):(cutV xs lo hi).length<=xs.length:=by
 unfold cutV
 rw [length_take,List.length_drop]
 omega
noncomputable def zkp (K:Frag):V->Option Int->Option Int->Hp->VK->Prop:=fun x lo hi H Q=>∃ a xs,x = .ref a/\SqT K H a xs /\
 ¬ (HT.sIx xs.length 0 lo = 0/\HT.sIx xs.length xs.length hi = xs.length)/\∀ p,H p = none->Q (.ref p) (upd H p (.tup (cutV xs lo hi)))
theorem zh5:SlR X (zkp X.K):=by
 intro pins s σ H x v vl vu lo hi sl Q I rx hs pl pu h
 obtain ⟨a,xs,rfl,hx,hw,q⟩:=h
 cases rx
 obtain ⟨its,r,ht,hz⟩:=I.tuple hx
 have hlen:its.toArray.size = xs.length:=by rw [Qg];exact r.length.symm
 refine ⟨"tuple",_,PyProof.Rows.slot_tuple_getitem.lookup,ht.typeIs,?_⟩
 refine HT.zaR ht hs pl pu (by rw [hlen];exact hw) ?_ (by rw [hlen];exact hz)
 rw [hlen]
 refine ⟨.ref s.heap.objs.size,_,I.laid (t':=s.toks) (o:=.tup (cutV xs lo hi)) (fun b ob q=>Q2 _ q) (Q3 _) ?_,rfl,q _ (I.hok.fresh (Q3 _))⟩
 exact ⟨Qh (zaV xs lo hi) hz,_,(r.drop (HT.sIx xs.length 0 lo)).take (HT.sIx xs.length xs.length hi - HT.sIx xs.length 0 lo),IsTup.new _ _,NoDict.new⟩
noncomputable def zjC (K:Frag):R2:=fun x y H Q=>∃ a b xs ys,x = .ref a/\y = .ref b/\SqT K H a xs/\SqT K H b ys/\xs ≠ []/\xs.length + ys.length<=sizeLine /\
 (ys = []->Q (.ref a) H)/\(ys ≠ []->∀ p,H p = none->Q (.ref p) (upd H p (.tup (xs ++ ys))))
theorem Vals.nil_iff {us:List Value} (r:Vals xs us):us = [] ↔ xs = []:=by
 cases r with
 | nil=>simp
 | cons _ _=>simp
theorem zhc:OpR X (binaryOp .Add) (zjC X.K):=by
 intro pins s σ H x y v u Q I rx ry h
 obtain ⟨a,b,xs,ys,rfl,rfl,ha,hb,hx,hz,q1,q2⟩:=h
 cases rx
 cases ry
 obtain ⟨its,r1,p1,_⟩:=I.tuple ha
 obtain ⟨its2,r2,p2,_⟩:=I.tuple hb
 refine HT.zhK p1 p2 (fun z=>hx (r1.nil_iff.mp z)) (fun z=>⟨.ref a,H,I,rfl,q1 (r2.nil_iff.mp z)⟩) (fun z=>?_) (by rw [← r1.length,← r2.length];exact hz)
 refine ⟨.ref s.heap.objs.size,_,I.laid (t':=s.toks) (o:=.tup (xs ++ ys)) (fun b ob q=>Q2 _ q) (Q3 _) ?_,rfl,q2 (fun w=>z (r2.nil_iff.mpr w)) _ (I.hok.fresh (Q3 _))⟩
 exact ⟨by rw [Ql];exact hz,_,r1.append r2,IsTup.new _ _,NoDict.new⟩
end
noncomputable def ixN (n:Nat) (i:Int):Option Nat:=if 0<=i then (if i < n then some i.toNat else none) else if -(n:Int)<=i then some (i + n).toNat else none
noncomputable def atI {α:Type} (xs:List α) (i:Int):Option α:=(ixN xs.length i).bind fun j=>xs[j]?
variable {i:Int} {j n:Nat}
theorem zdp (h:ixN n i = some j):seqIndex? i n = some j/\j < n/\-(n:Int)<=i/\i < n:=by
 unfold ixN at h
 by_cases h0:0<=i
 ·rw [if_pos h0] at h
  by_cases h1:i < n
  ·rw [if_pos h1] at h
   have e:i.toNat = j:=Qb h
   exact ⟨by rw [seqIndex_of h0 h1,e],by omega,by omega,h1⟩
  ·rw [if_neg h1] at h;cases h
 ·rw [if_neg h0] at h
  by_cases h1:-(n:Int)<=i
  ·rw [if_pos h1] at h
   have e:(i + n).toNat = j:=Qb h
   exact ⟨by rw [seqIndex_neg (by omega) h1,e],by omega,h1,by omega⟩
  ·rw [if_neg h1] at h;cases h
theorem zbC {α:Type} {xs:List α} {v:α} (h:atI xs i = some v):∃ j,seqIndex? i xs.length = some j/\xs[j]? = some v/\j < xs.length/\-(xs.length:Int)<=i/\i < xs.length:=by
 unfold atI at h
 cases e:ixN xs.length i with
 | none=>rw [e] at h;cases h
 | some j=>
  rw [e] at h
  obtain ⟨h1,h2,h3,h4⟩:=zdp e
  exact ⟨j,h1,h,h2,h3,h4⟩
theorem yM {α:Type} {xs:List α} {v:α} (h:xs[j]? = some v):atI xs (j:Int) = some v:=by
 have hj:j < xs.length:=(List.getElem?_eq_some_iff.mp h).1
 have e:ixN xs.length (j:Int) = some j:=by
  unfold ixN
  rw [if_pos (by omega),if_pos (by omega)];simp
 unfold atI;rw [e];exact h
def zbE (b:Expr):Prop:=∀ o i,subscripted b false o i = operate [o,i] (getItem o i)
def IxR (X:Cx) (r:R2):Prop:=
 ∀ (value slice:Expr) (pins:List (Addr × Obj)) (s:Shared) (σ:St) (H:Hp) (x y:V) (v u:Value) (Q:VK),Inv X pins σ H s->RelV x v->RelV y u->r x y H Q->
  subscripted slice false v u = operate [v,u] (getItem v u)->wpAny (model X.prog X.w) X.A (subscriptTail value slice v u) (EP X pins σ Q) X.xe s
def MtR (X:Cx) (id:String) (r:V->List V->Hp->VK->Prop):Prop:=
 ∀ (pins:List (Addr × Obj)) (s:Shared) (σ:St) (H:Hp) (x:V) (xs:List V) (v:Value) (us:List Value) (Q:VK),Inv X pins σ H s->RelV x v->Vals xs us->r x xs H Q->
  wpAny (model X.prog X.w) X.A (call (.builtin id) (v :: us)) (EP X pins σ Q) X.xe s
variable {H:Hp} {pins:List (Addr × Obj)} {ys:List V} {its its':List Value} {r:R2} {s:Shared} {σ:St} {x y:V} {u:Value}
section
variable {a b:Expr} {ta tb:TE}
theorem IxR.or {r':R2} (h:IxR X r) (h':IxR X r'):IxR X (fun x y H Q=>r x y H Q\/r' x y H Q):=by
 intro value slice pins s σ H x y v u Q I rx ry q hs
 rcases q with q | q
 ·exact h value slice pins s σ H x y v u Q I rx ry q hs
 ·exact h' value slice pins s σ H x y v u Q I rx ry q hs
theorem zjI (hr:IxR X r) (ha:PE X a ta) (hb:PE X b tb) (hs:zbE b):PE X (.Subscript a b pos) (tOp r ta tb):=by
 intro pins s σ H Q I h
 exact Subscript_ (zgc ha hb I h fun v u s2 x y H2 I2 rx ry q=>hr a b pins s2 σ H2 x y v u Q I2 rx ry q (hs _ _))
noncomputable def zic (K:Frag):R2:=fun x y H Q=>∃ p xs i v,x = .ref p/\y = .int i/\SqL K H p xs/\atI xs i = some v/\Q v H
noncomputable def zia (K:Frag):R2:=fun x y H Q=>∃ p xs i v,x = .ref p/\y = .int i/\SqT K H p xs/\atI xs i = some v/\Q v H
noncomputable def zib:R2:=fun x y H Q=>∃ z i c,x = .str z/\y = .int i/\z.length<=sizeLine/\atI z.cps.toList i = some c/\Q (.str ⟨#[c]⟩) H
theorem zho:IxR X (zic X.K):=by
 intro value slice pins s σ H x y v u Q I rx ry h hs
 obtain ⟨p,xs,i,z,rfl,rfl,hq,he,q⟩:=h
 cases rx
 obtain ⟨t,rfl⟩:=ry
 obtain ⟨its,r,pl,hz⟩:=I.list hq
 obtain ⟨j,h1,h2,h3,h4,h5⟩:=zbC he
 obtain ⟨w,ew,rw'⟩:=r.get h2
 have hl:=r.length
 have hn:=y8
 have fin:EP X pins σ Q w s:=⟨z,H,I,rw',q⟩
 by_cases h0:0<=i
 ·have hj:i.toNat = j:=by
   rw [seqIndex_of h0 h5] at h1
   exact Qb h1
  exact item_listR pl.isList h0 (by omega) (by rw [hj];simpa using ew) fin hs
 ·have hj:(i + (its.toArray.size:Int)).toNat = j:=by
   rw [seqIndex_neg (by omega) h4] at h1
   rw [Qg,← hl]
   exact Qb h1
  exact subscriptTail_builtinR (x:=w) pl.isList.typeIs slot_list_getitem.lookup
   (wpAny_getItem_list_neg (Q:=fun r s'=>r = w/\EP X pins σ Q r s') pl.isList (by omega) (by rw [Qg] <;> omega) (by omega) (by rw [hj];simpa using ew) ⟨rfl,fin⟩) hs
theorem ziS:IxR X (zia X.K):=by
 intro value slice pins s σ H x y v u Q I rx ry h hs
 obtain ⟨p,xs,i,z,rfl,rfl,hq,he,q⟩:=h
 cases rx
 obtain ⟨t,rfl⟩:=ry
 obtain ⟨its,r,pl,hz⟩:=I.tuple hq
 obtain ⟨j,h1,h2,h3,h4,h5⟩:=zbC he
 obtain ⟨w,ew,rw'⟩:=r.get h2
 have hl:=r.length
 have hn:=y8
 have fin:EP X pins σ Q w s:=⟨z,H,I,rw',q⟩
 exact subscriptTail_builtinR (x:=w) pl.typeIs slot_tuple_getitem.lookup
  (getItem_tuple (j:=j) (Q:=fun r s'=>r = w/\EP X pins σ Q r s') pl (by omega) (by omega) (by rw [Qg,← hl];exact h1) (by simpa using ew) ⟨rfl,fin⟩) hs
theorem zeL:IxR X zib:=by
 intro value slice pins s σ H x y v u Q I rx ry h hs
 obtain ⟨z,i,c,rfl,rfl,hz,he,q⟩:=h
 obtain ⟨t,rfl⟩:=rx
 obtain ⟨t',rfl⟩:=ry
 obtain ⟨j,h1,h2,h3,h4,h5⟩:=zbC he
 have hl:z.cps.toList.length = z.length:=by simp [Str.length]
 rw [hl] at h1 h4 h5
 have hn:=y8
 exact tail_any (typeIs_str s z t) slot_str_getitem.lookup (getItem_str (c:=c) (by
  have e1:decide (i < -(2 ^ 63:Int)) = false:=Qq (by omega)
  have e2:decide (i ≥ 2 ^ 63) = false:=Qq (by omega)
  rw [e1,e2,Bool.or_false]) (by rw [h1];simpa using h2) ⟨.str ⟨#[c]⟩,H,I.tok _,⟨_,rfl⟩,q⟩) hs
noncomputable def rIx (K:Frag):R2:=fun x y H Q=>zic K x y H Q\/zia K x y H Q\/zib x y H Q
theorem ziT:IxR X (rIx X.K):=zho.or (ziS.or zeL)
theorem zdP (its:List Value) (n j:Nat) (u:Value):Obj.mapSeq (·.setIfInBounds j u) { cls:=.type "list",data:=.seq its.toArray n } = { cls:=.type "list",data:=.seq (its.set j u).toArray n }:=by
 simp [Obj.mapSeq]
theorem Inv.lst {p:Addr} (I:Inv X pins σ H s) (h:H p = some (.lst xs)) :
  ∃ (its:List Value) (n:Nat),Vals xs its/\s.heap.get? p = some { cls:=.type "list",data:=.seq its.toArray n }/\xs.length<=sizeLine:=by
 obtain ⟨z,its,n,r,e⟩:=I.hok p _ h
 exact ⟨its,n,r,e,z⟩
theorem Inv.lstUpd {p:Addr} {n':Nat} {f:Obj->Obj} (I:Inv X pins σ H s) (h:H p = some (.lst xs))
 (ho:s.heap.get? p = some { cls:=.type "list",data:=.seq its.toArray n }) (hf:f { cls:=.type "list",data:=.seq its.toArray n } = { cls:=.type "list",data:=.seq its'.toArray n' }) (r:Vals ys its') (hz:ys.length<=sizeLine) (t:Nat) :
  Inv X pins σ (upd H p (.lst ys)) { s with heap:=s.heap.update p f,toks:=t }:=by
 have e:(s.heap.update p f).get? p = some { cls:=.type "list",data:=.seq its'.toArray n' }:=by
  rw [Heap.get?_update_self f ho (by rw [hf] <;> rfl),hf]
 refine I.write (x:=p) (e:=p) (by rw [h];trivial) (.inl rfl) (fun b u hb q=>(Heap.get?_update_other _ _ (Ne.symm hb)).trans q) ⟨_,e⟩ ?_
 exact ⟨hz,its',n',r,e⟩
noncomputable def zjA:V->V->V->Hp->(Hp->Prop)->Prop:=fun o i v H Q=>∃ p xs k j,o = .ref p/\i = .int k/\H p = some (.lst xs)/\ixN xs.length k = some j/\Q (upd H p (.lst (xs.set j v)))
theorem set_list:zcZ X zjA:=by
 intro pins s σ H o i v ov iv u Q I ro ri rv h
 obtain ⟨p,xs,k,j,rfl,rfl,hp,hj,q⟩:=h
 cases ro
 obtain ⟨t,rfl⟩:=ri
 obtain ⟨its,n,r,ho,hz⟩:=I.lst hp
 obtain ⟨h1,h2,h3,h4⟩:=zdp hj
 have hl:=r.length
 have hn:=y8
 have I':Inv X pins σ (upd H p (.lst (xs.set j v))) { s with heap:=s.heap.update p (Obj.mapSeq (·.setIfInBounds j u)) }:=
  I.lstUpd hp ho (zdP its n j u) (r.set rv j) (by rw [List.length_set];exact hz) s.toks
 by_cases h0:0<=k
 ·have hk:k.toNat = j:=by
   rw [seqIndex_of h0 h4] at h1
   exact Qb h1
  exact PySem.W.ki_setAt ho h0 (by omega) (by rw [Qg,← hl];exact h4) (by rw [hk];exact ⟨_,I',q⟩)
 ·have hk:(k + (its.toArray.size:Int)).toNat = j:=by
   rw [seqIndex_neg (by omega) h3] at h1
   rw [Qg,← hl]
   exact Qb h1
  exact PySem.W.ki_setBack ho (by omega) (by rw [Qg,← hl];exact h3) (by omega) (by rw [hk];exact ⟨_,I',q⟩)
theorem zch (lo hi:Option Int) (n:Nat):(sliceBounds lo hi none n).1 = ((HT.sIx n 0 lo:Nat):Int)/\(sliceBounds lo hi none n).2.1 = ((HT.sIx n n hi:Nat):Int)/\(sliceBounds lo hi none n).2.2 = 1:=by
 refine ⟨?_,?_,rfl⟩
 ·cases lo with
  | none=>simp [sliceBounds,HT.sIx]
  | some i=>
   simp only [sliceBounds,HT.sIx,Option.getD_none,show (1:Int) > 0 by decide,if_true]
   by_cases h:i < 0
   ·simp only [h,if_true] <;> omega
   ·simp only [h,if_false] <;> omega
 ·cases hi with
  | none=>simp [sliceBounds,HT.sIx]
  | some i=>
   simp only [sliceBounds,HT.sIx,Option.getD_none,show (1:Int) > 0 by decide,if_true]
   by_cases h:i < 0
   ·simp only [h,if_true] <;> omega
   ·simp only [h,if_false] <;> omega
theorem zbT (its:List Value) (lo hi:Option Int):slicePick its.toArray lo hi none = ((its.drop (HT.sIx its.length 0 lo)).take (HT.sIx its.length its.length hi - HT.sIx its.length 0 lo)).toArray:=by
 obtain ⟨h1,h2,h3⟩:=zch lo hi its.toArray.size
 unfold slicePick
 rw [h1,h2,h3]
 simp only [sliceRange_one,pick_run,Qg] <;> rfl
noncomputable def zkq (K:Frag):V->Option Int->Option Int->Hp->VK->Prop:=fun x lo hi H Q=>∃ a xs,x = .ref a/\SqL K H a xs/\∀ p,H p = none->Q (.ref p) (upd H p (.lst (cutV xs lo hi)))
theorem zgN:SlR X (zkq X.K):=by
 intro pins s σ H x v vl vu lo hi sl Q I rx hs pl pu h
 obtain ⟨a,xs,rfl,hx,q⟩:=h
 cases rx
 obtain ⟨its,r,ht,hz⟩:=I.list hx
 have hlen:=r.length
 refine ⟨"list",_,slot_list_getitem.lookup,ht.isList.typeIs,?_⟩
 refine wpAny_getItem_list_slice ht.isList hs pl pu .none (by simp) ?_ (by rw [Qg] <;> omega)
 rw [zbT,← hlen]
 refine ⟨.ref s.heap.objs.size,_,I.laid (t':=s.toks) (o:=.lst (cutV xs lo hi)) (fun b ob q=>Q2 _ q) (Q3 _) ?_,rfl,q _ (I.hok.fresh (Q3 _))⟩
 exact ⟨Qh (zaV xs lo hi) hz,_,0,(r.drop (HT.sIx xs.length 0 lo)).take (HT.sIx xs.length xs.length hi - HT.sIx xs.length 0 lo),Qj _ rfl⟩
noncomputable def yy:V->Bool
 | .non=>true
 | .bl _=>true
 | .int _=>true
 | .str _=>true
 | _=>false
noncomputable def eqV:V->V->Bool
 | .non,.non=>true
 | .bl a,.bl b=>a == b
 | .bl a,.int b=>(if a then 1 else 0) == b
 | .int a,.bl b=>a == (if b then 1 else 0)
 | .int a,.int b=>a == b
 | .str a,.str b=>a == b
 | _,_=>false
theorem zcH {A:Around} {v:Value} (ry:RelV y u) (rx:RelV x v) (fy:yy y = true) (fx:yy x = true):SeqAt.EqAt A s u v (eqV y x):=by
 cases y with
 | non=>
  cases ry
  cases x with
  | non=>cases rx;exact SeqAt.EqAt.same _
  | bl b=>cases rx;exact SeqAt.EqAt.none_bool b
  | int b=>obtain ⟨t,rfl⟩:=rx;exact SeqAt.EqAt.none_int b t
  | str b=>obtain ⟨t,rfl⟩:=rx;exact SeqAt.EqAt.none_str b t
  | _=>exact absurd (show false = true from fx) Q4
 | bl a=>
  cases ry
  cases x with
  | non=>cases rx;exact SeqAt.EqAt.bool_none a
  | bl b=>cases rx;exact SeqAt.EqAt.bool_bool a b
  | int b=>obtain ⟨t,rfl⟩:=rx;exact SeqAt.EqAt.bool_int a b t
  | str b=>obtain ⟨t,rfl⟩:=rx;exact SeqAt.EqAt.bool_str a b t
  | _=>exact absurd (show false = true from fx) Q4
 | int a=>
  obtain ⟨t',rfl⟩:=ry
  cases x with
  | non=>cases rx;exact SeqAt.EqAt.int_none a t'
  | bl b=>cases rx;exact SeqAt.EqAt.int_bool a t' b
  | int b=>obtain ⟨t,rfl⟩:=rx;exact SeqAt.EqAt.int_int a t' b t
  | str b=>obtain ⟨t,rfl⟩:=rx;exact SeqAt.EqAt.int_str a t' b t
  | _=>exact absurd (show false = true from fx) Q4
 | str a=>
  obtain ⟨t',rfl⟩:=ry
  cases x with
  | non=>cases rx;exact SeqAt.EqAt.str_none a t'
  | bl b=>cases rx;exact SeqAt.EqAt.str_bool a t' b
  | int b=>obtain ⟨t,rfl⟩:=rx;exact SeqAt.EqAt.str_int a t' b t
  | str b=>obtain ⟨t,rfl⟩:=rx;exact SeqAt.EqAt.str_str a t' b t
  | _=>exact absurd (show false = true from fx) Q4
 | _=>exact absurd (show false = true from fy) Q4
noncomputable def eqU (x:V) (u:Value):Bool:=match u with
 | .none=>eqV .non x
 | .bool b=>eqV (.bl b) x
 | .int i _=>eqV (.int i) x
 | .str z _=>eqV (.str z) x
 | _=>false
theorem zeW (r:RelV y u) (f:yy y = true):eqU x u = eqV y x:=by
 cases y with
 | non=>cases r;rfl
 | bl b=>cases r;rfl
 | int i=>obtain ⟨t,rfl⟩:=r;rfl
 | str z=>obtain ⟨t,rfl⟩:=r;rfl
 | _=>exact absurd (show false = true from f) Q4
theorem zbD {x:V}:∀ {xs:List V} {us:List Value},Vals xs us->xs.all yy = true->us.any (eqU x) = xs.any fun y=>eqV y x
 | _,_,.nil,_=>rfl
 | y :: xs,u :: us,.cons r t,f=>by
  rw [all_cons,Qo] at f
  rw [any_cons,any_cons,zeW r f.1,zbD t f.2]
theorem za0 {A:Around} {s:Shared} {x:V} {v:Value} (rx:RelV x v) (fx:yy x = true):∀ {xs:List V} {us:List Value},Vals xs us->xs.all yy = true->∀ u ∈ us,SeqAt.EqAt A s u v (eqU x u)
 | _,_,.nil,_=>fun u hu=>by cases hu
 | y :: xs,u :: us,.cons r t,f=>fun u' hu=>by
  rw [all_cons,Qo] at f
  rcases mem_cons.mp hu with rfl | hu
  ·rw [zeW r f.1];exact zcH r rx f.1 fx
  ·exact za0 rx fx t f.2 u' hu
noncomputable def inV (x:V) (xs:List V):Bool:=xs.any fun y=>eqV y x
noncomputable def rIn (K:Frag) (neg:Bool):R2:=fun x y H Q=>∃ p xs,y = .ref p/\(SqL K H p xs\/SqT K H p xs)/\yy x = true/\xs.all yy = true/\Q (.bl (if neg then !inV x xs else inV x xs)) H
theorem zez:OpR X (compareOp .In) (rIn X.K false):=by
 intro pins s σ H x y v u Q I rx ry h
 obtain ⟨p,xs,rfl,hq,fx,fs,q⟩:=h
 cases ry
 rcases hq with hq | hq
 ·obtain ⟨its,r,pl,hz⟩:=I.list hq
  refine SeqAt.in_listAt (eqU x) pl.isList (fun w hw=>za0 rx fx r fs w (by simpa using hw)) ⟨.bl _,H,I,rfl,?_⟩
  rw [show its.toArray.any (eqU x) = its.any (eqU x) by simp,zbD r fs]
  exact q
 ·obtain ⟨its,r,pl,hz⟩:=I.tuple hq
  refine SeqAt.in_tupleAt (eqU x) pl (fun w hw=>za0 rx fx r fs w (by simpa using hw)) ⟨.bl _,H,I,rfl,?_⟩
  rw [show its.toArray.any (eqU x) = its.any (eqU x) by simp,zbD r fs]
  exact q
theorem zcP:CallR X (.builtin "len") (fun xs H Q=>∃ p ys,xs = [.ref p]/\(SqL X.K H p ys\/SqT X.K H p ys)/\Q (.int ys.length) H):=by
 intro pins s σ H xs us Q I r h
 obtain ⟨p,ys,rfl,hq,q⟩:=h
 obtain ⟨u,rfl,rx⟩:=vals1 r
 cases rx
 have hn:=y8
 rcases hq with hq | hq
 ·obtain ⟨its,r',pl,hz⟩:=I.list hq
  have hlen:=r'.length
  exact Calls.call_len_list pl.isList (by simp only [Qg] <;> omega) ⟨.int ys.length,H,I.tok _,⟨s.toks + 1,by rw [Qg,hlen]⟩,q⟩
 ·obtain ⟨its,r',pl,hz⟩:=I.tuple hq
  have hlen:=r'.length
  exact len_tuple pl (by simp only [Qg] <;> omega) ⟨.int ys.length,H,I.tok _,⟨s.toks + 1,by rw [Qg,hlen]⟩,q⟩
theorem zcO:CallR X (.builtin "len") (fun xs H Q=>∃ z,xs = [.str z]/\z.length<=sizeLine/\Q (.int z.length) H):=by
 intro pins s σ H xs us Q I r h
 obtain ⟨z,rfl,hz,q⟩:=h
 obtain ⟨u,rfl,t,rfl⟩:=vals1 r
 have hn:=y8
 exact len_str (by omega) ⟨.int z.length,H,I.tok _,⟨_,rfl⟩,q⟩
def tyV (K:Frag) (T:String) (x:V) (H:Hp):Prop:=match x with
 | .str _=>T = "str"
 | .int _=>T = "int"
 | .ref p=>(T = "list"/\∃ xs,SqL K H p xs)\/(T = "tuple"/\∃ o,K.lookup p = some o/\o.cls = .type "tuple"/\o.dict = none) \/
   (T = "dict"/\((∃ kvs,Rd H p (.dK kvs))\/∃ kvs,H p = some (.dT kvs)))\/(T = "set"/\∃ S n,H p = some (.set S n))
 | _=>False
theorem zei {pins:List (Addr × Obj)} {σ:St} {H:Hp} {s:Shared} {T:String} {x:V} {v:Value} (I:Inv X pins σ H s) (r:RelV x v) (ty:tyV X.K T x H) :
  s.TypeIs v T/\∀ a,v = .ref a->∃ ob,s.heap.get? a = some ob/\ob.dict = none:=by
 cases x with
 | str z=>
  obtain ⟨t,rfl⟩:=r
  cases (show T = "str" from ty)
  exact ⟨typeIs_str s z t,fun _ e=>nomatch e⟩
 | int i=>
  obtain ⟨t,rfl⟩:=r
  cases (show T = "int" from ty)
  exact ⟨typeIs_int s i t,fun _ e=>nomatch e⟩
 | ref p=>
  cases r
  rcases ty with ⟨rfl,xs,hq⟩ | ⟨rfl,o,hk,hc,hd⟩ | ⟨rfl,hk⟩ | ⟨rfl,S,n,hk⟩
  ·obtain ⟨its,_,pl,_⟩:=I.list hq
   refine ⟨pl.isList.typeIs,fun a e=>?_⟩
   cases e
   obtain ⟨o,n,e,c,hd,_⟩:=pl
   exact ⟨o,e,hd⟩
  ·refine ⟨⟨o,I.kIn p o hk,hc⟩,fun a e=>?_⟩
   cases e
   exact ⟨o,I.kIn _ o hk,hd⟩
  ·have z:∃ o,s.heap.get? p = some o/\o.ExactDict:=by
    rcases hk with ⟨kvs,hk⟩ | ⟨kvs,hk⟩
    ·obtain ⟨_,_,_,_,o,_,_,e,ex,_⟩:=(show ObjOk X.prog X.w H s.heap p (.dK kvs) from hk.ok I.hok)
     exact ⟨o,e,ex⟩
    ·obtain ⟨_,_,_,_,o,_,_,e,ex,_⟩:=I.hok p _ hk
     exact ⟨o,e,ex⟩
   obtain ⟨o,e,ex⟩:=z
   refine ⟨⟨o,e,ex.1⟩,fun a e2=>?_⟩
   cases e2
   exact ⟨o,e,ex.2.1⟩
  ·obtain ⟨o,_,_,_,e,ex,_⟩:=I.hok p _ hk
   refine ⟨⟨o,e,ex.1⟩,fun a e2=>?_⟩
   cases e2
   exact ⟨o,e,ex.2.1⟩
 | _=>exact False.elim ty
noncomputable def zkj (K:Frag) (T:String) (r:V->List V->Hp->VK->Prop) (to:TE):TE:=fun σ H Q=>to σ H fun x H1=>tyV K T x H1/\r x [] H1 Q
noncomputable def tBM (K:Frag) (T:String) (r:V->List V->Hp->VK->Prop) (to:TE) (t:TA):TE:=fun σ H Q=>to σ H fun x H1=>tyV K T x H1/\t σ H1 fun xs H2=>r x xs H2 Q
variable {o:Expr} {es:List Expr} {to:TE} {t:TA} {name:Str} {apos cpos:Pos} {T id:String} {r:V->List V->Hp->VK->Prop}
theorem ziy (pa:PlainAttrs T) (slot:Slot T name id) (hty:typeOf (.builtin id) = pure (.type "method_descriptor")) (hm:MtR X id r) (ho:PE X o to)
  (hbase:attributeBase o name X.env (eval o X.env) = eval o X.env:=by rfl) (hline:(apos.endLine == cpos.line) = true:=by rfl):PE X (.Call (.Attribute o name apos) [] [] cpos) (zkj X.K T r to):=by
 intro pins s σ H Q I h
 refine wpAny_Call_method0_late hbase hline (thn (ho pins s σ H _ I h) fun v s1 ⟨x,H1,I1,r1,ty,q1⟩=>?_)
 obtain ⟨h1,h2⟩:=zei I1 r1 ty
 exact ⟨T,id,pa,slot,hty,h1,h2,Calls.callWith_builtin rfl (PySem.evalArgs_none (hm pins s1 σ H1 x [] v [] Q I1 r1 .nil q1))⟩
theorem zdI (pa:PlainAttrs T) (slot:Slot T name id) (hty:typeOf (.builtin id) = pure (.type "method_descriptor")) (hm:MtR X id r) (ho:PE X o to) (ha:PA X (e :: es) t)
  (hbase:attributeBase o name X.env (eval o X.env) = eval o X.env:=by rfl)
  (hfew:((backTo cpos (starEach (e :: es) X.env)).all (fun x=>!x.1) && (backToKw cpos (keywordEach [] X.env)).all (fun x=>x.1.isSome)
   && decide ((e :: es).length + ([]:List Keyword).length + (if ([]:List Keyword).isEmpty then 0 else 1) < 30)) = true:=by rfl)
  (hline:(apos.endLine == cpos.line) = true:=by rfl) (hs:starEach (e :: es) X.env = (false,eval e X.env) :: starEach es X.env:=by rfl) (hplain:(backTo cpos (starEach es X.env)).any (·.1) = false:=by rfl) :
  PE X (.Call (.Attribute o name apos) (e :: es) [] cpos) (tBM X.K T r to t):=by
 intro pins s σ H Q I h
 refine wpAny_Call_method_late hbase hfew hline rfl (thn (ho pins s σ H _ I h) fun v s1 ⟨x,H1,I1,r1,ty,q1⟩=>?_)
 obtain ⟨h1,h2⟩:=zei I1 r1 ty
 refine ⟨T,id,pa,slot,hty,h1,h2,?_⟩
 have hA:=ha cpos pins s1 σ H1 _ I1 q1
 rw [hs] at hA ⊢
 refine Calls.callWith_builtin (by show (false || (backTo cpos (starEach es X.env)).any (·.1)) = false;rw [hplain] <;> rfl) (Calls.evalArgs_plain ?_)
 exact thn hA fun us s2 ⟨vs,H2,I2,r2,q2⟩=>hm pins s2 σ H2 x vs v us Q I2 r1 r2 q2
end
def MtM (X:Cx) (id:String) (r:V->List V->Hp->VK->Prop):Prop:=
 ∀ (pins:List (Addr × Obj)) (s:Shared) (σ:St) (H:Hp) (x:V) (xs:List V) (v:Value) (us:List Value) (Q:VK),Inv X pins σ H s->RelV x v->Vals xs us->r x xs H Q->
  wpAny (model X.prog X.w) X.A (call (.builtin id) (v :: us)) (EP X pins σ Q) X.xe s
theorem Vals.one:∀ {x:V} {us:List Value},Vals [x] us->∃ u,us = [u]/\RelV x u
 | _,_,.cons r .nil=>⟨_,rfl,r⟩
theorem Vals.two:∀ {x y:V} {us:List Value},Vals [x,y] us->∃ u v,us = [u,v]/\RelV x u/\RelV y v
 | _,_,_,.cons r (.cons q .nil)=>⟨_,_,rfl,r,q⟩
theorem Vals.zero:∀ {us:List Value},Vals [] us->us = []
 | _,.nil=>rfl
theorem Vals.eraseIdx:∀ {xs:List V} {us:List Value} (i:Nat),Vals xs us->Vals (xs.eraseIdx i) (us.eraseIdx i)
 | _,_,_,.nil=>.nil
 | _,_,0,.cons _ t=>t
 | _,_,i + 1,.cons r t=>.cons r (Vals.eraseIdx i t)
theorem Vals.rep {xs:List V} {us:List Value} (h:Vals xs us):∀ k:Nat,Vals (List.replicate k xs).flatten (List.replicate k us).flatten
 | 0=>.nil
 | k + 1=>by
  rw [replicate_succ,replicate_succ,flatten_cons,flatten_cons]
  exact Vals.append h (Vals.rep h k)
theorem foldl_rep (its:List Value):∀ (k:Nat) (acc:List Value),
  List.foldl (fun x1 x2=>x1 ++ x2) acc.toArray (List.replicate k its.toArray) = (acc ++ (List.replicate k its).flatten).toArray
 | 0,acc=>by simp
 | k + 1,acc=>by
  have e:acc.toArray ++ its.toArray = (acc ++ its).toArray:=by simp
  have e2:(acc ++ its) ++ (List.replicate k its).flatten = acc ++ (List.replicate (k + 1) its).flatten:=by
   rw [replicate_succ,flatten_cons,append_assoc]
  rw [← e2,← foldl_rep its k (acc ++ its),← e,replicate_succ,List.foldl_cons]
variable {t':Nat}
section
variable {l b:Addr} {zs:List V}
theorem Inv.lset {f:Array Value->Array Value} {t':Nat} (I:Inv X pins σ H s) (hH:H l = some (.lst xs))
 (e:s.heap.get? l = some { cls:=.type "list",data:=.seq its.toArray n }) (hf:f its.toArray = its'.toArray) (hv:Vals ys its') (hz:ys.length<=sizeLine) :
  Inv X pins σ (upd H l (.lst ys)) { s with heap:=s.heap.update l (Obj.mapSeq f),toks:=t' }:=by
 have q:=PySem.IsL.update e f
 rw [hf] at q
 refine I.write (x:=l) (e:=l) (by rw [hH];exact trivial) (.inl rfl) (fun b' u hb hu=>(Heap.get?_update_other s.heap (Obj.mapSeq f) (Ne.symm hb)).trans hu) ⟨_,q⟩ ?_
 exact ⟨hz,its',_,hv,q⟩
theorem Inv.lnew {t':Nat} (I:Inv X pins σ H s) (hv:Vals ys its) (hz:ys.length<=sizeLine) :
  Inv X pins σ (upd H s.heap.objs.size (.lst ys)) { s with heap:=s.heap.push { cls:=.type "list",data:=.seq its.toArray },toks:=t' }:=
 I.laid (fun _ _ q=>Q2 _ q) (Q3 _) ⟨hz,its,0,hv,Qj _ rfl⟩
theorem Inv.fresh (I:Inv X pins σ H s):H s.heap.objs.size = none:=I.hok.fresh (Q3 _)
theorem Inv.lstM (I:Inv X pins σ H s) (hH:H l = some (.lst xs)):xs.length<=sizeLine/\∃ (its:List Value) (n:Nat),Vals xs its/\xs.length = its.length/\s.heap.get? l = some { cls:=.type "list",data:=.seq its.toArray n }:=by
 obtain ⟨z,its,n,r,e⟩:=I.hok l _ hH
 exact ⟨z,its,n,r,r.length,e⟩
end
section
noncomputable def zbq:V->List V->Hp->VK->Prop:=fun x vs H Q=>∃ l xs y,x = .ref l/\vs = [y]/\H l = some (.lst xs)/\xs.length < sizeLine/\Q .non (upd H l (.lst (xs ++ [y])))
theorem zbK:MtM X "list.append" zbq:=by
 intro pins s σ H x vs v us Q I rx rv h
 obtain ⟨l,xs,y,rfl,rfl,hH,hz,q⟩:=h
 cases rx
 obtain ⟨u,rfl,ru⟩:=rv.one
 obtain ⟨z,its,n,r,hl,e⟩:=I.lstM hH
 refine call_meets F.slot_list_append ⟨_,e,rfl⟩ F.entry_list_append (F.args_list_append_2 _ _) (PySem.list_append l its.toArray n u (by rw [Qg];omega)) ⟨e,?_⟩
 refine ⟨.non,_,I.lset (its':=its ++ [u]) hH e (by simp) (r.append (.cons ru .nil)) ?_,rfl,q⟩
 rw [Ql,length_singleton]
 omega
theorem len_rep {α:Type} (xs:List α) (k:Nat):(List.replicate k xs).flatten.length = k * xs.length:=by
 induction k with
 | zero=>simp
 | succ k ih=>rw [replicate_succ,flatten_cons,Ql,ih,Nat.succ_mul,Nat.add_comm]
end
end L2
namespace Att
open PySem PySem.W PySem.Calls PyProof.Rows
variable {h:Heap} {P:Params}
theorem zbf:∀ (ns:List Int) (vs:List Value),WellAll P h vs (ns.map WData.int)->IntsAre vs ns:=by
 intro ns
 induction ns with
 | nil=>
  intro vs w
  rw [map_nil] at w
  cases w
  exact .nil
 | cons n ns ih=>
  intro vs w
  rw [map_cons] at w
  cases w with
  | cons a b=>
   cases a
   exact .cons _ _ (ih _ b)
variable {n:Nat} {l:OpenLaw}
theorem zeq (hn:l.most = some n) {args:List WData} {vals:List Value}
 (hpre:l.row.toRowW.claim.pre args = true) (hwl:WellAll P h vals args) :
  ∃ a vs ns,vals = [Value.ref a]/\args = [WData.list (ns.map WData.int)]/\h.get? a = some { cls:=.type "list",data:=.seq vs.toArray }/\IntsAre vs ns/\ns.length<=n:=by
 have hsh:WShape.hasAll [] args [.list .int] = true:=(pre_splitW hpre).1
 have hc:l.pre.holds [] { args:=args } = true:=(pre_splitW hpre).2
 obtain ⟨d,r,rfl,h1,h2⟩:=hasAllW_cons hsh
 obtain rfl:=hasAllW_nil h2
 obtain ⟨xs,rfl,h3⟩:=hasW_list h1
 obtain ⟨ns,rfl⟩:=items_int h3
 have hlen:ns.length<=n:=by
  unfold OpenLaw.pre at hc
  have h4:(WTm.not (.lt (.lit (.int (n:Int))) (.len (.arg 0)))).holds [] { args:=[.list (ns.map .int)] } = true:=by
   have h4:=(holds_andW hc).1
   rw [hn] at h4
   exact h4
  have h5:=condW_of h4 (w_not (w_lt w_lit (w_len_list (w_arg rfl))))
  rw [Qf] at h5
  refine Nat.le_of_not_lt fun q=>?_
  have q':(n:Int) < ((ns.length:Nat):Int):=by omega
  first
   | (rw [Qp q'] at h5;exact absurd h5 (by decide))
   | (simp at h5;omega)
 cases hwl with
 | cons w1 w2=>
  cases w2
  cases w1 with
  | list ho hall=>exact ⟨_,_,ns,rfl,rfl,ho,zbf ns _ hall,hlen⟩
theorem zev (l:OpenLaw) (args:List WData):l.row.toRowW.claim.post args (.bool true) args = true:=
 postW_of (r:=l.row.toRowW) (X:=(true == true))
  (show WShape.has [] (.bool true) .bool = true by first | rfl | decide | simp [WShape.has,WShape.arms,WShape.armsAll])
  (show (WTm.eq .res (.lit (.bool true))).value [] { args:=args,res:=some (.bool true),after:=args } = some (.bool (true == true)) from w_eq_bool (w_res rfl) w_lit) rfl
theorem zc4 {q:Program} {loose:List Str} {XP:(Str->Option Value)->Heap->Prop} {YP:World->Heap->Prop} {d:DefRec}
 (hn:l.most = some n) (hdf:d.params.defaults = [])
 (call:∀ (w:World) (s₀ s₁:Shared) (mg mb:Str->Option Value) (fa:Addr) (o:Obj) (pm cd doc:Value) (a:Addr) (vs:List Value) (ns:List Int),
 Ground q loose [] XP w s₀ mg mb s₁.heap->YP w s₁.heap->
 s₁.heap.get? fa = some o->o.data = .func (docDef d.name d.params d.body d.scope pm cd doc)->s₁.heap.CodeRec cd d.name->mg d.name = some (.ref fa)->
 s₁.heap.get? a = some { cls:=.type "list",data:=.seq vs.toArray }->IntsAre vs ns->ns.length<=n->s₁.gens = #[]->
 codeAny (model l.prog w) callerA (.call (.ref fa) ⟨[.ref a],[]⟩) (fun r s'=>r = .ok (.ret (.bool true))/\OldK s₁.heap s'.heap/\s'.os = s₁.os/\AllBare s'.gens) s₁) :
  WalkO q loose XP YP l.row.toRowW d [] (fun f vs=>PySem.call f vs):=by
 intro w s₀ s₁ mg mb G Y fa o pm cd doc dV kV ho hd hcd hD hmg hg args vals as hpre hlay hrd hwl hlo
 obtain rfl:dV = .none:=Dflts.none hD hdf
 obtain rfl:kV = .none:=Dflts.noKw hD
 obtain ⟨a,vs,ns,rfl,rfl,hobj,hints,hlen⟩:=zeq hn hpre hwl
 refine enter_call (codeAny_mono (call w s₀ s₁ mg mb fa o pm cd doc a vs ns G Y ho (fd_plain hd) hcd hmg hobj hints hlen hg) fun r s' hq=>?_)
 obtain ⟨rfl,h2,h3,h4⟩:=hq
 exact ⟨.inl ⟨.bool true,.bool true,[],rfl,fun _=>rfl,.bool true,zev l _,fun _=>⟨List.Pairwise.nil,fun _ hm=>(nomatch hm)⟩⟩,h2,h3,h4⟩
end Att
namespace L2
open PySem PySem.Spec PyProof.Rows
theorem zbH:∀ {vs:List Value} {ns:List Int},IntsAre vs ns->Vals (ns.map V.int) vs
 | _,_,.nil=>.nil
 | _,_,.cons n t h=>.cons ⟨t,rfl⟩ (zbH h)
def zd6 (H:Hp):Prop:=∀ b,H b = none\/∃ o xs,H b = some (.frz o (.lst xs))
variable {CX:CXT} {K:Frag} {fd:FuncData} {k:Nat} {P:Program} {sp:Sp} {x:Str} {mg:Str->Option Value} {w:World}
theorem zfL {mb:Str->Option Value} {fa a:Addr} {s₁:Shared} {vs:List Value} {ns:List Int}
 (KX:K.In s₁.heap) (hns:s₁.heap.Ns mainGlobals mg) (hb:s₁.heap.Ns builtinsNs mb) (hbb:∀ x:Str,x ≠ "__name__"->mb x = bootBuiltins x) (hlim:s₁.heap.NoLimit) (hg:s₁.gens = #[])
 (ha:s₁.heap.get? a = some { cls:=.type "list",data:=.seq vs.toArray }) (hi:IntsAre vs ns) (hl:ns.length<=sizeLine) (hr:Room k callerA)
 (F:∀ base:Heap,K.In base->base.Ns mainGlobals mg->FnOk P w K mg base CX k fa fd [x] sp) (hbind:∀ (s:Shared) (u:Value),BindsTo s fd ⟨[u],[]⟩ [(x,u)])
 (hsp:∀ H:Hp,zd6 H->SqL K H a (ns.map V.int)->sp [.ref a] H (fun v _=>v = .bl true) fun _ _ _=>False)
 (hCX:∀ H e s',CX [] H s₁ (fun _ _ _=>False) e s'->False) :
  codeAny (model P w) callerA (.call (.ref fa) ⟨[.ref a],[]⟩) (fun r s'=>r = .ok (.ret (.bool true))/\OldK s₁.heap s'.heap/\s'.os = s₁.os/\AllBare s'.gens) s₁:=by
 have rv:=zbH hi
 have lenV:=hi.length
 -- from an abstract heap in which nothing but the script may be tracked
 have core:∀ H:Hp,zd6 H->SqL K H a (ns.map V.int)->HOk P w H s₁.heap->(∀ b,H b ≠ none->b = a)->(H a ≠ none->K.lookup a = none)->
   codeAny (model P w) callerA (.call (.ref fa) ⟨[.ref a],[]⟩) (fun r s'=>r = .ok (.ret (.bool true))/\OldK s₁.heap s'.heap/\s'.os = s₁.os/\AllBare s'.gens) s₁:=by
  intro H hO hS hok hA hK
  have base_of:∀ {b:Addr} {o:Obj},s₁.heap.get? b = some o->H b = none->(zan s₁.heap H).get? b = some o:=fun e n=>zfQ e n
  have noA:∀ {b:Addr} {o:Obj} {es:Array DictEntry} {ep:Nat},s₁.heap.get? b = some o->o.data = .dict es ep->H b = none:=fun {b o es ep} e d=>by
   cases q:H b with
   | none=>rfl
   | some u=>
    have e':b = a:=hA b (by rw [q];simp)
    subst e'
    rw [ha] at e;cases e
    have d':Data.seq vs.toArray _ = Data.dict es ep:=d
    cases d'
  have nsK:∀ {b:Addr} {m:Str->Option Value},s₁.heap.Ns b m->(zan s₁.heap H).Ns b m:=fun {b m} ⟨o,es,ep,e,d,r⟩=>⟨o,es,ep,base_of e (noA e d),d,r⟩
  have hKb:K.In (zan s₁.heap H):=fun b o e=>base_of (KX b o e) (by
   cases q:H b with
   | none=>rfl
   | some u=>
    have e':b = a:=hA b (by rw [q];simp)
    subst e'
    rw [hK (by rw [q];simp)] at e;cases e)
  have hM:Mod K mg (zan s₁.heap H):=⟨hKb,nsK hns,⟨mb,nsK hb,hbb⟩,let ⟨mc,h1,h2⟩:=hlim;⟨mc,nsK h1,h2⟩⟩
  have e0:Env0 P w K mg (zan s₁.heap H) callerA [] s₁ H:=⟨rfl,hM,fun b o e=>zhf e,Nat.le_of_eq (zeN _ _),trivial,fun b hb=>absurd (show b ∈ ([]:List Addr) from hb) (by simp),hok,.of_eq hg⟩
  refine codeAny_mono ((F _ hKb (nsK hns)).run callerA [] s₁ H ⟨[.ref a],[]⟩ [.ref a] [.ref a] _ _ hr e0 (hbind s₁ (.ref a)) (.cons rfl .nil) (hsp H hO hS)) fun r s' h=>?_
  cases r with
  | error e=>exact (hCX H e s' h).elim
  | ok fl=>
   cases fl with
   | next=>exact False.elim h
   | brk=>exact False.elim h
   | cont=>exact False.elim h
   | ret u=>
    obtain ⟨v,H',os,bare,un,hok',r',q⟩:=h
    have q':v = .bl true:=q
    subst q'
    obtain rfl:u = Value.bool true:=r'
    refine ⟨rfl,OldK.of_keep fun b o e=>?_,os,bare⟩
    cases q:H b with
    | none=>exact un.keep b o e q (by intro z;exact absurd (show b ∈ ([]:List Addr) from z) (by simp)) (by simp)
    | some u=>
     rcases hO b with z | ⟨ob,xs,z⟩
     ·rw [q] at z;cases z
     ·have z2:=un.frzs b ob _ z
      obtain ⟨e1,_⟩:=hok b _ z
      obtain ⟨e2,_⟩:=hok' b _ z2
      rw [e] at e1;cases e1
      exact e2
 cases hk:K.lookup a with
 | some o=>
  -- the script is one of the module's own objects
  have e:=KX a o hk
  rw [ha] at e
  cases e
  refine core (fun _=>none) (fun _=>.inl rfl) (.inr ⟨_,vs.toArray,_,hk,rfl,rfl,rfl,by rw [Qg,lenV];exact hl,by simpa using rv⟩) (fun b u z=>by have z':(none:Option HO) = some u:=z;cases z') (fun b z=>absurd rfl z) fun z=>absurd rfl z
 | none=>
  refine core (fun b=>if b = a then some (.frz { cls:=.type "list",data:=.seq vs.toArray } (.lst (ns.map V.int))) else none) (fun b=>?_) (.inl (.inr ⟨{ cls:=.type "list",data:=.seq vs.toArray },if_pos rfl⟩)) (fun b u z=>?_) (fun b z=>?_) fun _=>hk
  ·by_cases hb:b = a
   ·exact .inr ⟨_,_,if_pos hb⟩
   ·exact .inl (if_neg hb)
  ·by_cases hb:b = a
   ·have z':=(if_pos hb).symm.trans z
    cases z'
    subst hb
    exact ⟨ha,by rw [Qf];exact hl,vs,_,rv,ha⟩
   ·have z':=(if_neg hb).symm.trans z
    cases z'
  ·by_cases hb:b = a
   ·exact hb
   ·exact absurd (if_neg hb) z
noncomputable abbrev KOf {K:Frag} {h:Heap} (_:K.In h):Frag:=K
variable {XP:(Str->Option Value)->Heap->Prop} {d:DefRec} {loose:List Str} {n:Nat} {q:Program} {l:PySem.W.OpenLaw} {YP:World->Heap->Prop}
theorem zgF {K:Params->Frag} {CX:World->CXT} {sp:World->Sp} 
 (hn:l.most = some n) (hn2:n<=sizeLine) (hdf:d.params.defaults = []) (hr:Room k callerA)
 (hY:∀ (w:World) (h:Heap),YP w h->(K w.params).In h)
 (F:∀ (w:World) (mg:Str->Option Value) (fa:Addr) (h:Heap),(K w.params).In h->h.Ns mainGlobals mg->mg d.name = some (.ref fa)->
 ∃ fd:FuncData,(∀ (s:Shared) (u:Value),BindsTo s fd ⟨[u],[]⟩ [(x,u)]) /\
 ∀ base:Heap,(K w.params).In base->base.Ns mainGlobals mg->FnOk l.prog w (K w.params) mg base (CX w) k fa fd [x] (sp w))
 (hsp:∀ (w:World) (H:Hp) (a:Addr) (ns:List Int),ns.length<=n->zd6 H->SqL (K w.params) H a (ns.map V.int)->sp w [.ref a] H (fun v _=>v = .bl true) fun _ _ _=>False)
 (hCX:∀ (w:World) (H:Hp) (s:Shared) (e:Value) (s':Shared),CX w [] H s (fun _ _ _=>False) e s'->False) :
  PySem.W.WalkO q loose XP YP l.row.toRowW d [] (fun f vs=>PySem.call f vs):=by
 refine Att.zc4 hn hdf fun w s₀ s₁ mg mb fa o pm cd doc a vs ns G Y ho hd hcd hmg hobj hints hlen hg=>?_
 have KX:=hY w _ Y
 obtain ⟨fd,hb,hF⟩:=F w mg fa _ KX G.T.g hmg
 exact zfL KX G.T.g G.T.b G.T.builtins G.T.nolimit hg hobj hints (Qh hlen hn2) hr hF hb (fun H hO hS=>hsp w H a ns hlen hO hS) fun H e s'=>hCX w H s₁ e s'
theorem zfj {K:Params->Frag} {sp:Frag->Sp} 
 (hn:l.most = some n) (hn2:n<=sizeLine) (hdf:d.params.defaults = []) (hr:Room k callerA)
 (hY:∀ (w:World) (h:Heap),YP w h->(K w.params).In h)
 (F:∀ (w:World) (mg:Str->Option Value) (fa:Addr) (h:Heap),(K w.params).In h->h.Ns mainGlobals mg->mg d.name = some (.ref fa)->
 ∃ fd:FuncData,(∀ (s:Shared) (u:Value),BindsTo s fd ⟨[u],[]⟩ [(x,u)]) /\
 ∀ base:Heap,(K w.params).In base->base.Ns mainGlobals mg->FnOk l.prog w (K w.params) mg base CX k fa fd [x] (sp (K w.params)))
 (hsp:∀ (K:Frag) (H:Hp) (a:Addr) (ns:List Int),ns.length<=n->zd6 H->SqL K H a (ns.map V.int)->sp K [.ref a] H (fun v _=>v = .bl true) fun _ _ _=>False)
 (hCX:∀ (H:Hp) (s:Shared) (e:Value) (s':Shared),CX [] H s (fun _ _ _=>False) e s'->False) :
  PySem.W.WalkO q loose XP YP l.row.toRowW d [] (fun f vs=>PySem.call f vs):=
 zgF (K:=K) (CX:=fun _=>CX) (sp:=fun w=>sp (K w.params)) hn hn2 hdf hr hY F (fun w H a ns h1 h2 h3=>hsp (K w.params) H a ns h1 h2 h3) fun _ H s e s'=>hCX H s e s'
noncomputable def zH (s:Stmt):Arguments:=match s with
 | .FunctionDef _ a _ _ _ _ _ _ _ _=>a
 | _=>{ posonlyargs:=[],args:=[],vararg:=none,kwonlyargs:=[],kw_defaults:=[],kwarg:=none,defaults:=[] }
noncomputable def qo (s:Stmt):List Stmt:=match s with
 | .FunctionDef _ _ b _ _ _ _ _ _ _=>b
 | _=>[]
noncomputable def yc (s:Stmt):Scope:=match s with
 | .FunctionDef _ _ _ _ _ _ sc _ _ _=>sc
 | _=>{ kind:=.function,names:=[],isGenerator:=false,isCoroutine:=false }
noncomputable abbrev CX0:CXT:=fun _ _ _ _ _ _=>False
noncomputable abbrev E0:XK:=fun _ _ _=>False
variable {X:Cx}
theorem zjK:Passes CX0 X E0:=fun _ _ _ _ _ _ _ h=>h.elim
structure Fun (K:Frag) (x qual:Str) (st:Stmt) (f:Addr) (fd:FuncData):Prop where
 ex:∃ (oc:Value) (od:Option Addr) (kV doc pm:Value) (an:Option Addr) (cdv ct:Value) (osl:Array (Option Value)),
  fd = PySem.W.fnOf x qual (zH st) (qo st) (yc st) .none kV doc pm an cdv ct/\K.lookup f = some ⟨oc,od,.func fd,osl⟩/\PySem.W.codeIn K cdv qual = true
 kp:PySem.W.keepIn K (.ref f) = true
variable {f:Addr} {ps:List Str} {st:Stmt} {qual:Str}
section
variable {base:Heap}
theorem Fun.ok {N:List Str} (F:Fun K x qual st f fd) (S:FnScope N ps (yc st)) (len:∀ vs H Q E,sp vs H Q E->vs.length = ps.length)
 (hbody:∀ (cdv:Value) (A:Around) (outer:List Env) (s:Shared) (H:Hp) (vs:List V) (Q:VK) (E:XK),Room k (A.deeper (envOfC qual (yc st) s.heap.objs.size f cdv))->sp vs H Q E->
 ∃ t,PSs (qL CX0 P w K mg base N qual (yc st) f cdv A outer s H E).nox (qo st) t/\t { nx:=fun _ H'=>Q .non H',rt:=Q } (start N vs) H):FnOk P w K mg base CX0 (k + 1) f fd ps sp:=by
 obtain ⟨oc,od,kV,doc,pm,an,cdv,ct,osl,rfl,lk,hcd⟩:=F.ex
 refine zgx lk hcd S len fun A outer s H vs Q E hr hsp=>?_
 obtain ⟨t,h,q⟩:=hbody cdv A outer s H vs Q E hr hsp
 exact ⟨t,h.nox,q⟩
theorem Fun.binds (F:Fun K x qual st f fd)
 (h:∀ (kV doc pm:Value) (an:Option Addr) (cdv ct:Value) (us:List Value),us.length = ps.length->bindArgs (PySem.W.fnOf x qual (zH st) (qo st) (yc st) .none kV doc pm an cdv ct) ⟨us,[]⟩ = pure (ps.zip us)):Binds K fd ps []:=by
 obtain ⟨oc,od,kV,doc,pm,an,cdv,ct,osl,rfl,lk,hcd⟩:=F.ex
 exact .all (h kV doc pm an cdv ct)
theorem zeS {oc:Value} {od an:Option Addr} {osl:Array (Option Value)} {kV doc pm cdv ct:Value} (l:K.lookup f = some ⟨oc,od,.func (PySem.W.fnOf x qual (zH st) (qo st) (yc st) .none kV doc pm an cdv ct),osl⟩)
 (c:PySem.W.codeIn K cdv qual = true) (k:PySem.W.keepIn K (.ref f) = true):Fun K x qual st f (PySem.W.fnOf x qual (zH st) (qo st) (yc st) .none kV doc pm an cdv ct):=⟨⟨oc,od,kV,doc,pm,an,cdv,ct,osl,rfl,l,c⟩,k⟩
end
section
theorem pv (i:Nat) {pos:Pos} (hN:X.N[i]? = some x:=by rfl) (hv:Vis X.env.scope x:=by first | exact Or.inl rfl | exact Or.inr (Or.inl rfl) | exact Or.inr (Or.inr rfl)) (hd:(x == ("__debug__":Str)) = false:=by decide)
 (hcd:(x == ("__classdict__":Str)) = false:=by decide):PE X (.Name x pos) (zdx i):=zir hN hv hd hcd
end
end L2
set_option maxHeartbeats 4000000
namespace L2
open PySem PySem.Spec PyProof.Rows
variable {y:V} {u:Value}
section
variable {κ:Type} [DecidableEq κ]
noncomputable def qT (kvs:List (κ × V)) (k:κ):Option V:=(kvs.find? fun kv=>decide (kv.1 = k)).map (·.2)
noncomputable def putK (kvs:List (κ × V)) (k:κ) (v:V):List (κ × V):=
 if (kvs.any fun kv=>decide (kv.1 = k)) = true then kvs.map (fun kv=>if kv.1 = k then (kv.1,v) else kv) else kvs ++ [(k,v)]
noncomputable def zlp (kvs:List (κ × V)) (k:κ):List (κ × V):=kvs.filter fun kv=>decide (kv.1 ≠ k)
theorem zj5 {p:κ × V} {r:List (κ × V)} {k:κ} (e:p.1 = k):qT (p :: r) k = some p.2:=by simp [qT,find?_cons,e]
theorem zj6 {p:κ × V} {r:List (κ × V)} {k:κ} (e:¬ p.1 = k):qT (p :: r) k = qT r k:=by simp [qT,find?_cons,e]
theorem KV.any {kvs:List (κ × V)} {vs:List (κ × Value)} (r:KV kvs vs) (k:κ):(kvs.any fun kv=>decide (kv.1 = k)) = vs.any fun kv=>decide (kv.1 = k):=by
 unfold KV at r
 induction r with
 | nil=>rfl
 | cons h t ih=>rw [any_cons,any_cons,ih,h.1]
theorem KV.repl {kvs:List (κ × V)} {vs:List (κ × Value)} (r:KV kvs vs) (k:κ) (ry:RelV y u) :
  KV (kvs.map fun kv=>if kv.1 = k then (kv.1,y) else kv) (vs.map fun kv=>if kv.1 = k then (kv.1,u) else kv):=by
 unfold KV at r ⊢
 induction r with
 | nil=>exact .nil
 | @cons p q ps qs h t ih=>
  rw [map_cons,map_cons]
  refine .cons ?_ ih
  obtain ⟨h1,h2⟩:=h
  by_cases e:p.1 = k
  ·rw [if_pos e,if_pos (h1.symm.trans e)];exact ⟨h1,ry⟩
  ·rw [if_neg e,if_neg (fun z=>e (h1.trans z))];exact ⟨h1,h2⟩
theorem KV.put {kvs:List (κ × V)} {vs:List (κ × Value)} (r:KV kvs vs) (k:κ) (ry:RelV y u):KV (putK kvs k y) (stored vs k u):=by
 unfold putK stored
 rw [r.any k]
 by_cases e:(vs.any fun kv=>decide (kv.1 = k)) = true
 ·rw [if_pos e,if_pos e];exact r.repl k ry
 ·rw [if_neg e,if_neg e];exact Paired.snoc r ⟨rfl,ry⟩
end
noncomputable def zeC (kvs more:List (Key × V)):List (Key × V):=more.foldl (fun acc kv=>putK acc kv.1 kv.2) kvs
structure M1 (X:Cx) (o:Expr) (m:Str) (apos:Pos) (e:Expr) (cpos:Pos):Prop where
 base:attributeBase o m X.env (eval o X.env) = eval o X.env
 few:((backTo cpos (starEach [e] X.env)).all (fun x=>!x.1) && (backToKw cpos (keywordEach [] X.env)).all (fun x=>x.1.isSome)
  && decide (([e]:List Expr).length + ([]:List Keyword).length + (if ([]:List Keyword).isEmpty then 0 else 1) < 30)) = true
 line:(apos.endLine == cpos.line) = true
 trees:backTo cpos (starEach [e] X.env) = [(false,eval e X.env)]
structure M2 (X:Cx) (o:Expr) (m:Str) (apos:Pos) (e f:Expr) (cpos:Pos):Prop where
 base:attributeBase o m X.env (eval o X.env) = eval o X.env
 few:((backTo cpos (starEach [e,f] X.env)).all (fun x=>!x.1) && (backToKw cpos (keywordEach [] X.env)).all (fun x=>x.1.isSome)
  && decide (([e,f]:List Expr).length + ([]:List Keyword).length + (if ([]:List Keyword).isEmpty then 0 else 1) < 30)) = true
 line:(apos.endLine == cpos.line) = true
 trees:backTo cpos (starEach [e,f] X.env) = [(false,eval e X.env),(false,eval f X.env)]
def Bnd (n:Nat) (i:Int):Prop:=i.natAbs < 10 ^ n
instance (n:Nat) (i:Int):Decidable (Bnd n i):=inferInstanceAs (Decidable (i.natAbs < 10 ^ n))
variable {i j:Int} {n:Nat}
theorem Bnd.add (h:Bnd n i) (k:Bnd n j):Bnd (n + 1) (i + j):=by
 unfold Bnd at *
 have h1:=Int.natAbs_add_le i j
 rw [Nat.pow_succ]
 omega
theorem Bnd.neg (h:Bnd n i):Bnd n (-i):=by
 unfold Bnd at *
 rw [Int.natAbs_neg];exact h
theorem zds (h:Bnd n i) (hn:n<=3000):Builtin.Int.intBits i<=2 ^ 20:=by
 unfold Builtin.Int.intBits
 split
 ·exact Nat.zero_le _
 ·rename_i h0
  have h1:i.natAbs ≠ 0:=by
   intro z
   have:i = 0:=Int.natAbs_eq_zero.mp z
   subst this
   exact h0 rfl
  have h2:i.natAbs < 2 ^ (4 * n):=by
   have e:(2:Nat) ^ (4 * n) = 16 ^ n:=by rw [Nat.pow_mul]
   rw [e]
   exact Q5 h (Nat.pow_le_pow_left (by decide) n)
  have h3:i.natAbs.log2 < 4 * n:=(Nat.log2_lt h1).mpr h2
  have:(2:Nat) ^ 20 = 1048576:=by decide
  omega
def CMulB (i j:Int):Prop:=(∃ m n,Bnd m i/\Bnd n j/\m<=3000/\n<=3000)\/CMul i j
theorem CMulB.ok (h:CMulB i j):IntMulOk i j:=by
 rcases h with ⟨m,n,h1,h2,h3,h4⟩ | h
 ·exact IntMulOk.of_bits (zds h1 h3) (zds h2 h4)
 ·exact h.ok
variable {X:Cx}
section
theorem zha:OpR X (binaryOp .Mult) (rI CMulB fun i j=>.int (i * j)):=opI fun _ _ _ _ _ _ _ hc q=>mul_int q hc.ok
noncomputable def zjD (K:Frag):R2:=fun x y H Q=>∃ l b xs zs,x = .ref l/\y = .ref b/\SqL K H l xs/\SqL K H b zs/\xs.length + zs.length<=sizeLine/\∀ p,H p = none->Q (.ref p) (upd H p (.lst (xs ++ zs)))
theorem zhd:OpR X (binaryOp .Add) (zjD X.K):=by
 intro pins s σ H x y v u Q I rx ry h
 obtain ⟨l,b,xs,zs,rfl,rfl,hH,hB,hz,q⟩:=h
 cases rx
 cases ry
 obtain ⟨its,r,pl,z⟩:=I.list hH
 obtain ⟨its2,r2,pl2,z2⟩:=I.list hB
 obtain ⟨⟨cls,dd,data,sl⟩,n,ho,hc,hdi,hd⟩:=pl
 obtain ⟨⟨cls2,dd2,data2,sl2⟩,n2,ho2,hc2,hdi2,hd2⟩:=pl2
 simp only at hc hd hc2 hd2
 subst hc hd hc2 hd2
 have e1:=r.length
 have e2:=r2.length
 refine concat_meets ⟨_,ho,rfl⟩ ⟨_,ho2,rfl⟩ noFill_list_add seq_list_add PySem.F.slot_list_add PySem.F.entry_list_add (PySem.F.args_list_add_2 _ _) (list_addW l b its.toArray its2.toArray n n2 dd dd2 sl sl2 (by rw [Qg,Qg];omega)) ⟨ho,ho2,?_⟩
 have ea:its.toArray ++ its2.toArray = (its ++ its2).toArray:=by simp
 rw [ea]
 exact ⟨.ref _,_,I.lnew (t':=s.toks) (r.append r2) (by rw [Ql];omega),rfl,q _ I.fresh⟩
end
structure Df (K:Frag) (mg:Str->Option Value) (x:Str) (st:Stmt) (ps:List Str):Prop where
 ex:∃ (f:Addr) (fd:FuncData),Fun K x x st f fd/\Binds K fd ps []/\mg x = some (.ref f)
structure Cal (P:Program) (w:World) (K:Frag) (mg:Str->Option Value) (base:Heap) (k:Nat) (x:Str) (ps:List Str) (sp:Sp):Prop where
 ex:∃ (f:Addr) (fd:FuncData),FnOk P w K mg base CX0 k f fd ps sp/\PySem.W.keepIn K (.ref f) = true/\Binds K fd ps []/\mg x = some (.ref f)
variable {f:Addr} {sl:Array (Option Value)} {K:Frag} {h:Heap} {ps:List Str} {k:Nat} {an od:Option Addr} {P:Program} {sp:Sp} {st:Stmt} {x:Str} {mg:Str->Option Value} {cd ct dc oc pm:Value} {w:World}
section
variable {base:Heap}
theorem Df.ok {N:List Str} (D:Df K mg x st ps) (S:FnScope N ps (yc st)) (len:∀ vs H Q E,sp vs H Q E->vs.length = ps.length)
 (hbody:∀ (f:Addr) (cdv:Value) (A:Around) (outer:List Env) (s:Shared) (H:Hp) (vs:List V) (Q:VK) (E:XK),Room k (A.deeper (envOfC x (yc st) s.heap.objs.size f cdv))->sp vs H Q E->
 ∃ t,PSs (qL CX0 P w K mg base N x (yc st) f cdv A outer s H E).nox (qo st) t/\t { nx:=fun _ H'=>Q .non H',rt:=Q } (start N vs) H):Cal P w K mg base (k + 1) x ps sp:=by
 obtain ⟨f,fd,F,b,g⟩:=D.ex
 exact ⟨⟨f,fd,F.ok S len (hbody f),F.kp,b,g⟩⟩
theorem zK (X:K.In h) (G:h.Ns mainGlobals mg) {kV:Value}
 (a:PySem.W.nsIn K mainGlobals x = some (some (.ref f)))
 (l:K.lookup f = some ⟨oc,od,.func (PySem.W.fnOf x x (zH st) (qo st) (yc st) .none kV dc pm an cd ct),sl⟩) (c:PySem.W.codeIn K cd x = true) (k:PySem.W.keepIn K (.ref f) = true)
 (hb:∀ (kV doc pm:Value) (an:Option Addr) (cdv ct:Value) (us:List Value),us.length = ps.length->bindArgs (PySem.W.fnOf x x (zH st) (qo st) (yc st) .none kV doc pm an cdv ct) ⟨us,[]⟩ = pure (ps.zip us)):Df K mg x st ps:=by
 have F:=zeS (st:=st) l c k
 exact ⟨⟨f,_,F,F.binds hb,PySem.W.mg_of X G a⟩⟩
end
section
theorem ziL (X:K.In h) (G:h.Ns mainGlobals mg) {kV:Value}
 (a:PySem.W.nsIn K mainGlobals "law" = some (some (.ref f)))
 (l:K.lookup f = some ⟨oc,od,.func (PySem.W.fnOf "law" "law" (zH st) (qo st) (yc st) .none kV dc pm an cd ct),sl⟩) (c:PySem.W.codeIn K cd "law" = true) (k:PySem.W.keepIn K (.ref f) = true)
 (hb:∀ (kV dc pm:Value) (an:Option Addr) (cd ct:Value) (s:Shared) (u:Value),BindsTo s (PySem.W.fnOf "law" "law" (zH st) (qo st) (yc st) .none kV dc pm an cd ct) ⟨[u],[]⟩ [("script",u)]) :
  ∃ (f:Addr) (fd:FuncData),Fun K "law" "law" st f fd/\mg "law" = some (.ref f)/\∀ (s:Shared) (u:Value),BindsTo s fd ⟨[u],[]⟩ [("script",u)]:=
 ⟨f,_,zeS (st:=st) l c k,PySem.W.mg_of X G a,fun s u=>hb _ _ _ _ _ _ s u⟩
end
variable {pos:Pos}
section
variable {p:Pos} {e:Expr} {es:List Expr} {t:TA}
theorem zix (C:Cal X.prog X.w X.K X.mg X.base k x ps sp) (hr:Room k X.A) (hg:Gl X x) (ha:PA X (e :: es) t) (hdb:(x == ("__debug__":Str)) = false:=by decide)
  (he:starEach (e :: es) X.env = (false,eval e X.env) :: starEach es X.env:=by rfl) (hpl:(backTo pos (starEach es X.env)).any (·.1) = false:=by rfl) :
  PE X (.Call (.Name x p) (e :: es) [] pos) (zgm sp [] E0 t):=by
 obtain ⟨f,fd,F,kp,b,g⟩:=C.ex
 exact zdh F hr hg g kp b .nil zjK ha hdb he hpl
end
theorem Bnd.of (h1:-(10 ^ n:Int) < i) (h2:i < 10 ^ n):Bnd n i:=by
 unfold Bnd
 have:((10 ^ n:Nat):Int) = (10:Int) ^ n:=by simp
 omega
theorem Bnd.hi (h:Bnd n i):i < 10 ^ n:=by
 unfold Bnd at h
 have:((10 ^ n:Nat):Int) = (10:Int) ^ n:=by simp
 omega
theorem Bnd.lo (h:Bnd n i):-(10 ^ n:Int) < i:=by
 unfold Bnd at h
 have:((10 ^ n:Nat):Int) = (10:Int) ^ n:=by simp
 omega
theorem Bnd.gcd {a b:Int} (h:0 < b) (k:Bnd n b):Bnd n ((Int.gcd a b:Nat):Int):=by
 unfold Bnd at *
 have h1:((Int.gcd a b:Nat):Int) ∣ b:=Int.gcd_dvd_right ..
 have h2:((Int.gcd a b:Nat):Int)<=b:=Int.le_of_dvd h h1
 omega
noncomputable abbrev za2:List Value:=[.type "ValueError",.type "Exception",.type "BaseException",.type "object"]
structure ExcAt (K:Frag) (mg:Str->Option Value) (x:Str) (C:Addr):Prop where
 bound:mg x = some (.ref C)
 obj:∀ h:Heap,K.In h->∃ bm N nm q bs hdct sn sub ab col dd k0 k1 k2 k3 k5 mN,h.get? C = some (excClassObj nm q C N bs bm hdct sn sub ab col dd k0 k1 k2 k3 k5 "ValueError.__new__")/\h.Ns N mN/\mN "__init__" = none/\OwnTail h za2 bm
noncomputable def zag (es:Array DictEntry):Bool:=es.toList.all (fun e=>match e.key with | .str _ _=>true | _=>false)
theorem zdk (X:K.In h) {N:Addr} {n:Str} {c:Value} {d:Option Addr} {es:Array DictEntry} {ep:Nat} (l:K.lookup N = some ⟨c,d,.dict es ep,sl⟩) (sk:zag es = true)
 (q:PySem.W.nsIn K N n = some none):∃ mN,h.Ns N mN/\mN n = none:=by
 have ho:=X _ _ l
 have hi:h.isNs N = true:=by
  unfold Heap.isNs
  rw [ho]
  unfold zag at sk
  rw [Array.all_toList] at sk
  exact sk
 refine ⟨h.nsMap N,Heap.Ns.of_isNs hi,?_⟩
 obtain ⟨o,es',ep',ho',hd',_,hf⟩:=Heap.Ns.of_isNs hi
 rw [← hf n]
 rw [ho] at ho'
 cases ho'
 cases hd'
 unfold PySem.W.nsIn at q
 rw [l] at q
 dsimp only at q
 unfold nsFind findBy
 cases e:es.toList.find? (·.key.isStr n) with
 | some e'=>rw [e] at q;cases q
 | none=>
  have:es.find? (fun e=>e.key.isStr n) = none:=by
   rw [← Array.find?_toList];exact e
  simp [this]
variable {H:Hp}
theorem ObjOk.there {a:Addr} {o:HO} (x:ObjOk P w H h a o):∃ u,h.get? a = some u:=by
 cases o with
 | lst xs=>obtain ⟨_,_,_,_,e⟩:=x;exact ⟨_,e⟩
 | tup xs=>obtain ⟨_,_,_,⟨ob,e,_⟩,_⟩:=x;exact ⟨_,e⟩
 | dK kvs=>obtain ⟨_,_,_,_,o,_,_,e,_⟩:=x;exact ⟨_,e⟩
 | dT kvs=>obtain ⟨_,_,_,_,o,_,_,e,_⟩:=x;exact ⟨_,e⟩
 | set S n=>obtain ⟨o,_,_,_,e,_⟩:=x;exact ⟨_,e⟩
 | ins C dx fs=>obtain ⟨_,_,_,e,_⟩:=x;exact ⟨_,e⟩
 | own y=>obtain ⟨_,e⟩:=x;exact ⟨_,e⟩
 | xd fs=>obtain ⟨_,⟨_,_,_,e,_⟩,_⟩:=x;exact ⟨_,e⟩
 | rng lo hi=>obtain ⟨_,_,_,e⟩:=x;exact ⟨_,e⟩
 | frz ob u=>obtain ⟨e,_⟩:=x;exact ⟨_,e⟩
 | tbl ps=>exact ⟨_,(show h.get? a = some _ from x)⟩
 | met f y=>exact ⟨_,(show h.get? a = some _ from x)⟩
 | ext φ=>obtain ⟨_,⟨_,e⟩,_⟩:=x;exact ⟨_,e⟩
noncomputable def CXC (P:Program) (w:World) (C:Addr):CXT:=fun l H s E ev s'=>∃ (e t:Addr) (B:Heap) (H':Hp),ev = .ref e/\Heap.FlyingW B l e (.ref C) (.ref t) s'.heap/\s'.os = s.os/\AllBare s'.gens /\
 Un (frs l) [] H H' s.heap s'.heap/\HOk P w H' s'.heap/\(∀ b o,s'.heap.get? b = some o->b ∉ frs l->(H' b ≠ none\/∃ o',s.heap.get? b = some o')->B.get? b = some o)/\(∀ b ∈ frs l,H' b = none)/\E (.ref C) none H'
theorem zgj {l:List Env} {H':Hp} {h1 h2 B:Heap} (u:Un (frs l) [] H H' h h1) (hok:HOk P w H' h1) (hB:∀ b o,h1.get? b = some o->b ∉ frs l->(H' b ≠ none\/∃ o',h.get? b = some o')->B.get? b = some o)
 (hfr:∀ b ∈ frs l,H' b = none) (hfn:∀ b ∈ frs l,∀ o,h1.get? b = some o->∀ vs,o.data ≠ .fields vs) (st:B.StaysIn h2) (up:h1.UpToSlots h2):Un (frs l) [] H H' h h2/\HOk P w H' h2:=by
 refine ⟨⟨fun b o e n nf nx=>?_,fun b o e n hf nx=>?_,u.free,fun b o e nx=>?_,u.tups,u.frzs,u.tbls⟩,fun a o e=>?_⟩
 ·exact st _ _ (hB b o (u.keep b o e n nf nx) nf (.inr ⟨o,e⟩))
 ·obtain ⟨sl,e1⟩:=u.slot b o e n hf nx
  obtain ⟨sl2,e2⟩:=up b _ e1 (hfn b hf _ e1)
  exact ⟨sl2,e2⟩
 ·obtain ⟨o1,e1⟩:=u.there b o e nx
  by_cases hf:b ∈ frs l
  ·obtain ⟨sl2,e2⟩:=up b _ e1 (hfn b hf _ e1)
   exact ⟨_,e2⟩
  ·exact ⟨_,st _ _ (hB b o1 e1 hf (.inr ⟨o,e⟩))⟩
 ·refine (hok a o e).stay (fun b v hb ev=>?_) (fun _ q=>q) fun _ _ q=>q
  have ht:H' b ≠ none:=by
   rcases hb with rfl | hb
   ·rw [e];simp
   ·rw [hb];simp
  exact st _ _ (hB b v ev (fun hf=>ht (hfr b hf)) (.inl ht))
noncomputable abbrev Cx.suite (X:Cx) (ev:Addr):Cx:={ X with A:=X.A.mark (some (.ref ev)),calm:=false,xe:=fun _ _=>False }
variable {s:Shared}
section
variable {pins:List (Addr × Obj)} {σ:St} {ev:Addr}
theorem Inv.suite (I:Inv X pins σ H s) (ev:Addr):Inv (X.suite ev) pins σ H s:=
 ⟨⟨I.ok.mod,I.ok.kind,I.ok.glob,I.ok.blt,I.ok.above,I.ok.inj,I.ok.has,I.ok.cab,(fun z=>by cases z),I.ok.frames,I.ok.stk,I.ok.exf,I.ok.bs,I.ok.bsz,I.ok.noex,I.ok.exfs,I.ok.funs,I.ok.frf⟩,I.os,I.bare,I.base,I.loc,I.cell,I.free,I.freeC,I.pin,I.hok,I.len⟩
theorem Inv.unsuite (ok:X.Ok) (I:Inv (X.suite ev) pins σ H s):Inv X pins σ H s:=⟨ok,I.os,I.bare,I.base,I.loc,I.cell,I.free,I.freeC,I.pin,I.hok,I.len⟩
theorem SP.unsuite (ok:X.Ok) {D:Ends} {f:Flow} {s':Shared} (h:SP (X.suite ev) pins D f s'):SP X pins D f s':=by
 cases f with
 | next=>obtain ⟨σ',H',I,q⟩:=h;exact ⟨σ',H',I.unsuite ok,q⟩
 | brk=>obtain ⟨σ',H',I,q⟩:=h;exact ⟨σ',H',I.unsuite ok,q⟩
 | cont=>obtain ⟨σ',H',I,q⟩:=h;exact ⟨σ',H',I.unsuite ok,q⟩
 | ret u=>obtain ⟨v,σ',H',I,r,q⟩:=h;exact ⟨v,σ',H',I.unsuite ok,r,q⟩
end
theorem zf4 (x:V) (f:yy x = true):eqV x x = true:=by
 cases x with
 | non=>rfl
 | bl b=>simp [eqV]
 | int i=>simp [eqV]
 | str z=>simp [eqV]
 | _=>exact absurd (show false = true from f) Q4
section
def CDivS (_ j:Int):Prop:=j ≠ 0/\∃ n,Bnd n j/\n<=2000
theorem CDivS.ok (h:CDivS i j):Builtin.divisionGoesByPylong i j = false:=by
 obtain ⟨h0,n,h1,h2⟩:=h
 refine PyProof.noPylong_of_log2 ?_
 have hz:j.natAbs ≠ 0:=by omega
 have e:(2:Nat) ^ (4 * n) = 16 ^ n:=by rw [Nat.pow_mul]
 have h3:j.natAbs < 2 ^ (4 * n):=by
  rw [e]
  exact Q5 h1 (Nat.pow_le_pow_left (by decide) n)
 have h4:j.natAbs.log2 < 4 * n:=(Nat.log2_lt hz).mpr h3
 omega
theorem zfE:OpR X (binaryOp .FloorDiv) (rI CDivS fun i j=>.int (i.fdiv j)):=opI fun _ _ _ _ _ _ _ hc q=>floordiv_int hc.1 q (.inl hc.ok)
end
structure CalX (P:Program) (w:World) (K:Frag) (mg:Str->Option Value) (base:Heap) (C:Addr) (k:Nat) (x:Str) (ps:List Str) (sp:Sp):Prop where
 ex:∃ (f:Addr) (fd:FuncData),FnOk P w K mg base (CXC P w C) k f fd ps sp/\PySem.W.keepIn K (.ref f) = true/\Binds K fd ps []/\mg x = some (.ref f)
theorem qS {name:Str} {acc:List (Str × Addr)} {c:Addr} (e:((name,n) :: acc).lookup x = some c):(x = name/\c = n)\/acc.lookup x = some c:=by
 rw [lookup_cons] at e
 split at e
 ·rename_i h;cases e;exact .inl ⟨eq_of_beq h,rfl⟩
 ·exact .inr e
theorem zcK:∀ (names:List (Str × NameKind)) (n:Nat) (acc:List (Str × Addr)),(∀ x y c,acc.lookup x = some c->acc.lookup y = some c->x = y)->(∀ x c,acc.lookup x = some c->c < n)->∀ x y c,(cellsFrom n names acc).lookup x = some c->(cellsFrom n names acc).lookup y = some c->x = y
 | [],_,_,h,_,x,y,c,e1,e2=>h x y c e1 e2
 | (name,kind) :: r,n,acc,h,lt,x,y,c,e1,e2=>by
  unfold cellsFrom at e1 e2
  split at e1
  ·rename_i hk
   rw [if_pos hk] at e2
   refine zcK r (n + 1) ((name,n) :: acc) (fun x y c f1 f2=>?_) (fun x c f=>?_) x y c e1 e2
   ·rcases qS f1 with ⟨g1,g2⟩ | g1 <;> rcases qS f2 with ⟨g3,g4⟩ | g3
    ·rw [g1,g3]
    ·subst g2;exact absurd (lt _ _ g3) (Qm _)
    ·subst g4;exact absurd (lt _ _ g1) (Qm _)
    ·exact h x y c g1 g3
   ·rcases qS f with ⟨g1,g2⟩ | g1
    ·subst g2;exact Nat.lt_succ_self _
    ·exact Nat.lt_succ_of_lt (lt _ _ g1)
  ·rename_i hk
   rw [if_neg hk] at e2
   exact zcK r n acc h lt x y c e1 e2
theorem zd0 {x:Str} {c:Addr}:∀ (names:List (Str × NameKind)) (n:Nat) (acc:List (Str × Addr)),(cellsFrom n names acc).lookup x = some c->acc.lookup x = some c\/n<=c
 | [],_,_,e=>.inl e
 | (name,kind) :: r,n,acc,e=>by
  unfold cellsFrom at e
  split at e
  ·rcases zd0 r (n + 1) _ e with f | f
   ·rcases qS f with ⟨_,g⟩ | g
    ·exact .inr (Nat.le_of_eq g.symm)
    ·exact .inl g
   ·exact .inr (by omega)
  ·exact zd0 r n acc e
theorem zd1 {x:Str} {c:Addr} {lo:Nat}:∀ (names:List (Str × NameKind)) (n:Nat) (acc:List (Str × Addr)),lo<=n->(∀ c,acc.lookup x = some c->lo<=c)->(cellsFrom n names acc).lookup x = some c->lo<=c
 | [],_,_,_,h,e=>h _ e
 | (name,kind) :: r,n,acc,hn,h,e=>by
  unfold cellsFrom at e
  split at e
  ·refine zd1 r (n + 1) _ (Nat.le_succ_of_le hn) (fun c f=>?_) e
   rcases qS f with ⟨_,g⟩ | g
   ·subst g;exact hn
   ·exact h _ g
  ·exact zd1 r n acc hn h e
theorem zcI {x:Str} {c:Addr}:∀ (names:List (Str × NameKind)) (n:Nat) (acc:List (Str × Addr)),names.lookup x = some .cell->(cellsFrom n names acc).lookup x = some c->n<=c
 | [],_,_,h,_=>by cases h
 | (name,kind) :: r,n,acc,h,e=>by
  unfold cellsFrom at e
  rw [lookup_cons] at h
  split at h
  ·rename_i hx
   cases h
   rw [if_pos (show (NameKind.cell == NameKind.cell) = true from rfl)] at e
   refine zd1 r (n + 1) _ (Nat.le_succ _) (fun c f=>?_) e
   rw [lookup_cons,hx] at f
   cases f;exact Q3 _
  ·split at e
   ·exact Nat.le_of_succ_le (zcI r (n + 1) _ h e)
   ·exact zcI r n acc h e
theorem zcJ {x:Str}:∀ (names:List (Str × NameKind)) (n:Nat) (acc:List (Str × Addr)),(∀ y ∈ names,y.2 = .cell->y.1 ≠ x)->(cellsFrom n names acc).lookup x = acc.lookup x
 | [],_,_,_=>rfl
 | (name,kind) :: r,n,acc,h=>by
  unfold cellsFrom
  split
  ·rename_i hk
   rw [zcJ r (n + 1) _ fun y hy=>h y (mem_cons_of_mem _ hy),lookup_cons]
   have:(x == name) = false:=by
    cases q:x == name with
    | false=>rfl
    | true=>exact absurd (eq_of_beq q).symm (h (name,kind) mem_cons_self (eq_of_beq hk))
   rw [this]
  ·exact zcJ r n acc fun y hy=>h y (mem_cons_of_mem _ hy)
theorem zbB:∀ (names:List (Str × NameKind)) (h:Heap) (acc:List (Str × Addr)),(∀ x c,acc.lookup x = some c->∃ v,h.IsCell c v)->∀ x c,(cellsFrom h.objs.size names acc).lookup x = some c->∃ v,(pushCells h names).IsCell c v
 | [],_,_,k,x,c,e=>k x c e
 | (name,kind) :: r,h,acc,k,x,c,e=>by
  unfold cellsFrom at e
  unfold pushCells
  split at e
  ·rename_i hk
   rw [if_pos hk]
   refine zbB r (h.push { cls:=.type "cell",data:=.cell none }) ((name,h.objs.size) :: acc) (fun x c f=>?_) x c (by rw [Heap.size_push];exact e)
   rcases qS f with ⟨_,g⟩ | g
   ·subst g;exact ⟨none,_,Qj _ rfl,rfl⟩
   ·obtain ⟨v,q⟩:=k x c g
    exact ⟨v,q.keeps fun b o e=>Q2 _ e⟩
  ·rename_i hk
   rw [if_neg hk]
   exact zbB r h acc k x c e
variable {A:Around} {cl:List (Str × Addr)} {scope:Scope}
theorem zP {M:Model} {E:Value->Shared->Prop} {globals:Addr} {qual:Str} {env:Env} {builtins:Addr} {Q:Env->Shared->Prop}
 (hQ:∀ h',h'.Ns s.heap.objs.size (fun _=>none)->h' = pushCells (s.heap.push { cls:=.type "dict",data:=.dict #[] }) scope.names->
 Q (newEnv scope s.heap.objs.size globals (cellsFrom (s.heap.objs.size + 1) scope.names cl) qual none .none (some env) builtins) { s with heap:=h' }) :
  wpAny M A (newFunctionEnv scope globals cl [] qual none .none (some env) builtins) Q E s:=by
 simp only [newFunctionEnv,Option.isSome_some,if_true]
 refine Q1 (wpAny_alloc ?_)
 refine Q1 (wpAny_layCells _ (fun name kind cells=>by cases hkc:kind == NameKind.cell <;> simp [hkc]) _ _ _ _ ?_)
 rw [show ({ s with heap:=s.heap.push { cls:=.type "dict",data:=.dict #[] } }:Shared).heap.objs.size = s.heap.objs.size + 1 from Heap.size_push ..]
 refine Q1 ?_
 rw [List.forIn_nil]
 exact Qd (Qd (hQ _ ((Heap.Ns.new s.heap (.type "dict")).keeps (pushCells_keeps _ _)) rfl))
noncomputable def zcT (scope:Scope) (cl:List (Str × Addr)) (C:Addr) (env:Env):Env:={ compEnvC scope cl C env with cells:=cellsFrom (C + 1) scope.names cl }
noncomputable def Cx.block (X:Cx) (scope:Scope) (cl:List (Str × Addr)) (N:List Str) (ex:List Addr) (s0:Shared) (H0:Hp):Cx where
 prog:=X.prog
 w:=X.w
 K:=X.K
 mg:=X.mg
 base:=X.base
 A:=X.A
 N:=N
 s₀:=s0
 H₀:=H0
 env:=zcT scope cl s0.heap.objs.size X.env
 outer:=X.stack
 stack:=X.stack
 ex:=ex
 fn:=fun x=>scope.names.lookup x == some .cell
 calm:=X.calm
 pn:=[]
 xe:=fun _ _=>False
def PTs (X:Cx) (ifs:List Expr) (t:TT):Prop:=
 ∀ (pins:List (Addr × Obj)) (s:Shared) (σ:St) (H:Hp) (Q:Bool->Hp->Prop),Inv X pins σ H s->t σ H Q->
  wpAny (model X.prog X.w) X.A (forIn ifs true fun c r=>if r = true then do let ok ← isTrue c X.env (eval c X.env);pure (ForInStep.yield ok) else pure (ForInStep.yield r)) (TP X pins σ Q) X.xe s
noncomputable def zju:TT:=fun _ H Q=>Q true H
theorem zgR:PTs X [] zju:=fun _ _ _ H _ I h=>wpAny_tests_nil ⟨H,I,h⟩
noncomputable def y4 (tgs:List Str) (caps:List (Str × Nat)) (σ:St):St:=tgs.map (fun _=>none) ++ caps.map fun c=>(σ[c.2]?).join
noncomputable def zgl (wi:TI) (g:TG) (tc:TT) (te:TE) (σ0:St->St):TE:=fun σ H Q=>wi σ H fun J H1=>∀ D,H1 D = none->∃ W:Nat->Nat->St->Hp->Prop,(∃ m,W 0 m (σ0 σ) (upd H1 D (.lst [])))/\∀ i m σ' H',W i m σ' H'->
 (J.stop i H'/\Q (.ref D) H')\/(J.go i H'/\∃ N:St->Hp->Prop,(∀ σ'' H'',N σ'' H''->∃ m',m' < m/\W (i + 1) m' σ'' H'')/\∀ x H2,J.yld i H' x H2->g x σ' H2 fun σ2 H3=>tc σ2 H3 fun b H4=>
  if b = true then te σ2 H4 fun v H5=>∃ ys,H5 D = some (.lst ys)/\ys.length < sizeLine/\N σ2 (upd H5 D (.lst (ys ++ [v]))) else N σ2 H4)
variable {elt iter:Expr} {ifs:List Expr}
theorem zas {prog:Program} {R:Result->Shared->Prop} {target:Expr} {it acc:Value} {env:Env} (I:Nat->Shared->Prop)
 (turn:∀ n s,I n s->wpAny (model prog w) A (pyNext it) (fun r s₁=>match r with
 | none=>R (.ok .next) s₁
 | some v=>wpAny (model prog w) A (letOwnedTupleGo target it v) (fun _ s₁'=>wpAny (model prog w) A (assign target env v) (fun _ s₂=>
 wpAny (model prog w) A (forIn ifs true fun c r=>if r = true then do let ok ← isTrue c env (eval c env);pure (ForInStep.yield ok) else pure (ForInStep.yield r)) (fun ok s₃=>
 if ok = true then wpAny (model prog w) A (eval elt env) (fun x s₄=>
 wpAny (model prog w) A (call (.builtin "list.append") [acc,x]) (fun _ s₅=>∃ m,m < n/\I m s₅) (notedBy (model prog w) A env fun e s'=>R (.error e) s') s₄) (notedBy (model prog w) A env fun e s'=>R (.error e) s') s₃
 else ∃ m,m < n/\I m s₃) (notedBy (model prog w) A env fun e s'=>R (.error e) s') s₂) (notedBy (model prog w) A env fun e s'=>R (.error e) s') s₁') (notedBy (model prog w) A env fun e s'=>R (.error e) s') s₁) (notedBy (model prog w) A env fun e s'=>R (.error e) s') s)
 (n:Nat) (h:I n s):codeAny (model prog w) A (.compLoop (.ListComp elt [⟨target,iter,ifs,0⟩] scope pos) 0 it acc env) R s:=by
 refine codeAny_loop rfl I (fun n s hI=>?_) n h
 show wpAny _ A ((compTurn (.ListComp elt [⟨target,iter,ifs,0⟩] scope pos) 0 it acc env).onRaise (fun x=>do noteFrame x env;theTreesLotGoes x)) _ _ s
 refine wpAny_noted ?_
 rw [compTurn_list]
 refine Q1 (wpAny_standAt (Q1 (Qe (turn n s hI) (fun r s₁ h₁=>?_) fun _ _ h'=>h')))
 cases r with
 | none=>exact Qd h₁
 | some v=>
  refine Q1 (Qe h₁ (fun _ s₁' h₁'=>?_) fun _ _ h'=>h')
  refine Q1 (Qe h₁' (fun _ s₂ h₂=>Q1 (Qe h₂ (fun ok s₃ h₃=>?_) fun _ _ h'=>h')) fun _ _ h'=>h')
  cases ok with
  | false=>exact Qd ⟨rfl,h₃⟩
  | true=>
   exact Q1 (Q1 (Qe h₃ (fun x s₄ h₄=>Q1 (Qe h₄ (fun _ s₅ h₅=>Qd (Qd ⟨rfl,h₅⟩)) fun _ _ h'=>h')) fun _ _ h'=>h'))
variable {tg:Expr} {wi:TI}
section
theorem zg3 {tgs:List Str} {caps:List (Str × Nat)} {g:TG} {tc:TT} {te:TE}
 (hc:X.calm = true) (hi:PI X tg iter wi) (hclos:closureFor scope X.env = pure cl) (hcell:∀ y ∈ scope.names,y.2 = .cell->y.1 ∉ caps.map (·.1)) (hkind:scope.kind = .function)
 (hnames:∀ y ∈ scope.names,y.2 = .local->scope.names.lookup y.1 = some .local)
 (hcl:∀ y c,cl.lookup y = some c->X.env.cells.lookup y = some c)
 (hhas:∀ n y,((relabel scope X.env).names.lookup y = some .cell\/(relabel scope X.env).names.lookup y = some .free)->∃ c,(cellsFrom n scope.names cl).lookup y = some c)
 (hcap:∀ c ∈ caps,X.N[c.2]? = some c.1/\X.env.kindOf c.1 = some .cell/\((relabel scope X.env).names.lookup c.1 = some .cell\/(relabel scope X.env).names.lookup c.1 = some .free))
 (hg:∀ ex s0 H0,PG (X.block scope cl (tgs ++ caps.map (·.1)) ex s0 H0) tg g) (hif:∀ ex s0 H0,PTs (X.block scope cl (tgs ++ caps.map (·.1)) ex s0 H0) ifs tc) (hel:∀ ex s0 H0,PE (X.block scope cl (tgs ++ caps.map (·.1)) ex s0 H0) elt te)
 (hs:∀ x,foldedSetIterable iter X.env x = pure x:=by intro _;rfl) :
  PE X (.ListComp elt [⟨tg,iter,ifs,0⟩] scope pos) (zgl wi g tc te (y4 tgs caps)):=by
 intro pins s σ H Q I h
 rw [eval_ListComp]
 refine wpAny_comprehension_free (use:=none) rfl hs hclos hkind hnames (thn (hi pins s σ H _ I h) fun v s1 h1=>thn h1 fun itv s2 h2=>?_)
 obtain ⟨it,fp,tn,J,H2,e,I2,T,st2,f2,hrest⟩:=h2
 subst e
 -- the new list
 have hD:H2 s2.heap.objs.size = none:=I2.fresh
 obtain ⟨W,⟨m0,w0⟩,turn⟩:=hrest _ hD
 refine wpAny_newObj_type ?_ (by show 0<=sizeLine;decide)
 have I3:Inv X pins σ (upd H2 s2.heap.objs.size (.lst [])) { s2 with heap:=s2.heap.push { cls:=.type "list",data:=.seq ([]:List Value).toArray } }:=I2.lnew (t':=s2.toks) (ys:=[]) (its:=[]) .nil (by show 0<=sizeLine;decide)
 generalize hs3:({ s2 with heap:=s2.heap.push { cls:=.type "list",data:=.seq ([]:List Value).toArray } }:Shared) = s3 at I3
 have lt2:∀ b o,s2.heap.get? b = some o->s3.heap.get? b = some o:=fun b o e=>by rw [← hs3];exact Q2 _ e
 have sz3:s2.heap.objs.size < s3.heap.objs.size:=by rw [← hs3];show _ < (s2.heap.push _).objs.size;rw [Heap.size_push];exact Nat.lt_succ_self _
 have st3:tn 0 s3.heap:=T.keep 0 _ _ st2 fun b _ o e=>lt2 b o e
 have fplt:∀ b ∈ fp,b < s2.heap.objs.size:=fun b hb=>by
  obtain ⟨o,e,_⟩:=T.obj 0 _ st2 b hb
  exact Qc e
 generalize hH3:upd H2 s2.heap.objs.size (.lst []) = H3 at I3 w0
 have fr3:∀ b ∈ fp,H3 b = none:=fun b hb=>by rw [← hH3,yd (Qi (fplt b hb))];exact (f2 b hb).1
 have nstk:∀ b ∈ fp,b ∉ frs X.stack:=fun b hb z=>by
  obtain ⟨_,n1,n2,_⟩:=f2 b hb
  rcases mem_cons.mp (I2.stkSub b z) with z | z
  ·exact n1 z
  ·exact n2 z
 refine zP fun h4 ns4 sb4=>?_
 have keep4:∀ b o,s3.heap.get? b = some o->h4.get? b = some o:=fun b o e=>by rw [sb4];exact pushCells_keeps _ _ b o (Q2 _ e)
 have clt:∀ x c,cl.lookup x = some c->c < s3.heap.objs.size:=fun x c e=>by
  obtain ⟨v,q⟩:=I3.cell x c (hcl x c e)
  exact q.lt
 have cor:∀ x c,(cellsFrom (s3.heap.objs.size + 1) scope.names cl).lookup x = some c->cl.lookup x = some c\/s3.heap.objs.size + 1<=c:=fun x c e=>zd0 _ _ _ e
 have cne:∀ b ∈ fp,∀ x c,(cellsFrom (s3.heap.objs.size + 1) scope.names cl).lookup x = some c->c ≠ b:=fun b hb x c e=>by
  rcases cor x c e with e | e
  ·exact (f2 b hb).2.2.2.2.1 x c (hcl x c e)
  ·exact Nat.ne_of_gt (Q5 (Nat.lt_trans (fplt b hb) sz3) (Nat.le_of_succ_le e))
 have neC:∀ b ∈ fp,b ≠ s3.heap.objs.size:=fun b hb=>Qi (Nat.lt_trans (fplt b hb) sz3)
 have ok':(X.block scope cl (tgs ++ caps.map (·.1)) fp s3 H3).Ok:=
  ⟨I.ok.mod,hkind,I.ok.glob,I.ok.blt,Q3 _,zcK _ _ _ (fun x y c e1 e2=>I.ok.inj x y c (hcl x c e1) (hcl y c e2)) (fun x c e=>Nat.lt_succ_of_lt (clt x c e)),hhas _,(fun x c z e=>Nat.le_of_succ_le (zcI _ _ _ (eq_of_beq z) e)),I.ok.hd,I.ok.frames,.inl rfl,
   fun b hb=>⟨neC b hb,cne b hb⟩,I3.bs,Qh I.ok.bsz I3.sz,fun b o e hb=>by
    rcases (f2 b hb).2.2.2.1 with z | z
    ·exact I.ok.noex b o e z
    ·exact absurd (Q5 (Qc e) (Qh I.ok.bsz z)) (Qm _),
   nstk,I3.stack,I3.stkFree⟩
 have I4:Inv (X.block scope cl (tgs ++ caps.map (·.1)) fp s3 H3) [] (y4 tgs caps σ) H3 { s3 with heap:=h4 }:=by
  refine ⟨ok',rfl,I3.bare,Un.kept keep4,⟨_,ns4,fun i x v e1 e2 e3=>?_⟩,fun x c e=>?_,I3.hok.fresh (Q3 _),fun x c e=>(cor x c e).elim (fun e=>I3.freeC x c (hcl x c e)) (fun e=>I3.hok.fresh (Nat.le_of_succ_le e)),fun p hp=>by simp [Cx.block] at hp,I3.hok.kept keep4,by simp [y4,Cx.block]⟩
  ·-- a captured name
   have hlen:(tgs.map (fun _=>(none:Option V))).length = tgs.length:=by simp
   by_cases hi:i < tgs.length
   ·have:(y4 tgs caps σ)[i]? = some none:=by
     unfold y4
     rw [Q6 (by simpa using hi)]
     simp [hi]
    rw [this] at e2
    cases e2
   ·have e1':(tgs ++ caps.map (·.1))[i]? = some x:=e1
    rw [Q7 (by omega),Qa] at e1'
    have e2':=e2
    unfold y4 at e2'
    rw [Q7 (by simpa using hi),hlen,Qa] at e2'
    cases hcq:caps[i - tgs.length]? with
    | none=>rw [hcq] at e1';cases e1'
    | some cq=>
     rw [hcq] at e1' e2'
     have ex:cq.1 = x:=Qb e1'
     have ev:(σ[cq.2]?).join = some v:=Qb e2'
     obtain ⟨c1,c2,c3⟩:=hcap cq (Q9 hcq)
     have ev':σ[cq.2]? = some (some v):=by
      cases q:σ[cq.2]? with
      | none=>rw [q] at ev;cases ev
      | some o=>rw [q] at ev;cases o with
       | none=>cases ev
       | some v'=>rw [show v' = v from Qb ev]
     obtain ⟨m,hn,hl⟩:=I3.loc
     obtain ⟨u,r,lk⟩:=hl cq.2 cq.1 v c1 ev' (.inr (.inl c2))
     rcases lk with ⟨k1,_⟩ | ⟨_,c,ec,icl⟩
     ·rw [c2] at k1;cases k1
     ·obtain ⟨c',ec'⟩:=hhas (s3.heap.objs.size + 1) cq.1 c3
      have ec2:=ec'
      rw [zcJ _ _ _ fun y hy hk hyx=>hcell y hy hk (by rw [hyx];exact List.mem_map_of_mem (Q9 hcq))] at ec2
      have:=hcl _ _ ec2
      rw [ec] at this
      cases this
      refine ⟨u,r,.inr ⟨?_,c,?_,?_⟩⟩
      ·rw [← ex];exact c3
      ·rw [← ex];exact ec'
      ·obtain ⟨o,ho,hd⟩:=icl
       exact ⟨o,keep4 _ _ ho,hd⟩
  ·show ∃ v,h4.IsCell c v
   rw [sb4]
   refine zbB scope.names _ cl (fun x c f=>?_) x c (by rw [Heap.size_push];exact e)
   obtain ⟨v,o,ho,hd⟩:=I3.cell x c (hcl x c f)
   exact ⟨v,o,Q2 _ ho,hd⟩
 have stat:∀ {H':Hp},(∀ b ∈ fp,H' b = none)->∀ b ∈ fp,za4 (X.block scope cl (tgs ++ caps.map (·.1)) fp s3 H3) [] H' b:=fun hn b hb=>
  ⟨hn b hb,neC b hb,nstk b hb,.inl hb,cne b hb,fun p hp=>by simp [Cx.block] at hp⟩
 have st4:tn 0 h4:=T.keep 0 _ _ st3 fun b _ o e=>keep4 b o e
 have loop:codeAny (model X.prog X.w) X.A (.compLoop (.ListComp elt [⟨tg,iter,ifs,0⟩] scope pos) 0 (.ref it) (.ref s2.heap.objs.size) (zcT scope cl s3.heap.objs.size X.env))
   (compPost (model X.prog X.w) X.A X.xe none (EP X pins σ Q) (.ref s2.heap.objs.size) s3.heap.objs.size) { s3 with heap:=h4 }:=by
  refine zas (fun n s'=>∃ i σ' H',Inv (X.block scope cl (tgs ++ caps.map (·.1)) fp s3 H3) [] σ' H' s'/\tn i s'.heap/\(∀ b ∈ fp,H' b = none)/\W i n σ' H') ?_ m0 ⟨0,_,H3,I4,st4,fr3,w0⟩
  rintro n s5 ⟨i,σ5,H5,I5,st5,fr5,w5⟩
  rcases turn i n σ5 H5 w5 with ⟨stop,qn⟩ | ⟨go,N,hN,step⟩
  ·refine Qe (T.done (X.block scope cl (tgs ++ caps.map (·.1)) fp s3 H3) rfl rfl rfl hc i [] s5 σ5 H5 (fun _ _=>False) I5 (stat fr5) st5 stop) (fun r s6 ⟨hr,I6⟩=>?_) fun _ _ z=>False.elim z
   subst hr
   obtain ⟨m6,hn6,_⟩:=I6.loc
   refine ⟨m6,hn6,fun h' sb=>?_⟩
   have nb:∀ b o,s3.heap.get? b = some o->b ≠ s3.heap.objs.size:=fun b o e=>Qi (Qc e)
   have eqb:∀ b,b ≠ s3.heap.objs.size->h'.get? b = s6.heap.get? b:=fun b hb=>sb.2 b hb
   have uX:Un (frs X.stack) fp H3 H5 s3.heap h':=by
    have u:=I6.base
    refine ⟨fun b o e a1 a2 a3=>?_,fun b o e a1 a2 a3=>?_,u.free,fun b o e a3=>?_,u.tups,u.frzs,u.tbls⟩
    ·rw [eqb b (nb b o e)];exact u.keep b o e a1 a2 a3
    ·rw [eqb b (nb b o e)];exact u.slot b o e a1 a2 a3
    ·rw [eqb b (nb b o e)];exact u.there b o e a3
   have hokX:HOk X.prog X.w H5 h':=fun a o e=>(I6.hok a o e).stay (fun b u hb eu=>by
    have hbC:b ≠ s3.heap.objs.size:=fun z=>by
     have hfC:H5 s3.heap.objs.size = none:=I6.free
     rcases hb with rfl | hb
     ·rw [z,hfC] at e;cases e
     ·rw [z,hfC] at hb;cases hb
    rw [eqb b hbC];exact eu) (fun _ q=>q) fun _ _ q=>q
   have os6:s6.os = s3.os:=I6.os
   exact ⟨.ref s2.heap.objs.size,H5,I3.call' (s':={ s6 with heap:=h' }) (ch:=fp) os6 uX hokX I6.bare (fun b hb=>⟨(f2 b hb).2.2.2.1,(f2 b hb).2.1,(f2 b hb).2.2.2.2.1,(f2 b hb).2.2.2.2.2⟩),rfl,qn⟩
  ·refine Qe (T.item (X.block scope cl (tgs ++ caps.map (·.1)) fp s3 H3) rfl rfl rfl hc i [] s5 σ5 H5 (fun _ _=>False) I5 (stat fr5) st5 go) (fun r s6 ⟨u,hr,h6⟩=>?_) fun _ _ z=>False.elim z
   subst hr
   refine Qe h6 (fun _ s7 ⟨x,H7,I7,r7,y7,st7,fr7⟩=>?_) fun _ _ z=>False.elim z
   have I7':=I7.pinned (stat fr7) (T.obj _ _ st7)
   have again:∀ {s9:Shared} {σ9:St} {H9:Hp},Inv (X.block scope cl (tgs ++ caps.map (·.1)) fp s3 H3) ([] ++ zaz fp s7.heap) σ9 H9 s9->N σ9 H9->
     ∃ m,m < n/\∃ i σ' H',Inv (X.block scope cl (tgs ++ caps.map (·.1)) fp s3 H3) [] σ' H' s9/\tn i s9.heap/\(∀ b ∈ fp,H' b = none)/\W i m σ' H':=fun {s9 σ9 H9} I9 n9=>by
    obtain ⟨m',hm,w9⟩:=hN σ9 H9 n9
    refine ⟨m',hm,i + 1,σ9,H9,I9.unpinned,T.keep _ _ _ st7 fun b hb o e=>(I9.pin (b,o) (Qk _ (Qk _ (yR hb e)))).1,fun b hb=>?_,w9⟩
    obtain ⟨o,e,d⟩:=T.obj _ _ st7 b hb
    exact (I9.pin (b,o) (Qk _ (Qk _ (yR hb e)))).2.1
   refine Qe (hg fp s3 H3 _ s7 σ5 H7 x u _ I7' r7 (step x H7 y7)) (fun _ s8 ⟨σ8,H8,I8,q8⟩=>?_) fun _ _ z=>False.elim z
   refine Qe (hif fp s3 H3 _ s8 σ8 H8 _ I8 q8) (fun b s9 ⟨H9,I9,q9⟩=>?_) fun _ _ z=>False.elim z
   cases b with
   | false=>
    rw [if_neg Q4] at q9
    rw [if_neg Q4]
    exact again I9 q9
   | true=>
    rw [if_pos rfl] at q9
    rw [if_pos rfl]
    refine Qe (hel fp s3 H3 _ s9 σ8 H9 _ I9 q9) (fun xv s10 ⟨v,H10,I10,rv,ys,hy,hl,q10⟩=>?_) fun _ _ z=>False.elim z
    refine Qe (zbK (X:=X.block scope cl (tgs ++ caps.map (·.1)) fp s3 H3) _ s10 σ8 H10 (.ref s2.heap.objs.size) [v] (.ref s2.heap.objs.size) [xv] (fun _ H11=>N σ8 H11) I10 rfl (.cons rv .nil) ⟨_,ys,v,rfl,rfl,hy,hl,q10⟩) (fun _ s11 ⟨_,H11,I11,_,q11⟩=>again I11 q11) fun _ _ z=>False.elim z
 exact codeAny_compStart_list loop (T.self _ 0 _ _ _ st4 loop)
end
noncomputable def Each {α:Type} (P:α->Prop):List α->Prop
 | []=>True
 | a :: l=>P a/\Each P l
theorem Each.of {α:Type} {P:α->Prop}:∀ {l:List α},Each P l->∀ a ∈ l,P a
 | _ :: _,⟨h,_⟩,_,.head _=>h
 | _ :: _,⟨_,h⟩,_,.tail _ m=>Each.of h _ m
variable {l:List (Str × NameKind)}
theorem lookup_mem {y:Str} {k:NameKind} (h:l.lookup y = some k):(y,k) ∈ l:=by
 induction l with
 | nil=>cases h
 | cons p l ih=>
  obtain ⟨n,k'⟩:=p
  rw [lookup_cons] at h
  cases e:y == n with
  | true=>
   rw [e] at h
   cases h
   rw [eq_of_beq e]
   exact .head _
  | false=>
   rw [e] at h
   exact .tail _ (ih h)
theorem ziW (h:Each (fun p=>(p.2 = .cell\/p.2 = .free)->∃ c,cl.lookup p.1 = some c) l) (y:Str) (q:l.lookup y = some .cell\/l.lookup y = some .free):∃ c,cl.lookup y = some c:=by
 rcases q with q | q
 ·exact h.of _ (lookup_mem q) (.inl rfl)
 ·exact h.of _ (lookup_mem q) (.inr rfl)
theorem PI.or {wi':TI} (h:PI X tg iter wi) (h':PI X tg iter wi'):PI X tg iter (fun σ H R=>wi σ H R\/wi' σ H R):=fun pins s σ H R I q=>q.elim (h pins s σ H R I) (h' pins s σ H R I)
theorem zhM {bs:List Bool} {its:List Value} (r:Vals (bs.map V.bl) its) {i:Nat} {v:Value} (e:its[i]? = some v):∃ b,bs[i]? = some b/\v = .bool b:=by
 have hl:=r.length
 rw [Qf] at hl
 have hi:i < its.length:=(List.getElem?_eq_some_iff.mp e).1
 have eb:bs[i]? = some bs[i]:=by simp [show i < bs.length by omega]
 have em:(bs.map V.bl)[i]? = some (V.bl bs[i]):=by rw [Qa,eb];rfl
 obtain ⟨u,e2,q⟩:=Vals.get r em
 rw [e] at e2
 cases e2
 exact ⟨_,eb,q⟩
theorem range_all (bs:List Bool):(List.range bs.length).all (fun i=>bs.getD i false) = bs.all id:=by
 rw [Bool.eq_iff_iff,all_eq_true,all_eq_true]
 constructor
 ·intro h b hb
  obtain ⟨i,hi,rfl⟩:=getElem_of_mem hb
  have:=h i (mem_range.mpr hi)
  simpa [List.getD,hi] using this
 ·intro h i hi
  have hi':=mem_range.mp hi
  have:=h bs[i] (List.getElem_mem hi')
  simpa [List.getD,hi'] using this
section
theorem ze8 (hc:X.calm = true):CallR X (.builtin "all") (fun xs H Q=>∃ (p:Addr) (bs:List Bool),xs = [.ref p]/\SqL X.K H p (bs.map V.bl)/\Q (.bl (bs.all id)) H):=by
 intro pins s σ H xs us Q I r h
 obtain ⟨p,bs,rfl,hq,q⟩:=h
 obtain ⟨u,rfl,rx⟩:=vals1 r
 cases rx
 obtain ⟨its,r',pl,hz⟩:=I.list hq
 have hlen:=r'.length
 rw [Qf] at hlen
 refine call_all_walk (wpAny_pyIter_list pl.isList ?_)
 have hlt:p < s.heap.objs.size:=by
  obtain ⟨o,n,ho,_⟩:=pl
  exact Qc ho
 refine ⟨s.heap.objs.size,_,_,_,_,_,fun i=>bs.getD i false,rfl,Walks.list (by exact I.ok.hd hc) _ p (Qi hlt) its.toArray,⟨⟨_,Qj _ rfl,rfl,rfl⟩,?_⟩,?_,fun h' tk hk=>?_⟩
 ·obtain ⟨o,ho,c⟩:=pl.isList
  exact ⟨o,Q2 _ ho,c⟩
 ·intro i v s' Q' E' e hq'
  obtain ⟨b,eb,rfl⟩:=zhM r' (show its[i]? = some v by simpa using e)
  have:bs.getD i false = b:=by simp [List.getD,eb]
  have hq2:Q' (bs.getD i false) s':=hq'
  rw [this] at hq2
  exact wpAny_truthy_bool hq2
 ·have e:(List.range its.toArray.size).all (fun i=>bs.getD i false) = bs.all id:=by
   rw [← range_all bs,show its.toArray.size = bs.length by simp [hlen]]
  rw [e]
  refine ⟨.bl (bs.all id),H,I.kept (t':=tk) (fun b o eb=>hk b o (fun z=>?_) (Q2 _ eb)),rfl,q⟩
  have z':b = s.heap.objs.size:=by simpa using z
  exact absurd (Qc eb) (by rw [z'];exact Qm _)
end
section
noncomputable def zjE (K:Frag):R2:=fun x y H Q=>∃ a b xs ys,x = .ref a/\y = .ref b/\SqT K H a xs/\SqT K H b ys/\xs.length + ys.length<=sizeLine /\
 (xs = []->Q (.ref b) H)/\(xs ≠ []->ys = []->Q (.ref a) H)/\(xs ≠ []->ys ≠ []->∀ p,H p = none->Q (.ref p) (upd H p (.tup (xs ++ ys))))
theorem zhe:OpR X (binaryOp .Add) (zjE X.K):=by
 intro pins s σ H x y v u Q I rx ry h
 obtain ⟨a,b,xs,ys,rfl,rfl,ha,hb,hz,q0,q1,q2⟩:=h
 by_cases hx:xs = []
 ·cases rx
  cases ry
  obtain ⟨its,r1,p1,_⟩:=I.tuple ha
  obtain ⟨its2,r2,p2,_⟩:=I.tuple hb
  obtain ⟨⟨cls,dd,data,sl⟩,ho,hc,n,hd⟩:=id p1
  obtain ⟨⟨cls2,dd2,data2,sl2⟩,ho2,hc2,n2,hd2⟩:=id p2
  simp only at hc hd hc2 hd2
  subst hc hd hc2 hd2
  have e:its = []:=r1.nil_iff.mpr hx
  exact concat_meets ⟨_,ho,rfl⟩ ⟨_,ho2,rfl⟩ noFill_tuple_add seq_tuple_add PySem.F.slot_tuple_add PySem.F.entry_tuple_add (PySem.F.args_tuple_add_2 _ _)
   (tuple_addW0 a b its.toArray its2.toArray n n2 dd dd2 sl sl2 (by simp [e])) ⟨ho,ho2,⟨.ref b,H,I,rfl,q0 hx⟩⟩
 ·exact zhc pins s σ H _ _ v u Q I rx ry ⟨a,b,xs,ys,rfl,rfl,ha,hb,hx,hz,q1 hx,q2 hx⟩
end
end L2
namespace HT
open PySem PySem.Spec PyProof.Rows
section
variable {prog:Program} {w:World} {A:Around} {E:Value->Shared->Prop} {s:Shared}
theorem zat {t sl:Addr} {items:Array Value} {vl vu:Value} {lo hi:Option Int} {Q:Value->Shared->Prop} (ht:IsTup s.heap t items) (hs:s.heap.IsSliceOf sl vl vu .none) (pl:IsPart vl lo) (pu:IsPart vu hi)
  (hw:sIx items.size 0 lo = 0/\sIx items.size items.size hi = items.size) (h:Q (.ref t) s):wpAny (model prog w) A (getItem (.ref t) (.ref sl)) Q E s:=by
 obtain ⟨os,hos,hcs,hds⟩:=id hs
 have hTs:s.TypeIs (.ref sl) "slice":=⟨os,hos,hcs⟩
 unfold getItem
 try with_reducible refine wpAny_holding ?_
 first | refine Q1 (Qd ?_) | skip
 refine Q1 (wpAny_sequenceKey ht.typeIs (by decide) ?_)
 refine Q1 (wpAny_callSpecial?_slot (name:=Str.ofString "__getitem__") ht.typeIs PyProof.Rows.slot_tuple_getitem
  (wpAny_call_entry PyProof.Rows.slot_tuple_getitem ht.typeIs entry_tuple_getitem ?_ (args_tuple_getitem _ _)))
 show wpAny _ _ (Builtin.Tuple.tupleItemsOf (.ref t) >>= _) _ _ s
 refine Q1 (tupleItemsOf_ ht ?_)
 refine Q1 (wpAny_typeOf hTs ?_)
 rw [if_pos (by decide)]
 refine Q1 (qU hs pl pu ?_)
 have hyes:(((sIx items.size 0 lo:Nat):Int) == 0 && (1:Int) == 1 && (sIx items.size items.size hi - sIx items.size 0 lo) == items.size) = true:=by
  rw [hw.1,hw.2];simp
 show wpAny _ _ (if (((sIx items.size 0 lo:Nat):Int) == 0 && (1:Int) == 1 && (sIx items.size items.size hi - sIx items.size 0 lo) == items.size) = true then _ else _) _ _ s
 rw [if_pos hyes]
 refine Q1 ?_
 unfold Builtin.Tuple.tupleIsExact
 refine Q1 (wpAny_typeOf ht.typeIs (Qd ?_))
 rw [if_pos (by decide)]
 exact Q1 (wpAny_rule (Qd ⟨_,rfl,Qd h⟩))
end
end HT
namespace L2
open PySem PySem.Spec PyProof.Rows
section
variable {X:Cx}
noncomputable def zkr (K:Frag):V->Option Int->Option Int->Hp->VK->Prop:=fun x lo hi H Q=>∃ a xs,x = .ref a/\SqT K H a xs /\
 ((HT.sIx xs.length 0 lo = 0/\HT.sIx xs.length xs.length hi = xs.length)->Q (.ref a) H)/\(¬ (HT.sIx xs.length 0 lo = 0/\HT.sIx xs.length xs.length hi = xs.length)->∀ p,H p = none->Q (.ref p) (upd H p (.tup (cutV xs lo hi))))
theorem zgM:SlR X (zkr X.K):=by
 intro pins s σ H x v vl vu lo hi sl Q I rx hs pl pu h
 obtain ⟨a,xs,rfl,hx,q1,q2⟩:=h
 by_cases hw:HT.sIx xs.length 0 lo = 0/\HT.sIx xs.length xs.length hi = xs.length
 ·cases rx
  obtain ⟨its,r,ht,hz⟩:=I.tuple hx
  have hlen:its.toArray.size = xs.length:=by rw [Qg];exact r.length.symm
  refine ⟨"tuple",_,PyProof.Rows.slot_tuple_getitem.lookup,ht.typeIs,?_⟩
  refine HT.zat ht hs pl pu (by rw [hlen];exact hw) ⟨.ref a,H,I,rfl,q1 hw⟩
 ·exact zh5 pins s σ H _ v vl vu lo hi sl Q I rx hs pl pu ⟨a,xs,rfl,hx,hw,q2 hw⟩
theorem zaY:fillsNumberSlot (.type "tuple") "mul" = pure false:=
 PySem.fillsNumberSlot_seq (id:="tuple.__mul__") (r:=some (.builtin "tuple.__rmul__")) PySem.F.slot_tuple_mul.lookup (by decide +kernel) PySem.F.slot_tuple_rmul.lookup (by decide +kernel)
theorem zcn:seqRepeat? (.type "tuple") = pure (some (.builtin "tuple.__mul__")):=by
 unfold seqRepeat?
 rw [PySem.seqSlot_of (T:="tuple") (name:="__mul__") (id:="tuple.__mul__") PySem.F.slot_tuple_mul.lookup (by decide +kernel),PySem.seqSlot_of (T:="tuple") (name:="__rmul__") (id:="tuple.__rmul__") PySem.F.slot_tuple_rmul.lookup (by decide +kernel)]
 rfl
theorem zbo (a:Int) (t:Tok) (l:Addr) (items:Array Value) (n:Nat) (dd:Option Addr) (sl:Array (Option Value)) :
  Meets (Builtin.«int.__rmul__» ⟨[.int a t,.ref l],[]⟩) (fun _ R s=>s.heap.get? l = some { cls:=.type "tuple",dict:=dd,data:=.seq items n,slots:=sl }/\R (.ok (.ret Value.notImplemented)) s):=
 .of_wp fun prog w A R s h=>by obtain ⟨hp,g,d,tk,os⟩:=s;obtain ⟨hl,h⟩:=h;wp_walk;exact ⟨_,rfl,h⟩
theorem zdw (l:Addr) (items:Array Value) (n:Nat) (x:Int) (u:Tok) (dd:Option Addr) (sl:Array (Option Value)) (h0:items.isEmpty = false) (h1:2<=x) (h2:x < 2 ^ 63) (h3:items.size * x.toNat<=sizeLine) :
  Meets (Builtin.«tuple.__mul__» ⟨[.ref l,.int x u],[]⟩) (fun _ R s=>s.heap.get? l = some { cls:=.type "tuple",dict:=dd,data:=.seq items n,slots:=sl }/\R (.ok (.ret (Value.ref s.heap.objs.size))) { s with heap:=s.heap.push { cls:=Value.type "tuple",data:=Data.seq (List.foldl (fun x1 x2=>x1 ++ x2) #[] (List.replicate x.toNat items)) },toks:=s.toks }):=
 .of_wp fun prog w A R s h=>by
  obtain ⟨hp,g,d,tk,os⟩:=s;obtain ⟨hl,h⟩:=h
  have f1:=AutoSeq1.idx_int
  have hA:¬(decide (x < -2 ^ 63) || decide (x ≥ 2 ^ 63)) = true:=by simp;omega
  have hB:¬(items.isEmpty || x == 1) = true:=by rw [h0];simp;omega
  have hC:¬(decide (x<=0) || items.isEmpty) = true:=by rw [h0];simp;omega
  have hm:((items.size:Nat):Int) * x = ((items.size * x.toNat:Nat):Int):=by
   rw [Int.natCast_mul,Int.toNat_of_nonneg (by omega)]
  have hs2:(sizeLine:Nat)<=(2 ^ 63 - 1) / 8:=by decide
  have hD:¬((items.size:Nat):Int) * x > (2 ^ 63 - 1) / 8:=by rw [hm];omega
  have hE:¬Builtin.Tuple.tupleTooMany (((items.size:Nat):Int) * x) = true:=by
   rw [hm]
   show ¬ decide (((items.size * x.toNat:Nat):Int) > ((sizeLine:Nat):Int)) = true
   rw [decide_eq_true_iff];omega
  have hT:IsTup hp l items:=⟨_,hl,rfl,n,rfl⟩
  wp_walk using wpAny_loadPart' hl
  rw [if_neg hA]
  refine Q1 (tupleItemsOf_ hT ?_)
  show wpAny _ _ (if (items.isEmpty || x == 1) = true then _ else _) _ _ _
  rw [if_neg hB]
  show wpAny _ _ (if (decide (x<=0) || items.isEmpty) = true then _ else _) _ _ _
  rw [if_neg hC]
  show wpAny _ _ (if ((items.size:Nat):Int) * x > (2 ^ 63 - 1) / 8 then _ else _) _ _ _
  rw [if_neg hD]
  show wpAny _ _ (if Builtin.Tuple.tupleTooMany (((items.size:Nat):Int) * x) = true then _ else _) _ _ _
  rw [if_neg hE]
  have hj:(List.foldl (fun x1 x2=>x1 ++ x2) #[] (List.replicate x.toNat items)).size<=sizeLine:=by
   have:=foldl_rep items.toList x.toNat []
   rw [nil_append,Array.toArray_toList] at this
   rw [this,Qg,len_rep,Nat.mul_comm,Array.length_toList]
   exact h3
  exact Q1 (m:=Builtin.Tuple.tupleExact _) (wpAny_newObj_type (Qd ⟨_,rfl,h⟩) hj)
noncomputable def zjB (K:Frag):R2:=fun x y H Q=>∃ l k xs,x = .ref l/\y = .int k/\SqT K H l xs/\xs ≠ []/\2<=k/\k < 2 ^ 63/\xs.length * k.toNat<=sizeLine /\
 ∀ p,H p = none->Q (.ref p) (upd H p (.tup (List.replicate k.toNat xs).flatten))
theorem zg8:OpR X (binaryOp .Mult) (zjB X.K):=by
 intro pins s σ H x y v u Q I rx ry h
 obtain ⟨l,k,xs,rfl,rfl,hH,hx,h1,h2,hz,q⟩:=h
 cases rx
 obtain ⟨t,rfl⟩:=ry
 obtain ⟨its,r,pl,_⟩:=I.tuple hH
 have hl:=r.length
 obtain ⟨⟨cls,dd,data,sl⟩,ho,hc,n,hd⟩:=id pl
 simp only at hc hd
 subst hc hd
 have hlen:its.toArray.size * k.toNat<=sizeLine:=by rw [Qg,← hl];exact hz
 have hne:its.toArray.isEmpty = false:=by
  cases its with
  | nil=>exact absurd (r.nil_iff.mp rfl) hx
  | cons a b=>rfl
 have hnew:List.foldl (fun x1 x2=>x1 ++ x2) #[] (List.replicate k.toNat its.toArray) = (List.replicate k.toNat its).flatten.toArray:=by
  have:=foldl_rep its k.toNat []
  rw [nil_append] at this
  exact this
 refine wpAny_binaryOp_repeat_ref (T:="tuple") (U:="int") (by decide) ⟨_,ho,rfl⟩ (fun s'=>typeIs_int s' k t) zaY F.fills_int_mul F.slot_int_rmul zcn F.slot_int_index.lookup
  (call_meets F.slot_int_rmul (typeIs_int s k t) F.entry_int_rmul (F.args_int_rmul_2 _ _) (zbo k t l its.toArray n dd sl)
   ⟨ho,rfl,⟨_,ho,rfl⟩,call_meets F.slot_tuple_mul ⟨_,ho,rfl⟩ F.entry_tuple_mul (F.args_tuple_mul_2 _ _) (zdw l its.toArray n k t dd sl hne h1 h2 hlen) ⟨ho,?_⟩⟩)
 rw [hnew]
 refine ⟨.ref s.heap.objs.size,_,I.laid (t':=s.toks) (o:=.tup (List.replicate k.toNat xs).flatten) (fun b ob q=>Q2 _ q) (Q3 _) ?_,rfl,q _ (I.hok.fresh (Q3 _))⟩
 exact ⟨by rw [len_rep,Nat.mul_comm];exact hz,_,r.rep k.toNat,IsTup.new _ _,NoDict.new⟩
end
end L2
namespace L2
open PySem PySem.Spec PyProof.Rows PySem.Builtin PySem.Builtin.ObjectAttr
inductive Tl (h:Heap) (bmB:List Value) (ns:List Str):List Value->Prop
 | base:Tl h bmB ns bmB
 | own {a:Addr} {c:Value} {dd:Option Addr} {cd:ClassData} {sl:Array (Option Value)} {mA:Str->Option Value} {tl:List Value} (e:h.get? a = some ⟨c,dd,.cls cd,sl⟩) (hn:h.Ns cd.ns mA) (no:∀ n ∈ ns,mA n = none) (t:Tl h bmB ns tl):Tl h bmB ns (.ref a :: tl)
variable {h:Heap}
section
variable {h':Heap} {bmB tl:List Value} {ns:List Str}
theorem Tl.tail (T:Tl h bmB ns tl) (hi:("__init__":Str) ∈ ns):OwnTail h bmB tl:=by
 induction T with
 | base=>exact .base
 | own e hn no _ ih=>exact .own e hn (no _ hi) ih
end
noncomputable abbrev zbh (C:Addr) (t:Addr) (od:Option Addr):Obj:=⟨.ref C,od,.fields #[.ref t,.none,.none,.none,.bool false,.none],#[]⟩
variable {N:Addr} {A:Around} {g:Array GenState} {ab hdct:Bool} {d:Drawn} {Q:Flow->Shared->Prop} {sn:List Str} {bm:List Value} {M:Model} {dd:Option Addr} {col:Option Bool} {k0 k1 k2 k3 k5:Option Value} {os:OsState} {prog:Program} {s:Shared} {nm q:Str} {E:Value->Shared->Prop} {w:World}
section
variable {t:Nat}
variable {C fI:Addr} {bs:List Value} {sub:List Value} {mN:Str->Option Value} {rest:List Value} {oI:Obj}
theorem zhS {env:PySem.Env} {x:Sem Value} (hb:bm.contains (.type "BaseException") = true) (hh:A.handled = none)
 (hq:wpAny M A x (fun v s1=>∃ e t od,v = .ref e/\s1.heap.get? C = some (excClassObj nm q C N bs bm hdct sn sub ab col dd k0 k1 k2 k3 k5 "ValueError.__new__")/\s1.heap.get? e = some (zbh C t od)/\E (.ref e) s1) E s) :
  wpAny M A (raiseStmt env (some x) none) Q E s:=by
 have hcB:(Value.ref C :: bm).contains (.type "BaseException") = true:=by rw [List.contains_cons,hb,Bool.or_true]
 unfold raiseStmt
 refine Q1 (Qe hq (fun v s1 h1=>?_) fun _ _ x=>x)
 obtain ⟨e,t,od,rfl,hC,he,hE⟩:=h1
 obtain ⟨hp,g,d,tk,os⟩:=s1
 repeat (first | with_reducible refine wpAny_loadPart_at he ?_ | with_reducible refine wpAny_loadPart_at hC ?_ | (with_reducible refine wpAny_isSubtype_exc hC ?_;rw [hcB]) | wp_step)
 exact wpAny_raiseNew_none hh hE
end
noncomputable def Qt {α:Type}:Sem α->Prop
 | .pure _=>True
 | .raise _=>True
 | .unsupported _=>True
 | .finish _=>True
 | .rule _ k=>Qt (k ())
 | .at _ k=>Qt (k ())
 | .load _ _ k=>∀ o,Qt (k o)
 | .update _ _ f k=>(∀ o:Obj,(f o).dict = o.dict/\(o.isFreed = false->(f o).isFreed = false))/\Qt (k ())
 | .alloc _ k=>∀ a,Qt (k a)
 | .loadIfAlive _ k=>∀ o,Qt (k o)
 | .point _ k=>Qt (k ())
 | .fresh k=>∀ a,Qt (k a)
 | .ask k=>∀ a,Qt (k a)
 | .handled _ k=>∀ a,Qt (k a)
 | .stack k=>∀ a,Qt (k a)
 | _=>False
theorem Qt.bind {α β:Type} {k:α->Sem β} (hk:∀ a,Qt (k a)):∀ {t:Sem α},Qt t->Qt (t >>= k):=by
 intro t
 induction t with
 | pure a=>exact fun _=>hk a
 | raise e=>exact fun _=>trivial
 | unsupported e=>exact fun _=>trivial
 | finish e=>exact fun _=>trivial
 | rule _ _ ih=>exact fun h=>ih () h
 | «at» _ _ ih=>exact fun h=>ih () h
 | load _ _ _ ih=>exact fun h o=>ih o (h o)
 | update _ _ _ _ ih=>exact fun h=>⟨h.1,ih () h.2⟩
 | alloc _ _ ih=>exact fun h o=>ih o (h o)
 | loadIfAlive _ _ ih=>exact fun h o=>ih o (h o)
 | point _ _ ih=>exact fun h=>ih () h
 | fresh _ ih=>exact fun h o=>ih o (h o)
 | ask _ ih=>exact fun h o=>ih o (h o)
 | handled _ _ ih=>exact fun h o=>ih o (h o)
 | stack _ ih=>exact fun h o=>ih o (h o)
 | _=>exact fun h=>h.elim
def Dk (s s':Shared):Prop:=∀ b o,s.heap.get? b = some o->∃ o',s'.heap.get? b = some o'/\o'.dict = o.dict
theorem Dk.refl (s:Shared):Dk s s:=fun _ o e=>⟨o,e,rfl⟩
theorem Dk.trans {a b c:Shared} (h:Dk a b) (g:Dk b c):Dk a c:=fun x o e=>by
 obtain ⟨o1,e1,d1⟩:=h x o e
 obtain ⟨o2,e2,d2⟩:=g x o1 e1
 exact ⟨o2,e2,d2.trans d1⟩
theorem Qt.wp {α:Type} {Γ:PySem.Ctx} {Q:α->Pos->Shared->Prop} {E:Value->Pos->Shared->Prop}:∀ {t:Sem α} {p:Pos} {s:Shared},Qt t->Sem.wp M Γ t Q E p s->Sem.wp M Γ t (fun a p' s'=>Q a p' s'/\Dk s s') (fun e p' s'=>E e p' s'/\Dk s s') p s:=by
 have up:∀ {t:Sem α} {p:Pos} {s s1:Shared},Dk s s1->Sem.wp M Γ t (fun a p' s'=>Q a p' s'/\Dk s1 s') (fun e p' s'=>E e p' s'/\Dk s1 s') p s1->Sem.wp M Γ t (fun a p' s'=>Q a p' s'/\Dk s s') (fun e p' s'=>E e p' s'/\Dk s s') p s1:=fun k h=>
  Sem.wp_mono M Γ _ (fun _ _ _ z=>⟨z.1,k.trans z.2⟩) (fun _ _ _ z=>⟨z.1,k.trans z.2⟩) _ _ h
 intro t
 induction t with
 | pure a=>exact fun _ h=>⟨h,.refl _⟩
 | raise e=>exact fun _ h=>⟨h,.refl _⟩
 | unsupported e=>exact fun _ h=>h
 | finish e=>exact fun _ h=>h
 | rule _ _ ih=>exact fun q h=>ih () q h
 | «at» _ _ ih=>exact fun q h=>ih () q h
 | load _ _ _ ih=>exact fun q ⟨o,e,h⟩=>⟨o,e,ih o (q o) h⟩
 | update a _ f _ ih=>
  intro p s q ⟨e,h⟩
  refine ⟨e,up (fun b o eb=>?_) (ih () q.2 h)⟩
  by_cases hb:b = a
  ·subst hb
   exact ⟨f o,Heap.get?_update_self _ eb ((q.1 o).2 (Heap.get?_some_iff.mp eb).2),(q.1 o).1⟩
  ·exact ⟨o,(Heap.get?_update_ne _ _ _ _ hb).trans eb,rfl⟩
 | alloc ob _ ih=>
  intro p s q h
  exact up (s:=s) (s1:={ s with heap:=s.heap.push ob }) (fun b o eb=>⟨o,Q2 _ eb,rfl⟩) (ih _ (q _) h)
 | loadIfAlive _ _ ih=>exact fun q h=>ih _ (q _) h
 | point _ _ ih=>exact fun q h=>ih () q h
 | fresh _ ih=>
  intro p s q h
  exact up (s:=s) (s1:={ s with toks:=s.toks + 1 }) (fun b o eb=>⟨o,eb,rfl⟩) (ih _ (q _) h)
 | ask _ ih=>exact fun q h=>ih _ (q _) h
 | handled _ _ ih=>exact fun q h=>ih _ (q _) h
 | stack _ ih=>exact fun q h=>ih _ (q _) h
 | _=>exact fun q _=>q.elim
theorem Qt.any {α:Type} {t:Sem α} {Q:α->Shared->Prop} (q:Qt t) (h:wpAny M A t Q E s):wpAny M A t (fun a s'=>Q a s'/\Dk s s') (fun e s'=>E e s'/\Dk s s') s:=fun Γ p hΓ=>q.wp (h Γ p hΓ)
variable {v:Value}
theorem zc2:Qt (fieldsOf v):=by
 unfold fieldsOf
 split
 ·exact Qt.bind (fun o=>by split <;> exact trivial) (fun _=>trivial)
 ·exact trivial
variable {i:Nat}
theorem zam:Qt (field v i):=by
 unfold field
 exact Qt.bind (fun vs=>by split <;> exact trivial) zc2
theorem zid {f:Array Value->Array Value} (o:Obj):(Obj.mapFields f o).dict = o.dict/\(o.isFreed = false->(Obj.mapFields f o).isFreed = false):=by
 obtain ⟨c,d,dt,sl⟩:=o
 cases dt <;> exact ⟨rfl,fun h=>h⟩
theorem y1 {x:Value} :Qt (setField v i x):=by
 unfold setField
 split
 ·unfold updateField
  refine Qt.bind (fun o=>?_) (fun _=>trivial)
  split
  ·split
   ·exact ⟨zid,trivial⟩
   ·exact trivial
  ·exact trivial
 ·exact trivial
theorem zay {e:Value} {f:Option Addr}:Qt (setFlight e f):=by
 unfold setFlight
 refine Qt.bind (fun tb=>?_) zam
 split
 ·exact y1
 ·exact trivial
theorem zcp:∀ l:List PySem.Env,Qt (readyFrames l)
 | []=>trivial
 | env :: outer=>by
  unfold readyFrames
  split
  ·rename_i f _
   refine Qt.bind (fun o=>?_) (fun _=>trivial)
   split
   ·exact trivial
   ·refine Qt.bind (fun b=>Qt.bind (fun k=>?_) ?_) ?_
    ·exact ⟨fun o=>⟨rfl,fun h=>by obtain ⟨c,d,dt,sl⟩:=o;cases dt <;> exact h⟩,zcp outer⟩
    ·unfold keptBack
     split
     ·split
      ·exact trivial
      ·unfold underTheClaimsCaller
       exact fun _=>trivial
     ·exact trivial
    ·unfold behindIsImport
     split
     ·exact trivial
     ·split
      ·exact trivial
      ·refine Qt.bind (fun _=>?_) zam
       exact trivial
  ·exact trivial
theorem zdG {env:PySem.Env}:Qt (PySem.frameOf env):=by
 unfold PySem.frameOf
 refine Qt.bind (fun l=>Qt.bind (fun o=>?_) ?_) (show Qt frameEnvs from fun _=>trivial)
 ·split <;> exact trivial
 ·unfold frameObject
  split
  ·exact trivial
  ·refine Qt.bind (fun _=>?_) (zcp _)
   exact trivial
theorem zc1 {a b c d e:Value} {l:List Value}:Qt (EntryCells.newEntry a b c d e l):=by
 have nw:∀ dt:Data,Qt (newObjAsIs (.type "traceback") dt):=fun dt _=>trivial
 unfold EntryCells.newEntry newFields newObj
 dsimp only
 generalize (if l.isEmpty = true then List.replicate 6 Value.none else l) = m
 split
 ·exact trivial
 ·exact nw _
variable {f:Addr}
theorem zfr {b:Bool}:Qt (entryPlaceOf f b):=by
 unfold entryPlaceOf
 refine Qt.bind (fun l=>?_) (fun _=>trivial)
 split <;> exact trivial
theorem zde {e:Value} {env:PySem.Env}:Qt (noteFrame e env):=by
 unfold noteFrame
 split
 ·rename_i f _
  refine Qt.bind (fun hd=>?_) zam
  have last:Qt (PySem.frameOf env >>= fun a=>entryPlaceOf f (hd != .none) >>= fun p=>EntryCells.newEntry hd a .none (rawInt f) .none p >>= fun n=>setField e 1 n):=Qt.bind (fun a=>Qt.bind (fun p=>Qt.bind (fun n=>y1) zc1) zfr) zdG
  dsimp only
  split
  ·refine Qt.bind (fun x=>?_) zam
   split
   ·exact trivial
   ·exact Qt.bind (fun _=>last) y1
  ·exact last
 ·exact trivial
theorem zba {e:Value} {env:PySem.Env}:Qt (leaving env e):=by
 unfold leaving
 exact Qt.bind (fun _=>zay) zde
noncomputable def ExO (e C:Addr) (od:Option Addr):Heap->Prop:=fun h=>∃ ob,h.get? e = some ob/\ob.cls = .ref C/\ob.dict = od/\∀ c,ob.data ≠ .cls c
noncomputable def ExN (e C t:Addr) (od:Option Addr):Heap->Prop:=fun h=>h.get? e = some (zbh C t od)
noncomputable def zb8 (H:Hp) (e:Addr):Hp:=fun b=>if b = e then none else H b
variable {e:Addr} {H:Hp}
theorem qR {b:Addr} (h:b ≠ e):zb8 H e b = H b:=if_neg h
theorem zeh:zb8 H e e = none:=if_pos rfl
variable {X:Cx} {pins:List (Addr × Obj)} {σ:St}
section
theorem Inv.let {φ:Heap->Prop} (I:Inv X pins σ H s) (he:H e = some (.ext φ)):Inv X pins σ (zb8 H e) s:=by
 have nh:∀ b u,H b = some u->(∀ ψ,u ≠ .ext ψ)->b ≠ e:=fun b u q n z=>by rw [z,he] at q;cases q;exact n φ rfl
 have nn:∀ b,H b = none->zb8 H e b = none:=fun b q=>by
  unfold zb8
  split
  ·rfl
  ·exact q
 refine ⟨I.ok,I.os,I.bare,⟨I.base.keep,I.base.slot,fun b ob q n x=>nn b (I.base.free b ob q n x),I.base.there,fun b xs q=>?_,fun b u xs q=>?_,fun b ps q=>?_⟩,I.loc,I.cell,nn _ I.free,fun x c q=>nn _ (I.freeC x c q),fun p q=>?_,?_,I.len⟩
 ·have:=I.base.tups b xs q;rw [qR (nh b _ this (fun _ z=>by cases z))];exact this
 ·have:=I.base.frzs b u xs q;rw [qR (nh b _ this (fun _ z=>by cases z))];exact this
 ·obtain ⟨m,this⟩:=I.base.tbls b ps q;exact ⟨m,by rw [qR (nh b _ this (fun _ z=>by cases z))];exact this⟩
 ·obtain ⟨a,b,c⟩:=I.pin p q
  exact ⟨a,nn _ b,c⟩
 ·intro b u q
  by_cases hb:b = e
  ·subst hb;rw [zeh] at q;cases q
  ·rw [qR hb] at q
   exact (I.hok b u q).stay (fun _ _ _ z=>z) (fun c z=>by rw [qR (nh c _ z (fun _ y=>by cases y))];exact z) fun c xs z=>by rw [qR (nh c _ z (fun _ y=>by cases y))];exact z
end
noncomputable def CXX (P:Program) (w:World):CXT:=fun l H s E ev s'=>∃ (e t C:Addr) (oe:Obj) (B:Heap) (H':Hp),ev = .ref e/\Heap.FlyingW B l e (.ref C) (.ref t) s'.heap/\s'.heap.get? e = some oe/\s'.os = s.os/\AllBare s'.gens /\
 Un (frs l) [] H H' s.heap s'.heap/\HOk P w H' s'.heap/\(∀ b o,s'.heap.get? b = some o->b ∉ frs l->(H' b ≠ none\/∃ o',s.heap.get? b = some o')->B.get? b = some o)/\(∀ b ∈ frs l,H' b = none)/\E (.ref C) oe.dict H'
variable {t:Addr} {od:Option Addr}
section
variable {E:XK}
theorem zdq {s1:Shared} {C:Addr} {B:Heap} (I:Inv X pins σ H s) (hst:X.stack = X.env :: X.outer) (hf:X.env.frame = some X.env.locals) (hex:X.ex = [])
 (hE:E (.ref C) od H) (hB:∀ b o,s.heap.get? b = some o->b ∉ frs X.stack->(H b ≠ none\/∃ o',X.s₀.heap.get? b = some o')->B.get? b = some o) (fl:Heap.FlyingW B X.outer e (.ref C) (.ref t) s1.heap) (up:s.heap.UpToSlots s1.heap) (hd:∃ oe,s1.heap.get? e = some oe/\oe.dict = od)
 (os:s1.os = s.os) (ge:s1.gens = s.gens):CXX X.prog X.w X.outer X.H₀ X.s₀ E (.ref e) s1:=by
 obtain ⟨oe,he,hod⟩:=hd
 have u0:Un (frs X.outer) [] X.H₀ H X.s₀.heap s.heap:=by have:=I.base;rw [hex] at this;exact this
 have sub1:∀ b ∈ frs X.outer,b ∈ frs X.stack:=fun b hb=>by
  rw [hst];unfold frs
  rw [filterMap_cons,hf]
  exact mem_cons_of_mem _ hb
 have nst:∀ b o,s.heap.get? b = some o->b ∉ frs X.outer->(H b ≠ none\/∃ o',X.s₀.heap.get? b = some o')->b ∉ frs X.stack:=fun b o e1 n1 q1 hm=>by
  rw [hst] at hm
  unfold frs at hm
  rw [filterMap_cons,hf] at hm
  rcases mem_cons.mp hm with z | z
  ·rcases q1 with q1 | ⟨o',q1⟩
   ·rw [z] at q1;exact q1 I.free
   ·rw [z] at q1;exact absurd (Qc q1) (Nat.not_lt.mpr I.ok.above)
  ·exact n1 z
 have hB1:∀ b o,s.heap.get? b = some o->b ∉ frs X.outer->(H b ≠ none\/∃ o',X.s₀.heap.get? b = some o')->B.get? b = some o:=fun b o e1 n1 q1=>hB b o e1 (nst b o e1 n1 q1) q1
 have hfr:∀ b ∈ frs X.outer,H b = none:=fun b hb=>I.stkFree b (sub1 b hb)
 have hfn:∀ b ∈ frs X.outer,∀ o,s.heap.get? b = some o->∀ vs,o.data ≠ .fields vs:=fun b hb o e1=>by
  obtain ⟨_,o',e2,n2⟩:=I.stack.mem (sub1 b hb)
  rw [e1] at e2;cases e2
  exact n2
 obtain ⟨un2,hok2⟩:=zgj u0 I.hok hB1 hfr hfn fl.1 up
 refine ⟨e,t,C,oe,B,H,rfl,fl,he,os.trans I.os,by rw [ge];exact I.bare,un2,hok2,fun b o e1 n1 q1=>?_,hfr,by rw [hod];exact hE⟩
 have hex2:∃ o1,s.heap.get? b = some o1:=by
  rcases q1 with q1 | ⟨o',q1⟩
  ·cases z:H b with
   | none=>exact absurd z q1
   | some u=>exact (I.hok b u z).there
  ·exact u0.there b o' q1 (by simp)
 obtain ⟨o1,e2⟩:=hex2
 have e3:=hB1 b o1 e2 n1 q1
 have e4:=fl.1 b o1 e3
 rw [e1] at e4;cases e4
 exact e3
theorem ziz (hst:X.stack = X.env :: X.outer) (hf:X.env.frame = some X.env.locals) (hex:X.ex = [])
  (hxe:X.xe = fun ev s'=>wpAny (model X.prog X.w) X.A (leaving X.env ev) (fun _ s''=>CXX X.prog X.w X.outer X.H₀ X.s₀ E ev s'') (fun e' s''=>CXX X.prog X.w X.outer X.H₀ X.s₀ E e' s'') s'):Passes (CXX X.prog X.w) X E:=by
 intro pins σ H s ev s' I ⟨e,t,C,oe,B,H',e0,fl,he,os,bare,un,hok,hB,hfr,hE⟩
 subst e0
 rw [hxe]
 have I1:Inv X pins σ H' s':=I.call' (ch:=[]) os un hok bare (fun b z=>absurd z (by simp))
 have hfrm:X.A.frames = some (X.env :: X.outer):=by rw [I.ok.frames,hst]
 rw [hst] at fl
 have w1:=zba.any (wpAny_leaves_onW (M:=model X.prog X.w) (E:=fun _ _=>False) (Q:=fun _ s2=>∃ h',s2 = { s' with heap:=h' }/\Heap.FlyingW B X.outer e (.ref C) (.ref t) h'/\s'.heap.UpToSlots h') hfrm hf fl fun h' a b=>⟨h',rfl,a,b⟩)
 refine Qe w1 ?_ fun _ _ z=>z.1.elim
 rintro _ s2 ⟨⟨h',rfl,fl',up⟩,dk⟩
 refine zdq (s1:={ s' with heap:=h' }) I1 hst hf hex hE (fun b o e1 n1 q1=>hB b o e1 n1 ?_) fl' up (dk e oe he) rfl rfl
 rcases q1 with q1 | ⟨o',q1⟩
 ·exact .inl q1
 ·exact .inr (I.base.there b o' q1 (by rw [hex];simp))
theorem zhF {C:Addr} (I:Inv X pins σ H s) (hst:X.stack = X.env :: X.outer) (hf:X.env.frame = some X.env.locals) (hex:X.ex = [])
 (hxe:X.xe = fun ev s'=>wpAny (model X.prog X.w) X.A (leaving X.env ev) (fun _ s''=>CXX X.prog X.w X.outer X.H₀ X.s₀ E ev s'') (fun e' s''=>CXX X.prog X.w X.outer X.H₀ X.s₀ E e' s'') s')
 (he:s.heap.get? e = some (zbh C t od)) (hn:H e = none) (h0:X.s₀.heap.get? e = none) (hE:E (.ref C) od H):X.xe (.ref e) s:=by
 rw [hxe]
 have hfrm:X.A.frames = some (X.env :: X.outer):=by rw [I.ok.frames,hst]
 have hff:s.heap.FunFrames X.base (X.env :: X.outer):=by have:=I.stack;rw [hst] at this;exact this
 have hin:∀ env ∈ (X.env :: X.outer),∀ b,env.frame = some b->b ∈ e :: frs (X.env :: X.outer):=fun env he b hb=>mem_cons_of_mem _ (List.mem_filterMap.mpr ⟨env,he,hb⟩)
 have w1:=zba.any (wpAny_leaving_firstW (M:=model X.prog X.w) (E:=fun _ _=>False) (base:=PySem.W.hideAll s.heap (e :: frs (X.env :: X.outer))) (a0:=.ref t) (Q:=fun _ s2=>∃ h',s2 = { s with heap:=h' }/\Heap.LeftW (PySem.W.hideAll s.heap (e :: frs (X.env :: X.outer))) (X.env :: X.outer) e (.ref C) (.ref t) s.heap h') hfrm (PySem.W.funFrames_hide hff hin) hf he (fun b o e1=>PySem.W.of_hideAll _ e1) (PySem.W.hideAll_none _ (mem_cons_self ..)) rfl rfl rfl fun h' a=>⟨h',rfl,a⟩)
 refine Qe w1 ?_ fun _ _ z=>z.1.elim
 rintro _ s2 ⟨⟨h',rfl,k1,⟨_,_,k2⟩,k3,k4⟩,dk⟩
 refine zdq (s1:={ s with heap:=h' }) I hst hf hex hE (fun b o e1 n1 q1=>?_) ⟨k1,PySem.W.hideAll_none _ (mem_cons_self ..),k2,k3⟩ k4 (dk e _ he) rfl rfl
 refine PySem.W.hideAll_get _ e1 fun hm=>?_
 rcases mem_cons.mp hm with z | z
 ·rcases q1 with q1 | ⟨o',q1⟩
  ·rw [z] at q1;exact q1 hn
  ·rw [z,h0] at q1;cases q1
 ·rw [hst] at n1;exact n1 z
end
noncomputable abbrev xns:List Str:=["__setattr__","at","__getattribute__","__getattr__"]
structure XcAt (K:Frag) (mg:Str->Option Value) (x:Str) (C fI:Addr):Prop where
 bound:mg x = some (.ref C)
 obj:∀ h:Heap,K.In h->∃ bm N nm q bs sn sub ab col dd k0 k1 k2 k3 k5 mN,h.get? C = some (excClassObj nm q C N bs bm true sn sub ab col dd k0 k1 k2 k3 k5 "ValueError.__new__")/\h.Ns N mN/\mN "__init__" = some (.ref fI)/\(∀ n ∈ xns,mN n = none)/\Tl h za2 ("__init__" :: xns) bm
 fn:∃ oI,K.lookup fI = some oI/\oI.cls = .type "function"
variable {pos:Pos}
section
variable {E:XK} {o value:Expr} {ta tv:TE} {pos':Pos}
theorem Inv.new0 (I:Inv X pins σ H s) (hex:X.ex = []) (he:s.heap.get? e = none):X.s₀.heap.get? e = none/\H e = none/\e ≠ X.env.locals/\(∀ x c,X.env.cells.lookup x = some c->c ≠ e)/\∀ p ∈ X.pn ++ pins,p.1 ≠ e:=by
 refine ⟨?_,?_,fun z=>?_,fun x c q z=>?_,fun p q z=>?_⟩
 ·cases q:X.s₀.heap.get? e with
  | none=>rfl
  | some u=>
   obtain ⟨o',e'⟩:=I.base.there e u q (by rw [hex];simp)
   rw [he] at e';cases e'
 ·cases q:H e with
  | none=>rfl
  | some u=>
   obtain ⟨o',e'⟩:=(I.hok e u q).there
   rw [he] at e';cases e'
 ·obtain ⟨m,⟨ob,_,_,e',_⟩,_⟩:=I.loc
  rw [← z,he] at e';cases e'
 ·obtain ⟨v,ob,e',_⟩:=I.cell x c q
  rw [z,he] at e';cases e'
 ·have:=(I.pin p q).1
  rw [z,he] at this;cases this
end
variable {np:Pos} {x:Str}
section
variable {env:PySem.Env}
variable {C:Addr} {bs:List Value} {sub:List Value}
theorem zdF {cpos:Pos} {args:List Expr} (hb:bm.contains (.type "BaseException") = true) (hh:A.handled = none) (hp:(backTo cpos (starEach args env)).any (·.1) = false)
 (h:wpAny (model prog w) A (eval (.Name x np) env) (fun f s1=>f = .ref C/\wpAny (model prog w) A (evalArgs (.ref C) true (backTo cpos (starEach args env)) []) (fun a s2=>a.kw = []/\s2.heap.get? C = some (excClassObj nm q C N bs bm hdct sn sub ab col dd k0 k1 k2 k3 k5 "ValueError.__new__") /\
 wpAny (model prog w) A (call (.ref C) a.pos) (fun v s3=>∃ e t od,v = .ref e/\s3.heap.get? C = some (excClassObj nm q C N bs bm hdct sn sub ab col dd k0 k1 k2 k3 k5 "ValueError.__new__")/\s3.heap.get? e = some (zbh C t od)/\E (.ref e) s3) E s2) E s1) E s) :
  wpAny (model prog w) A (exec (.Raise (some (.Call (.Name x np) args [] cpos)) none pos) env) Q E s:=by
 rw [arm_exec_Raise]
 refine Q1 (wpAny_standAt (zhS (C:=C) (nm:=nm) (q:=q) (N:=N) (bs:=bs) (bm:=bm) (hdct:=hdct) (sn:=sn) (sub:=sub) (ab:=ab) (col:=col) (dd:=dd) (k0:=k0) (k1:=k1) (k2:=k2) (k3:=k3) (k5:=k5) hb hh ?_))
 try simp only [evalOpt,Option.map]
 refine Q1 (Qe (wpAny_Call_ofName (Qe h (fun f s1 h1=>?_) fun _ _ y=>y)) (fun v s3 h3=>Q1 (wpAny_standAt (Qd h3))) fun _ _ y=>y)
 obtain ⟨rfl,h1⟩:=h1
 unfold callWith
 refine Q1 (wpAny_holding (Qe h1 (fun a s2 h2=>Q1 (wpAny_standAt ?_)) fun _ _ y=>y))
 obtain ⟨ap,ak⟩:=a
 obtain ⟨hkw,hC,h2⟩:=h2
 obtain rfl:ak = []:=hkw
 obtain ⟨hp',g,d,tk,os⟩:=s2
 simp only [hp]
 refine Q1 (wpAny_keeperOf_exc hC (Q1 (Qe h2 (fun v s3 h3=>Q1 (wpAny_holding (wpAny_point (Qd ?_)))) fun _ _ y=>y)))
 exact h3
end
structure Sup (K:Frag) (mg:Str->Option Value) (y:Str) (C C':Addr):Prop where
 bound:mg y = some (.ref C)
 obj:∀ h:Heap,K.In h->(∃ bm N nm q bs hdct sn sub ab col dd k0 k1 k2 k3 k5,h.get? C = some (excClassObj nm q C N bs bm hdct sn sub ab col dd k0 k1 k2 k3 k5 "ValueError.__new__")/\bm.contains (.type "BaseException") = true) /\
  ∃ bm N nm q bs hdct sn sub ab col dd k0 k1 k2 k3 k5,h.get? C' = some (excClassObj nm q C' N bs bm hdct sn sub ab col dd k0 k1 k2 k3 k5 "ValueError.__new__")/\(Value.ref C' :: bm).contains (.ref C) = true
theorem zeV {nm' q':Str} {C C' N':Addr} {bs bs' bm':List Value} {hd hd':Bool} {sn':List Str} {sub sub':List Value} {ab':Bool} {col':Option Bool} {dd':Option Addr} {j0 j1 j2 j3 j5:Option Value}
 {t:Nat} {oe:Obj} {Q:Bool->Shared->Prop} (hC:h.get? C = some (excClassObj nm q C N bs bm hd sn sub ab col dd k0 k1 k2 k3 k5 "ValueError.__new__")) (hC':h.get? C' = some (excClassObj nm' q' C' N' bs' bm' hd' sn' sub' ab' col' dd' j0 j1 j2 j3 j5 "ValueError.__new__"))
 (he:h.get? e = some oe) (hc:oe.cls = .ref C') (hb:bm.contains (.type "BaseException") = true) (hm:(Value.ref C' :: bm').contains (.ref C) = true) (hq:Q true ⟨h,g,d,t,os⟩):wpAny M A (excMatches (.ref e) (.ref C)) Q E ⟨h,g,d,t,os⟩:=by
 have hcB:(Value.ref C :: bm).contains (.type "BaseException") = true:=by rw [List.contains_cons,hb,Bool.or_true]
 have f:=tc_notTuple
 unfold excMatches
 repeat (first | (with_reducible refine wpAny_loadPart_at he ?_;rw [hc]) | with_reducible refine wpAny_loadPart_at hC ?_ | (with_reducible refine wpAny_isSubtype_exc hC ?_;rw [hcB]) | (with_reducible refine wpAny_isSubtype_exc hC' ?_;rw [hm]) | wp_step)
 exact hq
variable {hp:Pos} {s':Shared} {b0:Stmt} {y:Str} {th:TS} {ev:Value}
section
variable {C:Addr} {suite:List Stmt} {rest:List ExceptHandler} {D:Ends}
theorem ze2 {E:XK} {nmo:Option Str} (hg:Gl X y) (hst:X.stack = X.env :: X.outer) (hf:X.env.frame = some X.env.locals) (hex:X.ex = []) (I:Inv X pins σ H s)
  (hq:CXX X.prog X.w X.stack H s E ev s') (hS:∀ C' od H',E (.ref C') od H'->Sup X.K X.mg y C C')
  (go:∀ e t C' od B H' h5,(∀ h6,B.StaysIn h6->h5.UpToSlots h6->Inv X pins σ H' { s' with heap:=h6 })->Heap.FlyingW B X.stack e (.ref C') (.ref t) h5->(∃ oe,h5.get? e = some oe/\oe.dict = od)->
   (X.s₀.heap.get? e = none/\H' e = none/\e ≠ X.env.locals/\(∀ x c,X.env.cells.lookup x = some c->c ≠ e)/\∀ p ∈ X.pn ++ pins,p.1 ≠ e)->E (.ref C') od H'->
   codeAny (model X.prog X.w) (X.A.mark (some (.ref e))) (.handlers (.ref e) [.ExceptHandler none nmo (b0 :: suite) hp] X.env) (fun r s2=>match r with
     | .ok f=>(match nmo with
      | none=>SP X pins D f s2
      | some n=>wpAny (model X.prog X.w) X.A (do bindName X.env n .none;unbindBehindTheSuite X.env n hp) (fun _ s3=>SP X pins D f s3) X.xe s2)
     | .error x=>cameBackBy (model X.prog X.w) X.A X.env X.xe x s2) { s' with heap:=h5 }) (hd:(y == ("__debug__":Str)) = false:=by decide) :
  wpAny (model X.prog X.w) X.A (noteFrame ev X.env) (fun _ s2=>wpAny (model X.prog X.w) X.A (setFlight ev none) (fun _ s3=>wpAny (model X.prog X.w) X.A (handleBy ev X.env (.ExceptHandler (some (.Name y np)) nmo (b0 :: suite) hp :: rest)) (SP X pins D) X.xe s3) X.xe s2) X.xe s':=by
 obtain ⟨e,t,C',oe,B,H',rfl,fl,he,os,bare,un,hok,hB,hfr,hE⟩:=hq
 have hfrm:X.A.frames = some (X.env :: X.outer):=by rw [I.ok.frames,hst]
 have hfn:∀ b ∈ frs X.stack,∀ o,s'.heap.get? b = some o->∀ vs,o.data ≠ .fields vs:=fun b hb o e1=>by
  obtain ⟨_,o',e2,n2⟩:=fl.2.2.1.mem hb
  rw [e1] at e2;cases e2
  exact n2
 have inv_at:∀ h2:Heap,B.StaysIn h2->s'.heap.UpToSlots h2->Inv X pins σ H' { s' with heap:=h2 }:=fun h2 st up=>by
  obtain ⟨un2,hok2⟩:=zgj un hok hB hfr hfn st up
  exact I.call' (s':={ s' with heap:=h2 }) (ch:=[]) os un2 hok2 bare (fun b z=>absurd z (by simp))
 have ne:s.heap.get? e = none:=by
  cases q:s.heap.get? e with
  | none=>rfl
  | some u=>
   have hf2:e ∉ frs X.stack:=fun hm=>by
    obtain ⟨oe',h1,_⟩:=fl.there
    obtain ⟨oe2,vs2,h2,_,h3,_⟩:=fl.first
    exact hfn e hm oe2 h2 vs2 h3
   have:=hB e oe he hf2 (.inr ⟨u,q⟩)
   rw [fl.2.1] at this;cases this
 have he0:H' e = none:=by
  cases q:H' e with
  | none=>rfl
  | some u=>
   have hf2:e ∉ frs X.stack:=fun hm=>by
    obtain ⟨oe2,vs2,h2,_,h3,_⟩:=fl.first
    exact hfn e hm oe2 h2 vs2 h3
   have:=hB e oe he hf2 (.inl (by rw [q];simp))
   rw [fl.2.1] at this;cases this
 obtain ⟨b1,_,b3,b4,b5⟩:=I.new0 hex ne
 obtain ⟨⟨bm,N,nm,q,bs,hdct,sn,sub,ab,col,dd,k0,k1,k2,k3,k5,hC,hcb⟩,bm',N',nm',q',bs',hdct',sn',sub',ab',col',dd',j0,j1,j2,j3,j5,hC',hcc⟩:=(hS C' oe.dict H' hE).obj X.base I.ok.mod.kin
 rw [hst] at fl
 refine Qe (zde.any (wpAny_looks_onW (M:=model X.prog X.w) (E:=fun _ _=>False) (Q:=fun _ s2=>∃ h4,s2 = { s' with heap:=h4 }/\Heap.HeldW B (X.env :: X.outer) e (.ref C') (.ref t) X.env.locals h4/\s'.heap.UpToSlots h4) hfrm hf fl fun h' a b=>⟨h',rfl,a,b⟩)) ?_ fun _ _ z=>z.1.elim
 rintro _ s4 ⟨⟨h4,rfl,hl4,up4⟩,dk4⟩
 refine Qe (zay.any (wpAny_landsW (M:=model X.prog X.w) (A:=X.A) (E:=fun _ _=>False) (s:={ s' with heap:=h4 }) (Q:=fun _ s2=>∃ h5,s2 = { s' with heap:=h5 }/\Heap.FlyingW B (X.env :: X.outer) e (.ref C') (.ref t) h5/\h4.UpToSlots h5) hl4 fun h' a b=>⟨h',rfl,a,b⟩)) ?_ fun _ _ z=>z.1.elim
 rintro _ s5 ⟨⟨h5,rfl,fl5,up5⟩,dk5⟩
 have up45:=up4.trans up5
 have I5:=inv_at h5 fl5.1 up45
 have d5:=(dk4.trans dk5) e oe he
 refine wpAny_handleBy_cons (codeAny_handlers_test ?_) (by intro z;cases z)
 refine y9 (X:=X.suite e) (I5.suite e) hg (hS C' oe.dict H' hE).bound ?_ hd
 obtain ⟨o5,ge5,gd5⟩:=d5
 obtain ⟨o5',ge5',gc5⟩:=fl5.there
 rw [ge5] at ge5';cases ge5'
 refine zeV (I5.bk _ _ hC) (I5.bk _ _ hC') ge5 gc5 hcb hcc ?_
 refine go e t C' oe.dict B H' h5 (fun h6 st up=>inv_at h6 st (up45.trans up)) (by rw [hst];exact fl5) ⟨o5,ge5,gd5⟩ ⟨b1,he0,b3,b4,b5⟩ hE
end
section
variable {C:Addr} {suite:List Stmt} {rest:List ExceptHandler} {D:Ends}
theorem zhJ (hg:Gl X y) (hst:X.stack = X.env :: X.outer) (hf:X.env.frame = some X.env.locals) (hex:X.ex = []) (I:Inv X pins σ H s)
  (hq:CXX X.prog X.w X.stack H s (fun cv _ H2=>∃ C',cv = .ref C'/\Sup X.K X.mg y C C'/\th D σ H2) ev s') (hs:∀ ev,PSs (X.suite ev) (b0 :: suite) th) (hd:(y == ("__debug__":Str)) = false:=by decide) :
  wpAny (model X.prog X.w) X.A (noteFrame ev X.env) (fun _ s2=>wpAny (model X.prog X.w) X.A (setFlight ev none) (fun _ s3=>wpAny (model X.prog X.w) X.A (handleBy ev X.env (.ExceptHandler (some (.Name y np)) none (b0 :: suite) hp :: rest)) (SP X pins D) X.xe s3) X.xe s2) X.xe s':=by
 refine ze2 hg hst hf hex I hq (fun C' od H' ⟨C2,e,S,_⟩=>by cases e;exact S) (fun e t C' od B H' h5 ia fl dk nw ⟨C2,e2,S,ht⟩=>?_) hd
 refine codeAny_handlers_suite (lands_againW fl fun h6 fl6 up6=>?_)
 have I6:=ia h6 fl6.1 up6
 exact Qe (hs e pins _ σ H' D (I6.suite e) ht) (fun f s3 q3=>q3.unsuite I6.ok) fun _ _ z=>False.elim z
end
def PX (X:Cx) (sts:List Stmt) (t:XK->TS):Prop:=
 ∀ (E:XK) (pins:List (Addr × Obj)) (s:Shared) (σ:St) (H:Hp) (D:Ends),Inv X pins σ H s->t E D σ H->
  wpAny (model X.prog X.w) X.A (execs sts X.env) (SP X pins D) (fun ev s'=>∃ H1 s1,Inv X pins σ H1 s1/\CXX X.prog X.w X.stack H1 s1 E ev s') s
section
variable {C:Addr} {k:Nat} {fd:FuncData} {ps:List Str} {sp:Sp} {v n:Str} {p pos2 tp vp:Pos} {e c:Expr} {es:List Expr} {ta:TA} {tc:TT} {suite sts b1 b2:List Stmt} {t t1 t2:XK->TS} {j:Nat}
theorem zjz {E:XK} {Q:VK} (F:FnOk X.prog X.w X.K X.mg X.base (CXX X.prog X.w) k f fd ps sp) (hr:Room k X.A) (hg:Gl X x) (hm:X.mg x = some (.ref f)) (hk:PySem.W.keepIn X.K (.ref f) = true) (hb:Binds X.K fd ps [])
 (ha:∀ E',PA (X.wish E') (e :: es) ta) (hdb:(x == ("__debug__":Str)) = false) (he:starEach (e :: es) X.env = (false,eval e X.env) :: starEach es X.env) (hpl:(backTo pos (starEach es X.env)).any (·.1) = false) (I:Inv X pins σ H s) (h:ta σ H fun vs H1=>sp vs H1 Q E) :
  wpAny (model X.prog X.w) X.A (eval (.Call (.Name x p) (e :: es) [] pos) X.env) (EP X pins σ Q) (fun ev s'=>∃ H1 s1,Inv X pins σ H1 s1/\CXX X.prog X.w X.stack H1 s1 E ev s') s:=by
 refine wpAny_Call_Name_kw (y9 (X:=X) I hg hm ?_ hdb)
 refine PySem.W.callWith_K (h₀:=X.base) I.ok.mod.kin hk (thn (ha (fun ev s'=>∃ H1 s1,Inv X pins σ H1 s1/\CXX X.prog X.w X.stack H1 s1 E ev s') pos pins s σ H _ (I.wish _) h) fun us s1 ⟨vs,H1,I1,r,q⟩=>⟨I1.kIn,?_⟩) he hpl
 have hl:us.length = ps.length:=by rw [← r.length];exact F.len _ _ _ _ q
 have I1':=I1.unwish
 refine wpAny_call (codeAny_mono (F.run X.A X.stack s1 H1 ⟨us,[]⟩ us vs _ _ hr I1'.env0 (by have:=hb s1 us I1'.kIn (by rw [append_nil];exact hl);rw [append_nil] at this;exact this) r q) fun r s' hq=>?_)
 cases r with
 | error ee=>exact ⟨H1,s1,I1',hq⟩
 | ok fl=>
  cases fl with
  | ret u=>exact I1'.after hq
  | next=>exact False.elim hq
  | brk=>exact False.elim hq
  | cont=>exact False.elim hq
theorem zgP (F:FnOk X.prog X.w X.K X.mg X.base (CXX X.prog X.w) k f fd ps sp) (hr:Room k X.A) (hg:Gl X x) (hm:X.mg x = some (.ref f)) (hk:PySem.W.keepIn X.K (.ref f) = true) (hb:Binds X.K fd ps []) (ha:∀ E',PA (X.wish E') (e :: es) ta)
  (hdb:(x == ("__debug__":Str)) = false:=by decide) (he:starEach (e :: es) X.env = (false,eval e X.env) :: starEach es X.env:=by rfl) (hpl:(backTo pos (starEach es X.env)).any (·.1) = false:=by rfl) (hsw:swapsWith (.Call (.Name x p) (e :: es) [] pos) none pos2.line X.env = pure false:=by rfl) :
  PX X [.Expr (.Call (.Name x p) (e :: es) [] pos) pos2] (fun E D σ H=>ta σ H fun vs H1=>sp vs H1 (fun _ H2=>D.nx σ H2) E):=by
 intro E pins s σ H D I h
 refine wpAny_execs_cons (Qe (Q:=SP X pins D) (wpAny_Expr_any (thn (zjz F hr hg hm hk hb ha hdb he hpl I h) fun u s1 ⟨w,H1,I1,r,q⟩=>?_) I.quiet hsw) (fun fl s1 q=>?_) fun _ _ z=>z)
 ·exact ⟨σ,H1,I1,q⟩
 ·cases fl with
  | next=>exact wpAny_execs_nil q
  | brk=>exact q
  | cont=>exact q
  | ret u=>exact q
theorem zgV (hb:PX X sts t) (hgy:Gl X y) (hst:X.stack = X.env :: X.outer) (hf:X.env.frame = some X.env.locals) (hex:X.ex = []) (hs:∀ ev,PSs (X.suite ev) (b0 :: suite) th) (hdy:(y == ("__debug__":Str)) = false:=by decide) :
  PS X (.Try sts [.ExceptHandler (some (.Name y np)) none (b0 :: suite) hp] [] [] tp) (fun D σ H=>t (fun cv _ H2=>∃ C',cv = .ref C'/\Sup X.K X.mg y C C'/\th D σ H2) D σ H):=by
 intro pins s σ H D I h
 refine wpAny_Try_except (Qe (hb _ pins s σ H D I h) (fun fl s1 q=>?_) fun ev s1 ⟨H1,s0,I1,hq⟩=>?_)
 ·cases fl with
  | next=>exact wpAny_execs_nil q
  | brk=>exact q
  | cont=>exact q
  | ret u=>exact q
 ·exact zhJ hgy hst hf hex I1 hq hs hdy
end
end L2
namespace FT
open PySem PySem.Spec PyProof.Rows L2
noncomputable def noStar:Expr->Bool
 | .Starred _ _=>false
 | _=>true
variable {e:Expr} {es:List Expr}
theorem zr {env:PySem.Env} (h:noStar e = true):starEach (e :: es) env = (false,eval e env) :: starEach es env:=by
 cases e <;> first | rfl | cases h
variable {pos:Pos}
theorem zU {env:PySem.Env} :∀ {es:List Expr},es.all noStar = true->(backTo pos (starEach es env)).any (·.1) = false:=by
 intro es h
 have h1:(starEach es env).any (·.1) = false:=by
  induction es with
  | nil=>rfl
  | cons e es ih=>
   rw [all_cons,Qo] at h
   rw [zr h.1,any_cons,ih h.2]
   rfl
 have h2:∀ l:List (Bool × Sem Value),l.any (·.1) = false->(backTo pos l).any (·.1) = false:=by
  intro l hl
  unfold backTo
  rw [List.any_map]
  exact hl
 exact h2 _ h1
inductive T where
 | non | bl (b:Bool) | int (i:Int) | str (x:Str) | ty (n:String) | tup (xs:List T) | lst (xs:List T) | ref (a:Nat) | dct (kvs:List (Key × T)) | exc (C:Addr) (fs:List (Str × T))
inductive Cell where
 | lst (xs:List T) | dic (kvs:List (Key × T)) | ins (C:Addr) (fs:List (Str × T))
noncomputable abbrev Mem:=List Cell
noncomputable abbrev Ev:=List (Option T)
inductive Out (β:Type) where
 | ok (b:β) (M:Mem) | exn (C:Addr) (fs:List (Str × T)) (M:Mem) | bad
noncomputable def Out.bind {β γ:Type} (o:Out β) (k:β->Mem->Out γ):Out γ:=match o with
 | .ok b M=>k b M
 | .exn C fs M=>.exn C fs M
 | .bad=>.bad
theorem zk2 {β γ:Type} (b:β) (M:Mem) (k:β->Mem->Out γ):(Out.ok b M).bind k = k b M:=rfl
theorem zkM {β γ:Type} (k:β->Mem->Out γ):(Out.bad:Out β).bind k = .bad:=rfl
structure Sit where
 α:Nat->Addr
 M:Mem
 H:Hp
 hid:List Addr
def Sit.off (S:Sit) (p:Addr):Prop:=(∀ a,a < S.M.length->S.α a ≠ p)/\p ∉ S.hid
def KL (K:Frag) (a:Addr) (xs:List V):Prop:=
 ∃ (o:Obj) (its:Array Value) (n:Nat),K.lookup a = some o/\o.cls = .type "list"/\o.dict = none/\o.data = .seq its n/\its.size<=sizeLine/\Vals xs its.toList
inductive Rep (K:Frag) (S:Sit):T->V->Prop where
 | non:Rep K S .non .non
 | bl (b:Bool):Rep K S (.bl b) (.bl b)
 | int (i:Int):Rep K S (.int i) (.int i)
 | str (x:Str):Rep K S (.str x) (.str x)
 | ty (x:String):Rep K S (.ty x) (.ty x)
 | tup {ts:List T} {p:Addr} {vs:List V} (h:SqT K S.H p vs) (l:ts.length = vs.length) (r:∀ (i:Nat) t v,ts[i]? = some t->vs[i]? = some v->Rep K S t v):Rep K S (.tup ts) (.ref p)
 | lst {ts:List T} {p:Addr} {vs:List V} (h:(Rd S.H p (.lst vs)/\S.off p)\/KL K p vs) (l:ts.length = vs.length) (r:∀ (i:Nat) t v,ts[i]? = some t->vs[i]? = some v->Rep K S t v):Rep K S (.lst ts) (.ref p)
 | ref {a:Nat} (h:a < S.M.length):Rep K S (.ref a) (.ref (S.α a))
 | dct {kvs:List (Key × T)} {us:List (Key × V)} {p:Addr} {o:Obj} (h:S.H p = some (.frz o (.dK us))) (l:kvs.map (·.1) = us.map (·.1)) (r:∀ (i:Nat) t v,(kvs.map (·.2))[i]? = some t->(us.map (·.2))[i]? = some v->Rep K S t v):Rep K S (.dct kvs) (.ref p)
 | exc {C:Addr} {fs:List (Str × T)} {us:List (Str × V)} {p:Addr} {od:Option Addr} (h:S.H p = some (.ext (ExO p C od))) (hd:(od = none/\us = [])\/∃ d,od = some d/\S.H d = some (.xd us)) (l:fs.map (·.1) = us.map (·.1)) (r:∀ (i:Nat) t v,(fs.map (·.2))[i]? = some t->(us.map (·.2))[i]? = some v->Rep K S t v):Rep K S (.exc C fs) (.ref p)
def Reps (K:Frag) (S:Sit) (ts:List T) (vs:List V):Prop:=ts.length = vs.length/\∀ (i:Nat) t v,ts[i]? = some t->vs[i]? = some v->Rep K S t v
def RepF (K:Frag) (S:Sit) (fs:List (Str × T)) (us:List (Str × V)):Prop:=fs.map (·.1) = us.map (·.1)/\Reps K S (fs.map (·.2)) (us.map (·.2))
def RepK (K:Frag) (S:Sit) (fs:List (Key × T)) (us:List (Key × V)):Prop:=fs.map (·.1) = us.map (·.1)/\Reps K S (fs.map (·.2)) (us.map (·.2))
noncomputable def CellOk (K:Frag) (S:Sit) (p:Addr):Cell->Prop
 | .lst ts=>∃ vs,S.H p = some (.lst vs)/\Reps K S ts vs
 | .dic kvs=>∃ us,S.H p = some (.dK us)/\RepK K S kvs us
 | .ins C fs=>∃ dx us,S.H p = some (.ins C dx us)/\RepF K S fs us
structure MemOk (K:Frag) (S:Sit):Prop where
 cell:∀ a c,S.M[a]? = some c->CellOk K S (S.α a) c
 inj:∀ a b,a < S.M.length->b < S.M.length->S.α a = S.α b->a = b
 hd:∀ p ∈ S.hid,(∀ a,a < S.M.length->S.α a ≠ p)/\∃ vs,S.H p = some (.lst vs)
structure Grow (S S':Sit):Prop where
 le:S.M.length<=S'.M.length
 al:∀ a,a < S.M.length->S'.α a = S.α a
 fr:∀ a,S.M.length<=a->a < S'.M.length->S.H (S'.α a) = none
 kp:∀ b o,S.H b = some o->S.off b->S'.H b = some o
 hk:∀ p ∈ S.hid,p ∈ S'.hid/\S'.H p = S.H p
 hf:∀ p ∈ S'.hid,p ∈ S.hid\/S.H p = none
structure Stp (K:Frag) (S S':Sit):Prop extends Grow S S' where
 mok:MemOk K S'
variable {c:Cell} {K:Frag} {ts:List T} {vs:List V} {S':Sit} {t:T} {v:V}
section
variable {S S'':Sit}
theorem MemOk.some (m:MemOk K S) {a:Nat} (h:a < S.M.length):∃ o,S.H (S.α a) = Option.some o/\Mut (Option.some o):=by
 have e:S.M[a]? = Option.some S.M[a]:=by simp [h]
 have c:=m.cell a _ e
 cases q:S.M[a] with
 | lst ts=>rw [q] at c;obtain ⟨vs,e,_⟩:=c;exact ⟨_,e,trivial⟩
 | dic ts=>rw [q] at c;obtain ⟨vs,e,_⟩:=c;exact ⟨_,e,trivial⟩
 | ins C fs=>rw [q] at c;obtain ⟨dx,vs,e,_⟩:=c;exact ⟨_,e,trivial⟩
theorem MemOk.off_of (m:MemOk K S) {p:Addr} {o:Option HO} (e:S.H p = o) (h:¬ Mut o):S.off p:=by
 refine ⟨fun a ha z=>?_,fun z=>?_⟩
 ·obtain ⟨o',e',mu⟩:=m.some ha
  rw [z,e] at e'
  rw [e'] at h
  exact h mu
 ·obtain ⟨_,vs,q⟩:=m.hd p z
  rw [e] at q
  rw [q] at h
  exact h trivial
theorem MemOk.off_ext (m:MemOk K S) {p:Addr} {φ:Heap->Prop} (e:S.H p = Option.some (.ext φ)):S.off p:=by
 refine ⟨fun a ha z=>?_,fun z=>?_⟩
 ·have ea:S.M[a]? = Option.some S.M[a]:=by simp [ha]
  have c:=m.cell a _ ea
  cases q:S.M[a] with
  | lst ts=>rw [q] at c;obtain ⟨vs,e',_⟩:=c;rw [z,e] at e';cases e'
  | dic ts=>rw [q] at c;obtain ⟨vs,e',_⟩:=c;rw [z,e] at e';cases e'
  | ins C fs=>rw [q] at c;obtain ⟨dx,vs,e',_⟩:=c;rw [z,e] at e';cases e'
 ·obtain ⟨_,vs,q⟩:=m.hd p z
  rw [e] at q;cases q
theorem MemOk.off_none (m:MemOk K S) {p:Addr} (e:S.H p = none):S.off p:=m.off_of e (fun z=>z)
theorem Grow.tup (g:Grow S S') (m:MemOk K S) {p:Addr} (h:SqT K S.H p vs):SqT K S'.H p vs:=by
 rcases h with (h | ⟨o,h⟩) | h
 ·exact .inl (.inl (g.kp _ _ h (m.off_of h (fun z=>z))))
 ·exact .inl (.inr ⟨o,g.kp _ _ h (m.off_of h (fun z=>z))⟩)
 ·exact .inr h
theorem Grow.off (g:Grow S S') {p:Addr} {o:HO} (h:S.H p = some o) (f:S.off p):S'.off p:=by
 refine ⟨fun a ha z=>?_,fun z=>?_⟩
 ·by_cases hl:a < S.M.length
  ·rw [g.al a hl] at z;exact f.1 a hl z
  ·have:=g.fr a (Nat.le_of_not_lt hl) ha
   rw [z,h] at this
   cases this
 ·rcases g.hf p z with q | q
  ·exact f.2 q
  ·rw [h] at q;cases q
theorem Grow.rd (g:Grow S S') {p:Addr} {u:HO} (h:Rd S.H p u) (f:S.off p):Rd S'.H p u/\S'.off p:=by
 rcases h with h | ⟨o,h⟩
 ·exact ⟨.inl (g.kp _ _ h f),g.off h f⟩
 ·exact ⟨.inr ⟨o,g.kp _ _ h f⟩,g.off h f⟩
theorem Rep.grow (m:MemOk K S) (g:Grow S S') (r:Rep K S t v):Rep K S' t v:=by
 induction r with
 | non=>exact .non
 | bl b=>exact .bl b
 | int b=>exact .int b
 | str b=>exact .str b
 | ty b=>exact .ty b
 | tup h l _ ih=>exact .tup (g.tup m h) l ih
 | lst h l _ ih=>
  refine .lst ?_ l ih
  rcases h with ⟨h,f⟩ | h
  ·exact .inl (g.rd h f)
  ·exact .inr h
 | ref h=>rw [← g.al _ h];exact .ref (Q5 h g.le)
 | dct h l _ ih=>exact .dct (g.kp _ _ h (m.off_of h (fun z=>z))) l ih
 | exc h hd l _ ih=>exact .exc (g.kp _ _ h (m.off_ext h)) (hd.imp (fun z=>z) fun ⟨d,a,b⟩=>⟨d,a,g.kp _ _ b (m.off_of b (fun z=>z))⟩) l ih
theorem Reps.grow (m:MemOk K S) (g:Grow S S') (r:Reps K S ts vs):Reps K S' ts vs:=⟨r.1,fun i t v e1 e2=>(r.2 i t v e1 e2).grow m g⟩
theorem RepF.grow (m:MemOk K S) (g:Grow S S') {ts:List (Str × T)} {vs:List (Str × V)} (r:RepF K S ts vs):RepF K S' ts vs:=⟨r.1,r.2.grow m g⟩
theorem RepK.grow (m:MemOk K S) (g:Grow S S') {ts:List (Key × T)} {vs:List (Key × V)} (r:RepK K S ts vs):RepK K S' ts vs:=⟨r.1,r.2.grow m g⟩
theorem Reps.nil:Reps K S [] []:=⟨rfl,fun _ _ _ e _=>by simp at e⟩
theorem Reps.cons (r:Rep K S t v) (rs:Reps K S ts vs):Reps K S (t :: ts) (v :: vs):=by
 refine ⟨by simp [rs.1],fun i a b e1 e2=>?_⟩
 cases i with
 | zero=>simp at e1 e2;subst e1;subst e2;exact r
 | succ i=>exact rs.2 i a b (by simpa using e1) (by simpa using e2)
theorem Reps.nil_inv (r:Reps K S ts []):ts = []:=List.length_eq_zero_iff.mp (by rw [r.1];rfl)
theorem Reps.consT (r:Reps K S (t :: ts) vs):∃ v vs',vs = v :: vs'/\Rep K S t v/\Reps K S ts vs':=by
 cases vs with
 | nil=>have:=r.1;simp at this
 | cons v vs'=>exact ⟨v,vs',rfl,r.2 0 t v rfl rfl,by have:=r.1;simpa using this,fun i a b e1 e2=>r.2 (i + 1) a b (by simpa using e1) (by simpa using e2)⟩
theorem Reps.nilT (r:Reps K S [] vs):vs = []:=List.length_eq_zero_iff.mp (by rw [← r.1];rfl)
theorem Reps.app {ts':List T} {vs':List V} (r:Reps K S ts vs) (r':Reps K S ts' vs'):Reps K S (ts ++ ts') (vs ++ vs'):=by
 induction ts generalizing vs with
 | nil=>rw [r.nilT];exact r'
 | cons t ts ih=>
  obtain ⟨v,vs1,rfl,r1,r2⟩:=r.consT
  exact (ih r2).cons r1
theorem Reps.get (r:Reps K S ts vs) {i:Nat} (e:ts[i]? = some t):∃ v,vs[i]? = some v/\Rep K S t v:=by
 have hi:i < vs.length:=by rw [← r.1];exact (List.getElem?_eq_some_iff.mp e).1
 have e2:vs[i]? = some vs[i]:=by simp [hi]
 exact ⟨_,e2,r.2 i t _ e e2⟩
theorem Reps.set (r:Reps K S ts vs) (q:Rep K S t v) (j:Nat):Reps K S (ts.set j t) (vs.set j v):=by
 refine ⟨by simp [r.1],fun i a b e1 e2=>?_⟩
 rw [getElem?_set] at e1 e2
 by_cases h:j = i
 ·subst h
  by_cases hl:j < ts.length
  ·rw [if_pos rfl,if_pos hl] at e1
   rw [if_pos rfl,if_pos (by rw [← r.1];exact hl)] at e2
   cases e1;cases e2;exact q
  ·rw [if_pos rfl,if_neg hl] at e1;cases e1
 ·rw [if_neg h] at e1 e2
  exact r.2 i a b e1 e2
theorem Reps.sub (r:Reps K S ts vs) (a b:Nat):Reps K S ((ts.drop a).take b) ((vs.drop a).take b):=by
 refine ⟨by simp [r.1],fun i x y e1 e2=>?_⟩
 rw [getElem?_take] at e1 e2
 split at e1
 ·rename_i h
  rw [if_pos h] at e2
  rw [List.getElem?_drop] at e1 e2
  exact r.2 _ x y e1 e2
 ·cases e1
theorem CellOk.grow (m:MemOk K S) (g:Grow S S') {p:Addr} (e:S'.H p = S.H p) (h:CellOk K S p c):CellOk K S' p c:=by
 cases c with
 | lst ts=>obtain ⟨vs,q,r⟩:=h;exact ⟨vs,by rw [e];exact q,r.grow m g⟩
 | dic ts=>obtain ⟨vs,q,r⟩:=h;exact ⟨vs,by rw [e];exact q,r.grow m g⟩
 | ins C ts=>obtain ⟨dx,vs,q,r⟩:=h;exact ⟨dx,vs,by rw [e];exact q,r.grow m g⟩
theorem Stp.refl (m:MemOk K S):Stp K S S:=⟨⟨Q3 _,fun _ _=>rfl,fun a h1 h2=>absurd (Q5 h2 h1) (Qm _),fun _ _ e _=>e,fun _ h=>⟨h,rfl⟩,fun _ h=>.inl h⟩,m⟩
theorem Stp.trans (a:Stp K S S') (b:Stp K S' S''):Stp K S S'':=by
 have nn:∀ p,S'.H p = none->S.H p = none:=fun p hn=>by
  cases q:S.H p with
  | none=>rfl
  | some o=>
   by_cases f:S.off p
   ·rw [a.kp _ _ q f] at hn;cases hn
   ·exfalso
    apply f
    refine ⟨fun c hc z=>?_,fun z=>?_⟩
    ·have h3:c < S'.M.length:=Q5 hc a.le
     obtain ⟨o',e',_⟩:=a.mok.some h3
     rw [a.al c hc,z,hn] at e'
     cases e'
    ·rw [(a.hk p z).2,q] at hn;cases hn
 refine ⟨⟨Qh a.le b.le,fun i hi=>(b.al i (Q5 hi a.le)).trans (a.al i hi),fun i h1 h2=>?_,fun p o e f=>b.kp _ _ (a.kp _ _ e f) (a.off e f),fun p h=>⟨(b.hk p (a.hk p h).1).1,(b.hk p (a.hk p h).1).2.trans (a.hk p h).2⟩,fun p h=>?_⟩,b.mok⟩
 ·by_cases hl:i < S'.M.length
  ·rw [b.al i hl];exact a.fr i h1 hl
  ·exact nn _ (b.fr i (Nat.le_of_not_lt hl) h2)
 ·rcases b.hf p h with q | q
  ·exact a.hf p q
  ·exact .inr (nn p q)
theorem Stp.new (m:MemOk K S) {p:Addr} (hp:S.H p = none) (o:HO):Stp K S ⟨S.α,S.M,upd S.H p o,S.hid⟩:=by
 have g:Grow S ⟨S.α,S.M,upd S.H p o,S.hid⟩:=⟨Q3 _,fun _ _=>rfl,fun a h1 h2=>absurd (Q5 h2 h1) (Qm _),fun b u e _=>by show upd S.H p o b = _;rw [yd (yf e hp)];exact e,fun q h=>⟨h,by obtain ⟨_,vs,e⟩:=m.hd q h;exact yd (yf e hp)⟩,fun q h=>.inl h⟩
 refine ⟨g,⟨fun a c e=>?_,m.inj,fun q h=>?_⟩⟩
 rotate_left
 ·obtain ⟨h1,vs,e⟩:=m.hd q h
  exact ⟨h1,vs,(yd (yf e hp)).trans e⟩
 refine (m.cell a c e).grow m g ?_
 have ha:a < S.M.length:=(List.getElem?_eq_some_iff.mp e).1
 exact yd ((m.off_none hp).1 a ha)
noncomputable def Sit.more (S:Sit) (p:Addr) (o:HO) (c:Cell):Sit:=⟨fun a=>if a = S.M.length then p else S.α a,S.M ++ [c],upd S.H p o,S.hid⟩
theorem Grow.more (m:MemOk K S) {p:Addr} (hp:S.H p = none) (o:HO) (c:Cell):Grow S (S.more p o c):=by
 refine ⟨by show _<=(S.M ++ [c]).length;simp,fun a h=>if_neg (Qi h),fun a h1 h2=>?_,fun b u e _=>?_,fun q h=>⟨h,by obtain ⟨_,vs,e⟩:=m.hd q h;exact yd (yf e hp)⟩,fun q h=>.inl h⟩
 ·have h3:a < (S.M ++ [c]).length:=h2
  have:a = S.M.length:=by simp at h3;omega
  show S.H (if a = S.M.length then p else S.α a) = none
  rw [if_pos this];exact hp
 ·show upd S.H p o b = _;rw [yd (yf e hp)];exact e
theorem Stp.more (m:MemOk K S) {p:Addr} (hp:S.H p = none) (o:HO) (c:Cell) (hc:CellOk K (S.more p o c) p c):Stp K S (S.more p o c):=by
 have g:=Grow.more m hp o c
 refine ⟨g,⟨fun a d e=>?_,fun a b h1 h2 e=>?_,fun q h=>?_⟩⟩
 rotate_right
 ·obtain ⟨h1,vs,e⟩:=m.hd q h
  refine ⟨fun a ha z=>?_,vs,(yd (yf e hp)).trans e⟩
  have z':(if a = S.M.length then p else S.α a) = q:=z
  by_cases hl:a = S.M.length
  ·rw [if_pos hl] at z';rw [← z',hp] at e;cases e
  ·rw [if_neg hl] at z'
   have h3:a < (S.M ++ [c]).length:=ha
   exact h1 a (by simp at h3;omega) z'
 ·have e':(S.M ++ [c])[a]? = some d:=e
  by_cases ha:a < S.M.length
  ·rw [Q6 ha] at e'
   show CellOk K _ (if a = S.M.length then p else S.α a) d
   rw [if_neg (Qi ha)]
   exact (m.cell a d e').grow m g (yd ((m.off_none hp).1 a ha))
  ·rw [Q7 (Nat.le_of_not_lt ha)] at e'
   have h3:a - S.M.length = 0:=by
    cases q:a - S.M.length with
    | zero=>rfl
    | succ k=>rw [q] at e';simp at e'
   rw [h3] at e'
   cases e'
   show CellOk K _ (if a = S.M.length then p else S.α a) c
   rw [if_pos (by omega)]
   exact hc
 ·have h1':a < (S.M ++ [c]).length:=h1
  have h2':b < (S.M ++ [c]).length:=h2
  have e':(if a = S.M.length then p else S.α a) = (if b = S.M.length then p else S.α b):=e
  simp at h1' h2'
  by_cases ha:a = S.M.length
  ·by_cases hb:b = S.M.length
   ·omega
   ·rw [if_pos ha,if_neg hb] at e'
    exact absurd e'.symm ((m.off_none hp).1 b (by omega))
  ·by_cases hb:b = S.M.length
   ·rw [if_neg ha,if_pos hb] at e'
    exact absurd e' ((m.off_none hp).1 a (by omega))
   ·rw [if_neg ha,if_neg hb] at e'
    exact m.inj a b (by omega) (by omega) e'
noncomputable def Sit.put (S:Sit) (a:Nat) (o:HO) (c:Cell):Sit:=⟨S.α,S.M.set a c,upd S.H (S.α a) o,S.hid⟩
theorem Grow.put (m:MemOk K S) {a:Nat} (ha:a < S.M.length) (o:HO) (c:Cell):Grow S (S.put a o c):=by
 refine ⟨by show _<=(S.M.set a c).length;simp,fun _ _=>rfl,fun b h1 h2=>?_,fun b u e f=>?_,fun q h=>⟨h,yd (Ne.symm ((m.hd q h).1 a ha))⟩,fun q h=>.inl h⟩
 ·have h3:b < (S.M.set a c).length:=h2
  simp at h3
  exact absurd (Q5 h3 h1) (Qm _)
 ·show upd S.H (S.α a) o b = _
  rw [yd (Ne.symm (f.1 a ha))];exact e
theorem Stp.put (m:MemOk K S) {a:Nat} (ha:a < S.M.length) (o:HO) (c:Cell) (hc:CellOk K (S.put a o c) (S.α a) c):Stp K S (S.put a o c):=by
 have g:=Grow.put m ha o c
 refine ⟨g,⟨fun b d e=>?_,fun i j h1 h2 e=>?_,fun q h=>?_⟩⟩
 rotate_right
 ·obtain ⟨h1,vs,e⟩:=m.hd q h
  refine ⟨fun b hb z=>?_,vs,(yd (Ne.symm (h1 a ha))).trans e⟩
  have h3:b < (S.M.set a c).length:=hb
  simp at h3
  exact h1 b h3 z
 ·have e':(S.M.set a c)[b]? = some d:=e
  rw [getElem?_set] at e'
  by_cases h:a = b
  ·subst h
   rw [if_pos rfl,if_pos ha] at e'
   cases e'
   exact hc
  ·rw [if_neg h] at e'
   refine (m.cell b d e').grow m g (yd fun z=>h ?_)
   exact (m.inj b a (List.getElem?_eq_some_iff.mp e').1 ha z).symm
 ·have h1':i < (S.M.set a c).length:=h1
  have h2':j < (S.M.set a c).length:=h2
  simp at h1' h2'
  exact m.inj i j h1' h2' e
end
def EvR (K:Frag) (S:Sit) (στ:Ev) (σ:L2.St):Prop:=στ.length = σ.length/\∀ (i:Nat) t,στ[i]? = some (some t)->∃ v,σ[i]? = some (some v)/\Rep K S t v
class Mo (K:Frag) {β γ:Type} (R:Sit->β->γ->Prop):Prop where
 mo:∀ {S S' b c},MemOk K S->Stp K S S'->R S b c->R S' b c
noncomputable def UnR:Sit->Unit->Unit->Prop:=fun _ _ _=>True
noncomputable def EqR {β:Type}:Sit->β->β->Prop:=fun _ b c=>b = c
noncomputable def PrR {A AV B BV:Type} (RA:Sit->A->AV->Prop) (RB:Sit->B->BV->Prop):Sit->A × B->AV × BV->Prop:=fun S a v=>RA S a.1 v.1/\RB S a.2 v.2
instance (K):Mo K (Rep K):=⟨fun m s r=>r.grow m s.toGrow⟩
instance (K):Mo K (Reps K):=⟨fun m s r=>r.grow m s.toGrow⟩
instance (K):Mo K (EvR K):=⟨fun m s r=>⟨r.1,fun i t e=>let ⟨v,e',q⟩:=r.2 i t e;⟨v,e',q.grow m s.toGrow⟩⟩⟩
instance (K):Mo K UnR:=⟨fun _ _ r=>r⟩
instance (K) {β:Type}:Mo K (EqR (β:=β)):=⟨fun _ _ r=>r⟩
instance (K) {A AV B BV:Type} (RA:Sit->A->AV->Prop) (RB:Sit->B->BV->Prop) [Mo K RA] [Mo K RB]:Mo K (PrR RA RB):=⟨fun m s r=>⟨Mo.mo m s r.1,Mo.mo m s r.2⟩⟩
def zjn (K:Frag) (S:Sit) (fs:List (Str × T)) (od:Option Addr):Prop:=(fs = []/\od = none)\/∃ d us,od = some d/\S.H d = some (.xd us)/\RepF K S fs us
def Fin {β γ:Type} (XE:XK) (R:Sit->β->γ->Prop) (K:Frag) (S:Sit) (o:Out β) (Q:γ->Hp->Prop):Prop:=match o with
 | .ok b M'=>∀ S' c,S'.M = M'->Stp K S S'->R S' b c->Q c S'.H
 | .exn C fs M'=>∀ S' od,S'.M = M'->Stp K S S'->zjn K S' fs od->XE (.ref C) od S'.H
 | .bad=>False
variable {S1:Sit} {XE:XK}
theorem Fin.later {β γ:Type} {R:Sit->β->γ->Prop} {S:Sit} {o:Out β} {Q:γ->Hp->Prop} (s:Stp K S S1) (h:Fin XE R K S o Q):Fin XE R K S1 o Q:=by
 cases o with
 | ok b M'=>exact fun S' c e s' r=>h S' c e (s.trans s') r
 | exn C fs M'=>exact fun S' c e s' r=>h S' c e (s.trans s') r
 | bad=>exact h
theorem Fin.mono {β γ:Type} {R:Sit->β->γ->Prop} {S:Sit} {o:Out β} {Q Q':γ->Hp->Prop} (i:∀ c H,Q c H->Q' c H) (h:Fin XE R K S o Q):Fin XE R K S o Q':=by
 cases o with
 | ok b M'=>exact fun S' c e s' r=>i _ _ (h S' c e s' r)
 | exn C fs M'=>exact h
 | bad=>exact h
def LN {A AV β γ:Type} (XE:XK) (R:Sit->β->γ->Prop) (K:Frag) (RA:Sit->A->AV->Prop) (k:A->Ev->Mem->Out β) (av:AV) (σ:L2.St) (H:Hp) (Q:γ->Hp->Prop):Prop:=
 ∃ (S:Sit) (στ:Ev) (a:A),S.H = H/\MemOk K S/\EvR K S στ σ/\RA S a av/\Fin XE R K S (k a στ S.M) Q
def L0 {A AV β γ:Type} (XE:XK) (R:Sit->β->γ->Prop) (K:Frag) (RA:Sit->A->AV->Prop) (k:A->Mem->Out β) (av:AV) (H:Hp) (Q:γ->Hp->Prop):Prop:=
 ∃ (S:Sit) (a:A),S.H = H/\MemOk K S/\RA S a av/\Fin XE R K S (k a S.M) Q
variable {H:Hp} {σ:L2.St}
section
theorem LN.bind {A AV B BV β γ:Type} {R:Sit->β->γ->Prop} {RA:Sit->A->AV->Prop} {RB:Sit->B->BV->Prop} [Mo K RA] {f:A->Ev->Mem->Out B} {k:A->B->Ev->Mem->Out β} {av:AV} {Q:γ->Hp->Prop}
 (h:LN XE R K RA (fun a σ M=>(f a σ M).bind fun b M1=>k a b σ M1) av σ H Q) :
  LN XE RB K RA f av σ H (fun bv H1=>LN XE R K (PrR RA RB) (fun ab=>k ab.1 ab.2) (av,bv) σ H1 Q):=by
 obtain ⟨S,στ,a,e,m,ev,ra,fin⟩:=h
 refine ⟨S,στ,a,e,m,ev,ra,?_⟩
 replace fin:Fin XE R K S ((f a στ S.M).bind fun b M1=>k a b στ M1) Q:=fin
 cases q:f a στ S.M with
 | bad=>rw [q] at fin;exact fin
 | exn C fs M'=>rw [q] at fin;exact fin
 | ok b M1=>
  rw [q] at fin
  intro S1 c e1 s1 r1
  refine ⟨S1,στ,(a,b),rfl,s1.mok,Mo.mo m s1 ev,⟨Mo.mo m s1 ra,r1⟩,?_⟩
  rw [e1]
  exact fin.later s1
theorem LN.l0 {A AV β γ:Type} {R:Sit->β->γ->Prop} {RA:Sit->A->AV->Prop} {k:A->Mem->Out β} {av:AV} {Q:γ->Hp->Prop} (h:LN XE R K RA (fun a _ M=>k a M) av σ H Q):L0 XE R K RA k av H Q:=by
 obtain ⟨S,στ,a,e,m,ev,ra,fin⟩:=h
 exact ⟨S,a,e,m,ra,fin⟩
theorem LN.mono {A AV β γ:Type} {R:Sit->β->γ->Prop} {RA:Sit->A->AV->Prop} {k:A->Ev->Mem->Out β} {av:AV} {Q Q':γ->Hp->Prop} (h:LN XE R K RA k av σ H Q) (i:∀ c H,Q c H->Q' c H):LN XE R K RA k av σ H Q':=by
 obtain ⟨S,στ,a,e,m,ev,ra,fin⟩:=h
 exact ⟨S,στ,a,e,m,ev,ra,fin.mono i⟩
theorem LN.env {A AV β γ:Type} {R:Sit->β->γ->Prop} {RA:Sit->A->AV->Prop} {f:Ev->Mem->Out β} {av:AV} {Q:γ->Hp->Prop} (h:LN XE R K RA (fun _ σ M=>f σ M) av σ H Q):LN XE R K UnR (fun _ σ M=>f σ M) () σ H Q:=by
 obtain ⟨S,στ,a,e,m,ev,ra,fin⟩:=h
 exact ⟨S,στ,(),e,m,ev,trivial,fin⟩
end
noncomputable def lE (XE:XK) (K:Frag) (f:Ev->Mem->Out T):TE:=fun σ H Q=>LN XE (Rep K) K UnR (fun _ σ M=>f σ M) () σ H Q
noncomputable def lT (XE:XK) (K:Frag) (f:Ev->Mem->Out Bool):TT:=fun σ H Q=>LN XE EqR K UnR (fun _ σ M=>f σ M) () σ H Q
noncomputable def lA (XE:XK) (K:Frag) (f:Ev->Mem->Out (List T)):TA:=fun σ H Q=>LN XE (Reps K) K UnR (fun _ σ M=>f σ M) () σ H Q
def GE (X:Cx) (XE:XK) (e:Expr) (f:Ev->Mem->Out T):Prop:=PE X e (lE XE X.K f)
def GT (X:Cx) (XE:XK) (e:Expr) (f:Ev->Mem->Out Bool):Prop:=PT X e (lT XE X.K f)
def GW (X:Cx) (XE:XK) (e:Expr) (f:Ev->Mem->Out Bool):Prop:=PW X e (lT XE X.K f)
def GA (X:Cx) (XE:XK) (es:List Expr) (f:Ev->Mem->Out (List T)):Prop:=PA X es (lA XE X.K f)
variable {X:Cx}
theorem PE.imp {t t':TE} (h:PE X e t) (i:∀ σ H Q,t' σ H Q->t σ H Q):PE X e t':=fun pins s σ H Q I q=>h pins s σ H Q I (i σ H Q q)
variable {t':TT}
theorem PT.imp {t:TT} (h:PT X e t) (i:∀ σ H Q,t' σ H Q->t σ H Q):PT X e t':=fun pins s σ H Q I q=>h pins s σ H Q I (i σ H Q q)
theorem PW.imp {t:TT} (h:PW X e t) (i:∀ σ H Q,t' σ H Q->t σ H Q):PW X e t':=fun whole pins s σ H Q I q=>h whole pins s σ H Q I (i σ H Q q)
theorem PA.imp {e:List Expr} {t t':TA} (h:PA X e t) (i:∀ σ H Q,t' σ H Q->t σ H Q):PA X e t':=fun pos pins s σ H Q I q=>h pos pins s σ H Q I (i σ H Q q)
theorem PS.imp {e:Stmt} {t t':TS} (h:PS X e t) (i:∀ D σ H,t' D σ H->t D σ H):PS X e t':=fun pins s σ H D I q=>h pins s σ H D I (i D σ H q)
theorem PSs.imp {e:List Stmt} {t t':TS} (h:PSs X e t) (i:∀ D σ H,t' D σ H->t D σ H):PSs X e t':=fun pins s σ H D I q=>h pins s σ H D I (i D σ H q)
noncomputable def qb (i:Nat):Ev->Mem->Out T:=fun σ M=>match σ[i]? with
 | some (some t)=>.ok t M
 | _=>.bad
noncomputable def eC (t:T):Ev->Mem->Out T:=fun _ M=>.ok t M
noncomputable def eOp (o:T->T->Mem->Out T) (f g:Ev->Mem->Out T):Ev->Mem->Out T:=fun σ M=>(f σ M).bind fun x M1=>(g σ M1).bind fun y M2=>o x y M2
noncomputable def eUn (o:T->Mem->Out T) (f:Ev->Mem->Out T):Ev->Mem->Out T:=fun σ M=>(f σ M).bind fun x M1=>o x M1
noncomputable def blT {β:Type} (t:T) (M:Mem) (k:Bool->Mem->Out β):Out β:=match t with
 | .bl b=>k b M
 | _=>.bad
noncomputable def ym (f:Ev->Mem->Out T):Ev->Mem->Out Bool:=fun σ M=>(f σ M).bind fun x M1=>blT x M1 fun b M2=>.ok b M2
noncomputable def zaf (f g:Ev->Mem->Out Bool):Ev->Mem->Out Bool:=fun σ M=>(f σ M).bind fun c M1=>if c = true then g σ M1 else .ok false M1
noncomputable def zbn (f g:Ev->Mem->Out Bool):Ev->Mem->Out Bool:=fun σ M=>(f σ M).bind fun c M1=>if c = true then .ok true M1 else g σ M1
noncomputable def zae (f:Ev->Mem->Out Bool):Ev->Mem->Out Bool:=fun σ M=>(f σ M).bind fun c M1=>.ok (!c) M1
noncomputable def zlx (f g:Ev->Mem->Out T):Ev->Mem->Out T:=fun σ M=>(f σ M).bind fun x M1=>blT x M1 fun b M2=>if b = true then g σ M2 else .ok (.bl false) M2
noncomputable def eOr (f g:Ev->Mem->Out T):Ev->Mem->Out T:=fun σ M=>(f σ M).bind fun x M1=>blT x M1 fun b M2=>if b = true then .ok (.bl true) M2 else g σ M2
noncomputable def zlw (f:Ev->Mem->Out T):Ev->Mem->Out T:=fun σ M=>(f σ M).bind fun x M1=>blT x M1 fun b M2=>.ok (.bl (!b)) M2
noncomputable def eIf (c:Ev->Mem->Out Bool) (f g:Ev->Mem->Out T):Ev->Mem->Out T:=fun σ M=>(c σ M).bind fun b M1=>if b = true then f σ M1 else g σ M1
noncomputable def zd:Ev->Mem->Out (List T):=fun _ M=>.ok [] M
noncomputable def qa (f:Ev->Mem->Out T) (g:Ev->Mem->Out (List T)):Ev->Mem->Out (List T):=fun σ M=>(f σ M).bind fun x M1=>(g σ M1).bind fun xs M2=>.ok (x :: xs) M2
noncomputable def zG (g:Ev->Mem->Out (List T)):Ev->Mem->Out T:=fun σ M=>(g σ M).bind fun xs M1=>if xs.length<=sizeLine then .ok (.tup xs) M1 else .bad
noncomputable def zw (g:Ev->Mem->Out (List T)):Ev->Mem->Out (List T):=fun σ M=>(g σ M).bind fun xs M1=>if xs.length<=sizeLine then .ok xs M1 else .bad
noncomputable def eFz (g:Ev->Mem->Out (List T)):Ev->Mem->Out T:=fun σ M=>(g σ M).bind fun xs M1=>.ok (.lst xs) M1
noncomputable def eTk (g:Ev->Mem->Out (List T)):Ev->Mem->Out T:=fun σ M=>(g σ M).bind fun xs M1=>.ok (.ref M1.length) (M1 ++ [.lst xs])
noncomputable def qd (f:List T->Mem->Out T) (g:Ev->Mem->Out (List T)):Ev->Mem->Out T:=fun σ M=>(g σ M).bind fun ts M1=>f ts M1
noncomputable def qJ (o o':T->T->Mem->Out T) (f g h:Ev->Mem->Out T):Ev->Mem->Out T:=fun σ M=>(f σ M).bind fun x M1=>(g σ M1).bind fun y M2=>(o x y M2).bind fun z M3=>blT z M3 fun b M4=>if b = true then (h σ M4).bind fun w M5=>o' y w M5 else .ok (.bl false) M4
noncomputable def lR2 (XE:XK) (K:Frag) (o:T->T->Mem->Out T):R2:=fun x y H Q=>L0 XE (Rep K) K (PrR (Rep K) (Rep K)) (fun a M=>o a.1 a.2 M) (x,y) H Q
noncomputable def lRN (XE:XK) (K:Frag) (o:List T->Mem->Out T):List V->Hp->VK->Prop:=fun xs H Q=>L0 XE (Rep K) K (Reps K) o xs H Q
def FinL (XE:XK) (K:Frag) (S:Sit) (o:Out (List T)) (Q:VK):Prop:=match o with
 | .ok xs M'=>∀ S' p vs,S'.M = M'->Stp K S S'->S.H p = none->p ∈ S'.hid->S'.H p = some (.lst vs)->Reps K S' xs vs->Q (.ref p) S'.H
 | .exn C fs M'=>∀ S' od,S'.M = M'->Stp K S S'->zjn K S' fs od->XE (.ref C) od S'.H
 | .bad=>False
variable {Q:VK}
theorem FinL.later {S:Sit} {o:Out (List T)} (s:Stp K S S1) (h:FinL XE K S o Q):FinL XE K S1 o Q:=by
 have nn:∀ p,S1.H p = none->S.H p = none:=fun p hn=>by
  cases q:S.H p with
  | none=>rfl
  | some o=>
   by_cases f:S.off p
   ·rw [s.kp _ _ q f] at hn;cases hn
   ·exfalso
    apply f
    refine ⟨fun c hc z=>?_,fun z=>?_⟩
    ·have h3:c < S1.M.length:=Q5 hc s.le
     obtain ⟨o',e',_⟩:=s.mok.some h3
     rw [s.al c hc,z,hn] at e'
     cases e'
    ·rw [(s.hk p z).2,q] at hn;cases hn
 cases o with
 | ok b M'=>exact fun S' p vs e s' f=>h S' p vs e (s.trans s') (nn p f)
 | exn C fs M'=>exact fun S' c e s' r=>h S' c e (s.trans s') r
 | bad=>exact h
noncomputable def lL (XE:XK) (K:Frag) (f:Ev->Mem->Out (List T)):TE:=fun σ H Q=>∃ (S:Sit) (στ:Ev),S.H = H/\MemOk K S/\EvR K S στ σ/\FinL XE K S (f στ S.M) Q
def GL (X:Cx) (XE:XK) (e:Expr) (f:Ev->Mem->Out (List T)):Prop:=PE X e (lL XE X.K f)
variable {q:Addr} {h hh:List Addr} {xs:List T}
section
variable {S:Sit}
noncomputable def Sit.show (S':Sit) (h:List Addr):Sit:=⟨S'.α,S'.M,S'.H,h⟩
theorem Rep.show (sub:∀ p ∈ h,p ∈ S'.hid) (r:Rep K S' t v):Rep K (S'.show h) t v:=by
 induction r with
 | non=>exact .non
 | bl b=>exact .bl b
 | int b=>exact .int b
 | str b=>exact .str b
 | ty b=>exact .ty b
 | tup h l _ ih=>exact .tup h l ih
 | lst h l _ ih=>
  refine .lst ?_ l ih
  rcases h with ⟨h,f⟩ | h
  ·exact .inl ⟨h,f.1,fun z=>f.2 (sub _ z)⟩
  ·exact .inr h
 | ref h=>exact .ref (S:=S'.show _) h
 | dct h l _ ih=>exact .dct h l ih
 | exc h hd l _ ih=>exact .exc h hd l ih
theorem Reps.show (sub:∀ p ∈ h,p ∈ S'.hid) (r:Reps K S' ts vs):Reps K (S'.show h) ts vs:=⟨r.1,fun i t v e1 e2=>(r.2 i t v e1 e2).show sub⟩
theorem CellOk.show (sub:∀ p ∈ h,p ∈ S'.hid) {p:Addr} (q:CellOk K S' p c):CellOk K (S'.show h) p c:=by
 cases c with
 | lst ts=>obtain ⟨vs,q,r⟩:=q;exact ⟨vs,q,r.show sub⟩
 | dic ts=>obtain ⟨vs,q,r⟩:=q;exact ⟨vs,q,r.1,r.2.show sub⟩
 | ins C ts=>obtain ⟨dx,vs,q,r⟩:=q;exact ⟨dx,vs,q,r.1,r.2.show sub⟩
theorem Stp.show (s:Stp K S S'):Stp K S (S'.show S.hid):=by
 have sub:∀ p ∈ S.hid,p ∈ S'.hid:=fun p h=>(s.hk p h).1
 exact ⟨⟨s.le,s.al,s.fr,s.kp,fun p h=>⟨h,(s.hk p h).2⟩,fun p h=>.inl h⟩,⟨fun a c e=>(s.mok.cell a c e).show sub,s.mok.inj,fun p h=>s.mok.hd p (sub p h)⟩⟩
theorem zhp (s:Stp K S S') {p:Addr} (hn:S.H p = none) (m:MemOk K S) (hp:p ∈ S'.hid) (e:S'.H p = some (.lst vs)) (r:Reps K S' xs vs):Rep K (S'.show S.hid) (.lst xs) (.ref p):=by
 have sub:∀ p ∈ S.hid,p ∈ S'.hid:=fun p h=>(s.hk p h).1
 refine .lst (.inl ⟨.inl e,(s.mok.hd p hp).1,fun z=>?_⟩) r.1 (r.show sub).2
 obtain ⟨_,us,q⟩:=m.hd p z
 rw [hn] at q
 cases q
noncomputable def Sit.track (S':Sit) (p:Addr) (xs:List T) (h:List Addr):Sit:=⟨fun a=>if a = S'.M.length then p else S'.α a,S'.M ++ [.lst xs],S'.H,h⟩
theorem Rep.track {p:Addr} (hp:p ∈ S'.hid) (sub:∀ p ∈ hh,p ∈ S'.hid) (r:Rep K S' t v):Rep K (S'.track p xs hh) t v:=by
 induction r with
 | non=>exact .non
 | bl b=>exact .bl b
 | int b=>exact .int b
 | str b=>exact .str b
 | ty b=>exact .ty b
 | tup h l _ ih=>exact .tup h l ih
 | lst h l _ ih=>
  refine .lst ?_ l ih
  rcases h with ⟨h,f⟩ | h
  ·refine .inl ⟨h,fun a ha z=>?_,fun z=>f.2 (sub _ z)⟩
   have z':(if a = S'.M.length then p else S'.α a) = _:=z
   by_cases hl:a = S'.M.length
   ·rw [if_pos hl] at z';rw [← z'] at f;exact f.2 hp
   ·rw [if_neg hl] at z'
    have h3:a < (S'.M ++ [Cell.lst xs]).length:=ha
    exact f.1 a (by simp at h3;omega) z'
  ·exact .inr h
 | @ref a h=>
  have:S'.α a = (S'.track p xs hh).α a:=(if_neg (Qi h)).symm
  rw [this]
  exact .ref (by show a < (S'.M ++ [Cell.lst xs]).length;simp;omega)
 | dct h l _ ih=>exact .dct h l ih
 | exc h hd l _ ih=>exact .exc h hd l ih
theorem Reps.track {p:Addr} (hp:p ∈ S'.hid) (sub:∀ p ∈ h,p ∈ S'.hid) (r:Reps K S' ts vs):Reps K (S'.track p xs h) ts vs:=⟨r.1,fun i t v e1 e2=>(r.2 i t v e1 e2).track hp sub⟩
theorem CellOk.track {p:Addr} (hp:p ∈ S'.hid) (sub:∀ p ∈ h,p ∈ S'.hid) (o:CellOk K S' q c):CellOk K (S'.track p xs h) q c:=by
 cases c with
 | lst ts=>obtain ⟨vs,q,r⟩:=o;exact ⟨vs,q,r.track hp sub⟩
 | dic ts=>obtain ⟨vs,q,r⟩:=o;exact ⟨vs,q,r.1,r.2.track hp sub⟩
 | ins C ts=>obtain ⟨dx,vs,q,r⟩:=o;exact ⟨dx,vs,q,r.1,r.2.track hp sub⟩
theorem Stp.track (s:Stp K S S') (m:MemOk K S) {p:Addr} (hn:S.H p = none) (hp:p ∈ S'.hid) (e:S'.H p = some (.lst vs)) (r:Reps K S' xs vs):Stp K S (S'.track p xs S.hid):=by
 have sub:∀ p ∈ S.hid,p ∈ S'.hid:=fun p h=>(s.hk p h).1
 have lt:∀ a,a < S'.M.length->(S'.track p xs S.hid).α a = S'.α a:=fun a h=>if_neg (Qi h)
 refine ⟨⟨Qh s.le (by show _<=(S'.M ++ [Cell.lst xs]).length;simp),fun a h=>(lt a (Q5 h s.le)).trans (s.al a h),fun a h1 h2=>?_,s.kp,fun p h=>⟨h,(s.hk p h).2⟩,fun p h=>.inl h⟩,⟨fun a c e2=>?_,fun a b h1 h2 e2=>?_,fun q h=>?_⟩⟩
 ·by_cases hl:a < S'.M.length
  ·rw [lt a hl];exact s.fr a h1 hl
  ·have h3:a < (S'.M ++ [Cell.lst xs]).length:=h2
   have:a = S'.M.length:=by simp at h3;omega
   show S.H (if a = S'.M.length then p else S'.α a) = none
   rw [if_pos this];exact hn
 ·have e':(S'.M ++ [Cell.lst xs])[a]? = some c:=e2
  by_cases ha:a < S'.M.length
  ·rw [Q6 ha] at e'
   rw [lt a ha]
   exact (s.mok.cell a c e').track hp sub
  ·rw [Q7 (Nat.le_of_not_lt ha)] at e'
   have h3:a - S'.M.length = 0:=by
    cases q:a - S'.M.length with
    | zero=>rfl
    | succ k=>rw [q] at e';simp at e'
   rw [h3] at e'
   cases e'
   show CellOk K _ (if a = S'.M.length then p else S'.α a) _
   rw [if_pos (by omega)]
   exact ⟨vs,e,r.track hp sub⟩
 ·have h1':a < (S'.M ++ [Cell.lst xs]).length:=h1
  have h2':b < (S'.M ++ [Cell.lst xs]).length:=h2
  have e':(if a = S'.M.length then p else S'.α a) = (if b = S'.M.length then p else S'.α b):=e2
  simp at h1' h2'
  by_cases ha:a = S'.M.length
  ·by_cases hb:b = S'.M.length
   ·omega
   ·rw [if_pos ha,if_neg hb] at e'
    exact absurd e'.symm ((s.mok.hd p hp).1 b (by omega))
  ·by_cases hb:b = S'.M.length
   ·rw [if_neg ha,if_pos hb] at e'
    exact absurd e' ((s.mok.hd p hp).1 a (by omega))
   ·rw [if_neg ha,if_neg hb] at e'
    exact s.mok.inj a b (by omega) (by omega) e'
 ·obtain ⟨h1,us,q1⟩:=s.mok.hd q (sub q h)
  refine ⟨fun a ha z=>?_,us,q1⟩
  have z':(if a = S'.M.length then p else S'.α a) = q:=z
  have h3:a < (S'.M ++ [Cell.lst xs]).length:=ha
  by_cases hl:a = S'.M.length
  ·rw [if_pos hl] at z'
   obtain ⟨_,us2,q2⟩:=m.hd q h
   rw [← z',hn] at q2
   cases q2
  ·rw [if_neg hl] at z'
   exact h1 a (by simp at h3;omega) z'
noncomputable def Sit.hide (S:Sit) (p:Addr) (vs:List V):Sit:=⟨S.α,S.M,upd S.H p (.lst vs),p :: S.hid⟩
theorem Stp.hide (m:MemOk K S) {p:Addr} (hp:S.H p = none) (vs:List V):Stp K S (S.hide p vs):=by
 have g:Grow S (S.hide p vs):=⟨Q3 _,fun _ _=>rfl,fun a h1 h2=>absurd (Q5 h2 h1) (Qm _),fun b u e _=>by show upd S.H p _ b = _;rw [yd (yf e hp)];exact e,fun q h=>⟨.tail _ h,by obtain ⟨_,vs,e⟩:=m.hd q h;exact yd (yf e hp)⟩,fun q h=>by
  cases h with
  | head=>exact .inr hp
  | tail _ h=>exact .inl h⟩
 refine ⟨g,⟨fun a c e=>?_,m.inj,fun q h=>?_⟩⟩
 ·have ha:a < S.M.length:=(List.getElem?_eq_some_iff.mp e).1
  exact (m.cell a c e).grow m g (yd ((m.off_none hp).1 a ha))
 ·cases h with
  | head=>exact ⟨(m.off_none hp).1,vs,yt⟩
  | tail _ h=>
   obtain ⟨h1,us,e⟩:=m.hd q h
   exact ⟨h1,us,(yd (yf e hp)).trans e⟩
end
variable {op op':CmpOp} {ga:Ev->Mem->Out (List T)} {tf:Ev->Mem->Out Bool} {f:Ev->Mem->Out T} {i:Int} {M:Mem} {x:Str} {o o':T->T->Mem->Out T}
section
variable {a b c:Expr} {g h:Ev->Mem->Out T}
theorem qF (h:PE X e (tC v)) (r:∀ S,Rep X.K S t v):GE X XE e (eC t):=PE.imp h fun σ H Q h9=>by
 obtain ⟨S,στ,_,e,m,ev,_,fin⟩:=h9
 show Q v H
 rw [← e];exact fin S v rfl (.refl m) (r S)
theorem zbj (h:lE XE K (eOp o f g) σ H Q):lE XE K f σ H fun x H1=>lE XE K g σ H1 fun y H2=>lR2 XE K o x y H2 Q:=
 LN.mono (LN.bind (f:=fun _ σ M=>f σ M) (k:=fun _ x σ M1=>(g σ M1).bind fun y M2=>o x y M2) (RB:=Rep K) h) fun v H1 h1=>
  LN.mono (LN.env (f:=g) (LN.bind (f:=fun _ σ M=>g σ M) (k:=fun (ax:Unit × T) y σ M2=>o ax.2 y M2) (RB:=Rep K) h1)) fun w H2 h2=>by
   obtain ⟨S,στ,a,e,m,ev,ra,fin⟩:=h2
   exact ⟨S,(a.1.2,a.2),e,m,⟨ra.1.2,ra.2⟩,fin⟩
theorem zb2 {β γ:Type} {R:Sit->β->γ->Prop} {S:Sit} {k:Bool->Mem->Out β} {Q:γ->Hp->Prop} (r:Rep K S t v) (h:Fin XE R K S (blT t M k) Q):∃ b,v = .bl b/\t = .bl b/\Fin XE R K S (k b M) Q:=by
 cases r with
 | bl b=>exact ⟨b,rfl,rfl,h⟩
 | _=>exact h.elim
theorem tif {tg:Ev->Mem->Out Bool} {Q:Bool->Hp->Prop} {p:Bool->Ev->Mem->Out Bool} (h:LN XE EqR K UnR (fun _ σ M=>(tf σ M).bind fun c M1=>p c σ M1) () σ H Q):lT XE K tf σ H fun c H1=>lT XE K (fun σ M=>p c σ M) σ H1 Q:=
 LN.mono (LN.bind (f:=fun _ σ M=>tf σ M) (k:=fun _ c σ M1=>p c σ M1) (RB:=EqR) h) fun c H1 h2=>by
  obtain ⟨S,στ,a,e,m,ev,ra,fin⟩:=h2
  have:a.2 = c:=ra.2
  subst this
  exact ⟨S,στ,(),e,m,ev,trivial,fin⟩
theorem zbZ {Q:Bool->Hp->Prop} {d:Bool} (h:lT XE K (fun _ M=>.ok d M) σ H Q):Q d H:=by
 obtain ⟨S,στ,a,e,m,ev,ra,fin⟩:=h
 rw [← e];exact fin S d rfl (.refl m) rfl
variable {tg:Ev->Mem->Out Bool} {rest:List Expr}
theorem GW.gt (h:GW X XE e tf):GT X XE e tf:=PW.pt h
theorem chain (hh:lE XE K (qJ o o' f g h) σ H Q):zca (lR2 XE K o) (lR2 XE K o') (lE XE K f) (lE XE K g) (lE XE K h) σ H Q:=
 LN.mono (LN.bind (f:=fun _ σ M=>f σ M) (k:=fun _ x σ M1=>(g σ M1).bind fun y M2=>(o x y M2).bind fun z M3=>blT z M3 fun b M4=>if b = true then (h σ M4).bind fun w M5=>o' y w M5 else .ok (.bl false) M4) (RB:=Rep K) hh) fun x H1 h1=>
  LN.mono (LN.env (f:=g) (LN.bind (f:=fun _ σ M=>g σ M) (k:=fun (ax:Unit × T) y σ M2=>(o ax.2 y M2).bind fun z M3=>blT z M3 fun b M4=>if b = true then (h σ M4).bind fun w M5=>o' y w M5 else .ok (.bl false) M4) (RB:=Rep K) h1)) fun y H2 h2=>by
   have h3:=LN.bind (f:=fun (a:(Unit × T) × T) _ M=>o a.1.2 a.2 M) (k:=fun a z σ M3=>blT z M3 fun b M4=>if b = true then (h σ M4).bind fun w M5=>o' a.2 w M5 else .ok (.bl false) M4) (RB:=Rep K) h2
   obtain ⟨S,a,e,m,ra,fin⟩:=LN.l0 (k:=fun (a:(Unit × T) × T) M=>o a.1.2 a.2 M) h3
   refine ⟨S,(a.1.2,a.2),e,m,⟨ra.1.2,ra.2⟩,fin.mono fun z H3 h4=>?_⟩
   obtain ⟨S3,στ,a3,e3,m3,ev3,ra3,fin3⟩:=h4
   obtain ⟨b,e1,_,fin3⟩:=zb2 ra3.2 fin3
   refine ⟨b,e1,?_⟩
   cases b with
   | false=>exact (if_neg Q4).mpr (by rw [← e3];exact fin3 S3 _ rfl (.refl m3) (.bl _))
   | true=>
    refine (if_pos rfl).mpr ?_
    have h5:LN XE (Rep K) K (Rep K) (fun y σ M4=>(h σ M4).bind fun w M5=>o' y w M5) y σ H3 Q:=⟨S3,στ,a3.1.2,e3,m3,ev3,ra3.1.2,fin3⟩
    refine LN.mono (LN.env (f:=h) (LN.bind (f:=fun _ σ M=>h σ M) (k:=fun y w σ M5=>o' y w M5) (RB:=Rep K) h5)) fun w H4 h6=>?_
    exact LN.l0 (k:=fun (a:T × T) M=>o' a.1 a.2 M) h6
end
inductive Fl where
 | nx (σ:Ev) | rt (t:T) | bk (σ:Ev) | ct (σ:Ev)
inductive FlV where
 | nx (σ:L2.St) | rt (v:V) | bk (σ:L2.St) | ct (σ:L2.St)
inductive FlR (K:Frag) (S:Sit):Fl->FlV->Prop where
 | nx {a b}:EvR K S a b->FlR K S (.nx a) (.nx b)
 | rt {a b}:Rep K S a b->FlR K S (.rt a) (.rt b)
 | bk {a b}:EvR K S a b->FlR K S (.bk a) (.bk b)
 | ct {a b}:EvR K S a b->FlR K S (.ct a) (.ct b)
noncomputable def zn (D:Ends):FlV->Hp->Prop
 | .nx σ,H=>D.nx σ H
 | .rt v,H=>D.rt v H
 | .bk σ,H=>D.bk σ H
 | .ct σ,H=>D.ct σ H
noncomputable def lS (XE:XK) (K:Frag) (g:Ev->Mem->Out Fl):TS:=fun D σ H=>LN XE (FlR K) K UnR (fun _ σ M=>g σ M) () σ H (zn D)
def GS (X:Cx) (XE:XK) (st:Stmt) (g:Ev->Mem->Out Fl):Prop:=PS X st (lS XE X.K g)
def GSs (X:Cx) (XE:XK) (st:List Stmt) (g:Ev->Mem->Out Fl):Prop:=PSs X st (lS XE X.K g)
variable {στ:Ev}
theorem EvR.set {S:Sit} (r:EvR K S στ σ) (q:Rep K S t v) (i:Nat):EvR K S (στ.set i (some t)) (σ.set i (some v)):=by
 refine ⟨by simp [r.1],fun j u e=>?_⟩
 rw [getElem?_set] at e ⊢
 by_cases h:i = j
 ·subst h
  by_cases hl:i < στ.length
  ·rw [if_pos rfl,if_pos hl] at e
   cases e
   exact ⟨v,by rw [if_pos rfl,if_pos (by rw [← r.1];exact hl)],q⟩
  ·rw [if_pos rfl,if_neg hl] at e;cases e
 ·rw [if_neg h] at e
  obtain ⟨w,e2,q2⟩:=r.2 j u e
  exact ⟨w,by rw [if_neg h];exact e2,q2⟩
noncomputable def qH:Ev->Mem->Out Fl:=fun σ M=>.ok (.nx σ) M
noncomputable def zk5:Ev->Mem->Out Fl:=fun σ M=>.ok (.bk σ) M
noncomputable def zlj:Ev->Mem->Out Fl:=fun σ M=>.ok (.ct σ) M
noncomputable def zaK (k:Ev->Mem->Out Fl) (fl:Fl) (M:Mem):Out Fl:=match fl with
 | .nx σ=>k σ M
 | .rt t=>.ok (.rt t) M
 | .bk σ=>.ok (.bk σ) M
 | .ct σ=>.ok (.ct σ) M
noncomputable def qf (g h:Ev->Mem->Out Fl):Ev->Mem->Out Fl:=fun σ M=>(g σ M).bind (zaK h)
noncomputable def yw (f:Ev->Mem->Out T):Ev->Mem->Out Fl:=fun σ M=>(f σ M).bind fun t M1=>.ok (.rt t) M1
noncomputable def zaj (f:Ev->Mem->Out T):Ev->Mem->Out Fl:=fun σ M=>(f σ M).bind fun _ M1=>.ok (.nx σ) M1
noncomputable def sIf (c:Ev->Mem->Out Bool) (g h:Ev->Mem->Out Fl):Ev->Mem->Out Fl:=fun σ M=>(c σ M).bind fun b M1=>if b = true then g σ M1 else h σ M1
noncomputable def qt (i:Nat) (f:Ev->Mem->Out T):Ev->Mem->Out Fl:=fun σ M=>(f σ M).bind fun t M1=>.ok (.nx (σ.set i (some t))) M1
noncomputable def lG (XE:XK) (K:Frag) (bd:T->Ev->Mem->Out Ev):TG:=fun v σ H Q=>LN XE (EvR K) K (Rep K) bd v σ H Q
noncomputable def lGs (XE:XK) (K:Frag) (bd:List T->Ev->Mem->Out Ev):TGs:=fun v σ H Q=>LN XE (EvR K) K (Reps K) bd v σ H Q
def GG (X:Cx) (XE:XK) (tg:Expr) (bd:T->Ev->Mem->Out Ev):Prop:=PG X tg (lG XE X.K bd)
def GGs (X:Cx) (XE:XK) (tg:List Expr) (bd:List T->Ev->Mem->Out Ev):Prop:=PGs X tg (lGs XE X.K bd)
noncomputable def zN (i:Nat):T->Ev->Mem->Out Ev:=fun t σ M=>.ok (σ.set i (some t)) M
noncomputable def zlz:List T->Ev->Mem->Out Ev:=fun ts σ M=>match ts with
 | []=>.ok σ M
 | _=>.bad
noncomputable def zlq (b:T->Ev->Mem->Out Ev) (bs:List T->Ev->Mem->Out Ev):List T->Ev->Mem->Out Ev:=fun ts σ M=>match ts with
 | t :: r=>(b t σ M).bind fun σ1 M1=>bs r σ1 M1
 | _=>.bad
noncomputable def zly (n:Nat) (bs:List T->Ev->Mem->Out Ev):T->Ev->Mem->Out Ev:=fun t σ M=>match t with
 | .tup xs=>if xs.length = n then bs xs σ M else .bad
 | _=>.bad
noncomputable def zdD (f:Ev->Mem->Out T) (b:T->Ev->Mem->Out Ev):Ev->Mem->Out Fl:=fun σ M=>(f σ M).bind fun t M1=>(b t σ M1).bind fun σ1 M2=>.ok (.nx σ1) M2
def zaG (K:Frag) (S:Sit) (items:List T) (J:It):Prop:=∀ S',Stp K S S'->
 (∀ (i:Nat) t,items[i]? = some t->J.go i S'.H/\∀ x H',J.yld i S'.H x H'->∃ S'',S''.H = H'/\S''.M = S'.M/\Stp K S' S''/\Rep K S'' t x)/\∀ i,items.length<=i->J.stop i S'.H
instance (K):Mo K (zaG K):=⟨fun _ s r=>fun S' s'=>r S' (s.trans s')⟩
noncomputable def lI (XE:XK) (K:Frag) (f:Ev->Mem->Out (List T)):TI:=fun σ H R=>LN XE (zaG K) K UnR (fun _ σ M=>f σ M) () σ H R
def GI (X:Cx) (XE:XK) (tg iter:Expr) (f:Ev->Mem->Out (List T)):Prop:=PI X tg iter (lI XE X.K f)
noncomputable def qv (k:Ev->Mem->Out Fl) (fl:Fl) (M:Mem):Out Fl:=match fl with
 | .nx σ=>k σ M
 | .ct σ=>k σ M
 | .bk σ=>.ok (.nx σ) M
 | .rt t=>.ok (.rt t) M
noncomputable def forL (bd:T->Ev->Mem->Out Ev) (body:Ev->Mem->Out Fl):List T->Ev->Mem->Out Fl
 | [],σ,M=>.ok (.nx σ) M
 | x :: xs,σ,M=>(bd x σ M).bind fun σ1 M1=>(body σ1 M1).bind (qv (forL bd body xs))
noncomputable def zdC (it:Ev->Mem->Out (List T)) (bd:T->Ev->Mem->Out Ev) (body:Ev->Mem->Out Fl):Ev->Mem->Out Fl:=fun σ M=>(it σ M).bind fun xs M1=>forL bd body xs σ M1
noncomputable def whileN (c:Ev->Mem->Out Bool) (body:Ev->Mem->Out Fl):Nat->Ev->Mem->Out Fl
 | 0,_,_=>.bad
 | n + 1,σ,M=>(c σ M).bind fun b M1=>if b = true then (body σ M1).bind (qv (whileN c body n)) else .ok (.nx σ) M1
open Classical in
noncomputable def qN (c:Ev->Mem->Out Bool) (body:Ev->Mem->Out Fl):Ev->Mem->Out Fl:=fun σ M=>if h:∃ n,whileN c body n σ M ≠ .bad then whileN c body h.choose σ M else .bad
theorem zZ {c:Ev->Mem->Out Bool} {body:Ev->Mem->Out Fl}:∀ {n:Nat} {σ:Ev} {M:Mem} {r:Out Fl},whileN c body n σ M = r->r ≠ .bad->whileN c body (n + 1) σ M = r
 | 0,_,_,_,e,h=>absurd e.symm h
 | n + 1,σ,M,r,e,h=>by
  unfold whileN at e ⊢
  cases q:c σ M with
  | bad=>rw [q] at e;exact absurd e.symm h
  | exn C fs M'=>rw [q] at e;exact e
  | ok b M1=>
   rw [q] at e
   replace e:(if b = true then (body σ M1).bind (qv (whileN c body n)) else Out.ok (.nx σ) M1) = r:=e
   show (if b = true then (body σ M1).bind (qv (whileN c body (n + 1))) else Out.ok (.nx σ) M1) = r
   cases b with
   | false=>exact e
   | true=>
    rw [if_pos rfl] at e ⊢
    cases q2:body σ M1 with
    | bad=>rw [q2] at e;exact absurd e.symm h
    | exn C fs M'=>rw [q2] at e;exact e
    | ok fl M2=>
     rw [q2] at e
     cases fl with
     | nx σ2=>exact zZ (n:=n) e h
     | ct σ2=>exact zZ (n:=n) e h
     | bk σ2=>exact e
     | rt t=>exact e
variable {body:Ev->Mem->Out Fl} {n:Nat} {r:Out Fl}
theorem zbF {c:Ev->Mem->Out Bool} {k:Nat} {σ:Ev} (e:whileN c body n σ M = r) (h:r ≠ .bad):whileN c body (n + k) σ M = r:=by
 induction k with
 | zero=>exact e
 | succ k ih=>exact zZ ih h
theorem zes {c:Ev->Mem->Out Bool} {σ:Ev} (n:Nat) (e:whileN c body n σ M = r) (h:r ≠ .bad):qN c body σ M = r:=by
 have ex:∃ n,whileN c body n σ M ≠ .bad:=⟨n,by rw [e];exact h⟩
 unfold qN
 rw [dif_pos ex]
 have h2:=ex.choose_spec
 have e1:=zbF (k:=ex.choose) e h
 have e2:=zbF (k:=n) rfl h2
 rw [Nat.add_comm] at e2
 rw [← e2,e1]
noncomputable def zfM (XE:XK) (K:Frag) (st:T->T->T->Mem->Out Unit):zd5:=fun o i v H Q=>L0 XE UnR K (PrR (PrR (Rep K) (Rep K)) (Rep K)) (fun a M=>st a.1.1 a.1.2 a.2 M) ((o,i),v) H (fun _ H'=>Q H')
noncomputable def zd2 (st:T->T->T->Mem->Out Unit) (f g:Ev->Mem->Out T):T->Ev->Mem->Out Ev:=fun t σ M=>(f σ M).bind fun o M1=>(g σ M1).bind fun i M2=>(st o i t M2).bind fun _ M3=>.ok σ M3
variable {iter tg:Expr} {st:Stmt} {bd:T->Ev->Mem->Out Ev}
section
variable {a b c:Expr} {g h:Ev->Mem->Out T} {sts rest:List Stmt} {p q r:Ev->Mem->Out Fl}
theorem ziM {D:Ends} (hh:lS XE K (qf p q) D σ H):lS XE K p { D with nx:=lS XE K q D } σ H:=by
 obtain ⟨S,στ,_,e,m,ev,_,fin⟩:=hh
 refine ⟨S,στ,(),e,m,ev,trivial,?_⟩
 show Fin XE (FlR K) K S (p στ S.M) _
 replace fin:Fin XE (FlR K) K S ((p στ S.M).bind (zaK q)) (zn D):=fin
 cases o:p στ S.M with
 | bad=>rw [o] at fin;exact fin
 | exn C fs M'=>rw [o] at fin;exact fin
 | ok fl M1=>
  rw [o] at fin
  intro S1 cc e1 s1 r1
  cases r1 with
  | nx r1=>exact ⟨S1,_,(),rfl,s1.mok,r1,trivial,by rw [e1];exact Fin.later s1 fin⟩
  | rt r1=>exact fin S1 _ e1 s1 (.rt r1)
  | bk r1=>exact fin S1 _ e1 s1 (.bk r1)
  | ct r1=>exact fin S1 _ e1 s1 (.ct r1)
theorem PG.imp {t t':TG} (h:PG X tg t) (i:∀ v σ H Q,t' v σ H Q->t v σ H Q):PG X tg t':=fun pins s σ H v u Q I r q=>h pins s σ H v u Q I r (i v σ H Q q)
theorem zjQ {D:Ends} (hh:LN XE (FlR K) K (Rep K) (fun t σ M=>(bd t σ M).bind fun σ1 M2=>.ok (Fl.nx σ1) M2) v σ H (zn D)):lG XE K bd v σ H D.nx:=by
 obtain ⟨S,στ,t,e,m,ev,ra,fin⟩:=hh
 refine ⟨S,στ,t,e,m,ev,ra,?_⟩
 replace fin:Fin XE (FlR K) K S ((bd t στ S.M).bind fun σ1 M2=>.ok (Fl.nx σ1) M2) (zn D):=fin
 cases o:bd t στ S.M with
 | bad=>rw [o] at fin;exact fin
 | exn C fs M'=>rw [o] at fin;exact fin
 | ok σ1 M1=>
  rw [o] at fin
  intro S1 cc e1 s1 ev1
  exact fin S1 (.nx cc) e1 s1 (.nx ev1)
theorem PI.imp {t t':TI} (h:PI X tg iter t) (i:∀ σ H R,t' σ H R->t σ H R):PI X tg iter t':=fun pins s σ H R I q=>h pins s σ H R I (i σ H R q)
end
noncomputable def startT (n:Nat) (ts:List T):Ev:=ts.map some ++ List.replicate (n - ts.length) none
noncomputable def qh (p n:Nat) (g:Ev->Mem->Out Fl):List T->Mem->Out T:=fun ts M=>if ts.length = p then match g (startT n ts) M with
 | .ok (.rt t) M'=>.ok t M'
 | .ok (.nx _) M'=>.ok .non M'
 | _=>.bad else .bad
noncomputable def spT (K:Frag) (f:List T->Mem->Out T):Sp:=fun vs H Q E=>L0 E (Rep K) K (Reps K) f vs H Q
structure CalT (P:Program) (w:World) (K:Frag) (mg:Str->Option Value) (base:Heap) (k:Nat) (x:Str) (ps:List Str) (f:List T->Mem->Out T):Prop where
 cal:Cal P w K mg base k x ps (spT K f)
 nox:∀ ts M C fs M',f ts M ≠ .exn C fs M'
theorem zdE (p n:Nat) (g:Ev->Mem->Out Fl):∀ ts M C fs M',qh p n g ts M ≠ .exn C fs M':=by
 intro ts M C fs M' z
 unfold qh at z
 split at z
 ·split at z <;> cases z
 ·cases z
variable {N:List Str}
theorem EvR.start {S:Sit} (r:Reps K S ts vs) (hn:N.length = n):EvR K S (startT n ts) (L2.start N vs):=by
 subst hn
 refine ⟨by simp [startT,L2.start,r.1],fun i t e=>?_⟩
 unfold startT at e
 unfold L2.start
 by_cases hi:i < ts.length
 ·rw [Q6 (by simpa using hi)] at e
  rw [Q6 (by simpa [← r.1] using hi)]
  rw [Qa] at e ⊢
  cases q:ts[i]? with
  | none=>rw [q] at e;cases e
  | some t'=>
   rw [q] at e
   have:t' = t:=Qb (Qb e)
   subst this
   obtain ⟨v,e2,r2⟩:=r.get q
   exact ⟨v,by rw [e2];rfl,r2⟩
 ·rw [Q7 (by simpa using hi)] at e
  rw [List.getElem?_replicate] at e
  split at e <;> cases e
variable {g:Ev->Mem->Out Fl} {base:Heap} {ps:List Str} {P:Program} {mg:Str->Option Value} {w:World}
section
theorem zcS {st:List Stmt} {p:Nat} (hn:N.length = n) {E:XK} (hX:X.K = K) (h:spT K (qh p n g) vs H Q E) (hb:GSs X E0 st g) :
  ∃ t,PSs X st t/\t { nx:=fun _ H'=>Q .non H',rt:=Q } (start N vs) H:=by
 subst hX
 refine ⟨_,hb,?_⟩
 obtain ⟨S,ts,e,m,r,fin⟩:=h
 refine ⟨S,startT n ts,(),e,m,EvR.start r hn,trivial,?_⟩
 show Fin E0 (FlR X.K) X.K S (g (startT n ts) S.M) _
 unfold qh at fin
 by_cases hp:ts.length = p
 ·rw [if_pos hp] at fin
  cases o:g (startT n ts) S.M with
  | bad=>rw [o] at fin;exact fin
  | exn C fs M'=>rw [o] at fin;exact fin.elim
  | ok fl M1=>
   rw [o] at fin
   cases fl with
   | nx σ1=>
    intro S1 c e1 s1 r1
    cases r1 with
    | nx r1=>exact fin S1 .non e1 s1 .non
   | rt t=>
    intro S1 c e1 s1 r1
    cases r1 with
    | rt r1=>exact fin S1 _ e1 s1 r1
   | bk σ1=>exact fin.elim
   | ct σ1=>exact fin.elim
 ·rw [if_neg hp] at fin;exact fin.elim
theorem zep {p:Nat} (hp:ps.length = p):∀ vs H Q E,spT K (qh p n g) vs H Q E->vs.length = ps.length:=by
 intro vs H Q E ⟨S,ts,e,m,r,fin⟩
 rw [← r.1,hp]
 unfold qh at fin
 by_cases h:ts.length = p
 ·exact h
 ·rw [if_neg h] at fin;exact fin.elim
theorem zfa {k p:Nat} (D:Df K mg x st ps) (Sc:FnScope N ps (yc st)) (hp:ps.length = p) (hn:N.length = n)
 (hb:∀ (f:Addr) (cdv:Value) (A:Around) (outer:List PySem.Env) (s:Shared) (H:Hp) (E:XK),Room k (A.deeper (envOfC x (yc st) s.heap.objs.size f cdv))->GSs (qL CX0 P w K mg base N x (yc st) f cdv A outer s H E).nox E0 (qo st) g) :
  CalT P w K mg base (k + 1) x ps (qh p n g):=
 ⟨D.ok Sc (zep hp) fun f cdv A outer s H vs Q E hr h=>zcS hn rfl h (hb f cdv A outer s H E hr),zdE _ _ _⟩
theorem ziK {qual:Str} {f:Addr} {fd:FuncData} {k p:Nat} (F:Fun K x qual st f fd) (Sc:FnScope N ps (yc st)) (hp:ps.length = p) (hn:N.length = n)
 (hb:∀ (cdv:Value) (A:Around) (outer:List PySem.Env) (s:Shared) (H:Hp) (E:XK),Room k (A.deeper (envOfC qual (yc st) s.heap.objs.size f cdv))->GSs (qL CX0 P w K mg base N qual (yc st) f cdv A outer s H E).nox E0 (qo st) g) :
  FnOk P w K mg base CX0 (k + 1) f fd ps (spT K (qh p n g)):=
 F.ok Sc (zep hp) fun cdv A outer s H vs Q E hr h=>zcS hn rfl h (hb cdv A outer s H E hr)
theorem zhl {f:List T->Mem->Out T} {a:Addr} {ns:List Int} {M':Mem} (hS:SqL K H a (ns.map V.int)) (h:f [.lst (ns.map .int)] [] = .ok (.bl true) M'):spT K f [.ref a] H (fun v _=>v = .bl true) fun _ _ _=>False:=by
 refine ⟨⟨fun _=>0,[],H,[]⟩,[.lst (ns.map .int)],rfl,⟨fun a c e=>by simp at e,fun a b h=>absurd h (Nat.not_lt_zero _),fun p h=>by simp at h⟩,.cons (.lst (vs:=ns.map V.int) ?_ (by simp) ?_) .nil,?_⟩
 ·rcases hS with h | h
  ·exact .inl ⟨h,fun a h=>absurd h (Nat.not_lt_zero _),fun z=>by simp at z⟩
  ·exact .inr h
 ·intro i t v e1 e2
  rw [Qa] at e1 e2
  cases q:ns[i]? with
  | none=>rw [q] at e1;cases e1
  | some z=>rw [q] at e1 e2;cases e1;cases e2;exact .int z
 ·show Fin _ _ K _ (f [.lst (ns.map .int)] []) _
  rw [h]
  intro S' c e s r
  cases r
  rfl
end
section
variable {k:Nat} {p:Pos} {F:List T->Mem->Out T}
end
inductive T.lt (n:Nat):T->Prop where
 | non:T.lt n .non
 | bl (b:Bool):T.lt n (.bl b)
 | int (i:Int):T.lt n (.int i)
 | str (x:Str):T.lt n (.str x)
 | ty (x:String):T.lt n (.ty x)
 | tup {ts:List T} (h:∀ t ∈ ts,T.lt n t):T.lt n (.tup ts)
 | lst {ts:List T} (h:∀ t ∈ ts,T.lt n t):T.lt n (.lst ts)
 | ref {a:Nat} (h:a < n):T.lt n (.ref a)
 | dct {kvs:List (Key × T)} (h:∀ t ∈ kvs.map (·.2),T.lt n t):T.lt n (.dct kvs)
 | exc {C:Addr} {fs:List (Str × T)} (h:∀ t ∈ fs.map (·.2),T.lt n t):T.lt n (.exc C fs)
noncomputable def Cell.lt (n:Nat):Cell->Prop
 | .lst ts=>∀ t ∈ ts,T.lt n t
 | .dic kvs=>∀ k ∈ kvs,T.lt n k.2
 | .ins _ fs=>∀ k ∈ fs,T.lt n k.2
inductive Fz (M':Mem) (n:Nat):T->T->Prop where
 | same {t:T} (h:T.lt n t):Fz M' n t t
 | tup {ts us:List T} (l:ts.length = us.length) (h:∀ (i:Nat) t u,ts[i]? = some t->us[i]? = some u->Fz M' n t u):Fz M' n (.tup ts) (.tup us)
 | lst {ts us:List T} (l:ts.length = us.length) (h:∀ (i:Nat) t u,ts[i]? = some t->us[i]? = some u->Fz M' n t u):Fz M' n (.lst ts) (.lst us)
 | ref {a:Nat} {ts us:List T} (e:M'[a]? = some (.lst ts)) (g:n<=a) (l:ts.length = us.length) (h:∀ (i:Nat) t u,ts[i]? = some t->us[i]? = some u->Fz M' n t u):Fz M' n (.ref a) (.lst us)
theorem Rep.lt {S:Sit} (r:Rep K S t v):T.lt S.M.length t:=by
 induction r with
 | non=>exact .non
 | bl b=>exact .bl b
 | int b=>exact .int b
 | str b=>exact .str b
 | ty b=>exact .ty b
 | @tup ts p vs h l _ ih=>
  refine .tup fun t ht=>?_
  obtain ⟨i,hi,rfl⟩:=getElem_of_mem ht
  exact ih i _ vs[i] (by simp [hi]) (by simp [← l,hi])
 | @lst ts p vs h l _ ih=>
  refine .lst fun t ht=>?_
  obtain ⟨i,hi,rfl⟩:=getElem_of_mem ht
  exact ih i _ vs[i] (by simp [hi]) (by simp [← l,hi])
 | ref h=>exact .ref h
 | @dct kvs us p o h l _ ih=>
  refine .dct fun t ht=>?_
  obtain ⟨i,hi,rfl⟩:=getElem_of_mem ht
  have hl:i < us.length:=by have:=congrArg List.length l;simp at this hi;omega
  exact ih i _ (us[i]'hl).2 (Q0 hi) (by simp [hl])
 | @exc C fs us p od h hd l _ ih=>
  refine .exc fun t ht=>?_
  obtain ⟨i,hi,rfl⟩:=getElem_of_mem ht
  have hl:i < us.length:=by have:=congrArg List.length l;simp at this hi;omega
  exact ih i _ (us[i]'hl).2 (Q0 hi) (by simp [hl])
theorem Reps.lt {S:Sit} (r:Reps K S ts vs):∀ t ∈ ts,T.lt S.M.length t:=fun t ht=>by
 obtain ⟨i,hi,rfl⟩:=getElem_of_mem ht
 have hv:i < vs.length:=by rw [← r.1];exact hi
 exact (r.2 i _ vs[i] (by simp [hi]) (by simp [hv])).lt
theorem zdo {κ:Type} {fs:List (κ × T)} (h:∀ t ∈ fs.map (·.2),T.lt n t):∀ k ∈ fs,T.lt n k.2:=fun k hk=>h _ (List.mem_map_of_mem (f:=(·.2)) hk)
theorem CellOk.lt {S:Sit} {p:Addr} (h:CellOk K S p c):Cell.lt S.M.length c:=by
 cases c with
 | lst ts=>obtain ⟨vs,_,r⟩:=h;exact r.lt
 | dic ts=>obtain ⟨vs,_,r⟩:=h;exact zdo r.2.lt
 | ins C ts=>obtain ⟨dx,vs,_,r⟩:=h;exact zdo r.2.lt
variable {m:Nat}
theorem T.lt.mono (h:n<=m) (r:T.lt n t):T.lt m t:=by
 induction r with
 | non=>exact .non
 | bl b=>exact .bl b
 | int b=>exact .int b
 | str b=>exact .str b
 | ty b=>exact .ty b
 | tup _ ih=>exact .tup ih
 | lst _ ih=>exact .lst ih
 | ref g=>exact .ref (Q5 g h)
 | dct _ ih=>exact .dct ih
 | exc _ ih=>exact .exc ih
noncomputable def Sit.cut (S:Sit) (n:Nat) (h:List Addr):Sit:=⟨S.α,S.M.take n,S.H,h⟩
variable {u:T}
section
variable {S:Sit}
theorem Rep.cut (hn:n<=S'.M.length) (sub:∀ p ∈ hh,p ∈ S'.hid) (r:Rep K S' t v) (l:T.lt n t):Rep K (S'.cut n hh) t v:=by
 have ln:(S'.cut n hh).M.length = n:=by show (S'.M.take n).length = n;simp;omega
 induction r with
 | non=>exact .non
 | bl b=>exact .bl b
 | int b=>exact .int b
 | str b=>exact .str b
 | ty b=>exact .ty b
 | @tup ts p vs h l2 _ ih=>
  cases l with
  | tup hl=>exact .tup h l2 fun i t v e1 e2=>ih i t v e1 e2 (hl t (Q9 e1))
 | @lst ts p vs h l2 _ ih=>
  cases l with
  | lst hl=>
   refine .lst ?_ l2 fun i t v e1 e2=>ih i t v e1 e2 (hl t (Q9 e1))
   rcases h with ⟨h,f⟩ | h
   ·exact .inl ⟨h,fun a ha z=>f.1 a (by rw [ln] at ha;omega) z,fun z=>f.2 (sub _ z)⟩
   ·exact .inr h
 | @ref a h=>
  cases l with
  | ref hl=>exact .ref (S:=S'.cut n hh) (by rw [ln];exact hl)
 | dct h l2 _ ih=>
  cases l with
  | dct hl=>exact .dct (S:=S'.cut n hh) h l2 fun i t v e1 e2=>ih i t v e1 e2 (hl t (Q9 e1))
 | exc h hd l2 _ ih=>
  cases l with
  | exc hl=>exact .exc (S:=S'.cut n hh) h hd l2 fun i t v e1 e2=>ih i t v e1 e2 (hl t (Q9 e1))
theorem Reps.cut (hn:n<=S'.M.length) (sub:∀ p ∈ hh,p ∈ S'.hid) {t:List T} {v:List V} (r:Reps K S' t v) (l:∀ x ∈ t,T.lt n x):Reps K (S'.cut n hh) t v:=⟨r.1,fun i t v e1 e2=>(r.2 i t v e1 e2).cut hn sub (l t (Q9 e1))⟩
theorem CellOk.cut (hn:n<=S'.M.length) (sub:∀ p ∈ hh,p ∈ S'.hid) {p:Addr} (r:CellOk K S' p c) (l:Cell.lt n c):CellOk K (S'.cut n hh) p c:=by
 have ms:∀ {κ:Type} {fs:List (κ × T)},(∀ k ∈ fs,T.lt n k.2)->∀ t ∈ fs.map (·.2),T.lt n t:=fun h t ht=>by
  obtain ⟨k,hk,rfl⟩:=mem_map.mp ht
  exact h k hk
 cases c with
 | lst ts=>obtain ⟨vs,q,r⟩:=r;exact ⟨vs,q,r.cut hn sub l⟩
 | dic ts=>obtain ⟨vs,q,r⟩:=r;exact ⟨vs,q,r.1,r.2.cut hn sub (ms l)⟩
 | ins C ts=>obtain ⟨dx,vs,q,r⟩:=r;exact ⟨dx,vs,q,r.1,r.2.cut hn sub (ms l)⟩
theorem Stp.cut (s:Stp K S S') (h1:S.M.length<=n) (h2:n<=S'.M.length) (hl:∀ (i:Nat) c,i < n->S'.M[i]? = some c->Cell.lt n c):Stp K S (S'.cut n S.hid):=by
 have sub:∀ p ∈ S.hid,p ∈ S'.hid:=fun p h=>(s.hk p h).1
 have ln:(S'.cut n S.hid).M.length = n:=by show (S'.M.take n).length = n;simp;omega
 refine ⟨⟨by rw [ln];exact h1,s.al,fun a g1 g2=>s.fr a g1 (by rw [ln] at g2;omega),s.kp,fun p h=>⟨h,(s.hk p h).2⟩,fun p h=>.inl h⟩,⟨fun a c e=>?_,fun a b g1 g2 e=>s.mok.inj a b (by rw [ln] at g1;omega) (by rw [ln] at g2;omega) e,fun p h=>?_⟩⟩
 ·have e':(S'.M.take n)[a]? = some c:=e
  rw [getElem?_take] at e'
  split at e'
  ·rename_i hi
   exact (s.mok.cell a c e').cut h2 sub (hl a c hi e')
  ·cases e'
 ·obtain ⟨g1,vs,g2⟩:=s.mok.hd p (sub p h)
  exact ⟨fun a ha z=>g1 a (by rw [ln] at ha;omega) z,vs,g2⟩
theorem Rep.fz (m:MemOk K S') (hn:n<=S'.M.length) (sub:∀ p ∈ hh,p ∈ S'.hid) (z:Fz S'.M n t u):∀ {v:V},Rep K S' t v->Rep K (S'.cut n hh) u v:=by
 have ln:(S'.cut n hh).M.length = n:=by show (S'.M.take n).length = n;simp;omega
 induction z with
 | same h=>exact fun r=>r.cut hn sub h
 | @tup ts us l _ ih=>
  intro v r
  cases r with
  | @tup _ p vs h l2 rr=>
   refine .tup h (by rw [← l];exact l2) fun i t v e1 e2=>?_
   have hi:i < ts.length:=by rw [l];exact (List.getElem?_eq_some_iff.mp e1).1
   exact ih i ts[i] t (by simp [hi]) e1 (rr i _ v (by simp [hi]) e2)
 | @lst ts us l _ ih=>
  intro v r
  cases r with
  | @lst _ p vs h l2 rr=>
   refine .lst ?_ (by rw [← l];exact l2) fun i t v e1 e2=>?_
   ·rcases h with ⟨h,f⟩ | h
    ·exact .inl ⟨h,fun a ha z=>f.1 a (by rw [ln] at ha;omega) z,fun z=>f.2 (sub _ z)⟩
    ·exact .inr h
   ·have hi:i < ts.length:=by rw [l];exact (List.getElem?_eq_some_iff.mp e1).1
    exact ih i ts[i] t (by simp [hi]) e1 (rr i _ v (by simp [hi]) e2)
 | @ref a ts us e g l _ ih=>
  intro v r
  cases r with
  | ref ha=>
   obtain ⟨vs,q,rr⟩:=m.cell a _ e
   refine .lst (vs:=vs) (.inl ⟨.inl q,fun b hb z=>?_,fun z=>?_⟩) (by rw [← l];exact rr.1) fun i t v e1 e2=>?_
   ·rw [ln] at hb
    have:=m.inj b a (by omega) ha z
    omega
   ·exact (m.hd _ (sub _ z)).1 a ha rfl
   ·have hi:i < ts.length:=by rw [l];exact (List.getElem?_eq_some_iff.mp e1).1
    exact ih i ts[i] t (by simp [hi]) e1 (rr.2 i _ v (by simp [hi]) e2)
end
def Refines (f g:List T->Mem->Out T):Prop:=∀ ts M t' M1,(∀ c ∈ M,Cell.lt M.length c)->f ts M = .ok t' M1->∃ t M',g ts M = .ok t M'/\M.length<=M1.length/\M1.length<=M'.length/\M1 = M'.take M1.length/\(∀ (i:Nat) c,M1[i]? = some c->M[i]? = some c\/Cell.lt M1.length c)/\Fz M' M1.length t t'
theorem Cell.lt.mono (h:n<=m) (r:Cell.lt n c):Cell.lt m c:=by
 cases c with
 | lst ts=>exact fun t ht=>(r t ht).mono h
 | dic ts=>exact fun t ht=>(r t ht).mono h
 | ins C ts=>exact fun t ht=>(r t ht).mono h
theorem CalT.refine {k:Nat} {f g:List T->Mem->Out T} (C:CalT P w K mg base k x ps g) (h:Refines f g) (nox:∀ ts M C fs M',f ts M ≠ .exn C fs M'):CalT P w K mg base k x ps f:=by
 refine ⟨?_,nox⟩
 obtain ⟨⟨fa,fd,F,kp,b,gg⟩⟩:=C.cal
 have key:∀ vs H Q E,spT K f vs H Q E->spT K g vs H Q E:=by
  rintro vs H Q E ⟨S,ts,e,m,r,fin⟩
  refine ⟨S,ts,e,m,r,?_⟩
  have wf:∀ c ∈ S.M,Cell.lt S.M.length c:=fun c hc=>by
   obtain ⟨i,hi,rfl⟩:=getElem_of_mem hc
   exact (m.cell i _ (by simp [hi])).lt
  cases o:f ts S.M with
  | bad=>rw [o] at fin;exact fin.elim
  | exn C' fs M'=>exact absurd o (nox _ _ _ _ _)
  | ok t' M1=>
   rw [o] at fin
   obtain ⟨t,M',eg,l1,l2,eM,hc,z⟩:=h ts S.M t' M1 wf o
   rw [eg]
   intro S' v e1 s r1
   have hl:∀ (i:Nat) c,i < M1.length->S'.M[i]? = some c->Cell.lt M1.length c:=fun i c hi ec=>by
    have e2:M1[i]? = some c:=by
     rw [eM,getElem?_take,if_pos hi,← e1];exact ec
    rcases hc i c e2 with q | q
    ·exact (wf c (Q9 q)).mono l1
    ·exact q
   have sc:=s.cut l1 (by rw [e1];exact l2) hl
   refine fin (S'.cut M1.length S.hid) v ?_ sc ?_
   ·show S'.M.take M1.length = M1
    rw [e1];exact eM.symm
   ·exact Rep.fz s.mok (by rw [e1];exact l2) (fun p h=>(s.hk p h).1) (by rw [e1];exact z) r1
 refine ⟨⟨fa,fd,⟨fun vs H Q E q=>F.len vs H Q E (key _ _ _ _ q),?_⟩,kp,b,gg⟩⟩
 intro A outer s H args us vs Q E hr h0 hb hv hq
 exact F.run A outer s H args us vs Q E hr h0 hb hv (key _ _ _ _ hq)
noncomputable def yv (t:T) (M:Mem):Option (List T):=match t with
 | .lst xs=>some xs
 | .ref a=>match M[a]? with
  | some (.lst xs)=>some xs
  | _=>none
 | _=>none
noncomputable def zck (t:T):Option (List T):=match t with
 | .lst xs=>some xs
 | .tup xs=>some xs
 | _=>none
noncomputable def zdA (t:T) (M:Mem):Option (List T):=match t with
 | .tup xs=>some xs
 | t=>yv t M
section
variable {S:Sit}
theorem zbd {p:Addr} (h:(Rd S.H p (.lst vs)/\S.off p)\/KL K p vs):SqL K S.H p vs:=by
 rcases h with ⟨h,_⟩ | h
 ·exact .inl h
 ·exact .inr h
theorem qk (m:MemOk K S) (r:Rep K S t v) (e:yv t S.M = some xs):∃ p vs,v = .ref p/\SqL K S.H p vs/\Reps K S xs vs:=by
 cases r with
 | @lst ts p vs h l r=>cases e;exact ⟨p,vs,rfl,zbd h,l,r⟩
 | @ref a h=>
  unfold yv at e
  dsimp only at e
  split at e
  ·rename_i ys q
   cases e
   obtain ⟨vs,q2,r2⟩:=m.cell a _ q
   exact ⟨_,vs,rfl,.inl (.inl q2),r2⟩
  ·cases e
 | _=>cases e
theorem zbI (m:MemOk K S) (r:Rep K S t v) (e:zdA t S.M = some xs):∃ p vs,v = .ref p/\(SqL K S.H p vs\/SqT K S.H p vs)/\Reps K S xs vs:=by
 cases t with
 | tup ts=>
  cases e
  cases r with
  | @tup _ p vs h l r=>exact ⟨p,vs,rfl,.inr h,l,r⟩
 | lst ts=>obtain ⟨p,vs,e1,h,r2⟩:=qk m r e;exact ⟨p,vs,e1,.inl h,r2⟩
 | ref a=>obtain ⟨p,vs,e1,h,r2⟩:=qk m r e;exact ⟨p,vs,e1,.inl h,r2⟩
 | _=>cases e
end
noncomputable def zcB (f:Ev->Mem->Out T):Ev->Mem->Out (List T):=fun σ M=>(f σ M).bind fun t M1=>match zck t with
 | some xs=>.ok xs M1
 | none=>.bad
noncomputable def zh8 (lo:Int) (n:Nat):List T:=(List.range n).map fun (k:Nat)=>T.int (lo + (k:Int))
noncomputable def zkn (ts:List T) (M1:Mem):Out (List T):=match ts with
 | [.int j]=>@ite _ (-(2 ^ 62)<=j/\j < 2 ^ 62) (Classical.propDecidable _) (.ok (zh8 0 j.toNat) M1) .bad
 | _=>.bad
noncomputable def zkm (ts:List T) (M1:Mem):Out (List T):=match ts with
 | [.int i,.int j]=>@ite _ ((-(2 ^ 62)<=i/\i < 2 ^ 62)/\(-(2 ^ 62)<=j/\j < 2 ^ 62)) (Classical.propDecidable _) (.ok (zh8 i (j - i).toNat) M1) .bad
 | _=>.bad
noncomputable def zkZ (f:Ev->Mem->Out (List T)):Ev->Mem->Out (List T):=fun σ M=>(f σ M).bind fun ts M1=>zkn ts M1
noncomputable def zkY (f:Ev->Mem->Out (List T)):Ev->Mem->Out (List T):=fun σ M=>(f σ M).bind fun ts M1=>zkm ts M1
section
variable {a b c:Expr} {g h:Ev->Mem->Out T} {p:Pos}
theorem zi9 (he:GE X XE e f):GI X XE tg e (zcB f):=PI.imp (PI.or (zg1 he) (zin he)) fun σ H R h9=>by
 obtain ⟨S,στ,_,e,m,ev,_,fin⟩:=h9
 replace fin:Fin XE (zaG X.K) X.K S ((f στ S.M).bind fun t M1=>match zck t with | some xs=>.ok xs M1 | none=>.bad) R:=fin
 cases o:f στ S.M with
 | bad=>rw [o] at fin;exact fin.elim
 | exn C fs M'=>
  rw [o] at fin
  refine .inl ⟨S,στ,(),e,m,ev,trivial,?_⟩
  show Fin XE (Rep X.K) X.K S (f στ S.M) _
  rw [o];exact fin
 | ok t M1=>
  rw [o] at fin
  cases t with
  | lst ts=>
   refine .inl ⟨S,στ,(),e,m,ev,trivial,?_⟩
   show Fin XE (Rep X.K) X.K S (f στ S.M) _
   rw [o]
   intro S1 v e1 s1 r1
   cases r1 with
   | @lst _ p vs h l r=>
    have r1:Reps X.K S1 ts vs:=⟨l,r⟩
    refine ⟨p,rfl,⟨vs,zbd h⟩,fin S1 _ e1 s1 fun S3 s3=>?_⟩
    have g3:SqL X.K S3.H p vs:=by
     rcases h with ⟨h2,f2⟩ | h2
     ·exact .inl (s3.toGrow.rd h2 f2).1
     ·exact .inr h2
    refine ⟨fun i t et=>?_,fun i hi=>⟨vs,g3,by rw [← l];exact hi⟩⟩
    obtain ⟨v2,ev3,r3⟩:=r1.get et
    refine ⟨⟨vs,v2,g3,ev3⟩,fun x H' hy=>?_⟩
    obtain ⟨ey,hy⟩:=hy
    have:=hy vs g3
    rw [ev3] at this
    cases this
    exact ⟨S3,ey.symm,rfl,.refl s3.mok,r3.grow s1.mok s3.toGrow⟩
  | tup ts=>
   refine .inr ⟨S,στ,(),e,m,ev,trivial,?_⟩
   show Fin XE (Rep X.K) X.K S (f στ S.M) _
   rw [o]
   intro S1 v e1 s1 r1
   cases r1 with
   | @tup _ p vs h l r=>
    have r1:Reps X.K S1 ts vs:=⟨l,r⟩
    refine ⟨p,rfl,⟨vs,h⟩,fin S1 _ e1 s1 fun S3 s3=>?_⟩
    have g3:SqT X.K S3.H p vs:=s3.toGrow.tup s1.mok h
    refine ⟨fun i t et=>?_,fun i hi=>⟨vs,g3,by rw [← l];exact hi⟩⟩
    obtain ⟨v2,ev3,r3⟩:=r1.get et
    refine ⟨⟨vs,v2,g3,ev3⟩,fun x H' hy=>?_⟩
    obtain ⟨ey,hy⟩:=hy
    have:=hy vs g3
    rw [ev3] at this
    cases this
    exact ⟨S3,ey.symm,rfl,.refl s3.mok,r3.grow s1.mok s3.toGrow⟩
  | _=>exact fin.elim
end
noncomputable def qg (bd:T->Ev->Mem->Out Ev) (cond:Ev->Mem->Out Bool) (el:Ev->Mem->Out T):List T->Ev->Mem->List T->Out (List T)
 | [],_,M,acc=>.ok acc M
 | x :: xs,σ,M,acc=>(bd x σ M).bind fun σ1 M1=>(cond σ1 M1).bind fun b M2=>if b = true then (el σ1 M2).bind fun t M3=>if acc.length < sizeLine then qg bd cond el xs σ1 M3 (acc ++ [t]) else .bad else qg bd cond el xs σ1 M2 acc
noncomputable def zaC (tgs:List Str) (caps:List (Str × Nat)) (σ:Ev):Ev:=tgs.map (fun _=>none) ++ caps.map fun c=>(σ[c.2]?).join
noncomputable def zbe (it:Ev->Mem->Out (List T)) (bd:T->Ev->Mem->Out Ev) (cond:Ev->Mem->Out Bool) (el:Ev->Mem->Out T) (tgs:List Str) (caps:List (Str × Nat)):Ev->Mem->Out (List T):=fun σ M=>(it σ M).bind fun xs M1=>qg bd cond el xs (zaC tgs caps σ) M1 []
noncomputable def yZ:Ev->Mem->Out Bool:=fun _ M=>.ok true M
theorem EvR.cap {S:Sit} (r:EvR K S στ σ) (tgs:List Str) (caps:List (Str × Nat)):EvR K S (zaC tgs caps στ) (y4 tgs caps σ):=by
 refine ⟨by simp [zaC,y4],fun i t e=>?_⟩
 unfold zaC at e
 unfold y4
 by_cases hi:i < tgs.length
 ·rw [Q6 (by simpa using hi)] at e
  rw [Qa] at e
  cases q:tgs[i]? with
  | none=>rw [q] at e;cases e
  | some x=>rw [q] at e;cases e
 ·rw [Q7 (by simpa using hi),Qa] at e
  rw [Q7 (by simpa using hi),Qa]
  simp only [Qf] at e ⊢
  cases q:caps[i - tgs.length]? with
  | none=>rw [q] at e;cases e
  | some cq=>
   rw [q] at e
   have e2:(στ[cq.2]?).join = some t:=Qb e
   have e3:στ[cq.2]? = some (some t):=by
    cases q2:στ[cq.2]? with
    | none=>rw [q2] at e2;cases e2
    | some o=>rw [q2] at e2;cases o with
     | none=>cases e2
     | some v'=>rw [show v' = t from Qb e2]
   obtain ⟨v,e4,r4⟩:=r.2 _ _ e3
   exact ⟨v,by show some ((σ[cq.2]?).join) = _;rw [e4];rfl,r4⟩
noncomputable def Sit.hput (S:Sit) (p:Addr) (vs:List V):Sit:=⟨S.α,S.M,upd S.H p (.lst vs),S.hid⟩
section
variable {S S0:Sit} {p:Addr} {us:List V}
theorem Rep.hput (m:MemOk K S) (hp:p ∈ S.hid) (r:Rep K S t v):Rep K (S.hput p us) t v:=by
 obtain ⟨_,ws,ew⟩:=m.hd p hp
 induction r with
 | non=>exact .non
 | bl b=>exact .bl b
 | int b=>exact .int b
 | str b=>exact .str b
 | ty b=>exact .ty b
 | @tup ts q vs h l _ ih=>
  refine .tup ?_ l ih
  rcases h with (h | ⟨o,h⟩) | h
  ·exact .inl (.inl ((yd (zbc h ew (by intro z;cases z))).trans h))
  ·exact .inl (.inr ⟨o,(yd (zbc h ew (by intro z;cases z))).trans h⟩)
  ·exact .inr h
 | @lst ts q vs h l _ ih=>
  refine .lst ?_ l ih
  rcases h with ⟨h,f⟩ | h
  ·have hne:q ≠ p:=fun z=>f.2 (by rw [z];exact hp)
   refine .inl ⟨?_,f⟩
   rcases h with h | ⟨o,h⟩
   ·exact .inl ((yd hne).trans h)
   ·exact .inr ⟨o,(yd hne).trans h⟩
  ·exact .inr h
 | ref h=>exact .ref (S:=S.hput p us) h
 | dct h l _ ih=>exact .dct (S:=S.hput p us) ((yd (zbc h ew (by intro z;cases z))).trans h) l ih
 | exc h hd l _ ih=>exact .exc (S:=S.hput p us) ((yd (zbc h ew (by intro z;cases z))).trans h) (hd.imp (fun z=>z) fun ⟨d,a,b⟩=>⟨d,a,(yd (zbc b ew (by intro z;cases z))).trans b⟩) l ih
theorem Reps.hput (m:MemOk K S) (hp:p ∈ S.hid) {t:List T} {v:List V} (r:Reps K S t v):Reps K (S.hput p us) t v:=⟨r.1,fun i a b e1 e2=>(r.2 i a b e1 e2).hput m hp⟩
theorem CellOk.hput (m:MemOk K S) (hp:p ∈ S.hid) (hq:q ≠ p) (r:CellOk K S q c):CellOk K (S.hput p us) q c:=by
 cases c with
 | lst ts=>obtain ⟨vs,q,r⟩:=r;exact ⟨vs,(yd hq).trans q,r.hput m hp⟩
 | dic ts=>obtain ⟨vs,q,r⟩:=r;exact ⟨vs,(yd hq).trans q,r.1,r.2.hput m hp⟩
 | ins C ts=>obtain ⟨dx,vs,q,r⟩:=r;exact ⟨dx,vs,(yd hq).trans q,r.1,r.2.hput m hp⟩
theorem Stp.hput (s:Stp K S0 S) (hp:p ∈ S.hid) (hn:S0.H p = none) (m0:MemOk K S0):Stp K S0 (S.hput p us):=by
 refine ⟨⟨s.le,s.al,s.fr,fun b o e f=>(yd (yf e hn)).trans (s.kp b o e f),fun q h=>⟨(s.hk q h).1,?_⟩,s.hf⟩,⟨fun a c e=>?_,s.mok.inj,fun q h=>?_⟩⟩
 ·obtain ⟨_,vs,e⟩:=m0.hd q h
  exact (yd (yf e hn)).trans (s.hk q h).2
 ·exact (s.mok.cell a c e).hput s.mok hp ((s.mok.hd p hp).1 a (List.getElem?_eq_some_iff.mp e).1)
 ·obtain ⟨h1,vs,e⟩:=s.mok.hd q h
  refine ⟨h1,?_⟩
  by_cases z:q = p
  ·exact ⟨us,by show upd S.H p _ q = _;rw [z];exact yt⟩
  ·exact ⟨vs,(yd z).trans e⟩
end
structure CB (X:Cx) (scope:Scope) (cl:List (Str × Addr)) (caps:List (Str × Nat)):Prop where
 hc:X.calm = true
 hclos:closureFor scope X.env = pure cl
 hcell:∀ y ∈ scope.names,y.2 = .cell->y.1 ∉ caps.map (·.1)
 hkind:scope.kind = .function
 hnames:∀ y ∈ scope.names,y.2 = .local->scope.names.lookup y.1 = some .local
 hcl:∀ y c,cl.lookup y = some c->X.env.cells.lookup y = some c
 hhas:∀ n y,((relabel scope X.env).names.lookup y = some .cell\/(relabel scope X.env).names.lookup y = some .free)->∃ c,(cellsFrom n scope.names cl).lookup y = some c
 hcap:∀ c ∈ caps,X.N[c.2]? = some c.1/\X.env.kindOf c.1 = some .cell/\((relabel scope X.env).names.lookup c.1 = some .cell\/(relabel scope X.env).names.lookup c.1 = some .free)
variable {cond:Ev->Mem->Out Bool} {caps:List (Str × Nat)} {tgs:List Str}
section
theorem zga (hh:lL XE X.K (zbe ga bd cond f tgs caps) σ H Q) :
  zgl (lI XE X.K ga) (lG XE X.K bd) (lT XE X.K cond) (lE XE X.K f) (y4 tgs caps) σ H Q:=by
 obtain ⟨S,στ,e,m,ev,fin⟩:=hh
 replace fin:FinL XE X.K S ((ga στ S.M).bind fun xs M1=>qg bd cond f xs (zaC tgs caps στ) M1 []) Q:=fin
 refine ⟨S,στ,(),e,m,ev,trivial,?_⟩
 show Fin XE (zaG X.K) X.K S (ga στ S.M) _
 cases o:ga στ S.M with
 | bad=>rw [o] at fin;exact fin
 | exn C fs M'=>rw [o] at fin;exact fin
 | ok items M1=>
  rw [o] at fin
  replace fin:FinL XE X.K S (qg bd cond f items (zaC tgs caps στ) M1 []) Q:=fin
  intro S0 J e0 s0 it0 D hD
  have m0:=s0.mok
  have fin0:=fin.later s0
  have s1:=Stp.hide (K:=X.K) m0 hD []
  refine ⟨fun i n σ' H'=>∃ S στ acc vs,S.H = H'/\EvR X.K S στ σ'/\n = items.length - i/\i<=items.length/\D ∈ S.hid/\S.H D = some (.lst vs)/\Reps X.K S acc vs/\Stp X.K S0 S/\FinL XE X.K S0 (qg bd cond f (items.drop i) στ S.M acc) Q,
   ⟨items.length - 0,S0.hide D [],zaC tgs caps στ,[],[],rfl,(Mo.mo (K:=X.K) m0 s1 (Mo.mo (K:=X.K) m s0 ev)).cap tgs caps,rfl,Nat.zero_le _,.head _,yt,.nil,s1,by show FinL XE X.K S0 (qg bd cond f items (zaC tgs caps στ) S0.M []) Q;rw [e0];exact fin0⟩,?_⟩
  rintro i n σ1 H1 ⟨S2,στ2,acc,vs,e2,ev2,en,hi2,hid2,hD2,racc,s2,fin2⟩
  subst e2
  have m2:=s2.mok
  obtain ⟨itg,its⟩:=it0 S2 s2
  by_cases hl:i < items.length
  ·have eq:items.drop i = items[i] :: items.drop (i + 1):=List.drop_eq_getElem_cons hl
   rw [eq] at fin2
   obtain ⟨go,yl⟩:=itg i items[i] (by simp [hl])
   refine .inr ⟨go,fun σ' H'=>∃ S στ acc vs,S.H = H'/\EvR X.K S στ σ'/\D ∈ S.hid/\S.H D = some (.lst vs)/\Reps X.K S acc vs/\Stp X.K S0 S/\FinL XE X.K S0 (qg bd cond f (items.drop (i + 1)) στ S.M acc) Q,?_,fun x H' hy=>?_⟩
   ·rintro σ' H' ⟨S,στ,acc,vs,a1,a2,a3,a4,a5,a6,a7⟩
    exact ⟨items.length - (i + 1),by omega,S,στ,acc,vs,a1,a2,rfl,hl,a3,a4,a5,a6,a7⟩
   ·obtain ⟨S3,e3,eM,s3,r3⟩:=yl x H' hy
    replace fin2:FinL XE X.K S0 ((bd items[i] στ2 S2.M).bind fun σ1 M1=>(cond σ1 M1).bind fun b M2=>if b = true then (f σ1 M2).bind fun t M3=>if acc.length < sizeLine then qg bd cond f (items.drop (i + 1)) σ1 M3 (acc ++ [t]) else .bad else qg bd cond f (items.drop (i + 1)) σ1 M2 acc) Q:=fin2
    refine ⟨S3,στ2,items[i],e3,s3.mok,Mo.mo m2 s3 ev2,r3,?_⟩
    show Fin XE (EvR X.K) X.K S3 (bd items[i] στ2 S3.M) _
    rw [eM]
    cases o1:bd items[i] στ2 S2.M with
    | bad=>rw [o1] at fin2;exact fin2
    | exn C fs M'=>rw [o1] at fin2;exact fun S' od a1 a2 a3=>fin2 S' od a1 ((s2.trans s3).trans a2) a3
    | ok σ4 M4=>
     rw [o1] at fin2
     intro S4 σ4v e4 s4 ev4
     have t4:=s3.trans s4
     replace fin2:FinL XE X.K S0 ((cond σ4 M4).bind fun b M2=>if b = true then (f σ4 M2).bind fun t M3=>if acc.length < sizeLine then qg bd cond f (items.drop (i + 1)) σ4 M3 (acc ++ [t]) else .bad else qg bd cond f (items.drop (i + 1)) σ4 M2 acc) Q:=fin2
     refine ⟨S4,σ4,(),rfl,s4.mok,ev4,trivial,?_⟩
     show Fin XE EqR X.K S4 (cond σ4 S4.M) _
     rw [e4]
     cases o2:cond σ4 M4 with
     | bad=>rw [o2] at fin2;exact fin2
     | exn C fs M'=>rw [o2] at fin2;exact fun S' od a1 a2 a3=>fin2 S' od a1 ((s2.trans t4).trans a2) a3
     | ok b M5=>
      rw [o2] at fin2
      intro S5 b5 e5 s5 eb
      have eb':b = b5:=eb
      subst eb'
      have t5:=t4.trans s5
      replace fin2:FinL XE X.K S0 (if b = true then (f σ4 M5).bind fun t M3=>if acc.length < sizeLine then qg bd cond f (items.drop (i + 1)) σ4 M3 (acc ++ [t]) else .bad else qg bd cond f (items.drop (i + 1)) σ4 M5 acc) Q:=fin2
      cases b with
      | false=>
       rw [if_neg Q4] at fin2
       refine (if_neg Q4).mpr ⟨S5,σ4,acc,vs,rfl,Mo.mo s4.mok s5 ev4,(t5.hk D hid2).1,by rw [(t5.hk D hid2).2];exact hD2,racc.grow m2 t5.toGrow,s2.trans t5,by rw [e5];exact fin2⟩
      | true=>
       rw [if_pos rfl] at fin2
       refine (if_pos rfl).mpr ⟨S5,σ4,(),rfl,s5.mok,Mo.mo s4.mok s5 ev4,trivial,?_⟩
       show Fin XE (Rep X.K) X.K S5 (f σ4 S5.M) _
       rw [e5]
       cases o3:f σ4 M5 with
       | bad=>rw [o3] at fin2;exact fin2
       | exn C fs M'=>rw [o3] at fin2;exact fun S' od a1 a2 a3=>fin2 S' od a1 ((s2.trans t5).trans a2) a3
       | ok t M6=>
        rw [o3] at fin2
        replace fin2:FinL XE X.K S0 (if acc.length < sizeLine then qg bd cond f (items.drop (i + 1)) σ4 M6 (acc ++ [t]) else .bad) Q:=fin2
        intro S6 v6 e6 s6 r6
        have t6:=t5.trans s6
        have hz:acc.length < sizeLine:=by
         by_cases hz:acc.length < sizeLine
         ·exact hz
         ·rw [if_neg hz] at fin2;exact fin2.elim
        rw [if_pos hz] at fin2
        have hid6:=(t6.hk D hid2).1
        have hD6:S6.H D = some (.lst vs):=by rw [(t6.hk D hid2).2];exact hD2
        refine ⟨vs,hD6,by rw [← racc.1];exact hz,S6.hput D (vs ++ [v6]),σ4,acc ++ [t],vs ++ [v6],rfl,?_,hid6,yt,?_,(s2.trans t6).hput hid6 hD m0,by show FinL XE X.K S0 (qg bd cond f (items.drop (i + 1)) σ4 S6.M (acc ++ [t])) Q;rw [e6];exact fin2⟩
        ·have ev6:EvR X.K S6 σ4 σ4v:=Mo.mo s4.mok (s5.trans s6) ev4
         exact ⟨ev6.1,fun i t e=>let ⟨v,e',q⟩:=ev6.2 i t e;⟨v,e',q.hput s6.mok hid6⟩⟩
        ·exact ((racc.grow m2 t6.toGrow).app (.cons r6 .nil)).hput s6.mok hid6
  ·rw [List.drop_eq_nil_of_le (by omega)] at fin2
   refine .inl ⟨its i (by omega),?_⟩
   exact fin2 S2 D vs rfl s2 hD hid2 hD2 racc
theorem zhs:PTs X [] (lT XE X.K yZ):=fun pins s σ H Q I h=>zgR pins s σ H Q I (zbZ h)
end
noncomputable def lOp (o:T->T->Mem->Out (List T)) (f g:Ev->Mem->Out T):Ev->Mem->Out (List T):=fun σ M=>(f σ M).bind fun x M1=>(g σ M1).bind fun y M2=>o x y M2
noncomputable def zlk (F:List T->Mem->Out (List T)) (g:Ev->Mem->Out (List T)):Ev->Mem->Out (List T):=fun σ M=>(g σ M).bind fun ts M1=>F ts M1
theorem zfI {S:Sit} (m:MemOk K S) (fin:FinL XE K S (.ok xs S.M) Q) (r:Reps K S xs vs):∀ p,S.H p = none->Q (.ref p) (upd S.H p (.lst vs)):=fun p hp=>
 fin (S.hide p vs) p vs rfl (Stp.hide m hp vs) hp (.head _) yt (r.grow m (Stp.hide m hp vs).toGrow)
noncomputable def yL (k:Int->Int->Mem->Out T) (x y:T) (M:Mem):Out T:=match x,y with
 | .int i,.int j=>k i j M
 | _,_=>.bad
def Mo64 (i j:Int):Prop:=(i.natAbs < 10 ^ 3000/\j.natAbs < 10 ^ 3000)\/(-(2 ^ 64) < i/\i < 2 ^ 64)\/(-(2 ^ 64) < j/\j < 2 ^ 64)
instance (i j:Int):Decidable (Mo64 i j):=inferInstanceAs (Decidable (_\/_))
variable {j:Int}
theorem Mo64.ok (h:Mo64 i j):CMulB i j:=by
 rcases h with h | h
 ·exact .inl ⟨3000,3000,h.1,h.2,Q3 _,Q3 _⟩
 ·exact .inr h
noncomputable def zdy:T->T->Mem->Out T:=yL fun i j M=>.ok (.int (i - j)) M
noncomputable def zaB:T->T->Mem->Out T:=yL fun i j M=>if j ≠ 0/\j.natAbs < 10 ^ 2000 then .ok (.int (i.fdiv j)) M else .bad
noncomputable def y3:T->T->Mem->Out T:=yL fun i j M=>if j ≠ 0 then .ok (.int (i.fmod j)) M else .bad
noncomputable def zbr:T->T->Mem->Out T:=yL fun i j M=>if 0<=j/\j<=1000000/\i.natAbs < 2 ^ 64 then .ok (.int (i ^ j.toNat)) M else .bad
noncomputable def ltI:T->T->Mem->Out T:=yL fun i j M=>.ok (.bl (decide (i < j))) M
noncomputable def leI:T->T->Mem->Out T:=yL fun i j M=>.ok (.bl (decide (i<=j))) M
noncomputable def gtI:T->T->Mem->Out T:=yL fun i j M=>.ok (.bl (decide (j < i))) M
noncomputable def geI:T->T->Mem->Out T:=yL fun i j M=>.ok (.bl (decide (j<=i))) M
noncomputable def zks:T->Mem->Out T:=fun x M=>match x with
 | .int i=>.ok (.int (-i)) M
 | _=>.bad
variable {y:V} {F:Value}
section
theorem zdc {S:Sit} (r:Rep K S (.int i) v):v = .int i:=by cases r;rfl
theorem zS {fn:Value->Value->Sem Value} {r:R2} {k:Int->Int->Mem->Out T} (ho:OpR X fn r)
  (h:∀ i j S Q,MemOk X.K S->Fin XE (Rep X.K) X.K S (k i j S.M) Q->r (.int i) (.int j) S.H Q):OpR X fn (lR2 XE X.K (yL k)):=by
 intro pins s σ H x y v u Q I rx ry ⟨S,⟨tx,ty⟩,e,m,⟨r1,r2⟩,fin⟩
 replace fin:Fin XE (Rep X.K) X.K S (yL k tx ty S.M) Q:=fin
 unfold yL at fin
 split at fin
 ·have e1:=zdc r1
  have e2:=zdc r2
  dsimp only at e1 e2
  subst e1;subst e2;subst e
  exact ho pins s σ S.H _ _ v u Q I rx ry (h _ _ S Q m fin)
 ·exact fin.elim
theorem zdi:OpR X (binaryOp .Sub) (lR2 XE X.K zdy):=zS ziB fun i j S Q m fin=>⟨i,j,rfl,rfl,fin S _ rfl (.refl m) (.int _)⟩
theorem zbt:OpR X (binaryOp .FloorDiv) (lR2 XE X.K zaB):=zS zfE fun i j S Q m fin=>by
 by_cases h:j ≠ 0/\j.natAbs < 10 ^ 2000
 ·rw [if_pos h] at fin
  exact ⟨i,j,rfl,rfl,⟨h.1,2000,h.2,Q3 _⟩,fin S _ rfl (.refl m) (.int _)⟩
 ·rw [if_neg h] at fin;exact fin.elim
theorem qK:OpR X (binaryOp .Mod) (lR2 XE X.K y3):=zS zhb fun i j S Q m fin=>by
 by_cases h:j ≠ 0
 ·rw [if_pos h] at fin
  exact ⟨i,j,rfl,rfl,h,fin S _ rfl (.refl m) (.int _)⟩
 ·rw [if_neg h] at fin;exact fin.elim
theorem zaM:OpR X (binaryOp .Pow) (lR2 XE X.K zbr):=zS ziC fun i j S Q m fin=>by
 by_cases h:0<=j/\j<=1000000/\i.natAbs < 2 ^ 64
 ·rw [if_pos h] at fin
  exact ⟨i,j,rfl,rfl,h,fin S _ rfl (.refl m) (.int _)⟩
 ·rw [if_neg h] at fin;exact fin.elim
theorem ziD:OpR X (compareOp .Lt) (lR2 XE X.K ltI):=zS zjL fun i j S Q m fin=>⟨i,j,rfl,rfl,fin S _ rfl (.refl m) (.bl _)⟩
theorem zcs:OpR X (compareOp .Gt) (lR2 XE X.K gtI):=zS zjN fun i j S Q m fin=>⟨i,j,rfl,rfl,fin S _ rfl (.refl m) (.bl _)⟩
noncomputable def isB:T->T->Mem->Out T:=fun x y M=>match x,y with
 | .bl a,.bl b=>.ok (.bl (a == b)) M
 | _,_=>.bad
noncomputable def zjR:T->T->Mem->Out T:=fun x y M=>match x,y with
 | .bl a,.bl b=>.ok (.bl (a != b)) M
 | _,_=>.bad
noncomputable def ziH:T->Bool
 | .non=>true
 | _=>false
noncomputable def zaO:T->T->Mem->Out T:=fun x y M=>match y with
 | .non=>.ok (.bl (!ziH x)) M
 | _=>.bad
theorem zfG {S:Sit} (r:Rep K S t v):decide (v = .non) = ziH t:=by
 cases r <;> first | rfl | exact Qq (by intro z;cases z)
theorem zey:OpR X (compareOp .IsNot) (lR2 XE X.K zaO):=by
 intro pins s σ H x y v u Q I rx ry ⟨S,⟨tx,ty⟩,e,m,⟨r1,r2⟩,fin⟩
 replace fin:Fin XE (Rep X.K) X.K S (zaO tx ty S.M) Q:=fin
 unfold zaO at fin
 split at fin
 ·cases r2;subst e
  exact zg9 pins s σ S.H _ _ v u Q I rx ry ⟨rfl,by rw [zfG r1];exact fin S _ rfl (.refl m) (.bl _)⟩
 ·exact fin.elim
noncomputable def zdV (M:Mem):T->T->Option T
 | .tup xs,.int i=>atI xs i
 | .lst xs,.int i=>atI xs i
 | .ref a,.int i=>match M[a]? with
  | some (.lst xs)=>atI xs i
  | _=>none
 | _,_=>none
noncomputable def zcr (o:Option T) (M:Mem):Out T:=match o with
 | some t=>.ok t M
 | none=>.bad
noncomputable def ixT:T->T->Mem->Out T:=fun x y M=>zcr (zdV M x y) M
theorem Reps.atI {S:Sit} (r:Reps K S ts vs) (e:L2.atI ts i = some t):∃ v,L2.atI vs i = some v/\Rep K S t v:=by
 unfold L2.atI at e ⊢
 rw [← r.1]
 cases q:ixN ts.length i with
 | none=>rw [q] at e;cases e
 | some j=>
  rw [q] at e
  obtain ⟨v,e2,r2⟩:=r.get (show ts[j]? = some t from e)
  exact ⟨v,e2,r2⟩
theorem zhA {S:Sit} {tx ty:T} {x:V} (m:MemOk K S) (r1:Rep K S tx x) (r2:Rep K S ty y) (e:zdV S.M tx ty = some t) :
  ∃ p vs i v,x = .ref p/\y = .int i/\(SqL K S.H p vs\/SqT K S.H p vs)/\L2.atI vs i = some v/\Rep K S t v:=by
 unfold zdV at e
 split at e
 ·cases r2
  cases r1 with
  | @tup _ p vs h l r=>
   obtain ⟨v,e2,r3⟩:=Reps.atI ⟨l,r⟩ e
   exact ⟨p,vs,_,v,rfl,rfl,.inr h,e2,r3⟩
 ·cases r2
  cases r1 with
  | @lst _ p vs h l r=>
   obtain ⟨v,e2,r3⟩:=Reps.atI ⟨l,r⟩ e
   exact ⟨p,vs,_,v,rfl,rfl,.inl (zbd h),e2,r3⟩
 ·split at e
  ·rename_i q
   cases r2
   cases r1 with
   | ref h=>
    obtain ⟨vs,q2,r⟩:=m.cell _ _ q
    obtain ⟨v,e2,r3⟩:=Reps.atI r e
    exact ⟨_,vs,_,v,rfl,rfl,.inl (.inl (.inl q2)),e2,r3⟩
  ·cases e
 ·cases e
theorem zg7 {S:Sit} {o:Option T} (fin:Fin XE (Rep K) K S (zcr o S.M) Q):∃ t,o = some t/\Fin XE (Rep K) K S (.ok t S.M) Q:=by
 unfold zcr at fin
 split at fin
 ·exact ⟨_,rfl,fin⟩
 ·exact fin.elim
theorem zu:IxR X (lR2 XE X.K ixT):=by
 intro va sl pins s σ H x y v u Q I rx ry ⟨S,⟨tx,ty⟩,e,m,⟨r1,r2⟩,fin⟩ hs
 obtain ⟨t,et,fin⟩:=zg7 (show Fin XE (Rep X.K) X.K S (zcr (zdV S.M tx ty) S.M) Q from fin)
 obtain ⟨p,vs,i,w,e1,e2,hq,ea,r3⟩:=zhA m r1 r2 et
 dsimp only at e1 e2
 subst e1;subst e2;subst e
 refine ziT va sl pins s σ S.H _ _ v u Q I rx ry ?_ hs
 rcases hq with hq | hq
 ·exact .inl ⟨p,vs,i,w,rfl,rfl,hq,ea,fin S w rfl (.refl m) r3⟩
 ·exact .inr (.inl ⟨p,vs,i,w,rfl,rfl,hq,ea,fin S w rfl (.refl m) r3⟩)
noncomputable def zk (k:T->Mem->Out T) (ts:List T) (M:Mem):Out T:=match ts with
 | [t]=>k t M
 | _=>.bad
noncomputable def call2 (k:T->T->Mem->Out T) (ts:List T) (M:Mem):Out T:=match ts with
 | [t,u]=>k t u M
 | _=>.bad
theorem zM {k:T->Mem->Out T} (h:∀ (pins:List (Addr × Obj)) (s:Shared) (σ:L2.St) (S:Sit) (t:T) (x:V) (v:Value) (Q:VK),Inv X pins σ S.H s->RelV x v->MemOk X.K S->Rep X.K S t x->Fin XE (Rep X.K) X.K S (k t S.M) Q->wpAny (model X.prog X.w) X.A (call F [v]) (EP X pins σ Q) X.xe s):CallR X F (lRN XE X.K (zk k)):=by
 intro pins s σ H xs us Q I r ⟨S,ts,e,m,rs,fin⟩
 subst e
 replace fin:Fin XE (Rep X.K) X.K S (zk k ts S.M) Q:=fin
 unfold zk at fin
 split at fin
 ·obtain ⟨v,vs,rfl,r1,r2⟩:=rs.consT
  rw [r2.nilT] at r
  obtain ⟨u,rfl,rx⟩:=vals1 r
  exact h pins s σ S _ v u Q I rx m r1 fin
 ·exact fin.elim
theorem zcR {k:T->T->Mem->Out T} (h:∀ (pins:List (Addr × Obj)) (s:Shared) (σ:L2.St) (S:Sit) (t1 t2:T) (x1 x2:V) (v1 v2:Value) (Q:VK),Inv X pins σ S.H s->RelV x1 v1->RelV x2 v2->MemOk X.K S->Rep X.K S t1 x1->Rep X.K S t2 x2->Fin XE (Rep X.K) X.K S (k t1 t2 S.M) Q->wpAny (model X.prog X.w) X.A (call F [v1,v2]) (EP X pins σ Q) X.xe s):CallR X F (lRN XE X.K (call2 k)):=by
 intro pins s σ H xs us Q I r ⟨S,ts,e,m,rs,fin⟩
 subst e
 replace fin:Fin XE (Rep X.K) X.K S (call2 k ts S.M) Q:=fin
 unfold call2 at fin
 split at fin
 ·obtain ⟨v,vs,rfl,r1,r2⟩:=rs.consT
  obtain ⟨v2,vs2,rfl,r3,r4⟩:=r2.consT
  rw [r4.nilT] at r
  obtain ⟨u,w,rfl,rx,ry⟩:=vals2 r
  exact h pins s σ S _ _ v v2 u w Q I rx ry m r1 r3 fin
 ·exact fin.elim
noncomputable def zJ:T->Mem->Out T:=fun t M=>match t with
 | .str z=>if z.length<=sizeLine then .ok (.int z.length) M else .bad
 | t=>match zdA t M with
  | some xs=>.ok (.int xs.length) M
  | none=>.bad
theorem zy:CallR X (.builtin "len") (lRN XE X.K (zk zJ)):=zM fun pins s σ S t x v Q I rx m r fin=>by
 unfold zJ at fin
 split at fin
 ·cases r
  split at fin
  ·rename_i hz
   exact zcO pins s σ S.H _ _ Q I (.cons rx .nil) ⟨_,rfl,hz,fin S _ rfl (.refl m) (.int _)⟩
  ·exact fin.elim
 ·split at fin
  ·rename_i xs q
   obtain ⟨p,vs,rfl,hq,rs⟩:=zbI m r q
   exact zcP pins s σ S.H _ _ Q I (.cons rx .nil) ⟨p,vs,rfl,hq,by rw [← rs.1];exact fin S _ rfl (.refl m) (.int _)⟩
  ·exact fin.elim
noncomputable def zd4:T->Mem->Out T:=fun t M=>match t with
 | .int i=>.ok (.int (if i < 0 then -i else i)) M
 | _=>.bad
theorem ze9:CallR X (.builtin "abs") (lRN XE X.K (zk zd4)):=zM fun pins s σ S t x v Q I rx m r fin=>by
 unfold zd4 at fin
 split at fin
 ·cases r
  exact zgb pins s σ S.H _ _ Q I (.cons rx .nil) ⟨_,rfl,fin S _ rfl (.refl m) (.int _)⟩
 ·exact fin.elim
noncomputable def zdO:T->T->Mem->Out T:=yL fun i j M=>.ok (.int (if j > i then j else i)) M
theorem ze4 (hc:X.calm = true):CallR X (.builtin "max") (lRN XE X.K (call2 zdO)):=zcR fun pins s σ S t1 t2 x1 x2 v1 v2 Q I rx ry m r1 r2 fin=>by
 unfold zdO yL at fin
 split at fin
 ·cases r1;cases r2
  exact ze5 hc pins s σ S.H _ _ Q I (.cons rx (.cons ry .nil)) ⟨_,_,rfl,fin S _ rfl (.refl m) (.int _)⟩
 ·exact fin.elim
noncomputable def za3:List T->Option (List Bool)
 | []=>some []
 | .bl b :: r=>(za3 r).map (b :: ·)
 | _=>none
theorem zcU {K:Frag} {S:Sit}:∀ {ts:List T} {vs:List V} {bs:List Bool},za3 ts = some bs->Reps K S ts vs->vs = bs.map V.bl
 | [],vs,bs,e,r=>by cases e;exact r.nilT
 | .bl b :: ts,vs,bs,e,r=>by
  unfold za3 at e
  obtain ⟨v,vs',rfl,r1,r2⟩:=r.consT
  cases q:za3 ts with
  | none=>rw [q] at e;cases e
  | some bs'=>
   rw [q] at e
   cases e
   cases r1
   rw [zcU q r2];rfl
 | .non :: _,_,_,e,_=>by cases e
 | .int _ :: _,_,_,e,_=>by cases e
 | .str _ :: _,_,_,e,_=>by cases e
 | .ty _ :: _,_,_,e,_=>by cases e
 | .tup _ :: _,_,_,e,_=>by cases e
 | .lst _ :: _,_,_,e,_=>by cases e
 | .ref _ :: _,_,_,e,_=>by cases e
noncomputable def zcY:T->Mem->Out T:=fun t M=>match yv t M with
 | some xs=>match za3 xs with
  | some bs=>.ok (.bl (bs.all id)) M
  | none=>.bad
 | none=>.bad
theorem ze7 (hc:X.calm = true):CallR X (.builtin "all") (lRN XE X.K (zk zcY)):=zM fun pins s σ S t x v Q I rx m r fin=>by
 unfold zcY at fin
 split at fin
 ·rename_i xs q
  split at fin
  ·rename_i bs q2
   obtain ⟨p,vs,rfl,hq,rs⟩:=qk m r q
   rw [zcU q2 rs] at hq
   exact ze8 hc pins s σ S.H _ _ Q I (.cons rx .nil) ⟨p,bs,rfl,hq,fin S _ rfl (.refl m) (.bl _)⟩
  ·exact fin.elim
 ·exact fin.elim
noncomputable def z5 (x:T) (ts:List T) (M:Mem):Out T:=match x,ts with
 | .ref a,[t]=>match M[a]? with
  | some (.lst xs)=>if xs.length < sizeLine then .ok .non (M.set a (.lst (xs ++ [t]))) else .bad
  | _=>.bad
 | _,_=>.bad
noncomputable def zci (o i t:T) (M:Mem):Out Unit:=match o,i with
 | .ref a,.int k=>match M[a]? with
  | some (.lst xs)=>match ixN xs.length k with
   | some j=>.ok () (M.set a (.lst (xs.set j t)))
   | none=>.bad
  | _=>.bad
 | _,_=>.bad
theorem zdf {S:Sit} (m:MemOk K S) {a:Nat} (e:S.M[a]? = some c) (r:Reps K S ts vs):Stp K S (S.put a (.lst vs) (.lst ts)):=by
 have ha:a < S.M.length:=(List.getElem?_eq_some_iff.mp e).1
 exact Stp.put m ha _ _ ⟨vs,yt,r.grow m (Grow.put m ha _ _)⟩
theorem zgo:zcZ X (zfM XE X.K zci):=by
 intro pins s σ H o i v ov iv u Q I ro ri rv ⟨S,⟨⟨to,ti⟩,tv⟩,e,m,⟨⟨r1,r2⟩,r3⟩,fin⟩
 subst e
 replace fin:Fin XE UnR X.K S (zci to ti tv S.M) (fun _ H'=>Q H'):=fin
 unfold zci at fin
 split at fin
 ·split at fin
  ·rename_i a k _ xs q
   split at fin
   ·rename_i j qj
    cases r1
    cases r2
    obtain ⟨vs,q2,rs⟩:=m.cell _ _ q
    refine set_list pins s σ S.H _ _ v ov iv u Q I ro ri rv ⟨S.α a,vs,k,j,rfl,rfl,q2,by rw [← rs.1];exact qj,?_⟩
    exact fin (S.put a (.lst (vs.set j v)) (.lst (xs.set j tv))) () rfl (zdf m q (rs.set r3 j)) trivial
   ·exact fin.elim
  ·exact fin.elim
 ·exact fin.elim
noncomputable def zO (x:T) (M:Mem):Out T:=match yv x M with
 | some _=>.ok x M
 | none=>.bad
noncomputable def zdX (F:T->List T->Mem->Out T) (f:Ev->Mem->Out T) (g:Ev->Mem->Out (List T)):Ev->Mem->Out T:=fun σ M=>(f σ M).bind fun x M1=>(g σ M1).bind fun ts M2=>F x ts M2
end
noncomputable def zaq (xs:List T) (lo hi:Option Int):List T:=(xs.drop (HT.sIx xs.length 0 lo)).take (HT.sIx xs.length xs.length hi - HT.sIx xs.length 0 lo)
theorem Reps.cutV {S:Sit} (r:Reps K S ts vs) (lo hi:Option Int):Reps K S (zaq ts lo hi) (L2.cutV vs lo hi):=by
 unfold zaq L2.cutV
 rw [← r.1]
 exact r.sub _ _
theorem zdZ {lo hi:Option Int} (h:HT.sIx xs.length 0 lo = 0/\HT.sIx xs.length xs.length hi = xs.length):zaq xs lo hi = xs:=by
 unfold zaq
 rw [h.1,h.2]
 simp
theorem zbu {S:Sit} (m:MemOk K S) (fin:Fin XE (Rep K) K S (.ok (.tup xs) S.M) Q) (r:Reps K S xs vs):∀ p,S.H p = none->Q (.ref p) (upd S.H p (.tup vs)):=fun p hp=>by
 have s2:=Stp.new m hp (.tup vs)
 exact fin ⟨S.α,S.M,upd S.H p (.tup vs),S.hid⟩ (.ref p) rfl s2 (.tup (.inl (.inl yt)) r.1 (r.grow m s2.toGrow).2)
theorem zdl {S:Sit} (m:MemOk K S) (fin:Fin XE (Rep K) K S (.ok (.lst xs) S.M) Q) (r:Reps K S xs vs):∀ p,S.H p = none->Q (.ref p) (upd S.H p (.lst vs)):=fun p hp=>by
 have s2:=Stp.new m hp (.lst vs)
 exact fin ⟨S.α,S.M,upd S.H p (.lst vs),S.hid⟩ (.ref p) rfl s2 (.lst (.inl ⟨.inl yt,m.off_none hp⟩) r.1 (r.grow m s2.toGrow).2)
noncomputable def zi:T->T->Mem->Out T:=fun x y M=>match x,y with
 | .int i,.int j=>.ok (.int (i + j)) M
 | .str a,.str b=>if a.length + b.length<=sizeLine then .ok (.str (a ++ b)) M else .bad
 | .tup xs,.tup ys=>if xs.length + ys.length<=sizeLine then .ok (.tup (xs ++ ys)) M else .bad
 | x,y=>match yv x M,yv y M with
  | some xs,some ys=>if xs.length + ys.length<=sizeLine then .ok (.lst (xs ++ ys)) M else .bad
  | _,_=>.bad
noncomputable def zW:T->T->Mem->Out T:=fun x y M=>match x,y with
 | .int i,.int j=>if Mo64 i j then .ok (.int (i * j)) M else .bad
 | .tup xs,.int k=>if xs ≠ []/\2<=k/\k < 2 ^ 63/\xs.length * k.toNat<=sizeLine then .ok (.tup (List.replicate k.toNat xs).flatten) M else .bad
 | _,_=>.bad
variable {pins:List (Addr × Obj)} {s:Shared}
section
theorem yh:OpR X (binaryOp .Add) (lR2 XE X.K zi):=by
 intro pins s σ H x y v u Q I rx ry ⟨S,⟨tx,ty⟩,e,m,⟨r1,r2⟩,fin⟩
 subst e
 replace fin:Fin XE (Rep X.K) X.K S (zi tx ty S.M) Q:=fin
 unfold zi at fin
 split at fin
 ·cases r1;cases r2
  exact ziE pins s σ S.H _ _ v u Q I rx ry ⟨_,_,rfl,rfl,fin S _ rfl (.refl m) (.int _)⟩
 ·cases r1;cases r2
  split at fin
  ·rename_i hz
   exact zdK pins s σ S.H _ _ v u Q I rx ry ⟨_,_,rfl,rfl,hz,fin S _ rfl (.refl m) (.str _)⟩
  ·exact fin.elim
 ·split at fin
  ·rename_i hz
   cases r1 with
   | @tup _ p vs h l r=>
   cases r2 with
   | @tup _ p2 vs2 h2 l2 rr2=>
   have r1:Reps X.K S _ vs:=⟨l,r⟩
   have r2:Reps X.K S _ vs2:=⟨l2,rr2⟩
   refine zhe pins s σ S.H _ _ v u Q I rx ry ⟨p,p2,vs,vs2,rfl,rfl,h,h2,by rw [← l,← l2];exact hz,fun e=>?_,fun e1 e2=>?_,fun e1 e2=>zbu m fin (r1.app r2)⟩
   ·subst e
    rw [r1.nil_inv,nil_append] at fin
    exact fin S _ rfl (.refl m) (.tup h2 l2 rr2)
   ·subst e2
    rw [r2.nil_inv,append_nil] at fin
    exact fin S _ rfl (.refl m) (.tup h l r)
  ·exact fin.elim
 ·split at fin
  ·rename_i xs ys q1 q2
   split at fin
   ·rename_i hz
    obtain ⟨p,vs,e1,h1,s1⟩:=qk m r1 q1
    obtain ⟨p2,vs2,e2,h2,s2⟩:=qk m r2 q2
    dsimp only at e1 e2
    subst e1;subst e2
    exact zhd pins s σ S.H _ _ v u Q I rx ry ⟨p,p2,vs,vs2,rfl,rfl,h1,h2,by rw [← s1.1,← s2.1];exact hz,zdl m fin (s1.app s2)⟩
   ·exact fin.elim
  ·exact fin.elim
theorem Reps.rep {S:Sit} (r:Reps K S ts vs) (n:Nat):Reps K S (List.replicate n ts).flatten (List.replicate n vs).flatten:=by
 induction n with
 | zero=>exact .nil
 | succ n ih=>rw [replicate_succ,replicate_succ,flatten_cons,flatten_cons];exact r.app ih
theorem zbs:OpR X (binaryOp .Mult) (lR2 XE X.K zW):=by
 intro pins s σ H x y v u Q I rx ry ⟨S,⟨tx,ty⟩,e,m,⟨r1,r2⟩,fin⟩
 subst e
 replace fin:Fin XE (Rep X.K) X.K S (zW tx ty S.M) Q:=fin
 unfold zW at fin
 split at fin
 ·cases r1;cases r2
  split at fin
  ·rename_i h
   exact zha pins s σ S.H _ _ v u Q I rx ry ⟨_,_,rfl,rfl,h.ok,fin S _ rfl (.refl m) (.int _)⟩
  ·exact fin.elim
 ·split at fin
  ·rename_i h
   cases r2
   cases r1 with
   | @tup _ p vs hq l r=>
   have r1:Reps X.K S _ vs:=⟨l,r⟩
   exact zg8 pins s σ S.H _ _ v u Q I rx ry ⟨p,_,vs,rfl,rfl,hq,fun z=>h.1 (by subst z;exact r1.nil_inv),h.2.1,h.2.2.1,by rw [← l];exact h.2.2.2,zbu m fin (r1.rep _)⟩
  ·exact fin.elim
 ·exact fin.elim
noncomputable def lO (XE:XK) (K:Frag) (f:Ev->Mem->Out (Option Int)):TO:=fun σ H Q=>LN XE EqR K UnR (fun _ σ M=>f σ M) () σ H Q
def GO (X:Cx) (XE:XK) (e:Option Expr) (f:Ev->Mem->Out (Option Int)):Prop:=PO X e (lO XE X.K f)
noncomputable def zdM:Ev->Mem->Out (Option Int):=fun _ M=>.ok none M
noncomputable def zfO (x:T) (M:Mem):Out (Option Int):=match x with
 | .int i=>.ok (some i) M
 | _=>.bad
noncomputable def zdL (f:Ev->Mem->Out T):Ev->Mem->Out (Option Int):=fun σ M=>(f σ M).bind zfO
theorem PO.imp {e:Option Expr} {t t':TO} (h:PO X e t) (i:∀ σ H Q,t' σ H Q->t σ H Q):PO X e t':=fun pins s σ H Q I q=>h pins s σ H Q I (i σ H Q q)
noncomputable def zbz (x:T) (lo hi:Option Int) (M:Mem):Out T:=match x with
 | .tup xs=>.ok (.tup (zaq xs lo hi)) M
 | x=>match yv x M with
  | some xs=>.ok (.lst (zaq xs lo hi)) M
  | none=>.bad
noncomputable def eSl (f:Ev->Mem->Out T) (p q:Ev->Mem->Out (Option Int)):Ev->Mem->Out T:=fun σ M=>(f σ M).bind fun x M1=>(p σ M1).bind fun lo M2=>(q σ M2).bind fun hi M3=>zbz x lo hi M3
noncomputable def zkB (XE:XK) (K:Frag):V->Option Int->Option Int->Hp->VK->Prop:=fun x lo hi H Q=>∃ S t,S.H = H/\MemOk K S/\Rep K S t x/\Fin XE (Rep K) K S (zbz t lo hi S.M) Q
theorem zkl:SlR X (zkB XE X.K):=by
 intro pins s σ H x v vl vu lo hi sl Q I rx hs pl pu ⟨S,t,e,m,r,fin⟩
 subst e
 unfold zbz at fin
 split at fin
 ·cases r with
  | @tup _ p vs h l r=>
  have r1:Reps X.K S _ vs:=⟨l,r⟩
  refine zgM pins s σ S.H _ v vl vu lo hi sl Q I rx hs pl pu ⟨p,vs,rfl,h,fun w=>?_,fun w=>zbu m fin (r1.cutV lo hi)⟩
  rw [zdZ (by rw [l];exact w)] at fin
  exact fin S _ rfl (.refl m) (.tup h l r)
 ·split at fin
  ·rename_i xs q
   obtain ⟨p,vs,e1,h1,s1⟩:=qk m r q
   subst e1
   exact zgN pins s σ S.H _ v vl vu lo hi sl Q I rx hs pl pu ⟨p,vs,rfl,h1,zdl m fin (s1.cutV lo hi)⟩
  ·exact fin.elim
noncomputable def ziN (T U:String):Option Bool:=if (Value.type T == Value.type U) = true then some true else if PySem.W.kitMeta U = true then (PySem.fastBuiltinMro T).map (·.contains (.type U)) else none
noncomputable def tyN (t:T) (M:Mem):Option String:=match t with
 | .non=>some "NoneType" | .bl _=>some "bool" | .int _=>some "int" | .str _=>some "str" | .tup _=>some "tuple" | .lst _=>some "list"
 | .ref a=>match M[a]? with
  | some (.lst _)=>some "list"
  | some (.dic _)=>some "dict"
  | _=>none
 | _=>none
noncomputable def zgv (n U:String):Bool:=n == U || (n == "bool" && U == "int")
noncomputable def zbX:List String:=["NoneType","bool","int","str","tuple","list","dict"]
theorem zhn:∀ n ∈ zbX,∀ U ∈ zbX,U ≠ "NoneType"->ziN n U = some (zgv n U):=by decide +kernel
noncomputable def zL:T->T->Mem->Out T:=fun t u M=>match u with
 | .ty U=>match tyN t M with
  | some n=>if U ∈ zbX/\U ≠ "NoneType" then .ok (.bl (zgv n U)) M else .bad
  | none=>.bad
 | _=>.bad
theorem zgG {n:String} (h:tyN t M = some n):n ∈ zbX:=by
 unfold tyN at h
 split at h <;> first | (cases h;decide) | (split at h <;> first | (cases h;decide) | (cases h)) | cases h
theorem zfN {S:Sit} {x:V} {u:Value} {U n:String} {b:Bool} {Q:Value->Shared->Prop} {E:Value->Shared->Prop} (I:L2.Inv X pins σ S.H s) (m:MemOk X.K S) (rx:RelV x u) (r:Rep X.K S t x) (hn:tyN t S.M = some n) (e:ziN n U = some b) (h:∀ tk,Q (.bool b) { s with toks:=tk }) :
  wpAny (model X.prog X.w) X.A (call (.builtin "isinstance") [u,.type U]) Q E s:=by
 have e':PySem.W.kitOne X.K (.type n) (.type U) = some b:=e
 cases r with
 | non=>cases hn;cases (show u = Value.none from rx);exact PySem.W.kia_one PySem.W.kitx_none I.kIn True.intro e' (fun z=>nomatch z) h
 | bl y=>cases hn;cases (show u = Value.bool y from rx);exact PySem.W.kia_one PySem.W.kitx_bool I.kIn True.intro e' (fun z=>nomatch z) h
 | int i=>cases hn;obtain ⟨t,q⟩:=(show ∃ t,u = Value.int i t from rx);cases q;exact PySem.W.kia_one PySem.W.kitx_int I.kIn True.intro e' (fun z=>nomatch z) h
 | str y=>cases hn;obtain ⟨t,q⟩:=(show ∃ t,u = Value.str y t from rx);cases q;exact PySem.W.kia_one PySem.W.kitx_str I.kIn True.intro e' (fun z=>nomatch z) h
 | ty y=>cases hn
 | @tup ts p vs hq l r=>
  cases hn
  cases (show u = Value.ref p from rx)
  obtain ⟨its,_,pl,_⟩:=I.tuple hq
  obtain ⟨o,h1,h2,_⟩:=pl
  exact PySem.W.kia_one PySem.W.kitx_tuple I.kIn ⟨o,h1,h2⟩ e' (fun z=>nomatch z) h
 | @lst ts p vs hq l r=>
  cases hn
  cases (show u = Value.ref p from rx)
  obtain ⟨its,_,pl,_⟩:=I.list (zbd hq)
  obtain ⟨o,h1,h2⟩:=pl.isList
  exact PySem.W.kia_one PySem.W.kitx_list I.kIn ⟨o,h1,h2.1⟩ e' (fun z=>nomatch z) h
 | @ref a ha=>
  cases (show u = Value.ref _ from rx)
  unfold tyN at hn
  dsimp only at hn
  split at hn
  ·rename_i ts q
   cases hn
   obtain ⟨vs,q2,_⟩:=m.cell a _ q
   obtain ⟨_,_,n,_,h1⟩:=(show ObjOk X.prog X.w S.H s.heap (S.α a) (.lst vs) from I.hok _ _ q2)
   exact PySem.W.kia_one PySem.W.kitx_list I.kIn ⟨_,h1,rfl⟩ e' (fun z=>nomatch z) h
  ·rename_i ts q
   cases hn
   obtain ⟨vs,q2,_⟩:=m.cell a _ q
   obtain ⟨_,_,vs2,_,p⟩:=(show ObjOk X.prog X.w S.H s.heap (S.α a) (.dK vs) from I.hok _ _ q2)
   obtain ⟨o,es,ep,h1,h2,_⟩:=p
   exact PySem.W.kia_one PySem.W.kitx_dict I.kIn ⟨o,h1,h2.1⟩ e' (fun z=>nomatch z) h
  ·cases hn
 | dct h l r=>cases hn
 | exc h hd l r=>cases hn
theorem zcQ:CallR X (.builtin "isinstance") (lRN XE X.K (call2 zL)):=zcR fun pins s σ S t1 t2 x1 x2 v1 v2 Q I rx ry m r1 r2 fin=>by
 unfold zL at fin
 split at fin
 ·rename_i U
  split at fin
  ·rename_i n hn
   split at fin
   ·rename_i hU
    cases r2
    cases ry
    exact zfN I m rx r1 hn (zhn n (zgG hn) U hU.1 hU.2) fun tk=>⟨.bl _,S.H,I.tok tk,rfl,fin S _ rfl (.refl m) (.bl _)⟩
   ·exact fin.elim
  ·exact fin.elim
 ·exact fin.elim
end
noncomputable def yP:T->Bool
 | .non=>true
 | .bl _=>true
 | .int _=>true
 | .str _=>true
 | _=>false
noncomputable def eqS:T->T->Bool
 | .non,.non=>true
 | .bl a,.bl b=>a == b
 | .bl a,.int b=>(if a then 1 else 0) == b
 | .int a,.bl b=>a == (if b then 1 else 0)
 | .int a,.int b=>a == b
 | .str a,.str b=>a == b
 | _,_=>false
noncomputable def eqL (f:T->T->Option Bool):List T->List T->Option Bool
 | [],[]=>some true
 | [],_ :: _=>some false
 | _ :: _,[]=>some false
 | x :: xs,y :: ys=>match f x y,eqL f xs ys with
  | some a,some b=>some (a && b)
  | _,_=>none
noncomputable def eqD (M:Mem):Nat->T->T->Option Bool
 | d,.tup xs,.tup ys=>match d with
  | 0=>none
  | d + 1=>eqL (eqD M d) xs ys
 | d,x,y=>if (yP x && yP y) = true then some (eqS x y) else match d,yv x M,yv y M with
  | d + 1,some xs,some ys=>if xs.length = ys.length then eqL (eqD M d) xs ys else some false
  | _,_,_=>none
noncomputable def eqA:T->T->Mem->Out T:=fun x y M=>match eqD M 20 x y with
 | some b=>.ok (.bl b) M
 | none=>.bad
noncomputable def neA:T->T->Mem->Out T:=fun x y M=>match eqD M 20 x y with
 | some b=>.ok (.bl (!b)) M
 | none=>.bad
theorem zap {f:T->T->Option Bool}:∀ {xs ys:List T} {b:Bool},eqL f xs ys = some b->
  ∃ e:Nat->Bool,(∀ j x y,xs[j]? = some x->ys[j]? = some y->f x y = some (e j))/\b = ((List.range (min xs.length ys.length)).all e && xs.length == ys.length)
 | [],[],b,h=>by cases h;exact ⟨fun _=>true,fun j x y e1=>by simp at e1,by simp⟩
 | [],_ :: _,b,h=>by cases h;exact ⟨fun _=>true,fun j x y e1=>by simp at e1,by simp⟩
 | _ :: _,[],b,h=>by cases h;exact ⟨fun _=>true,fun j x y _ e1=>by simp at e1,by simp⟩
 | x :: xs,y :: ys,b,h=>by
  unfold eqL at h
  cases q1:f x y with
  | none=>rw [q1] at h;cases h
  | some a=>
   cases q2:eqL f xs ys with
   | none=>rw [q1,q2] at h;cases h
   | some c=>
    rw [q1,q2] at h
    cases h
    obtain ⟨e,h1,h2⟩:=zap q2
    refine ⟨fun j=>match j with | 0=>a | j + 1=>e j,fun j u v e1 e2=>?_,?_⟩
    ·cases j with
     | zero=>simp at e1 e2;subst e1;subst e2;exact q1
     | succ j=>exact h1 j u v (by simpa using e1) (by simpa using e2)
    ·rw [h2]
     have:min (x :: xs).length (y :: ys).length = min xs.length ys.length + 1:=by simp only [Qn];omega
     rw [this,List.range_succ_eq_map,all_cons,List.all_map]
     simp [Bool.and_assoc,Function.comp_def]
variable {A:Around}
section
variable {S:Sit}
theorem zv (r:Rep K S t v) (h:yP t = true):yy v = true:=by
 cases r <;> first | rfl | (exact absurd (show false = true from h) Q4)
theorem zbi {w:V} (r:Rep K S t v) (q:Rep K S u w) (h:yP t = true) (h2:yP u = true):eqS t u = eqV v w:=by
 cases r <;> first | (exact absurd (show false = true from h) Q4) | (cases q <;> first | rfl | (exact absurd (show false = true from h2) Q4))
theorem zdb (r:Rep K S t v) (q:Rep K S u v) (h:yP t = true) (h2:yP u = true):eqS t u = true:=by
 rw [zbi r q h h2]
 exact zf4 v (zv r h)
theorem zf5 (I:L2.Inv X pins σ S.H s) (m:MemOk X.K S):∀ (d:Nat) {t u:T} {v:V} {b:Bool},Rep X.K S t v->Rep X.K S u v->eqD S.M d t u = some b->b = true:=by
 intro d
 induction d with
 | zero=>
  intro t u v b r q h
  unfold eqD at h
  split at h
  ·cases h
  ·split at h
   ·rename_i hs
    rw [Qo] at hs
    cases h
    exact zdb r q hs.1 hs.2
   ·cases h
 | succ d ih=>
  have key:∀ {xs ys:List T} {vs:List V} {b:Bool},Reps X.K S xs vs->Reps X.K S ys vs->eqL (eqD S.M d) xs ys = some b->b = true:=by
   intro xs ys vs b r q h
   obtain ⟨e,h1,h2⟩:=zap h
   rw [h2,r.1,q.1]
   simp only [Nat.min_self,beq_self_eq_true,Bool.and_true,all_eq_true,mem_range]
   intro j hj
   have hx:j < xs.length:=by rw [r.1];exact hj
   have hy:j < ys.length:=by rw [q.1];exact hj
   have ex:xs[j]? = some xs[j]:=by simp [hx]
   have ey:ys[j]? = some ys[j]:=by simp [hy]
   have ev:vs[j]? = some vs[j]:=by simp [hj]
   exact ih (r.2 j _ _ ex ev) (q.2 j _ _ ey ev) (h1 j _ _ ex ey)
  intro t u v b r q h
  unfold eqD at h
  split at h
  ·cases r with
   | @tup _ p vs h1 l1 r1=>
   cases q with
   | @tup _ _ vs2 h2 l2 r2=>
   have:=I.tuple_inj h1 h2
   subst this
   exact key ⟨l1,r1⟩ ⟨l2,r2⟩ h
  ·split at h
   ·rename_i hs
    rw [Qo] at hs
    cases h
    exact zdb r q hs.1 hs.2
   ·split at h
    ·rename_i d' xs ys hd q1 q2
     cases hd
     obtain ⟨p,vs,e1,hq1,s1⟩:=qk m r q1
     obtain ⟨p2,vs2,e2,hq2,s2⟩:=qk m q q2
     rw [e1] at e2
     cases e2
     have:=I.list_inj hq1 hq2
     subst this
     rw [if_pos (by rw [s1.1,s2.1])] at h
     exact key s1 s2 h
    ·cases h
theorem zjk (I:L2.Inv X pins σ S.H s) (m:MemOk X.K S):∀ (d:Nat) {A:Around} {t u:T} {v w:V} {x y:Value} {b:Bool},A.units + d < cLine->RelV v x->RelV w y->Rep X.K S t v->Rep X.K S u w->eqD S.M d t u = some b->SeqAt.EqAt A s x y b:=by
 intro d
 induction d with
 | zero=>
  intro A t u v w x y b hu rx ry r q h
  unfold eqD at h
  split at h
  ·cases h
  ·split at h
   ·rename_i hs
    rw [Qo] at hs
    cases h
    rw [zbi r q hs.1 hs.2]
    exact zcH rx ry (zv r hs.1) (zv q hs.2)
   ·cases h
 | succ d ih=>
  have key:∀ {A:Around} {xs ys:List T} {vs ws:List V} {us zs:List Value} {b:Bool},A.units + d < cLine->Reps X.K S xs vs->Reps X.K S ys ws->Vals vs us->Vals ws zs->eqL (eqD S.M d) xs ys = some b->
    ∃ e:Nat->Bool,(∀ j (h1:j < us.toArray.size) (h2:j < zs.toArray.size),SeqAt.EqAt A s us.toArray[j] zs.toArray[j] (e j))/\b = ((List.range (min us.toArray.size zs.toArray.size)).all e && us.toArray.size == zs.toArray.size):=by
   intro A xs ys vs ws us zs b hu r q hv hw h
   obtain ⟨e,h1,h2⟩:=zap h
   have l1:us.length = xs.length:=by rw [← hv.length,r.1]
   have l2:zs.length = ys.length:=by rw [← hw.length,q.1]
   refine ⟨e,fun j g1 g2=>?_,by rw [h2,Qg,Qg,l1,l2]⟩
   have g1':j < us.length:=by simpa using g1
   have g2':j < zs.length:=by simpa using g2
   have ex:xs[j]? = some (xs[j]'(by omega)):=Q0 (by omega)
   have ey:ys[j]? = some (ys[j]'(by omega)):=Q0 (by omega)
   obtain ⟨v,ev,rv⟩:=r.get ex
   obtain ⟨w,ew,rw'⟩:=q.get ey
   obtain ⟨a,ea,ra⟩:=Vals.get hv ev
   obtain ⟨c,ec,rc⟩:=Vals.get hw ew
   have:us.toArray[j] = a:=by
    rw [getElem_toArray];rw [Q0 g1'] at ea;exact Qb ea
   rw [this]
   have:zs.toArray[j] = c:=by
    rw [getElem_toArray];rw [Q0 g2'] at ec;exact Qb ec
   rw [this]
   exact ih hu ra rc rv rw' (h1 j _ _ ex ey)
  intro A t u v w x y b hu rx ry r q h
  have hsame:v = w->b = true:=fun z=>by subst z;exact zf5 I m (d + 1) r q h
  unfold eqD at h
  split at h
  ·cases r with
   | @tup _ p vs h1 l1 r1=>
   cases q with
   | @tup _ p2 vs2 h2 l2 r2=>
   cases rx
   cases ry
   by_cases hp:p = p2
   ·subst hp
    rw [hsame rfl]
    exact SeqAt.EqAt.same _
   ·obtain ⟨its,ri,pl,_⟩:=I.tuple h1
    obtain ⟨its2,ri2,pl2,_⟩:=I.tuple h2
    obtain ⟨e,he,eb⟩:=key (A:=A.in1) (by show A.units + 1 + d < cLine;omega) ⟨l1,r1⟩ ⟨l2,r2⟩ ri ri2 h
    rw [eb]
    exact SeqAt.EqAt.of_refs hp (SeqAt.RcAt.tuples pl pl2 (by omega) he)
  ·split at h
   ·rename_i hs
    rw [Qo] at hs
    cases h
    rw [zbi r q hs.1 hs.2]
    exact zcH rx ry (zv r hs.1) (zv q hs.2)
   ·split at h
    ·rename_i d' xs ys hd q1 q2
     cases hd
     obtain ⟨p,vs,e1,hq1,s1⟩:=qk m r q1
     obtain ⟨p2,vs2,e2,hq2,s2⟩:=qk m q q2
     subst e1
     subst e2
     cases rx
     cases ry
     by_cases hp:p = p2
     ·subst hp
      rw [hsame rfl]
      exact SeqAt.EqAt.same _
     ·obtain ⟨its,ri,pl,_⟩:=I.list hq1
      obtain ⟨its2,ri2,pl2,_⟩:=I.list hq2
      have lz:its.length = xs.length:=by rw [← ri.length,s1.1]
      have lz2:its2.length = ys.length:=by rw [← ri2.length,s2.1]
      by_cases hl:xs.length = ys.length
      ·rw [if_pos hl] at h
       obtain ⟨e,he,eb⟩:=key (A:=A.in1) (by show A.units + 1 + d < cLine;omega) s1 s2 ri ri2 h
       have hsz:its.toArray.size = its2.toArray.size:=by simp [lz,lz2,hl]
       rw [eb,hsz,Nat.min_self,beq_self_eq_true,Bool.and_true,← hsz]
       exact SeqAt.EqAt.of_refs hp (SeqAt.RcAt.lists pl.isList pl2.isList hsz (by omega) he)
      ·rw [if_neg hl] at h
       cases h
       exact SeqAt.EqAt.of_refs hp (SeqAt.RcAt.lists_lengths pl.isList pl2.isList (by simp [lz,lz2,hl]) (by omega))
    ·cases h
theorem zh9 {x:V} {u v:Value} (ry:RelV y u) (rx:RelV x v) (fy:yy y = true) (fx:yy x = true):SeqAt.RcAt A s u v (eqV y x):=by
 cases y with
 | non=>
  cases ry
  cases x with
  | non=>cases rx;exact SeqAt.RcAt.none_none
  | bl b=>cases rx;exact SeqAt.RcAt.none_bool b
  | int b=>obtain ⟨t,rfl⟩:=rx;exact SeqAt.RcAt.none_int b t
  | str b=>obtain ⟨t,rfl⟩:=rx;exact SeqAt.RcAt.none_str b t
  | _=>exact absurd (show false = true from fx) Q4
 | bl a=>
  cases ry
  cases x with
  | non=>cases rx;exact SeqAt.RcAt.bool_none a
  | bl b=>cases rx;exact SeqAt.RcAt.bool_bool a b
  | int b=>obtain ⟨t,rfl⟩:=rx;exact SeqAt.RcAt.bool_int a b t
  | str b=>obtain ⟨t,rfl⟩:=rx;exact SeqAt.RcAt.bool_str a b t
  | _=>exact absurd (show false = true from fx) Q4
 | int a=>
  obtain ⟨t',rfl⟩:=ry
  cases x with
  | non=>cases rx;exact SeqAt.RcAt.int_none a t'
  | bl b=>cases rx;exact SeqAt.RcAt.int_bool a t' b
  | int b=>obtain ⟨t,rfl⟩:=rx;exact SeqAt.RcAt.int_int a t' b t
  | str b=>obtain ⟨t,rfl⟩:=rx;exact SeqAt.RcAt.int_str a t' b t
  | _=>exact absurd (show false = true from fx) Q4
 | str a=>
  obtain ⟨t',rfl⟩:=ry
  cases x with
  | non=>cases rx;exact SeqAt.RcAt.str_none a t'
  | bl b=>cases rx;exact SeqAt.RcAt.str_bool a t' b
  | int b=>obtain ⟨t,rfl⟩:=rx;exact SeqAt.RcAt.str_int a t' b t
  | str b=>obtain ⟨t,rfl⟩:=rx;exact SeqAt.RcAt.str_str a t' b t
  | _=>exact absurd (show false = true from fx) Q4
 | _=>exact absurd (show false = true from fy) Q4
theorem zfq {x:V} {u v:Value} (ry:RelV y u) (rx:RelV x v) (fy:yy y = true) (fx:yy x = true):SeqAt.RcNeAt A s u v (!eqV y x):=by
 cases y with
 | non=>
  cases ry
  cases x with
  | non=>cases rx;exact SeqAt.RcNeAt.none_none
  | bl b=>cases rx;exact SeqAt.RcNeAt.none_bool b
  | int b=>obtain ⟨t,rfl⟩:=rx;exact SeqAt.RcNeAt.none_int b t
  | str b=>obtain ⟨t,rfl⟩:=rx;exact SeqAt.RcNeAt.none_str b t
  | _=>exact absurd (show false = true from fx) Q4
 | bl a=>
  cases ry
  cases x with
  | non=>cases rx;exact SeqAt.RcNeAt.bool_none a
  | bl b=>cases rx;exact SeqAt.RcNeAt.bool_bool a b
  | int b=>obtain ⟨t,rfl⟩:=rx;exact SeqAt.RcNeAt.bool_int a b t
  | str b=>obtain ⟨t,rfl⟩:=rx;exact SeqAt.RcNeAt.bool_str a b t
  | _=>exact absurd (show false = true from fx) Q4
 | int a=>
  obtain ⟨t',rfl⟩:=ry
  cases x with
  | non=>cases rx;exact SeqAt.RcNeAt.int_none a t'
  | bl b=>cases rx;exact SeqAt.RcNeAt.int_bool a t' b
  | int b=>obtain ⟨t,rfl⟩:=rx;exact SeqAt.RcNeAt.int_int a t' b t
  | str b=>obtain ⟨t,rfl⟩:=rx;exact SeqAt.RcNeAt.int_str a t' b t
  | _=>exact absurd (show false = true from fx) Q4
 | str a=>
  obtain ⟨t',rfl⟩:=ry
  cases x with
  | non=>cases rx;exact SeqAt.RcNeAt.str_none a t'
  | bl b=>cases rx;exact SeqAt.RcNeAt.str_bool a t' b
  | int b=>obtain ⟨t,rfl⟩:=rx;exact SeqAt.RcNeAt.str_int a t' b t
  | str b=>obtain ⟨t,rfl⟩:=rx;exact SeqAt.RcNeAt.str_str a t' b t
  | _=>exact absurd (show false = true from fx) Q4
 | _=>exact absurd (show false = true from fy) Q4
theorem zeX (I:L2.Inv X pins σ S.H s) (m:MemOk X.K S) (d:Nat) {w:V} {x y:Value} {b:Bool} (hu:A.units + d < cLine) (rx:RelV v x) (ry:RelV w y) (r:Rep X.K S t v) (q:Rep X.K S u w) (h:eqD S.M d t u = some b):SeqAt.RcAt A s x y b/\SeqAt.RcNeAt A s x y (!b):=by
 have at_:∀ {A:Around} {d:Nat} {xs ys:List T} {vs ws:List V} {us zs:List Value} {b:Bool},A.units + d < cLine->Reps X.K S xs vs->Reps X.K S ys ws->Vals vs us->Vals ws zs->eqL (eqD S.M d) xs ys = some b->
    ∃ e:Nat->Bool,(∀ j (h1:j < us.toArray.size) (h2:j < zs.toArray.size),SeqAt.EqAt A s us.toArray[j] zs.toArray[j] (e j))/\b = ((List.range (min us.toArray.size zs.toArray.size)).all e && us.toArray.size == zs.toArray.size):=by
  intro A d xs ys vs ws us zs b hu r q hv hw h
  obtain ⟨e,h1,h2⟩:=zap h
  have l1:us.length = xs.length:=by rw [← hv.length,r.1]
  have l2:zs.length = ys.length:=by rw [← hw.length,q.1]
  refine ⟨e,fun j g1 g2=>?_,by rw [h2,Qg,Qg,l1,l2]⟩
  have g1':j < us.length:=by simpa using g1
  have g2':j < zs.length:=by simpa using g2
  have ex:xs[j]? = some (xs[j]'(by omega)):=Q0 (by omega)
  have ey:ys[j]? = some (ys[j]'(by omega)):=Q0 (by omega)
  obtain ⟨v,ev,rv⟩:=r.get ex
  obtain ⟨w,ew,rw'⟩:=q.get ey
  obtain ⟨a,ea,ra⟩:=Vals.get hv ev
  obtain ⟨c,ec,rc⟩:=Vals.get hw ew
  have:us.toArray[j] = a:=by
   rw [getElem_toArray];rw [Q0 g1'] at ea;exact Qb ea
  rw [this]
  have:zs.toArray[j] = c:=by
   rw [getElem_toArray];rw [Q0 g2'] at ec;exact Qb ec
  rw [this]
  exact zjk I m d hu ra rc rv rw' (h1 j _ _ ex ey)
 unfold eqD at h
 split at h
 ·split at h
  ·cases h
  ·rename_i d
   cases r with
   | @tup _ p vs h1 l1 r1=>
   cases q with
   | @tup _ p2 vs2 h2 l2 r2=>
   cases rx
   cases ry
   obtain ⟨its,ri,pl,_⟩:=I.tuple h1
   obtain ⟨its2,ri2,pl2,_⟩:=I.tuple h2
   obtain ⟨e,he,eb⟩:=at_ (A:=A.in1) (by show A.units + 1 + d < cLine;omega) ⟨l1,r1⟩ ⟨l2,r2⟩ ri ri2 h
   rw [eb]
   exact ⟨SeqAt.RcAt.tuples pl pl2 (by omega) he,SeqAt.RcNeAt.tuples pl pl2 (by omega) he⟩
 ·split at h
  ·rename_i hs
   rw [Qo] at hs
   cases h
   rw [zbi r q hs.1 hs.2]
   exact ⟨zh9 rx ry (zv r hs.1) (zv q hs.2),zfq rx ry (zv r hs.1) (zv q hs.2)⟩
  ·split at h
   ·rename_i d' xs ys q1 q2
    obtain ⟨p,vs,e1,hq1,s1⟩:=qk m r q1
    obtain ⟨p2,vs2,e2,hq2,s2⟩:=qk m q q2
    subst e1
    subst e2
    cases rx
    cases ry
    obtain ⟨its,ri,pl,_⟩:=I.list hq1
    obtain ⟨its2,ri2,pl2,_⟩:=I.list hq2
    have lz:its.length = xs.length:=by rw [← ri.length,s1.1]
    have lz2:its2.length = ys.length:=by rw [← ri2.length,s2.1]
    by_cases hl:xs.length = ys.length
    ·rw [if_pos hl] at h
     obtain ⟨e,he,eb⟩:=at_ (A:=A.in1) (by show A.units + 1 + d' < cLine;omega) s1 s2 ri ri2 h
     have hsz:its.toArray.size = its2.toArray.size:=by simp [lz,lz2,hl]
     rw [eb,hsz,Nat.min_self,beq_self_eq_true,Bool.and_true,← hsz]
     exact ⟨SeqAt.RcAt.lists pl.isList pl2.isList hsz (by omega) he,SeqAt.RcNeAt.lists pl.isList pl2.isList hsz (by omega) he⟩
    ·rw [if_neg hl] at h
     cases h
     exact ⟨SeqAt.RcAt.lists_lengths pl.isList pl2.isList (by simp [lz,lz2,hl]) (by omega),SeqAt.RcNeAt.lists_lengths pl.isList pl2.isList (by simp [lz,lz2,hl]) (by omega)⟩
   ·cases h
theorem qI (hu:X.A.units + 64 < cLine):OpR X (compareOp .Eq) (lR2 XE X.K eqA):=by
 intro pins s σ H x y v u Q I rx ry ⟨S,⟨tx,ty⟩,e,m,⟨r1,r2⟩,fin⟩
 subst e
 replace fin:Fin XE (Rep X.K) X.K S (eqA tx ty S.M) Q:=fin
 unfold eqA at fin
 split at fin
 ·rename_i b q
  exact (zeX I m 20 (A:=X.A) (by omega) rx ry r1 r2 q).1 _ _ _ _ ⟨.bl b,S.H,I,rfl,fin S _ rfl (.refl m) (.bl _)⟩
 ·exact fin.elim
theorem z8 (hu:X.A.units + 64 < cLine):OpR X (compareOp .NotEq) (lR2 XE X.K neA):=by
 intro pins s σ H x y v u Q I rx ry ⟨S,⟨tx,ty⟩,e,m,⟨r1,r2⟩,fin⟩
 subst e
 replace fin:Fin XE (Rep X.K) X.K S (neA tx ty S.M) Q:=fin
 unfold neA at fin
 split at fin
 ·rename_i b q
  exact (zeX I m 20 (A:=X.A) (by omega) rx ry r1 r2 q).2 _ _ _ _ ⟨.bl (!b),S.H,I,rfl,fin S _ rfl (.refl m) (.bl _)⟩
 ·exact fin.elim
noncomputable def inA:T->T->Mem->Out T:=fun x y M=>match zdA y M with
 | some ys=>if (yP x && ys.all yP) = true then .ok (.bl (ys.any fun y=>eqS y x)) M else .bad
 | none=>.bad
theorem zgA {K:Frag} {x:T} {v:V} (rx:Rep K S x v) (hx:yP x = true):∀ {ys:List T} {vs:List V},Reps K S ys vs->ys.all yP = true->vs.all yy = true/\inV v vs = ys.any fun y=>eqS y x
 | [],vs,r,_=>by rw [r.nilT];exact ⟨rfl,rfl⟩
 | y :: ys,vs,r,h=>by
  obtain ⟨w,ws,rfl,r1,r2⟩:=r.consT
  rw [all_cons,Qo] at h
  obtain ⟨h1,h2⟩:=zgA rx hx r2 h.2
  refine ⟨by rw [all_cons,zv r1 h.1,h1];rfl,?_⟩
  unfold inV at h2 ⊢
  rw [any_cons,any_cons,h2,zbi r1 rx h.1 hx]
theorem zeA:OpR X (compareOp .In) (lR2 XE X.K inA):=by
 intro pins s σ H x y v u Q I rx ry ⟨S,⟨tx,ty⟩,e,m,⟨r1,r2⟩,fin⟩
 subst e
 replace fin:Fin XE (Rep X.K) X.K S (inA tx ty S.M) Q:=fin
 unfold inA at fin
 split at fin
 ·rename_i ys q
  split at fin
  ·rename_i hs
   rw [Qo] at hs
   obtain ⟨p,vs,e1,hq,rs⟩:=zbI m r2 q
   dsimp only at e1
   subst e1
   obtain ⟨a1,a2⟩:=zgA r1 hs.1 rs hs.2
   exact zez pins s σ S.H _ _ v u Q I rx ry ⟨p,vs,rfl,hq,zv r1 hs.1,a1,by rw [a2];exact fin S _ rfl (.refl m) (.bl _)⟩
  ·exact fin.elim
 ·exact fin.elim
end
noncomputable def zfo (o:Out Fl):Out T:=match o with
 | .ok (.rt t) M'=>.ok t M'
 | .ok (.nx _) M'=>.ok .non M'
 | _=>.bad
theorem zet {p:Nat} (h:ts.length = p):qh p n g ts M = zfo (g (startT n ts) M):=by
 unfold qh
 rw [if_pos h]
 rfl
theorem zkU:zfo (.ok (.rt t) M) = .ok t M:=rfl
theorem zkV {σ:Ev} :zfo (.ok (.nx σ) M) = .ok .non M:=rfl
theorem zlg {β:Type} {b:Bool} {k:Bool->Mem->Out β}:blT (.bl b) M k = k b M:=rfl
variable {k:Ev->Mem->Out Fl}
theorem zj8 {σ:Ev} :zaK k (.nx σ) M = k σ M:=rfl
theorem zj7:zaK k (.rt t) M = .ok (.rt t) M:=rfl
theorem zka {σ:Ev} :zaK k (.bk σ) M = .ok (.bk σ) M:=rfl
theorem zj9 {σ:Ev} :zaK k (.ct σ) M = .ok (.ct σ) M:=rfl
theorem zkv {σ:Ev} :qv k (.nx σ) M = k σ M:=rfl
theorem zku:qv k (.rt t) M = .ok (.rt t) M:=rfl
theorem zkx {σ:Ev} :qv k (.bk σ) M = .ok (.nx σ) M:=rfl
theorem zkw {σ:Ev} :qv k (.ct σ) M = k σ M:=rfl
theorem zeT {x:T} {σ:Ev} :forL bd body (x :: xs) σ M = (bd x σ M).bind fun σ1 M1=>(body σ1 M1).bind (qv (forL bd body xs)):=rfl
theorem zk1 {k:T->Mem->Out T} :zk k [t] M = k t M:=rfl
theorem zk0 {k:T->T->Mem->Out T} :call2 k [t,u] M = k t u M:=rfl
theorem zk4:zi (.int i) (.int j) M = .ok (.int (i + j)) M:=rfl
theorem zkR:zdy (.int i) (.int j) M = .ok (.int (i - j)) M:=rfl
theorem zhh (h:Mo64 i j):zW (.int i) (.int j) M = .ok (.int (i * j)) M:=if_pos h
theorem zbx (h:j ≠ 0/\j.natAbs < 10 ^ 2000):zaB (.int i) (.int j) M = .ok (.int (i.fdiv j)) M:=if_pos h
theorem zhj (h:j ≠ 0):y3 (.int i) (.int j) M = .ok (.int (i.fmod j)) M:=if_pos h
theorem zkW (h:0<=j/\j<=1000000/\i.natAbs < 2 ^ 64):zbr (.int i) (.int j) M = .ok (.int (i ^ j.toNat)) M:=if_pos h
theorem zk9:ltI (.int i) (.int j) M = .ok (.bl (decide (i < j))) M:=rfl
theorem zla:leI (.int i) (.int j) M = .ok (.bl (decide (i<=j))) M:=rfl
theorem zlc:gtI (.int i) (.int j) M = .ok (.bl (decide (j < i))) M:=rfl
theorem zld:geI (.int i) (.int j) M = .ok (.bl (decide (j<=i))) M:=rfl
theorem zk7:zks (.int i) M = .ok (.int (-i)) M:=rfl
theorem zkX:zdO (.int i) (.int j) M = .ok (.int (if j > i then j else i)) M:=rfl
theorem zle:eqA (.int i) (.int j) M = .ok (.bl (i == j)) M:=rfl
theorem zk8:neA (.int i) (.int j) M = .ok (.bl (!(i == j))) M:=rfl
theorem zlb {a b:Bool} :isB (.bl a) (.bl b) M = .ok (.bl (a == b)) M:=rfl
theorem zkE {a b:Bool} :zjR (.bl a) (.bl b) M = .ok (.bl (a != b)) M:=rfl
theorem yM {α:Type} {xs:List α} :atI xs (n:Int) = xs[n]?:=by
 unfold atI ixN
 by_cases h:n < xs.length
 ·simp [h]
 ·simp [h]
theorem zlu {α:Type} {x:α} {l:List α}:atI (x :: l) 0 = some x:=by have:=yM (xs:=x :: l) (n:=0);exact this
theorem zlt {α:Type} {x y:α} {l:List α}:atI (x :: y :: l) 1 = some y:=by have:=yM (xs:=x :: y :: l) (n:=1);exact this
theorem zls {α:Type} {x y z:α} {l:List α}:atI (x :: y :: z :: l) 2 = some z:=by have:=yM (xs:=x :: y :: z :: l) (n:=2);exact this
theorem zlr {α:Type} {x y z w:α} {l:List α}:atI (x :: y :: z :: w :: l) 3 = some w:=by have:=yM (xs:=x :: y :: z :: w :: l) (n:=3);exact this
theorem zln:ixN (n + 1) 0 = some 0:=by unfold ixN;simp
theorem zlm:ixN (n + 2) 1 = some 1:=by unfold ixN;simp;omega
theorem zll:ixN (n + 3) 2 = some 2:=by unfold ixN;simp;omega
theorem zge {a:Nat} (e:M[a]? = some (.lst xs)) (h:xs.length < sizeLine):z5 (.ref a) [t] M = .ok .non (M.set a (.lst (xs ++ [t]))):=by
 unfold z5
 simp only [e,if_pos h]
theorem zdS {a:Nat} (e:M[a]? = some (.lst xs)):zO (.ref a) M = .ok (.ref a) M:=by
 unfold zO yv
 simp only [e]
theorem zlf:zaB (.int i) (.int 8) M = .ok (.int (i.fdiv 8)) M:=zbx ⟨by decide,Q5 (show (8:Int).natAbs < 10 ^ 1 by decide) (Nat.pow_le_pow_right (by decide) (by decide))⟩
theorem zcv (h:-(2 ^ 64) < i/\i < 2 ^ 64):zW (.int i) (.int j) M = .ok (.int (i * j)) M:=zhh (.inr (.inl h))
theorem zgy (n:Nat) (hn:n<=2000) (h0:j ≠ 0) (h:j.natAbs < 10 ^ n):j ≠ 0/\j.natAbs < 10 ^ 2000:=⟨h0,Q5 h (Nat.pow_le_pow_right (by decide) hn)⟩
structure Po where
 a:Int
 b:Int
 c:Int
noncomputable def Po.cell (p:Po):Cell:=.lst [.int p.a,.int p.b,.int p.c]
noncomputable def Po.dig (p:Po) (base:Int):Int:=if 0 < p.a then p.a % base else
 let mixed:=(p.b + 7919 * (p.c + 1)) % 1000000007
 let stir:=(mixed + 11) * (mixed + 48271) % 998244353
 (stir * stir % 2147483647 / 8) % base
noncomputable def Po.nxt (p:Po) (base:Int):Po:=if 0 < p.a then ⟨p.a / base,p.b,p.c⟩ else ⟨p.a,p.b,p.c + 1⟩
noncomputable def Po.new (cell:Int):Po:=⟨if cell - 10 ^ 18 > 0 then cell - 10 ^ 18 else 0,cell % 10 ^ 18,0⟩
theorem Po.dig_lo (p:Po) {base:Int} (h:0 < base):0<=p.dig base:=by
 unfold Po.dig
 split
 ·exact Int.emod_nonneg _ (by omega)
 ·exact Int.emod_nonneg _ (by omega)
theorem Po.dig_hi (p:Po) {base:Int} (h:0 < base):p.dig base < base:=by
 unfold Po.dig
 split
 ·exact Int.emod_lt_of_pos _ h
 ·exact Int.emod_lt_of_pos _ h
theorem zcV {α:Type} (f:α->Bool):∀ xs:List α,za3 (xs.map fun x=>T.bl (f x)) = some (xs.map f)
 | []=>rfl
 | x :: xs=>by
  show (za3 (xs.map fun x=>T.bl (f x))).map (f x :: ·) = _
  rw [zcV f xs]
  rfl
theorem zgg {α:Type} (f:α->Bool) (xs:List α) (M:Mem):zcY (.lst (xs.map fun x=>T.bl (f x))) M = .ok (.bl (xs.all f)) M:=by
 unfold zcY yv
 simp only [zcV]
 rw [List.all_map]
 rfl
theorem zkz:zJ (.tup xs) M = .ok (.int xs.length) M:=rfl
theorem zkA:zJ (.lst xs) M = .ok (.int xs.length) M:=rfl
theorem zaF {α:Type} {xs:List α} (h0:0<=i) (h1:i < xs.length):∃ x,atI xs i = some x/\x ∈ xs:=by
 obtain ⟨n,rfl⟩:∃ n:Nat,i = n:=⟨i.toNat,by omega⟩
 have hn:n < xs.length:=by omega
 exact ⟨xs[n],by rw [yM];simp [hn],List.getElem_mem hn⟩
variable {ys:List T}
theorem zk3 (h:xs.length + ys.length<=sizeLine):zi (.tup xs) (.tup ys) M = .ok (.tup (xs ++ ys)) M:=if_pos h
theorem zT (h:xs.length + ys.length<=sizeLine):zi (.lst xs) (.lst ys) M = .ok (.lst (xs ++ ys)) M:=if_pos h
noncomputable def zaQ (kvs:List (Key × T)) (k:Key):Option T:=(kvs.find? fun kv=>decide (kv.1 = k)).map (·.2)
noncomputable def zdY (kvs:List (Key × T)) (k:Key) (t:T):List (Key × T):=
 if (kvs.any fun kv=>decide (kv.1 = k)) = true then kvs.map (fun kv=>if kv.1 = k then (kv.1,t) else kv) else kvs ++ [(k,t)]
variable {kvs:List (Key × T)} {us:List (Key × V)}
section
variable {S:Sit}
theorem RepK.nilT (r:RepK K S [] us):us = []:=by
 have:=r.1
 simpa using this.symm
theorem RepK.nil:RepK K S [] []:=⟨rfl,.nil⟩
theorem RepK.consT {p:Key × T} (r:RepK K S (p :: kvs) us):∃ u us',us = (p.1,u) :: us'/\Rep K S p.2 u/\RepK K S kvs us':=by
 cases us with
 | nil=>have:=r.1;simp at this
 | cons q us=>
  obtain ⟨h1,h2⟩:=r
  rw [map_cons,map_cons] at h1 h2
  injection h1 with e1 e2
  obtain ⟨v,vs,e3,r1,r2⟩:=h2.consT
  injection e3 with e3 e4
  refine ⟨q.2,us,?_,?_,e2,?_⟩
  ·rw [e1]
  ·rw [e3];exact r1
  ·rw [e4];exact r2
theorem RepK.cons {k:Key} {u:V} (q:Rep K S t u) (r:RepK K S kvs us):RepK K S ((k,t) :: kvs) ((k,u) :: us):=
 ⟨by rw [map_cons,map_cons,r.1],by rw [map_cons,map_cons];exact r.2.cons q⟩
theorem RepK.look (k:Key):∀ {kvs:List (Key × T)} {us:List (Key × V)},RepK K S kvs us->(zaQ kvs k = none/\qT us k = none)\/∃ t v,zaQ kvs k = some t/\qT us k = some v/\Rep K S t v
 | [],us,r=>by rw [r.nilT];exact .inl ⟨rfl,rfl⟩
 | p :: kvs,us,r=>by
  obtain ⟨u,us',rfl,r1,r2⟩:=r.consT
  by_cases h:p.1 = k
  ·refine .inr ⟨p.2,u,?_,?_,r1⟩
   ·simp [zaQ,find?_cons,h]
   ·simp [qT,find?_cons,h]
  ·have e1:zaQ (p :: kvs) k = zaQ kvs k:=by simp [zaQ,find?_cons,h]
   have e2:qT ((p.1,u) :: us') k = qT us' k:=by simp [qT,find?_cons,h]
   rw [e1,e2]
   exact RepK.look k r2
theorem RepK.any (k:Key):∀ {kvs:List (Key × T)} {us:List (Key × V)},RepK K S kvs us->(kvs.any fun kv=>decide (kv.1 = k)) = us.any fun kv=>decide (kv.1 = k)
 | [],us,r=>by rw [r.nilT];rfl
 | p :: kvs,us,r=>by
  obtain ⟨u,us',rfl,r1,r2⟩:=r.consT
  rw [any_cons,any_cons,RepK.any k r2]
theorem RepK.repl (k:Key) {t:T} {v:V} (q:Rep K S t v):∀ {kvs:List (Key × T)} {us:List (Key × V)},RepK K S kvs us->RepK K S (kvs.map (fun kv=>if kv.1 = k then (kv.1,t) else kv)) (us.map (fun kv=>if kv.1 = k then (kv.1,v) else kv))
 | [],us,r=>by rw [r.nilT];exact .nil
 | p :: kvs,us,r=>by
  obtain ⟨u,us',rfl,r1,r2⟩:=r.consT
  rw [map_cons,map_cons]
  by_cases h:p.1 = k
  ·rw [if_pos h,if_pos h]
   exact (RepK.repl k q r2).cons q
  ·rw [if_neg h,if_neg h]
   exact (RepK.repl k q r2).cons r1
theorem RepK.snoc (k:Key) {t:T} {v:V} (q:Rep K S t v):∀ {kvs:List (Key × T)} {us:List (Key × V)},RepK K S kvs us->RepK K S (kvs ++ [(k,t)]) (us ++ [(k,v)])
 | [],us,r=>by rw [r.nilT];exact RepK.nil.cons q
 | p :: kvs,us,r=>by
  obtain ⟨u,us',rfl,r1,r2⟩:=r.consT
  exact (RepK.snoc k q r2).cons r1
theorem RepK.put (k:Key) (q:Rep K S t v) (r:RepK K S kvs us):RepK K S (zdY kvs k t) (putK us k v):=by
 unfold zdY putK
 rw [r.any k]
 split
 ·exact r.repl k q
 ·exact r.snoc k q
end
section
noncomputable def lMt (XE:XK) (K:Frag) (F:T->List T->Mem->Out T):V->List V->Hp->VK->Prop:=fun x xs H Q=>L0 XE (Rep K) K (PrR (Rep K) (Reps K)) (fun a M=>F a.1 a.2 M) (x,xs) H Q
noncomputable def zaa (chk:T->Mem->Bool) (F:T->List T->Mem->Out T) (f:Ev->Mem->Out T) (g:Ev->Mem->Out (List T)):Ev->Mem->Out T:=fun σ M=>(f σ M).bind fun x M1=>if chk x M1 = true then (g σ M1).bind fun ts M2=>F x ts M2 else .bad
end
noncomputable def insI (x:Int):List Int->List Int
 | []=>[x]
 | y :: ys=>if x<=y then x :: y :: ys else y :: insI x ys
theorem insI_perm (x:Int):∀ ys,(insI x ys).Perm (x :: ys)
 | []=>.refl _
 | y :: ys=>by
  unfold insI
  split
  ·exact .refl _
  ·exact ((insI_perm x ys).cons y).trans (.swap x y ys)
theorem Reps.ints {K:Frag} {S:Sit}:∀ ns:List Int,Reps K S (ns.map T.int) (ns.map V.int)
 | []=>.nil
 | n :: ns=>(Reps.ints ns).cons (.int n)
noncomputable def tK:Key->T
 | .inl i=>.int i
 | .inr x=>.str x
theorem zh2 {S:Sit} (k:Key):Rep K S (tK k) (kV k):=by
 cases k with
 | inl i=>exact .int i
 | inr x=>exact .str x
theorem Reps.keys {K:Frag} {S:Sit}:∀ ks:List Key,Reps K S (ks.map tK) (ks.map kV)
 | []=>.nil
 | k :: ks=>(Reps.keys ks).cons (zh2 k)
section
noncomputable def zcA:T->Mem->Out T:=fun t M=>match t with
 | .bl b=>.ok (.int (if b then 1 else 0)) M
 | _=>.bad
theorem zbO:CallR X (.type "int") (lRN XE X.K (zk zcA)):=zM fun pins s σ S t x v Q I rx m r fin=>by
 unfold zcA at fin
 split at fin
 ·cases r
  cases (show v = Value.bool _ from rx)
  exact call_int_bool ⟨.int _,S.H,I.tok _,⟨_,rfl⟩,fin S _ rfl (.refl m) (.int _)⟩
 ·exact fin.elim
end
noncomputable def SubL (m:List (Str × Addr)):List (Str × Addr)->Prop
 | []=>True
 | c :: l=>m.lookup c.1 = some c.2/\SubL m l
theorem zcx:∀ {l m:List (Str × Addr)},SubL m l->∀ x a,l.lookup x = some a->m.lookup x = some a
 | [],_,_,_,_,h=>by cases h
 | (y,b) :: l,m,g,x,a,h=>by
  rw [lookup_cons] at h
  split at h
  ·rename_i e
   cases h
   rw [eq_of_beq e]
   exact g.1
  ·exact zcx g.2 x a h
noncomputable def ze0 (kvs prs:List (Key × T)):List (Key × T):=prs.foldl (fun acc kv=>zdY acc kv.1 kv.2) kvs
theorem RepK.merge {K:Frag} {S:Sit}:∀ {prs:List (Key × T)} {us:List (Key × V)} {kvs:List (Key × T)} {ws:List (Key × V)},RepK K S prs us->RepK K S kvs ws->RepK K S (ze0 kvs prs) (zeC ws us)
 | [],us,kvs,ws,r,q=>by rw [r.nilT];exact q
 | p :: prs,us,kvs,ws,r,q=>by
  obtain ⟨u,us',rfl,r1,r2⟩:=r.consT
  show RepK K S (ze0 (zdY kvs p.1 p.2) prs) (zeC (putK ws p.1 u) us')
  exact RepK.merge r2 (q.put p.1 r1)
noncomputable def forR (bd:T->Ev->Mem->Out Ev) (body:Ev->Mem->Out Fl) (a:Nat):Nat->Nat->Ev->Mem->Out Fl
 | 0,i,σ,M=>match M[a]? with
  | some (.lst xs)=>if xs.length<=i then .ok (.nx σ) M else .bad
  | _=>.bad
 | n + 1,i,σ,M=>match M[a]? with
  | some (.lst xs)=>match xs[i]? with
   | some x=>(bd x σ M).bind fun σ1 M1=>(body σ1 M1).bind (qv (forR bd body a n (i + 1)))
   | none=>.ok (.nx σ) M
  | _=>.bad
noncomputable def zlh (bd:T->Ev->Mem->Out Ev) (body:Ev->Mem->Out Fl) (t:T) (σ:Ev) (M:Mem):Out Fl:=match t with
 | .ref a=>match M[a]? with
  | some (.lst xs)=>forR bd body a xs.length 0 σ M
  | _=>.bad
 | _=>.bad
theorem zf1 {bd:T->Ev->Mem->Out Ev} {body:Ev->Mem->Out Fl} {a:Nat} {xs:List T} (P:Nat->Ev->Mem->Prop) (hP:∀ k σ M,P k σ M->M[a]? = some (.lst xs))
  (t:∀ k x σ M,xs[k]? = some x->P k σ M->∃ σ' M',((bd x σ M).bind fun σ1 M1=>body σ1 M1) = .ok (.nx σ') M'/\P (k + 1) σ' M'):∀ n i,i + n = xs.length->∀ σ M,P i σ M->∃ σ' M',forR bd body a n i σ M = .ok (.nx σ') M'/\P xs.length σ' M'
 | 0,i,hi,σ,M,h=>by
  have hM:=hP i σ M h
  refine ⟨σ,M,?_,by rw [← hi];exact h⟩
  unfold forR
  rw [hM]
  exact if_pos (by omega)
 | n + 1,i,hi,σ,M,h=>by
  have hM:=hP i σ M h
  have hx:xs[i]? = some xs[i]:=by simp [show i < xs.length by omega]
  obtain ⟨σ1,M1,e1,h1⟩:=t i _ σ M hx h
  obtain ⟨σ2,M2,e2,h2⟩:=zf1 P hP t n (i + 1) (by omega) σ1 M1 h1
  refine ⟨σ2,M2,?_,h2⟩
  unfold forR
  rw [hM]
  simp only [hx]
  cases q:bd xs[i] σ M with
  | bad=>rw [q] at e1;cases e1
  | exn C fs M'=>rw [q] at e1;cases e1
  | ok σ3 M3=>
   rw [q] at e1
   replace e1:body σ3 M3 = .ok (.nx σ1) M1:=e1
   show (body σ3 M3).bind (qv (forR bd body a n (i + 1))) = _
   rw [e1]
   exact e2
end FT
namespace L2
open PySem PySem.Spec PySem.W PyProof.Rows
theorem KV.get_val {κ:Type}:∀ {kvs:List (κ × V)} {vs:List (κ × Value)} {i:Nat} {k:κ} {v:Value},KV kvs vs->vs[i]? = some (k,v)->∃ u,(kvs.map (·.2))[i]? = some u/\RelV u v
 | _,_,_,_,_,.nil,e=>by simp at e
 | _,_,0,_,_,.cons r _,e=>by simp at e;subst e;exact ⟨_,rfl,r.2⟩
 | _,_,i + 1,k,v,.cons _ t,e=>by
  obtain ⟨u,h1,h2⟩:=KV.get_val (i:=i) (k:=k) (v:=v) t (by simpa using e)
  exact ⟨u,by simpa using h1,h2⟩
variable {X:Cx}
section
variable {pins:List (Addr × Obj)} {σ:St} {H:Hp} {s:Shared} {l:Addr} {us:List (Key × V)}
theorem Inv.freeze (I:Inv X pins σ H s) (e:H l = some (.dK us)):∃ ob,Inv X pins σ (upd H l (.frz ob (.dK us))) s:=by
 obtain ⟨z,hs,vs,rel,o,es,ep,ho,r⟩:=(show ObjOk X.prog X.w H s.heap l (.dK us) from I.hok l _ e)
 exact ⟨o,I.write (x:=l) (e:=l) (o:=.frz o (.dK us)) (h':=s.heap) (t':=s.toks) (by rw [e];trivial) (.inl rfl) (fun b u _ q=>q) ⟨o,ho⟩ ⟨ho,z,hs,vs,rel,o,es,ep,ho,r⟩⟩
end
noncomputable def zkJ (Q:VK):VK:=fun v H'=>∃ l us,v = .ref l/\H' l = some (.dK us)/\∀ ob,Q v (upd H' l (.frz ob (.dK us)))
theorem CallR.frz {f:Value} {r:List V->Hp->VK->Prop} (h:CallR X f r):CallR X f (fun xs H Q=>r xs H (zkJ Q)):=by
 intro pins s σ H xs us Q I rv hr
 refine Qe (h pins s σ H xs us _ I rv hr) (fun v s' ⟨x,H',I',r',l,us',ex,e,q⟩=>?_) fun _ _ z=>z
 obtain ⟨ob,I2⟩:=I'.freeze e
 exact ⟨x,_,I2,r',q ob⟩
end L2
namespace FT
open PySem PySem.Spec PyProof.Rows L2
noncomputable def zfs (f:Str) (v:T):List (Str × T)->List (Str × T)
 | []=>[(f,v)]
 | (g,x) :: r=>if g = f then (g,v) :: r else (g,x) :: zfs f v r
variable {K:Frag} {us:List (Str × V)}
section
variable {S:Sit}
theorem RepF.nil:RepF K S [] []:=⟨rfl,.nil⟩
theorem RepF.nilT (r:RepF K S [] us):us = []:=by
 have:=r.1
 simpa using this.symm
theorem RepF.consT {p:Str × T} {fs:List (Str × T)} (r:RepF K S (p :: fs) us):∃ u us',us = (p.1,u) :: us'/\Rep K S p.2 u/\RepF K S fs us':=by
 cases us with
 | nil=>have:=r.1;simp at this
 | cons q us'=>
  have h1:=r.1
  simp only [map_cons,List.cons.injEq] at h1
  obtain ⟨v,vs,e,r1,r2⟩:=(show Reps K S (p.2 :: fs.map (·.2)) (q.2 :: us'.map (·.2)) from r.2).consT
  cases e
  exact ⟨q.2,us',by rw [h1.1],r1,h1.2,r2⟩
theorem RepF.cons {g:Str} {t:T} {u:V} {fs:List (Str × T)} (q:Rep K S t u) (r:RepF K S fs us):RepF K S ((g,t) :: fs) ((g,u) :: us):=⟨by simp [r.1],r.2.cons q⟩
theorem RepF.look (f:Str):∀ {fs:List (Str × T)} {us:List (Str × V)},RepF K S fs us->∀ {t:T},fs.lookup f = some t->∃ v,us.lookup f = some v/\Rep K S t v
 | [],us,r,t,e=>by cases e
 | (g,x) :: fs,us,r,t,e=>by
  obtain ⟨u,us',rfl,r1,r2⟩:=r.consT
  rw [lookup_cons] at e ⊢
  cases h:f == g with
  | true=>rw [h] at e;cases e;exact ⟨u,rfl,r1⟩
  | false=>rw [h] at e;exact RepF.look f r2 e
theorem RepF.put (f:Str) {t:T} {v:V} (q:Rep K S t v):∀ {fs:List (Str × T)} {us:List (Str × V)},RepF K S fs us->RepF K S (zfs f t fs) (zft f v us)
 | [],us,r=>by rw [r.nilT];exact RepF.cons q .nil
 | (g,x) :: fs,us,r=>by
  obtain ⟨u,us',rfl,r1,r2⟩:=r.consT
  unfold zfs zft
  by_cases h:g = f
  ·rw [if_pos h,if_pos h];exact RepF.cons q r2
  ·rw [if_neg h,if_neg h];exact RepF.cons r1 (RepF.put f q r2)
end
noncomputable def zlv (Cs:List Addr) (f:Str) (x:T) (M:Mem):Out T:=match x with
 | .ref a=>match M[a]? with
  | some (.ins C fs)=>if C ∈ Cs then zcr (fs.lookup f) M else .bad
  | _=>.bad
 | _=>.bad
structure MakT (P:Program) (w:World) (K:Frag) (mg:Str->Option Value) (base:Heap) (k:Nat) (x:Str) (C:Addr) (ps:List Str) (f:List T->Mem->Out T):Prop where
 ex:∃ (fI:Addr) (fd:FuncData),Mk K C fI/\FnOk P w K mg base CX0 k fI fd ps (spT K f)/\Binds K fd ps []/\mg x = some (.ref C)
 nox:∀ ts M C fs M',f ts M ≠ .exn C fs M'
structure Di (K:Frag) (mg:Str->Option Value) (x qual:Str) (C:Addr) (st:Stmt) (ps:List Str):Prop where
 ex:∃ (fI:Addr) (fd:FuncData),Mk K C fI/\Fun K "__init__" qual st fI fd/\Binds K fd ps []/\mg x = some (.ref C)
noncomputable def zbA (K:Frag) (x:Str):Addr:=match PySem.W.nsIn K mainGlobals x with
 | some (some (.ref a))=>a
 | _=>0
theorem zhI {x:Str} {C:Addr} (a:PySem.W.nsIn K mainGlobals x = some (some (.ref C))):zbA K x = C:=by
 unfold zbA
 rw [a]
noncomputable abbrev Gd:=List (Nat × List T)
def zdW (G:Gd) (M:Mem):Prop:=∀ g ∈ G,M[g.1]? = some (.lst g.2)
noncomputable def gdK {β:Type} (G:Gd) (M:Mem) (o:Out β):Out β:=@ite _ (zdW G M) (Classical.propDecidable _) o .bad
theorem zeQ {β:Type} {G:Gd} {M:Mem} {o:Out β} (h:zdW G M):gdK G M o = o:=if_pos h
def ItG (K:Frag) (S:Sit) (items:List T × Gd) (J:It):Prop:=∀ S',Stp K S S'->zdW items.2 S'.M->
 (∀ (i:Nat) t,items.1[i]? = some t->J.go i S'.H/\∀ x H',J.yld i S'.H x H'->∃ S'',S''.H = H'/\S''.M = S'.M/\Stp K S' S''/\Rep K S'' t x)/\∀ i,items.1.length<=i->J.stop i S'.H
instance (K):Mo K (ItG K):=⟨fun _ s r=>fun S' s'=>r S' (s.trans s')⟩
noncomputable def lIG (XE:XK) (K:Frag) (f:Ev->Mem->Out (List T × Gd)):TI:=fun σ H R=>LN XE (ItG K) K UnR (fun _ σ M=>f σ M) () σ H R
def GIG (X:Cx) (XE:XK) (tg iter:Expr) (f:Ev->Mem->Out (List T × Gd)):Prop:=PI X tg iter (lIG XE X.K f)
noncomputable def zbw (G:Gd) (bd:T->Ev->Mem->Out Ev) (body:Ev->Mem->Out Fl):List T->Ev->Mem->Out Fl
 | [],σ,M=>gdK G M (.ok (.nx σ) M)
 | x :: xs,σ,M=>gdK G M ((bd x σ M).bind fun σ1 M1=>(body σ1 M1).bind (qv (zbw G bd body xs)))
end FT
namespace L2
open PySem PySem.Spec PySem.W PyProof.Rows
def SI (b:Bool) (h:Heap) (q t:Addr) (k:Nat):Prop:=match b with
 | true=>h.IsTupleIter q t k
 | false=>h.IsListIter q t k
def SS (b:Bool) (h:Heap) (t:Addr) (xs:Array Value):Prop:=match b with
 | true=>h.IsTuple t xs
 | false=>h.IsList t xs
def SqX (K:Frag) (H:Hp) (b:Bool) (a:Addr) (xs:List V):Prop:=match b with
 | true=>SqT K H a xs
 | false=>SqL K H a xs
noncomputable abbrev TSl:=V->Option Int->Option Int->V->Hp->(Hp->Prop)->Prop
end L2
namespace FT
open PySem PySem.Spec PyProof.Rows L2
noncomputable def zaP (f:List T->Mem->Out T):List T->Mem->Out T:=fun ts M=>match f ts M with
 | .ok v M'=>@ite _ (M'.take M.length = M/\T.lt 0 v) (Classical.propDecidable _) (.ok v M) .bad
 | _=>.bad
theorem zf6 (f:List T->Mem->Out T):Refines (zaP f) f:=by
 intro ts M t' M1 _ e
 unfold zaP at e
 split at e
 ·rename_i v M' q
  split at e
  ·rename_i hc
   cases e
   have hl:M.length<=M'.length:=by
    have:=congrArg List.length hc.1
    rw [length_take] at this
    omega
   exact ⟨_,_,q,Q3 _,hl,hc.1.symm,fun i c e=>.inl e,.same (hc.2.mono (Nat.zero_le _))⟩
  ·cases e
 ·cases e
theorem zf7 (f:List T->Mem->Out T):∀ ts M C fs M',zaP f ts M ≠ .exn C fs M':=by
 intro ts M C fs M' e
 unfold zaP at e
 split at e
 ·split at e <;> cases e
 ·cases e
noncomputable def zko (o:Out Fl):Out T:=match o with
 | .ok (.rt t) M'=>.ok t M'
 | .ok (.nx _) M'=>.ok .non M'
 | .exn C fs M'=>.exn C fs M'
 | _=>.bad
noncomputable def yz (p n:Nat) (g:Ev->Mem->Out Fl):List T->Mem->Out T:=fun ts M=>if ts.length = p then zko (g (startT n ts) M) else .bad
structure CalX (P:Program) (w:World) (K:Frag) (mg:Str->Option Value) (base:Heap) (k:Nat) (x:Str) (ps:List Str) (f:List T->Mem->Out T):Prop where
 ex:∃ (fa:Addr) (fd:FuncData),FnOk P w K mg base (CXX P w) k fa fd ps (spT K f)/\PySem.W.keepIn K (.ref fa) = true/\Binds K fd ps []/\mg x = some (.ref fa)
variable {X:Cx} {g:Ev->Mem->Out Fl} {K:Frag} {base:Heap} {N ps:List Str} {k n:Nat} {P:Program} {x:Str} {mg:Str->Option Value} {w:World}
section
theorem zfb {st:List Stmt} {p:Nat} (hn:N.length = n) {E:XK} {vs:List V} {H:Hp} {Q:VK} (hX:X.K = K) (h:spT K (yz p n g) vs H Q E) (hb:GSs X E st g) :
  ∃ t,PSs X st t/\t { nx:=fun _ H'=>Q .non H',rt:=Q } (start N vs) H:=by
 subst hX
 refine ⟨_,hb,?_⟩
 obtain ⟨S,ts,e,m,r,fin⟩:=h
 refine ⟨S,startT n ts,(),e,m,EvR.start r hn,trivial,?_⟩
 show Fin E (FlR X.K) X.K S (g (startT n ts) S.M) _
 unfold yz at fin
 by_cases hp:ts.length = p
 ·rw [if_pos hp] at fin
  cases o:g (startT n ts) S.M with
  | bad=>rw [o] at fin;exact fin
  | exn C fs M'=>rw [o] at fin;exact fin
  | ok fl M1=>
   rw [o] at fin
   cases fl with
   | nx σ1=>
    intro S1 c e1 s1 r1
    cases r1 with
    | nx r1=>exact fin S1 .non e1 s1 .non
   | rt t=>
    intro S1 c e1 s1 r1
    cases r1 with
    | rt r1=>exact fin S1 _ e1 s1 r1
   | bk σ1=>exact fin.elim
   | ct σ1=>exact fin.elim
 ·rw [if_neg hp] at fin;exact fin.elim
theorem zgL {p:Nat} (hp:ps.length = p):∀ vs H Q E,spT K (yz p n g) vs H Q E->vs.length = ps.length:=by
 intro vs H Q E ⟨S,ts,e,m,r,fin⟩
 rw [← r.1,hp]
 unfold yz at fin
 by_cases h:ts.length = p
 ·exact h
 ·rw [if_neg h] at fin;exact fin.elim
theorem zhL {st:Stmt} {p:Nat} (D:Df K mg x st ps) (Sc:FnScope N ps (yc st)) (hp:ps.length = p) (hn:N.length = n)
 (hb:∀ (f:Addr) (cdv:Value) (A:Around) (outer:List PySem.Env) (s:Shared) (H:Hp) (E:XK),Room k (A.deeper (envOfC x (yc st) s.heap.objs.size f cdv))->GSs (qL (CXX P w) P w K mg base N x (yc st) f cdv A outer s H E) E (qo st) g) :
  CalX P w K mg base (k + 1) x ps (yz p n g):=by
 obtain ⟨f,fd,F,b,gg⟩:=D.ex
 obtain ⟨oc,od,kV,doc,pm,an,cdv,ct,osl,rfl,lk,hcd⟩:=F.ex
 exact ⟨⟨f,_,zgx lk hcd Sc (zgL hp) fun A outer s H vs Q E hr hsp=>zfb hn rfl hsp (hb f cdv A outer s H E hr),F.kp,b,gg⟩⟩
end
section
variable {XE:XK} {i j:Nat} {y v nm:Str} {p pos pos2 np hp tp vp cpos:Pos} {e:Expr} {es:List Expr} {ga:Ev->Mem->Out (List T)} {F:List T->Mem->Out T} {C:Addr} {b0:Stmt} {suite sts:List Stmt} {gs:Ev->Mem->Out Fl}
noncomputable def yI (C:Addr) (ts:List T) (M:Mem):Out Fl:=if ts.length<=sizeLine then .exn C [] M else .bad
noncomputable def qm (r:List T->Mem->Out Fl) (ga:Ev->Mem->Out (List T)):Ev->Mem->Out Fl:=fun σ M=>(ga σ M).bind fun ts M1=>r ts M1
structure XcF (P:Program) (w:World) (K:Frag) (mg:Str->Option Value) (base:Heap) (x:Str) (C:Addr):Prop where
 ex:∃ f fd,XcAt K mg x C f/\FnOk P w K mg base CX0 1 f fd ["self","at"] (fun vs H Q E=>(∃ e t v,vs = [.ref e,v]/\H e = some (.ext (ExN e C t none))/\∀ d,H d = none->d ≠ e->Q .non (upd (upd H e (.ext (ExN e C t (some d)))) d (.xd [("at",v)]))))/\Binds K fd ["self","at"] []
theorem XcF.at (O:XcF P w K mg base x C):∃ nm fI,XcAt K mg nm C fI:=let ⟨f,_,h,_⟩:=O.ex;⟨x,f,h⟩
def GX (X:Cx) (sts:List Stmt) (g:Ev->Mem->Out Fl):Prop:=PX X sts fun E=>lS E X.K g
noncomputable def noX (o:Out Fl):Out Fl:=match o with
 | .exn _ _ _=>.bad
 | o=>o
theorem zhg {S:Sit} {o:Out Fl} {Q:FlV->Hp->Prop} (h:Fin XE (FlR K) K S (noX o) Q):Fin E0 (FlR K) K S o Q:=by
 cases o with
 | ok b M'=>exact h
 | exn C fs M'=>exact h.elim
 | bad=>exact h
noncomputable def zcm (cs:List Addr) (g gs:Ev->Mem->Out Fl):Ev->Mem->Out Fl:=fun σ M=>match g σ M with
 | .exn C _ M'=>if cs.contains C = true then noX (gs σ M') else .bad
 | o=>o
noncomputable def clr (j:Nat) (fl:Fl) (M:Mem):Out Fl:=match fl with
 | .nx σ=>.ok (.nx (σ.set j none)) M
 | .rt t=>.ok (.rt t) M
 | .bk σ=>.ok (.bk (σ.set j none)) M
 | .ct σ=>.ok (.ct (σ.set j none)) M
noncomputable def zli (j:Nat) (cs:List Addr) (g gs:Ev->Mem->Out Fl):Ev->Mem->Out Fl:=fun σ M=>match g σ M with
 | .exn C fs M'=>if cs.contains C = true then (noX (gs (σ.set j (some (.exc C fs))) M')).bind (clr j) else .bad
 | o=>o
end
theorem zfl {C f:Addr} (O:XcAt K mg x C f):Sup K mg x C C:=⟨O.bound,fun h X=>by
 obtain ⟨bm,N,nm,q,bs,sn,sub,ab,col,dd,k0,k1,k2,k3,k5,mN,hC,_,_,_,T⟩:=O.obj h X
 exact ⟨⟨bm,N,nm,q,bs,true,sn,sub,ab,col,dd,k0,k1,k2,k3,k5,hC,(T.tail (by decide)).hasType PySem.F.excBase_ValueError.hasBase⟩,bm,N,nm,q,bs,true,sn,sub,ab,col,dd,k0,k1,k2,k3,k5,hC,by simp⟩⟩
theorem XcF.sup {C:Addr} (O:XcF P w K mg base x C):Sup K mg x C C:=let ⟨_,_,h,_⟩:=O.ex;zfl h
end FT
namespace L2
open PySem
noncomputable def subs:Nat->List (List Nat)
 | 0=>[[]]
 | n + 1=>subs n ++ (subs n).map (· ++ [n])
theorem zda:∀ (n:Nat) (ks:List Nat),ks ∈ subs n->ks.Pairwise (· < ·)/\∀ k ∈ ks,k < n
 | 0,ks,h=>by rw [show ks = [] from mem_singleton.mp h];exact ⟨.nil,fun _ h=>by cases h⟩
 | n + 1,ks,h=>by
  unfold subs at h
  rcases mem_append.mp h with h | h
  ·have:=zda n ks h
   exact ⟨this.1,fun k hk=>Nat.lt_succ_of_lt (this.2 k hk)⟩
  ·obtain ⟨l,hl,rfl⟩:=mem_map.mp h
   have:=zda n l hl
   refine ⟨List.pairwise_append.mpr ⟨this.1,List.pairwise_singleton _ _,fun a ha b hb=>by rw [mem_singleton.mp hb];exact this.2 a ha⟩,fun k hk=>?_⟩
   rcases mem_append.mp hk with hk | hk
   ·exact Nat.lt_succ_of_lt (this.2 k hk)
   ·rw [mem_singleton.mp hk];exact Nat.lt_succ_self _
noncomputable def zkO:Bool:=(subs 6).all fun ks=>(List.range 7).all fun h=>SetTable.below ks.toArray h == (ks.filter (· < h)).length
theorem zhN:zkO = true:=by decide +kernel
variable {ks:List Nat}
theorem zcW (hk:ks ∈ subs 6) {h:Nat} (hh:h < 7):SetTable.below ks.toArray h = (ks.filter (· < h)).length:=by
 have:=all_eq_true.mp (all_eq_true.mp zhN ks hk) h (mem_range.mpr hh)
 exact eq_of_beq this
noncomputable def ziJ (mask:Nat) (hashes:Array Int):Option (List Nat × List Nat):=(SetTable.layClean mask hashes).map fun owner=>
 let live:=(List.range (mask + 1)).filterMap fun j=>(owner.getD j none).map (j,·)
 (live.map (·.1),live.map (·.2))
noncomputable def hsh (ks:List Nat):List Int:=ks.map fun k:Nat=>(k:Int)
noncomputable def layB:Bool:=(subs 6).all fun ks=>[7,15,31].all fun m=>ziJ m (hsh ks).toArray == some (ks,List.range ks.length)
theorem zhk:layB = true:=by decide +kernel
theorem zhm (hk:ks ∈ subs 6) {m:Nat} (hm:m ∈ [7,15,31]) (f mv:Nat) (l p:Bool) :
  SetTable.laid m f mv l p (hsh ks).toArray = some ({ mask:=m,place:=ks.toArray,dummies:=#[],finger:=f,led:=l,moves:=mv,plain:=p },(List.range ks.length).toArray):=by
 have:=eq_of_beq (all_eq_true.mp (all_eq_true.mp zhk ks hk) m hm)
 unfold ziJ at this
 unfold SetTable.laid
 cases q:SetTable.layClean m (hsh ks).toArray with
 | none=>rw [q] at this;cases this
 | some owner=>
  rw [q] at this
  have h:=Prod.mk.inj (Qb this)
  show some _ = some _
  rw [h.1,h.2]
end L2
namespace L2
open PySem PySem.Spec
noncomputable def zjo (w:World):Bool:=w.params.followText "set-order"
structure DTab (w:World) (es:Array (Int × Value)) (t:SetTable) (ks:List Nat) (m:Nat):Prop where
 keys:es.toList.map (·.1) = hsh ks
 vals:∀ e ∈ es.toList,∃ tk,e.2 = .int e.1 tk
 mask:t.mask = m
 place:t.place = ks.toArray
 dumm:t.dummies = #[]
 plain:t.plain = true
 led:zjo w = true\/t.led = true
 sub:ks ∈ subs 6
 ms:m ∈ [7,15,31]
variable {es:Array (Int × Value)} {ks:List Nat} {m:Nat} {t:SetTable} {w:World}
theorem DTab.size (d:DTab w es t ks m):es.size = ks.length:=by
 have:=congrArg List.length d.keys
 unfold hsh at this
 simpa using this
theorem zcb (h:ks ∈ subs 6):ks.length<=6:=by
 have:((subs 6).all fun ks=>ks.length<=6) = true:=by decide +kernel
 simpa using all_eq_true.mp this ks h
theorem DTab.fits (d:DTab w es t ks m):t.fits es.size = true:=by
 have:=zcb d.sub
 have hm:=d.ms
 unfold SetTable.fits SetTable.fill
 rw [d.size,d.place,d.dumm,d.mask]
 simp at hm ⊢
 omega
variable {k:Nat}
theorem zhR (h:k < 6):hashInt (k:Int) = k:=by
 have:((List.range 6).all fun k:Nat=>hashInt (k:Int) == (k:Int)) = true:=by decide +kernel
 exact eq_of_beq (all_eq_true.mp this k (mem_range.mpr h))
variable {tk:Tok}
section
variable {prog:Program} {A:Around} {E:Value->Shared->Prop} {s:Shared} {a:Addr}
noncomputable def zdT (k:Nat) (ks:List Nat):List Nat:=if k ∈ ks then ks else ks.take (ks.filter (· < k)).length ++ k :: ks.drop (ks.filter (· < k)).length
theorem zfP (hk:k < 6) (h:ks ∈ subs 6):zdT k ks ∈ subs 6:=by
 have:((List.range 6).all fun k=>(subs 6).all fun ks=>(subs 6).contains (zdT k ks)) = true:=by decide +kernel
 have:=all_eq_true.mp (all_eq_true.mp this k (mem_range.mpr hk)) ks h
 simpa using this
theorem zc3 (hp:t.place = ks.toArray) (hd:t.dummies = #[]) (hm:k<=t.mask) (hs:k < 2 ^ 64) (hn:k ∉ ks):t.freeSlot (k:Int) = some (k,false):=by
 have hb:SetTable.bits (k:Int) = k:=by
  unfold SetTable.bits
  rw [Int.emod_eq_of_lt (by omega) (by omega)]
  rfl
 have hsl:t.slot k = .empty:=by
  unfold SetTable.slot SetTable.has
  rw [hp,hd]
  dsimp only
  rw [if_neg (by
   intro e
   have e:=eq_of_beq e
   rw [List.getElem?_toArray] at e
   exact hn (Q9 e)),if_neg (by simp)]
 have hj:(t.probeStart (k:Int)).j = k/\(t.probeStart (k:Int)).dummy = none:=by
  unfold SetTable.probeStart
  rw [hb]
  exact ⟨Nat.mod_eq_of_lt (by omega),rfl⟩
 unfold SetTable.freeSlot SetTable.probe
 rw [show 10 * SetTable.turns t.mask = (10 * t.mask + 149) + 1 by unfold SetTable.turns;omega]
 unfold SetTable.probe.go
 rw [hj.1,hsl,hj.2]
 rfl
theorem DTab.ins (d:DTab w es t ks m) (hk:k < 6) (hn:k ∉ ks):DTab w (SetTable.insertAt es (t.put k).2 ((k:Int),.int (k:Int) tk)) (t.put k).1 (zdT k ks) m:=by
 have hp:(t.put k).2 = (ks.filter (· < k)).length:=by
  unfold SetTable.put
  rw [d.place]
  exact zcW d.sub (by omega)
 have hi:zdT k ks = ks.take (ks.filter (· < k)).length ++ k :: ks.drop (ks.filter (· < k)).length:=if_neg hn
 refine ⟨?_,?_,d.mask,?_,?_,d.plain,d.led,zfP hk d.sub,d.ms⟩
 ·rw [hp,SetTable.toList_insertAt,hi]
  unfold hsh
  rw [map_append,map_cons,map_append,map_cons,List.map_take,List.map_take,List.map_drop,List.map_drop]
  have:=d.keys
  unfold hsh at this
  rw [this]
 ·intro e he
  rw [SetTable.toList_insertAt] at he
  rcases mem_append.mp he with he | he
  ·exact d.vals e (List.mem_of_mem_take he)
  ·rcases mem_cons.mp he with rfl | he
   ·exact ⟨tk,rfl⟩
   ·exact d.vals e (List.mem_of_mem_drop he)
 ·show SetTable.insertAt t.place (SetTable.below t.place k) k = _
  rw [d.place,zcW d.sub (by omega),hi]
  apply Array.toList_inj.mp
  rw [SetTable.toList_insertAt]
 ·show (if SetTable.has t.dummies k then _ else t.dummies) = #[]
  rw [d.dumm]
  rfl
theorem DTab.lay (d:DTab w es t ks m) (hk:k < 6) (hn:k ∉ ks):layNew t es (k:Int) (.int (k:Int) tk) = (SetTable.insertAt es (t.put k).2 ((k:Int),.int (k:Int) tk),(t.put k).1,false,false):=by
 have hm:=d.ms
 have hf:=(d.ins (tk:=tk) hk hn).fits
 unfold layNew
 rw [zc3 d.place d.dumm (by rw [d.mask];simp at hm;omega) (by omega) hn]
 dsimp only
 unfold SetTable.orStandIn
 rw [if_pos hf,hf]
 rfl
theorem DTab.full (d:DTab w es t ks m):∃ t' m',relayAll t es (SetTable.grown es.size) = (es,t',false)/\DTab w es t' ks m':=by
 have h6:=zcb d.sub
 have hw:∀ n,n<=6->SetTable.sizeAbove (SetTable.grown n) - 1 ∈ [7,15,31]:=by decide +kernel
 have hms:=hw _ h6
 have e1:es.map (·.1) = (hsh ks).toArray:=by
  rw [← d.keys]
  apply Array.toList_inj.mp
  rw [Array.toList_map]
 have e3:Array.filterMap (fun x=>es[x]?) (List.range ks.length).toArray = es:=by
  apply Array.toList_inj.mp
  rw [← d.size]
  simpa using filterMap_getElem?_range es
 have hc:∀ n,n<=6->coversAll (List.range n).toArray n = true:=by decide +kernel
 have d':DTab w es { mask:=SetTable.sizeAbove (SetTable.grown es.size) - 1,place:=ks.toArray,dummies:=#[],finger:=t.finger,led:=t.led,moves:=t.movedTo (SetTable.sizeAbove (SetTable.grown es.size) - 1),plain:=t.plain } ks (SetTable.sizeAbove (SetTable.grown es.size) - 1):=⟨d.keys,d.vals,rfl,rfl,rfl,d.plain,d.led,d.sub,by rw [d.size];exact hms⟩
 refine ⟨_,_,?_,d'⟩
 unfold relayAll SetTable.relaid
 rw [e1,zhm d.sub (by rw [d.size];exact hms)]
 dsimp only
 rw [e3,d'.fits,d.size,hc _ h6]
 rfl
end
end L2
namespace L2
open PySem PySem.Spec PyProof.Rows
section
variable {prog:Program} {w:World} {A:Around} {E:Value->Shared->Prop} {s:Shared} {a:Addr} {ks:List Nat} {m:Nat}
structure DictN (prog:Program) (w:World) (h:Heap) (d:Addr) (ns:List Nat) (od:Obj) (es:Array DictEntry) (ep:Nat):Prop where
 at_:h.get? d = some od
 exact_:od.ExactDict
 data:od.data = .dict es ep
 size:es.size = ns.length
 keys:∀ (i:Nat) n,ns[i]? = some n->∃ e tk,es[i]? = some e/\e.key = .int (n:Int) tk/\e.hash = (n:Int)
 small:∀ n ∈ ns,n < 6
end
end L2
namespace FT
open PySem PySem.Spec PyProof.Rows L2
variable {K:Frag} {base:Heap} {N ps:List Str} {k:Nat} {P:Program} {st:Stmt} {x:Str} {mg:Str->Option Value} {w:World}
section
theorem Refines.bad (g:List T->Mem->Out T):Refines (fun _ _=>.bad) g:=fun _ _ _ _ _ e=>by cases e
theorem CalT.bad (D:Df K mg x st ps) (Sc:FnScope N ps (yc st)):CalT P w K mg base (k + 1) x ps (fun _ _=>.bad):=
 CalT.refine (g:=qh ps.length N.length (fun _ _=>.bad)) (zfa D Sc rfl rfl fun f cdv A outer s H E hr=>fun _ _ _ _ _ _ ⟨_,_,_,_,_,_,_,fin⟩=>fin.elim) (Refines.bad _) (fun _ _ _ _ _ z=>by cases z)
end
def KTu (K:Frag) (a:Addr) (xs:List V):Prop:=∃ (o:Obj) (its:Array Value) (n:Nat),K.lookup a = some o/\o.cls = .type "tuple"/\o.dict = none/\o.data = .seq its n/\its.size<=sizeLine/\Vals xs its.toList
variable {X:Cx} {Cs:List Addr} {ss:List Str} {pos:Pos} {XE:XK}
section
variable {f:Str}
end
structure WE (X:Cx) (XE:XK) (e:Expr) (f:Ev->Mem->Out T):Prop where
 pe:GE X XE e f
structure WT (X:Cx) (XE:XK) (e:Expr) (f:Ev->Mem->Out Bool):Prop where
 pe:GT X XE e f
structure WW (X:Cx) (XE:XK) (e:Expr) (f:Ev->Mem->Out Bool):Prop where
 pe:GW X XE e f
structure WA (X:Cx) (XE:XK) (e:List Expr) (f:Ev->Mem->Out (List T)):Prop where
 pe:GA X XE e f
structure WSs (X:Cx) (XE:XK) (e:List Stmt) (f:Ev->Mem->Out Fl):Prop where
 pe:GSs X XE e f
structure WS (X:Cx) (XE:XK) (e:Stmt) (f:Ev->Mem->Out Fl):Prop where
 pe:GS X XE e f
structure WL (X:Cx) (XE:XK) (e:Expr) (f:Ev->Mem->Out (List T)):Prop where
 pe:GL X XE e f
structure WGs (X:Cx) (XE:XK) (e:List Expr) (f:List T->Ev->Mem->Out Ev):Prop where
 pe:GGs X XE e f
structure WG (X:Cx) (XE:XK) (e:Expr) (f:T->Ev->Mem->Out Ev):Prop where
 pe:GG X XE e f
structure WO (X:Cx) (XE:XK) (e:Option Expr) (f:Ev->Mem->Out (Option Int)):Prop where
 pe:GO X XE e f
structure WI (X:Cx) (XE:XK) (tg iter:Expr) (f:Ev->Mem->Out (List T)):Prop where
 pe:GI X XE tg iter f
structure WX (X:Cx) (e:List Stmt) (f:Ev->Mem->Out Fl):Prop where
 pe:GX X e f
structure WIG (X:Cx) (XE:XK) (tg iter:Expr) (f:Ev->Mem->Out (List T × Gd)):Prop where
 pe:GIG X XE tg iter f
variable {op op':CmpOp} {ga:Ev->Mem->Out (List T)} {tf:Ev->Mem->Out Bool} {f h:Ev->Mem->Out T} {c e:Expr} {es:List Expr} {i:Nat} {o o':T->T->Mem->Out T}
section
variable {a b:Expr} {g:Ev->Mem->Out T}
theorem ya (h:PE X e (zdx i)):WE X XE e (qb i):=⟨PE.imp h fun σ H Q h9=>by
 obtain ⟨S,στ,_,e,m,ev,_,fin⟩:=h9
 replace fin:Fin XE (Rep X.K) X.K S (qb i στ S.M) Q:=fin
 unfold qb at fin
 cases q:στ[i]? with
 | none=>rw [q] at fin;exact fin.elim
 | some o=>
  cases o with
  | none=>rw [q] at fin;exact fin.elim
  | some t=>
   rw [q] at fin
   obtain ⟨v,e2,r⟩:=ev.2 i t q
   exact ⟨v,e2,by rw [← e];exact fin S v rfl (.refl m) r⟩⟩
theorem yb {i j}:WE X XE (.Constant (.int i) j pos) (eC (.int i)):=⟨qF ziw fun _=>.int _⟩
theorem yT {i j}:WE X XE (.Constant (.bool i) j pos) (eC (.bl i)):=⟨qF zjJ fun _=>.bl _⟩
theorem z7 {j}:WE X XE (.Constant .none j pos) (eC .non):=⟨qF ziu fun _=>.non⟩
theorem zc {i j}:WE X XE (.Constant (.str i) j pos) (eC (.str i)):=⟨qF zit fun _=>.str _⟩
theorem zfi {n:String} (hg:Gl X x) (hm:X.mg x = none) (hv:bootBuiltins x = some (.type n)) (hn:x ≠ "__name__":=by decide) (hd:(x == ("__debug__":Str)) = false:=by decide):WE X XE (.Name x pos) (eC (.ty n)):=⟨qF (zg5 (v:=.ty n) hg hm hv rfl hn hd) fun _=>.ty _⟩
theorem zed {i:Int} (hg:Gl X x) (hm:∃ t,X.mg x = some (.int i t)) (hd:(x == ("__debug__":Str)) = false:=by decide):WE X XE (.Name x pos) (eC (.int i)):=by
 refine ⟨?_⟩
 obtain ⟨t,hm⟩:=hm
 exact qF (zdg (v:=.int i) hg hm ⟨_,rfl⟩ hd) fun _=>.int _
theorem ye {op:Operator} (ho:OpR X (binaryOp op) (lR2 XE X.K o)) (ha:WE X XE a f) (hb:WE X XE b g):WE X XE (.BinOp a op b pos) (eOp o f g):=by
 have ha:=ha.pe
 have hb:=hb.pe
 exact ⟨PE.imp (zjH ho ha hb) fun _ _ _ h=>zbj h⟩
theorem zbm (ho:OpR X (compareOp op) (lR2 XE X.K o)) (ha:WE X XE a f) (hb:WE X XE b g) (hm:behindInMarks op b = false):WE X XE (.Compare a [op] [b] pos) (eOp o f g):=by
 have ha:=ha.pe
 have hb:=hb.pe
 exact ⟨PE.imp (zg4 ho ha hb hm) fun _ _ _ h=>zbj h⟩
theorem zg (ho:IxR X (lR2 XE X.K o)) (ha:WE X XE a f) (hb:WE X XE b g) (hs:zbE b):WE X XE (.Subscript a b pos) (eOp o f g):=by
 have ha:=ha.pe
 have hb:=hb.pe
 exact ⟨PE.imp (zjI ho ha hb hs) fun _ _ _ h=>zbj h⟩
theorem zaI (ha:WE X XE e f) (he:∀ whole,isTrue e X.env whole = (do let v ← whole;standAt e.pos;holding [v] (truthy v)):=by intro _;rfl):WT X XE e (ym f):=by
 have ha:=ha.pe
 exact ⟨PT.imp (zig ha he) fun σ H Q h=>
  LN.mono (LN.bind (f:=fun _ σ M=>f σ M) (k:=fun _ x σ M1=>blT x M1 fun b M2=>.ok b M2) (RB:=Rep X.K) h) fun v H1 h2=>by
   obtain ⟨S,στ,a,e,m,ev,ra,fin⟩:=h2
   obtain ⟨b,e1,_,fin⟩:=zb2 ra.2 fin
   exact ⟨b,e1,by rw [← e];exact fin S b rfl (.refl m) rfl⟩⟩
theorem qi (ho:OpR X (compareOp op) (lR2 XE X.K o)) (ha:WE X XE a f) (hb:WE X XE b g) (hm:behindInMarks op b = false):WT X XE (.Compare a [op] [b] pos) (ym (eOp o f g)):=by
 have ha:=ha.pe
 have hb:=hb.pe
 exact ⟨PT.imp (zgS ho ha hb hm) fun σ H Q h=>by
  have h1:=LN.bind (f:=fun _ σ M=>eOp o f g σ M) (k:=fun _ x σ M1=>blT x M1 fun b M2=>.ok b M2) (RB:=Rep X.K) h
  refine zbj (LN.mono h1 fun v H1 h2=>?_)
  obtain ⟨S,στ,a,e,m,ev,ra,fin⟩:=h2
  obtain ⟨b,e1,_,fin⟩:=zb2 ra.2 fin
  exact ⟨b,e1,by rw [← e];exact fin S b rfl (.refl m) rfl⟩⟩
variable {tg:Ev->Mem->Out Bool} {rest:List Expr}
theorem zac (ha:WT X XE a tf):WW X XE (.BoolOp .And [a] pos) tf:=by
 have ha:=ha.pe
 exact ⟨zgQ ha⟩
theorem zaH (ha:WT X XE a tf):WW X XE (.BoolOp .Or [a] pos) tf:=by
 have ha:=ha.pe
 exact ⟨zie ha⟩
theorem z6 (ha:WT X XE a tf) (hb:WW X XE (.BoolOp .And (b :: rest) pos) tg):WW X XE (.BoolOp .And (a :: b :: rest) pos) (zaf tf tg):=by
 have ha:=ha.pe
 have hb:=hb.pe
 exact ⟨PW.imp (zif ha hb) fun σ H Q h=>
  LN.mono (tif (tf:=tf) (tg:=tg) (p:=fun c σ M1=>if c = true then tg σ M1 else .ok false M1) h) fun c H1 h1=>by
   cases c with
   | true=>exact (if_pos rfl).mpr h1
   | false=>exact (if_neg Q4).mpr (zbZ h1)⟩
theorem za6 (ha:WT X XE a tf) (hb:WW X XE (.BoolOp .Or (b :: rest) pos) tg):WW X XE (.BoolOp .Or (a :: b :: rest) pos) (zbn tf tg):=by
 have ha:=ha.pe
 have hb:=hb.pe
 exact ⟨PW.imp (zjF ha hb) fun σ H Q h=>
  LN.mono (tif (tf:=tf) (tg:=tg) (p:=fun c σ M1=>if c = true then .ok true M1 else tg σ M1) h) fun c H1 h1=>by
   cases c with
   | true=>exact (if_pos rfl).mpr (zbZ h1)
   | false=>exact (if_neg Q4).mpr h1⟩
theorem WW.gt (h:WW X XE e tf):WT X XE e tf:=⟨GW.gt h.pe⟩
theorem y6 (ha:WT X XE a tf):WT X XE (.UnaryOp .Not a pos) (zae tf):=by
 have ha:=ha.pe
 exact ⟨PT.imp (zih ha) fun σ H Q h=>
  LN.mono (tif (tf:=tf) (tg:=tf) (p:=fun c σ M1=>.ok (!c) M1) h) fun c H1 h1=>zbZ h1⟩
theorem zeb (hc:WT X XE c tf) (ha:WE X XE a f) (hb:WE X XE b g):WE X XE (.IfExp c a b pos) (eIf tf f g):=by
 have hc:=hc.pe
 have ha:=ha.pe
 have hb:=hb.pe
 exact ⟨PE.imp (zfA hc ha hb) fun σ H Q h=>
  LN.mono (LN.bind (f:=fun _ σ M=>tf σ M) (k:=fun _ c σ M1=>if c = true then f σ M1 else g σ M1) (RB:=EqR) h) fun c H1 h2=>by
   obtain ⟨S,στ,a,e,m,ev,ra,fin⟩:=h2
   have:a.2 = c:=ra.2
   subst this
   replace fin:Fin XE (Rep X.K) X.K S (if a.2 = true then f στ S.M else g στ S.M) Q:=fin
   cases q:a.2 with
   | true=>exact (if_pos rfl).mpr ⟨S,στ,(),e,m,ev,trivial,by rw [q] at fin;exact fin⟩
   | false=>exact (if_neg Q4).mpr ⟨S,στ,(),e,m,ev,trivial,by rw [q] at fin;exact fin⟩⟩
theorem zb :WA X XE [] zd:=⟨PA.imp ziA fun σ H Q h9=>by
 obtain ⟨S,στ,_,e,m,ev,_,fin⟩:=h9
 show Q [] H
 rw [← e];exact fin S [] rfl (.refl m) .nil⟩
theorem za (ha:WE X XE e f) (hr:WA X XE es ga) (hs:noStar e = true:=by rfl):WA X XE (e :: es) (qa f ga):=by
 have ha:=ha.pe
 have hr:=hr.pe
 exact ⟨PA.imp (zg6 ha hr (zr hs)) fun σ H Q h=>
  LN.mono (LN.bind (f:=fun _ σ M=>f σ M) (k:=fun _ x σ M1=>(ga σ M1).bind fun xs M2=>.ok (x :: xs) M2) (RB:=Rep X.K) h) fun v H1 h1=>
   LN.mono (LN.env (f:=ga) (LN.bind (f:=fun _ σ M=>ga σ M) (k:=fun (ax:Unit × T) ys σ M2=>.ok (ax.2 :: ys) M2) (RB:=Reps X.K) h1)) fun w H2 h2=>by
    obtain ⟨S,στ,a,e,m,ev,ra,fin⟩:=h2
    show Q (v :: w) H2
    rw [← e]
    exact fin S _ rfl (.refl m) (Reps.cons ra.1.2 ra.2)⟩
theorem yu {x1} (h:WA X XE es ga):WE X XE (.Tuple es x1 pos) (zG ga):=by
 have h:=h.pe
 exact ⟨PE.imp (zis h) fun σ H Q h=>
  LN.mono (LN.bind (f:=fun _ σ M=>ga σ M) (k:=fun _ xs σ M1=>if xs.length<=sizeLine then .ok (T.tup xs) M1 else .bad) (RB:=Reps X.K) h) fun v H1 h2=>by
   obtain ⟨S,στ,a,e,m,ev,ra,fin⟩:=h2
   by_cases hl:a.2.length<=sizeLine
   ·replace fin:Fin XE (Rep X.K) X.K S (if a.2.length<=sizeLine then .ok (.tup a.2) S.M else .bad) Q:=fin
    rw [if_pos hl] at fin
    refine ⟨by rw [← ra.2.1];exact hl,fun p hp=>?_⟩
    subst e
    have s:=Stp.new m hp (.tup v)
    exact fin ⟨S.α,S.M,upd S.H p (.tup v),S.hid⟩ (.ref p) rfl s (.tup (.inl (.inl yt)) ra.2.1 (ra.2.grow m s.toGrow).2)
   ·replace fin:Fin XE (Rep X.K) X.K S (if a.2.length<=sizeLine then .ok (.tup a.2) S.M else .bad) Q:=fin
    rw [if_neg hl] at fin
    exact fin.elim⟩
theorem yk (h:WA X XE es ga):WL X XE (.List es pos) (zw ga):=by
 have h:=h.pe
 exact ⟨PE.imp (ziv h) fun σ H Q h9=>by
  obtain ⟨S,στ,e,m,ev,fin⟩:=h9
  replace fin:FinL XE X.K S ((ga στ S.M).bind fun xs M1=>if xs.length<=sizeLine then .ok xs M1 else .bad) Q:=fin
  refine ⟨S,στ,(),e,m,ev,trivial,?_⟩
  show Fin XE (Reps X.K) X.K S (ga στ S.M) _
  cases q:ga στ S.M with
  | bad=>rw [q] at fin;exact fin
  | exn C fs M'=>rw [q] at fin;exact fin
  | ok xs M1=>
   rw [q] at fin
   intro S1 vs e1 s1 r1
   by_cases hl:xs.length<=sizeLine
   ·replace fin:FinL XE X.K S (if xs.length<=sizeLine then .ok xs M1 else .bad) Q:=fin
    rw [if_pos hl] at fin
    refine ⟨by rw [← r1.1];exact hl,fun p hp=>?_⟩
    have s2:=Stp.hide s1.mok hp vs
    exact (fin.later s1) (S1.hide p vs) p vs e1 s2 hp (.head _) yt (r1.grow s1.mok s2.toGrow)
   ·replace fin:FinL XE X.K S (if xs.length<=sizeLine then .ok xs M1 else .bad) Q:=fin
    rw [if_neg hl] at fin
    exact fin.elim⟩
theorem qq (h:WL X XE e ga):WE X XE e (eFz ga):=by
 have h:=h.pe
 exact ⟨PE.imp h fun σ H Q ⟨S,στ,_,e,m,ev,_,fin⟩=>⟨S,στ,e,m,ev,by
  show FinL XE X.K S (ga στ S.M) Q
  replace fin:Fin XE (Rep X.K) X.K S ((ga στ S.M).bind fun xs M1=>.ok (.lst xs) M1) Q:=fin
  cases q:ga στ S.M with
  | bad=>rw [q] at fin;exact fin
  | exn C fs M'=>rw [q] at fin;exact fin
  | ok xs M1=>
   rw [q] at fin
   intro S1 p vs e1 s1 hn hp hv r
   exact fin (S1.show S.hid) (.ref p) e1 s1.show (zhp s1 hn m hp hv r)⟩⟩
theorem zea (h:WL X XE e ga):WE X XE e (eTk ga):=by
 have h:=h.pe
 exact ⟨PE.imp h fun σ H Q ⟨S,στ,_,e,m,ev,_,fin⟩=>⟨S,στ,e,m,ev,by
  show FinL XE X.K S (ga στ S.M) Q
  replace fin:Fin XE (Rep X.K) X.K S ((ga στ S.M).bind fun xs M1=>.ok (.ref M1.length) (M1 ++ [.lst xs])) Q:=fin
  cases q:ga στ S.M with
  | bad=>rw [q] at fin;exact fin
  | exn C fs M'=>rw [q] at fin;exact fin
  | ok xs M1=>
   rw [q] at fin
   intro S1 p vs e1 s1 hn hp hv r
   refine fin (S1.track p xs S.hid) (.ref p) (by show S1.M ++ _ = _;rw [e1]) (s1.track m hn hp hv r) ?_
   have this:(S1.track p xs S.hid).α S1.M.length = p:=if_pos rfl
   rw [← e1]
   have hl:S1.M.length < (S1.track p xs S.hid).M.length:=by show _ < (S1.M ++ [Cell.lst xs]).length;simp
   have r2:Rep X.K (S1.track p xs S.hid) (.ref S1.M.length) (.ref ((S1.track p xs S.hid).α S1.M.length)):=.ref hl
   rw [this] at r2
   exact r2⟩⟩
theorem zee (ho:OpR X (compareOp op) (lR2 XE X.K o)) (ho':OpR X (compareOp op') (lR2 XE X.K o')) (ha:WE X XE a f) (hb:WE X XE b g) (hc:WE X XE c h) (hm:lastMarks [op,op'] [b,c] = false:=by with_unfolding_all rfl):WE X XE (.Compare a [op,op'] [b,c] pos) (qJ o o' f g h):=by
 have ha:=ha.pe
 have hb:=hb.pe
 have hc:=hc.pe
 exact ⟨PE.imp (zfB ho ho' ha hb hc hm) fun _ _ _ hh=>chain hh⟩
theorem zd7 (ho:OpR X (compareOp op) (lR2 XE X.K o)) (ho':OpR X (compareOp op') (lR2 XE X.K o')) (ha:WE X XE a f) (hb:WE X XE b g) (hc:WE X XE c h) (hm:lastMarks [op,op'] [b,c] = false:=by with_unfolding_all rfl):WT X XE (.Compare a [op,op'] [b,c] pos) (ym (qJ o o' f g h)):=by
 have ha:=ha.pe
 have hb:=hb.pe
 have hc:=hc.pe
 exact ⟨PT.imp (zfu ho ho' ha hb hc hm) fun σ H Q hh=>by
  have h1:=LN.bind (f:=fun _ σ M=>qJ o o' f g h σ M) (k:=fun _ x σ M1=>blT x M1 fun b M2=>.ok b M2) (RB:=Rep X.K) hh
  refine chain (LN.mono h1 fun v H1 h2=>?_)
  obtain ⟨S,στ,a,e,m,ev,ra,fin⟩:=h2
  obtain ⟨b,e1,_,fin⟩:=zb2 ra.2 fin
  exact ⟨b,e1,by rw [← e];exact fin S b rfl (.refl m) rfl⟩⟩
end
variable {iter tg:Expr} {sts:List Stmt} {bd:T->Ev->Mem->Out Ev}
section
variable {a b:Expr} {g:Ev->Mem->Out T} {rest:List Stmt} {p q r:Ev->Mem->Out Fl}
theorem zt :WSs X XE [] qH:=⟨PSs.imp zgU fun D σ H h9=>by
 obtain ⟨S,στ,_,e,m,ev,_,fin⟩:=h9
 show D.nx σ H
 rw [← e];exact fin S (.nx σ) rfl (.refl m) (.nx ev)⟩
theorem qc (h1:WS X XE st p) (h2:WSs X XE rest q):WSs X XE (st :: rest) (qf p q):=by
 have h1:=h1.pe
 have h2:=h2.pe
 exact ⟨PSs.imp (zfv h1 h2) fun _ _ _ hh=>ziM hh⟩
theorem qe (h1:WS X XE st p):WSs X XE [st] p:=by
 have h1:=h1.pe
 exact ⟨zgT h1⟩
theorem zj (he:WE X XE e f):WS X XE (.Return (some e) pos) (yw f):=by
 have he:=he.pe
 exact ⟨PS.imp (zij he) fun D σ H hh=>
  LN.mono (LN.bind (f:=fun _ σ M=>f σ M) (k:=fun _ t σ M1=>.ok (Fl.rt t) M1) (RB:=Rep X.K) hh) fun v H1 h9=>by
   obtain ⟨S,στ,a,e,m,ev,ra,fin⟩:=h9
   rw [← e];exact fin S (.rt v) rfl (.refl m) (.rt ra.2)⟩
theorem zc6 (he:WE X XE e f) (hs:swapsWith e none pos.line X.env = pure false:=by rfl):WS X XE (.Expr e pos) (zaj f):=by
 have he:=he.pe
 exact ⟨PS.imp (zgW he hs) fun D σ H hh=>
  LN.mono (LN.bind (f:=fun _ σ M=>f σ M) (k:=fun _ t σ M1=>.ok (Fl.nx σ) M1) (RB:=Rep X.K) hh) fun v H1 h9=>by
   obtain ⟨S,στ,a,e,m,ev,ra,fin⟩:=h9
   show D.nx σ H1
   rw [← e];exact fin S (.nx σ) rfl (.refl m) (.nx ev)⟩
theorem zz (hc:WT X XE c tf) (ha:WSs X XE sts p) (hb:WSs X XE rest q):WS X XE (.If c sts rest pos) (sIf tf p q):=by
 have hc:=hc.pe
 have ha:=ha.pe
 have hb:=hb.pe
 exact ⟨PS.imp (zjG hc ha hb) fun D σ H hh=>
  LN.mono (LN.bind (f:=fun _ σ M=>tf σ M) (k:=fun _ c σ M1=>if c = true then p σ M1 else q σ M1) (RB:=EqR) hh) fun c H1 h2=>by
   obtain ⟨S,στ,a,e,m,ev,ra,fin⟩:=h2
   have:a.2 = c:=ra.2
   subst this
   replace fin:Fin XE (FlR X.K) X.K S (if a.2 = true then p στ S.M else q στ S.M) (zn D):=fin
   cases q:a.2 with
   | true=>exact (if_pos rfl).mpr ⟨S,στ,(),e,m,ev,trivial,by rw [q] at fin;exact fin⟩
   | false=>exact (if_neg Q4).mpr ⟨S,στ,(),e,m,ev,trivial,by rw [q] at fin;exact fin⟩⟩
theorem yg {pos':Pos} (hN:X.N.Nodup) (hi:X.N[i]? = some x) (hx:Loc X.env.scope x) (he:WE X XE e f) (hs:swapsWith e (some (.Name x pos')) pos.line X.env = pure false:=by rfl) (hf:X.fn x = true\/X.env.scope.names.lookup x = some .local:=by first | exact .inl rfl | exact .inr rfl | assumption):WS X XE (.Assign [.Name x pos'] e pos) (qt i f):=by
 have he:=he.pe
 exact ⟨PS.imp (zii hN hi hx he hs hf) fun D σ H hh=>
  LN.mono (LN.bind (f:=fun _ σ M=>f σ M) (k:=fun _ t σ M1=>.ok (Fl.nx (σ.set i (some t))) M1) (RB:=Rep X.K) hh) fun v H1 h9=>by
   obtain ⟨S,στ,a,e,m,ev,ra,fin⟩:=h9
   show D.nx (σ.set i (some v)) H1
   rw [← e];exact fin S (.nx _) rfl (.refl m) (.nx (ev.set ra.2 i))⟩
theorem zad (h:PG X tg (zb0 i)):WG X XE tg (zN i):=⟨PG.imp h fun v σ H Q h9=>by
 obtain ⟨S,στ,t,e,m,ev,ra,fin⟩:=h9
 show Q (σ.set i (some v)) H
 rw [← e];exact fin S _ rfl (.refl m) (ev.set ra i)⟩
theorem zc7 (he:WE X XE e f) (hg:WG X XE tg bd) (hs:swapsWithSole [tg] e pos.line X.env = pure false:=by rfl) (hw:swappedStores [tg] e X.env = pure none:=by rfl) (h1:(assignEach [tg] X.env).map (·.2) = [assign tg X.env]:=by rfl):WS X XE (.Assign [tg] e pos) (zdD f bd):=by
 have he:=he.pe
 have hg:=hg.pe
 exact ⟨PS.imp (zil he hg hs hw h1) fun D σ H hh=>
  LN.mono (LN.bind (f:=fun _ σ M=>f σ M) (k:=fun _ t σ M1=>(bd t σ M1).bind fun σ1 M2=>.ok (Fl.nx σ1) M2) (RB:=Rep X.K) hh) fun v H1 ⟨S,στ,a,e,m,ev,ra,fin⟩=>
   zjQ ⟨S,στ,a.2,e,m,ev,ra.2,fin⟩⟩
theorem zc5 (hp:PassesOwn (model X.prog X.w) X.A X.env X.xe) (hc:X.calm = true) (hi:WI X XE tg iter ga) (hg:WG X XE tg bd) (hb:WSs X XE sts p) (hs:∀ x,foldedSetIterable iter X.env x = pure x:=by intro _;rfl):WS X XE (.For tg iter sts [] pos) (zdC ga bd p):=by
 have hi:=hi.pe
 have hg:=hg.pe
 have hb:=hb.pe
 exact ⟨PS.imp (zik hp hc hi hg hb hs) fun D σ H hh=>by
  refine LN.mono (LN.bind (f:=fun _ σ M=>ga σ M) (k:=fun _ xs σ M1=>forL bd p xs σ M1) (RB:=zaG X.K) hh) fun J H1 h1=>?_
  obtain ⟨S,στ,a,e,m,ev,ra,fin⟩:=h1
  refine ⟨fun i n σ H=>∃ S στ,S.H = H/\MemOk X.K S/\EvR X.K S στ σ/\zaG X.K S a.2 J/\n = a.2.length - i/\i<=a.2.length/\Fin XE (FlR X.K) X.K S (forL bd p (a.2.drop i) στ S.M) (zn D),⟨_,S,στ,e,m,ev,ra.2,rfl,Nat.zero_le _,fin⟩,?_⟩
  rintro i n σ1 H2 ⟨S1,στ1,e1,m1,ev1,it1,en,hi1,fin1⟩
  subst e1
  obtain ⟨it2,it3⟩:=it1 S1 (.refl m1)
  by_cases hl:i < a.2.length
  ·have eq:a.2.drop i = a.2[i] :: a.2.drop (i + 1):=List.drop_eq_getElem_cons hl
   rw [eq] at fin1
   obtain ⟨go,yl⟩:=it2 i a.2[i] (by simp [hl])
   refine .inr ⟨go,fun σ' H'=>∃ S στ,S.H = H'/\MemOk X.K S/\EvR X.K S στ σ'/\zaG X.K S a.2 J/\Fin XE (FlR X.K) X.K S (forL bd p (a.2.drop (i + 1)) στ S.M) (zn D),?_,fun x H' hy=>?_⟩
   ·rintro σ' H' ⟨S2,στ2,e2,m2,ev2,it4,fin2⟩
    exact ⟨a.2.length - (i + 1),by omega,S2,στ2,e2,m2,ev2,it4,rfl,hl,fin2⟩
   ·obtain ⟨S2,e2,eM,s2,r2⟩:=yl x H' hy
    replace fin1:Fin XE (FlR X.K) X.K S1 ((bd a.2[i] στ1 S1.M).bind fun σ1 M1=>(p σ1 M1).bind (qv (forL bd p (a.2.drop (i + 1))))) (zn D):=fin1
    refine ⟨S2,στ1,a.2[i],e2,s2.mok,Mo.mo m1 s2 ev1,r2,?_⟩
    rw [eM]
    cases o:bd a.2[i] στ1 S1.M with
    | bad=>rw [o] at fin1;exact fin1
    | exn C fs M'=>rw [o] at fin1;exact Fin.later s2 fin1
    | ok σ3 M3=>
     rw [o] at fin1
     intro S3 σ3v e3 s3 ev3
     have s13:=s2.trans s3
     refine ⟨S3,σ3,(),rfl,s3.mok,ev3,trivial,?_⟩
     show Fin XE (FlR X.K) X.K S3 (p σ3 S3.M) _
     rw [e3]
     replace fin1:Fin XE (FlR X.K) X.K S1 ((p σ3 M3).bind (qv (forL bd p (a.2.drop (i + 1))))) (zn D):=fin1
     cases o2:p σ3 M3 with
     | bad=>rw [o2] at fin1;exact fin1
     | exn C fs M'=>rw [o2] at fin1;exact Fin.later s13 fin1
     | ok fl M4=>
      rw [o2] at fin1
      intro S4 fv e4 s4 r4
      have s14:=s13.trans s4
      cases r4 with
      | nx r4=>exact ⟨S4,_,rfl,s4.mok,r4,Mo.mo m1 s14 it1,by rw [e4];exact Fin.later s14 fin1⟩
      | ct r4=>exact ⟨S4,_,rfl,s4.mok,r4,Mo.mo m1 s14 it1,by rw [e4];exact Fin.later s14 fin1⟩
      | bk r4=>exact fin1 S4 (.nx _) e4 s14 (.nx r4)
      | rt r4=>exact fin1 S4 (.rt _) e4 s14 (.rt r4)
  ·rw [List.drop_eq_nil_of_le (by omega)] at fin1
   refine .inl ⟨it3 i (by omega),?_⟩
   exact fin1 S1 (.nx σ1) rfl (.refl m1) (.nx ev1)⟩
theorem zd8 (hp:PassesOwn (model X.prog X.w) X.A X.env X.xe) (hc:WT X XE c tf) (hb:WSs X XE sts p):WS X XE (.While c sts [] pos) (qN tf p):=by
 have hc:=hc.pe
 have hb:=hb.pe
 exact ⟨PS.imp (zfw hp hc hb) fun D σ H hh=>by
  obtain ⟨S,στ,_,e,m,ev,_,fin⟩:=hh
  replace fin:Fin XE (FlR X.K) X.K S (qN tf p στ S.M) (zn D):=fin
  have ex:∃ n,Fin XE (FlR X.K) X.K S (whileN tf p n στ S.M) (zn D):=by
   unfold qN at fin
   split at fin
   ·exact ⟨_,fin⟩
   ·exact fin.elim
  obtain ⟨n,fin⟩:=ex
  refine ⟨fun n σ H=>∃ S στ,S.H = H/\MemOk X.K S/\EvR X.K S στ σ/\Fin XE (FlR X.K) X.K S (whileN tf p n στ S.M) (zn D),⟨n,S,στ,e,m,ev,fin⟩,?_⟩
  rintro n σ1 H1 ⟨S1,στ1,e1,m1,ev1,fin1⟩
  subst e1
  cases n with
  | zero=>exact fin1.elim
  | succ n=>
   replace fin1:Fin XE (FlR X.K) X.K S1 ((tf στ1 S1.M).bind fun b M1=>if b = true then (p στ1 M1).bind (qv (whileN tf p n)) else .ok (.nx στ1) M1) (zn D):=fin1
   refine ⟨S1,στ1,(),rfl,m1,ev1,trivial,?_⟩
   show Fin XE EqR X.K S1 (tf στ1 S1.M) _
   cases o:tf στ1 S1.M with
   | bad=>rw [o] at fin1;exact fin1
   | exn C fs M'=>rw [o] at fin1;exact fin1
   | ok b M2=>
    rw [o] at fin1
    intro S2 b2 e2 s2 eb
    have eb':b = b2:=eb
    subst eb'
    replace fin1:Fin XE (FlR X.K) X.K S1 (if b = true then (p στ1 M2).bind (qv (whileN tf p n)) else .ok (.nx στ1) M2) (zn D):=fin1
    cases b with
    | false=>exact (if_neg Q4).mpr (fin1 S2 (.nx σ1) e2 s2 (.nx (Mo.mo m1 s2 ev1)))
    | true=>
     refine (if_pos rfl).mpr ⟨fun σ' H'=>∃ S στ,S.H = H'/\MemOk X.K S/\EvR X.K S στ σ'/\Fin XE (FlR X.K) X.K S (whileN tf p n στ S.M) (zn D),fun σ' H' h=>⟨n,Nat.lt_succ_self _,h⟩,?_⟩
     rw [if_pos rfl] at fin1
     refine ⟨S2,στ1,(),rfl,s2.mok,Mo.mo m1 s2 ev1,trivial,?_⟩
     show Fin XE (FlR X.K) X.K S2 (p στ1 S2.M) _
     rw [e2]
     cases o2:p στ1 M2 with
     | bad=>rw [o2] at fin1;exact fin1
     | exn C fs M'=>rw [o2] at fin1;exact Fin.later s2 fin1
     | ok fl M4=>
      rw [o2] at fin1
      intro S4 fv e4 s4 r4
      have s14:=s2.trans s4
      cases r4 with
      | nx r4=>exact ⟨S4,_,rfl,s4.mok,r4,by rw [e4];exact Fin.later s14 fin1⟩
      | ct r4=>exact ⟨S4,_,rfl,s4.mok,r4,by rw [e4];exact Fin.later s14 fin1⟩
      | bk r4=>exact fin1 S4 (.nx _) e4 s14 (.nx r4)
      | rt r4=>exact fin1 S4 (.rt _) e4 s14 (.rt r4)⟩
end
variable {F:List T->Mem->Out T}
section
variable {p:Pos}
theorem yi (C:CalT X.prog X.w X.K X.mg X.base k x ps F) (hr:Room k X.A) (hg:Gl X x) (ha:WA X XE (e :: es) ga) (hdb:(x == ("__debug__":Str)) = false:=by decide) (he:noStar e = true:=by rfl) (hpl:es.all noStar = true:=by rfl):WE X XE (.Call (.Name x p) (e :: es) [] pos) (qd F ga):=by
 have ha:=ha.pe
 exact ⟨PE.imp (zix C.cal hr hg ha hdb (zr he) (zU hpl)) fun σ H Q hh=>
  LN.mono (LN.bind (f:=fun _ σ M=>ga σ M) (k:=fun _ ts σ M1=>F ts M1) (RB:=Reps X.K) hh) fun vs H1 h9=>by
   obtain ⟨S,στ,a,e,m,ev,ra,fin⟩:=h9
   rw [append_nil]
   refine ⟨S,a.2,e,m,ra.2,?_⟩
   show Fin E0 (Rep X.K) X.K S (F a.2 S.M) Q
   replace fin:Fin XE (Rep X.K) X.K S (F a.2 S.M) Q:=fin
   cases o:F a.2 S.M with
   | bad=>rw [o] at fin;exact fin
   | exn C' fs M'=>exact absurd o (C.nox _ _ _ _ _)
   | ok t M1=>rw [o] at fin;exact fin⟩
theorem zp {id:String} (hc:CallR X (.builtin id) (lRN XE X.K F)) (hg:Gl X x) (hm:X.mg x = none) (hv:bootBuiltins x = some (.builtin id)) (ha:WA X XE (e :: es) ga) (hn:x ≠ "__name__":=by decide) (hdb:(x == ("__debug__":Str)) = false:=by decide) (he:noStar e = true:=by rfl) (hpl:es.all noStar = true:=by rfl):WE X XE (.Call (.Name x p) (e :: es) [] pos) (qd F ga):=by
 have ha:=ha.pe
 exact ⟨PE.imp (zfC hc hg hm hv ha hn hdb (zr he) (zU hpl)) fun σ H Q hh=>
  LN.mono (LN.bind (f:=fun _ σ M=>ga σ M) (k:=fun _ ts σ M1=>F ts M1) (RB:=Reps X.K) hh) fun vs H1 ⟨S,στ,a,e,m,ev,ra,fin⟩=>⟨S,a.2,e,m,ra.2,fin⟩⟩
theorem yQ {id:String} (hc:CallR X (.type id) (lRN XE X.K F)) (hg:Gl X x) (hm:X.mg x = none) (hv:bootBuiltins x = some (.type id)) (ha:WA X XE (e :: es) ga) (hn:x ≠ "__name__":=by decide) (hdb:(x == ("__debug__":Str)) = false:=by decide) (he:noStar e = true:=by rfl) (hpl:es.all noStar = true:=by rfl):WE X XE (.Call (.Name x p) (e :: es) [] pos) (qd F ga):=by
 have ha:=ha.pe
 exact ⟨PE.imp (zew hc hg hm hv ha hn hdb (zr he) (zU hpl)) fun σ H Q hh=>
  LN.mono (LN.bind (f:=fun _ σ M=>ga σ M) (k:=fun _ ts σ M1=>F ts M1) (RB:=Reps X.K) hh) fun vs H1 ⟨S,στ,a,e,m,ev,ra,fin⟩=>⟨S,a.2,e,m,ra.2,fin⟩⟩
end
section
variable {a b:Expr} {g:Ev->Mem->Out T} {p:Pos}
theorem zbl (he:WE X XE e f):WI X XE tg e (zcB f):=⟨zi9 he.pe⟩
end
section
theorem zb6 {elt:Expr} {ifs:List Expr} {scope:Scope} {cl:List (Str × Addr)} {tgs:List Str} {caps:List (Str × Nat)} {cond:Ev->Mem->Out Bool} (hi:WI X XE tg iter ga) (cb:CB X scope cl caps) (hg:∀ ex s0 H0,WG (X.block scope cl (tgs ++ caps.map (·.1)) ex s0 H0) XE tg bd) (hif:∀ ex s0 H0,PTs (X.block scope cl (tgs ++ caps.map (·.1)) ex s0 H0) ifs (lT XE X.K cond)) (hel:∀ ex s0 H0,WE (X.block scope cl (tgs ++ caps.map (·.1)) ex s0 H0) XE elt f) (hs:∀ x,foldedSetIterable iter X.env x = pure x:=by intro _;rfl):WL X XE (.ListComp elt [⟨tg,iter,ifs,0⟩] scope pos) (zbe ga bd cond f tgs caps):=by
 have hi:=hi.pe
 have hg:=fun ex s0 H0=>(hg ex s0 H0).pe
 have hel:=fun ex s0 H0=>(hel ex s0 H0).pe
 exact ⟨PE.imp (zg3 (tgs:=tgs) (g:=lG XE X.K bd) (tc:=lT XE X.K cond) (te:=lE XE X.K f) cb.hc hi cb.hclos cb.hcell cb.hkind cb.hnames cb.hcl cb.hhas cb.hcap hg hif hel hs) fun σ H Q hh=>zga hh⟩
theorem zb5 :PTs X [] (lT XE X.K yZ):=zhs 
end
variable {cpos:Pos}
section
theorem zc8 {o i:Expr} {g:Ev->Mem->Out T} {st:T->T->T->Mem->Out Unit} (ho:WE X XE o f) (hi:WE X XE i g) (hs:zcZ X (zfM XE X.K st)) (ha:∀ v,assign (.Subscript o i pos) X.env v = (do
 let ov ← holding [v] (eval o X.env)
 let iv ← holding [v,ov] (eval i X.env)
 standAt pos
 holding [v,ov,iv] (setItem ov iv v)
 release [v,ov,iv] []):=by intro _;rfl):WG X XE (.Subscript o i pos) (zd2 st f g):=by
 have ho:=ho.pe
 have hi:=hi.pe
 exact ⟨PG.imp (zio ho hi hs ha) fun v σ H Q hh=>by
  have h1:LN XE (EvR X.K) X.K (Rep X.K) (fun t σ M=>(f σ M).bind fun o M1=>(g σ M1).bind fun i M2=>(st o i t M2).bind fun _ M3=>.ok σ M3) v σ H Q:=hh
  refine LN.mono (LN.env (f:=f) (LN.bind (f:=fun _ σ M=>f σ M) (k:=fun t o σ M1=>(g σ M1).bind fun i M2=>(st o i t M2).bind fun _ M3=>.ok σ M3) (RB:=Rep X.K) h1)) fun ov H1 h2=>?_
  refine LN.mono (LN.env (f:=g) (LN.bind (f:=fun _ σ M=>g σ M) (k:=fun (to:T × T) i σ M2=>(st to.2 i to.1 M2).bind fun _ M3=>.ok σ M3) (RB:=Rep X.K) h2)) fun iv H2 h3=>?_
  obtain ⟨S,στ,a,e,m,ev,ra,fin⟩:=h3
  refine ⟨S,((a.1.2,a.2),a.1.1),e,m,⟨⟨ra.1.2,ra.2⟩,ra.1.1⟩,?_⟩
  show Fin XE UnR X.K S (st a.1.2 a.2 a.1.1 S.M) _
  replace fin:Fin XE (EvR X.K) X.K S ((st a.1.2 a.2 a.1.1 S.M).bind fun _ M3=>.ok στ M3) Q:=fin
  cases o:st a.1.2 a.2 a.1.1 S.M with
  | bad=>rw [o] at fin;exact fin
  | exn C fs M'=>rw [o] at fin;exact fin
  | ok b M1=>
   rw [o] at fin
   intro S1 c e1 s1 _
   exact fin S1 σ e1 s1 (Mo.mo m s1 ev)⟩
theorem zgE {o:Expr} {apos:Pos} (h:PE X (.Call (.Attribute o "append" apos) [e] [] cpos) (tBM X.K "list" zbq (lE XE X.K f) (lA XE X.K ga))):WE X XE (.Call (.Attribute o "append" apos) [e] [] cpos) (zdX z5 (eUn zO f) ga):=⟨PE.imp h fun σ H Q hh=>by
 obtain ⟨S,στ,_,e0,m,ev,_,fin⟩:=hh
 replace fin:Fin XE (Rep X.K) X.K S (((f στ S.M).bind fun x M1=>zO x M1).bind fun x M1=>(ga στ M1).bind fun ts M2=>z5 x ts M2) Q:=fin
 refine ⟨S,στ,(),e0,m,ev,trivial,?_⟩
 show Fin XE (Rep X.K) X.K S (f στ S.M) _
 cases o1:f στ S.M with
 | bad=>rw [o1] at fin;exact fin
 | exn C fs M'=>rw [o1] at fin;exact fin
 | ok x M1=>
  rw [o1] at fin
  intro S1 v e1 s1 r1
  replace fin:Fin XE (Rep X.K) X.K S ((zO x M1).bind fun x M1=>(ga στ M1).bind fun ts M2=>z5 x ts M2) Q:=fin
  unfold zO at fin
  cases q:yv x M1 with
  | none=>rw [q] at fin;exact fin.elim
  | some xs=>
   rw [q] at fin
   replace fin:Fin XE (Rep X.K) X.K S ((ga στ M1).bind fun ts M2=>z5 x ts M2) Q:=fin
   obtain ⟨p,vs,rfl,hq,_⟩:=qk s1.mok r1 (by rw [e1];exact q)
   refine ⟨.inl ⟨rfl,vs,hq⟩,S1,στ,(),rfl,s1.mok,Mo.mo m s1 ev,trivial,?_⟩
   show Fin XE (Reps X.K) X.K S1 (ga στ S1.M) _
   rw [e1]
   cases o2:ga στ M1 with
   | bad=>rw [o2] at fin;exact fin
   | exn C fs M'=>rw [o2] at fin;exact Fin.later s1 fin
   | ok ts M2=>
    rw [o2] at fin
    intro S2 ws e2 s2 r2
    replace fin:Fin XE (Rep X.K) X.K S (z5 x ts M2) Q:=fin
    have fin2:=Fin.later (s1.trans s2) fin
    unfold z5 at fin2
    split at fin2
    ·split at fin2
     ·rename_i a t _ ys qy
      split at fin2
      ·rename_i hz
       obtain ⟨w,ws',rfl,r3,r4⟩:=r2.consT
       rw [r4.nilT]
       have r1':=r1.grow s1.mok s2.toGrow
       cases r1' with
       | ref ha2=>
       obtain ⟨us,q3,rs⟩:=s2.mok.cell a _ (by rw [e2];exact qy)
       refine ⟨S2.α a,us,w,rfl,rfl,q3,by rw [← rs.1];exact hz,?_⟩
       exact fin2 (S2.put a (.lst (us ++ [w])) (.lst (ys ++ [t]))) .non (by show S2.M.set a _ = _;rw [e2]) (zdf s2.mok (by rw [e2];exact qy) (rs.app (.cons r3 .nil))) .non
      ·exact fin2.elim
     ·exact fin2.elim
    ·exact fin2.elim⟩
end
section
theorem zff :WO X XE none zdM:=⟨PO.imp zgZ fun σ H Q h9=>by
 obtain ⟨S,στ,_,e,m,ev,_,fin⟩:=h9
 show Q none H
 rw [← e];exact fin S none rfl (.refl m) rfl⟩
theorem zfe (h:WE X XE e f):WO X XE (some e) (zdL f):=by
 have h:=h.pe
 exact ⟨PO.imp (zgY h) fun σ H Q hh=>
  LN.mono (LN.bind (f:=fun _ σ M=>f σ M) (k:=fun _ x σ M1=>zfO x M1) (RB:=Rep X.K) hh) fun v H1 h9=>by
   obtain ⟨S,στ,a,e,m,ev,ra,fin⟩:=h9
   obtain ⟨u,t⟩:=a
   have r:Rep X.K S t v:=ra.2
   replace fin:Fin XE EqR X.K S (zfO t S.M) Q:=fin
   cases r with
   | int i=>exact ⟨i,rfl,by rw [← e];exact fin S (some i) rfl (.refl m) rfl⟩
   | _=>exact fin.elim⟩
theorem zhX {lo hi:Option Expr} {p q:Ev->Mem->Out (Option Int)} {p2:Pos} (he:WE X XE e f) (hl:WO X XE lo p) (hu:WO X XE hi q):WE X XE (.Subscript e (.Slice lo hi none p2) pos) (eSl f p q):=by
 have he:=he.pe
 have hl:=hl.pe
 have hu:=hu.pe
 exact ⟨PE.imp (zfz zkl he hl hu) fun σ H Q hh=>
  LN.mono (LN.bind (f:=fun _ σ M=>f σ M) (k:=fun _ x σ M1=>(p σ M1).bind fun lo M2=>(q σ M2).bind fun hi M3=>zbz x lo hi M3) (RB:=Rep X.K) hh) fun v H1 h1=>
   LN.mono (LN.env (f:=p) (LN.bind (f:=fun _ σ M=>p σ M) (k:=fun (ax:Unit × T) lo σ M2=>(q σ M2).bind fun hi M3=>zbz ax.2 lo hi M3) (RB:=EqR) h1)) fun l H2 h2=>
    LN.mono (LN.env (f:=q) (LN.bind (f:=fun _ σ M=>q σ M) (k:=fun (ax:(Unit × T) × Option Int) hi σ M3=>zbz ax.1.2 ax.2 hi M3) (RB:=EqR) h2)) fun w H3 h9=>by
     obtain ⟨S,στ,a,e,m,ev,ra,fin⟩:=h9
     have e1:a.1.2 = l:=ra.1.2
     have e2:a.2 = w:=ra.2
     exact ⟨S,a.1.1.2,e,m,ra.1.1.2,by rw [← e1,← e2];exact fin⟩⟩
end
section
theorem zfg {o e:Expr} {es:List Expr} {n:Str} {Ty:String} {f:Ev->Mem->Out T} {ga:Ev->Mem->Out (List T)} {chk:T->Mem->Bool} {F:T->List T->Mem->Out T} {apos cpos:Pos} (hc:∀ {K:Frag} {S:Sit},MemOk K S->∀ {t:T} {x:V},Rep K S t x->chk t S.M = true->tyV K Ty x S.H) (h:PE X (.Call (.Attribute o n apos) (e :: es) [] cpos) (tBM X.K Ty (lMt XE X.K F) (lE XE X.K f) (lA XE X.K ga))):WE X XE (.Call (.Attribute o n apos) (e :: es) [] cpos) (zaa chk F f ga):=⟨PE.imp h fun σ H Q hh=>by
 obtain ⟨S,στ,_,e0,m,ev,_,fin⟩:=hh
 replace fin:Fin XE (Rep X.K) X.K S ((f στ S.M).bind fun x M1=>if chk x M1 = true then (ga στ M1).bind fun ts M2=>F x ts M2 else .bad) Q:=fin
 refine ⟨S,στ,(),e0,m,ev,trivial,?_⟩
 show Fin XE (Rep X.K) X.K S (f στ S.M) _
 cases o1:f στ S.M with
 | bad=>rw [o1] at fin;exact fin
 | exn C fs M'=>rw [o1] at fin;exact fin
 | ok x M1=>
  rw [o1] at fin
  intro S1 v e1 s1 r1
  replace fin:Fin XE (Rep X.K) X.K S (if chk x M1 = true then (ga στ M1).bind fun ts M2=>F x ts M2 else .bad) Q:=fin
  split at fin
  ·rename_i hk
   refine ⟨hc s1.mok r1 (by rw [e1];exact hk),S1,στ,(),rfl,s1.mok,Mo.mo m s1 ev,trivial,?_⟩
   show Fin XE (Reps X.K) X.K S1 (ga στ S1.M) _
   rw [e1]
   cases o2:ga στ M1 with
   | bad=>rw [o2] at fin;exact fin
   | exn C fs M'=>rw [o2] at fin;exact Fin.later s1 fin
   | ok ts M2=>
    rw [o2] at fin
    intro S2 ws e2 s2 r2
    replace fin:Fin XE (Rep X.K) X.K S (F x ts M2) Q:=fin
    have fin2:=Fin.later (s1.trans s2) fin
    exact ⟨S2,(x,ts),rfl,s2.mok,⟨r1.grow s1.mok s2.toGrow,r2⟩,by show Fin XE (Rep X.K) X.K S2 (F x ts S2.M) Q;rw [e2];exact fin2⟩
  ·exact fin.elim⟩
end
variable {g:Ev->Mem->Out Fl}
section
variable {j:Nat} {y v nm:Str} {p pos2 np hp tp vp:Pos} {C:Addr} {b0:Stmt} {suite:List Stmt} {gs:Ev->Mem->Out Fl}
theorem zfh (c:CalX X.prog X.w X.K X.mg X.base k x ps F) (hr:Room k X.A) (hg:Gl X x) (hx:Passes (CXX X.prog X.w) X XE) (ha:WA X XE (e :: es) ga) (hdb:(x == ("__debug__":Str)) = false:=by decide) (he:noStar e = true:=by rfl) (hpl:es.all noStar = true:=by rfl):WE X XE (.Call (.Name x p) (e :: es) [] pos) (qd F ga):=by
 have ha:=ha.pe
 refine ⟨?_⟩
 obtain ⟨fa,fd,Fo,kp,b,gg⟩:=c.ex
 exact PE.imp (zdh Fo hr hg gg kp b .nil hx ha hdb (zr he) (zU hpl)) fun σ H Q hh=>
  LN.mono (LN.bind (f:=fun _ σ M=>ga σ M) (k:=fun _ ts σ M1=>F ts M1) (RB:=Reps X.K) hh) fun vs H1 h9=>by
   obtain ⟨S,στ,a,e,m,ev,ra,fin⟩:=h9
   rw [append_nil]
   exact ⟨S,a.2,e,m,ra.2,fin⟩
theorem zfd (c:CalX X.prog X.w X.K X.mg X.base k x ps F) (hr:Room k X.A) (hg:Gl X x) (ha:∀ E1 XE,WA (X.wish E1) XE (e :: es) ga) (hdb:(x == ("__debug__":Str)) = false:=by decide) (he:noStar e = true:=by rfl) (hpl:es.all noStar = true:=by rfl) (hsw:swapsWith (.Call (.Name x p) (e :: es) [] pos) none pos2.line X.env = pure false:=by rfl):WX X [.Expr (.Call (.Name x p) (e :: es) [] pos) pos2] (zaj (qd F ga)):=by
 have ha:=fun E1 XE=>(ha E1 XE).pe
 refine ⟨?_⟩
 obtain ⟨fa,fd,Fo,kp,b,gg⟩:=c.ex
 intro E
 have hp:=zgP (pos2:=pos2) (p:=p) (pos:=pos) (e:=e) (es:=es) (ta:=lA E X.K ga) Fo hr hg gg kp b (fun E'=>ha E' E) hdb (zr he) (zU hpl) hsw
 intro pins s σ H D I q
 refine hp E pins s σ H D I ?_
 have h1:=LN.bind (f:=fun _ σ M=>ga σ M) (k:=fun _ ts σ M1=>(F ts M1).bind fun _ M2=>.ok (Fl.nx σ) M2) (RB:=Reps X.K) (XE:=E) (K:=X.K) (R:=FlR X.K) (RA:=UnR) (av:=()) (σ:=σ) (H:=H) (Q:=zn D) (by
  obtain ⟨S,στ,a,e,m,ev,ra,fin⟩:=q
  refine ⟨S,στ,a,e,m,ev,ra,?_⟩
  have:(zaj (qd F ga) στ S.M) = ((ga στ S.M).bind fun ts M1=>(F ts M1).bind fun _ M2=>.ok (Fl.nx στ) M2):=by
   unfold zaj qd
   cases ga στ S.M <;> rfl
  show Fin E (FlR X.K) X.K S ((ga στ S.M).bind fun ts M1=>(F ts M1).bind fun _ M2=>.ok (Fl.nx στ) M2) (zn D)
  rw [← this]
  exact fin)
 refine LN.mono h1 fun vs H1 ⟨S,στ,a,e,m,ev,ra,fin⟩=>?_
 refine ⟨S,a.2,e,m,ra.2,?_⟩
 show Fin E (Rep X.K) X.K S (F a.2 S.M) _
 replace fin:Fin E (FlR X.K) X.K S ((F a.2 S.M).bind fun _ M2=>.ok (Fl.nx στ) M2) (zn D):=fin
 cases o:F a.2 S.M with
 | bad=>rw [o] at fin;exact fin
 | exn C fs M'=>rw [o] at fin;exact fin
 | ok t M1=>
  rw [o] at fin
  intro S1 w e1 s1 r1
  exact fin S1 (.nx σ) e1 s1 (.nx (Mo.mo m s1 ev))
theorem zgC {cs:List Addr} (hb:WX X sts g) (hS:∀ C' ∈ cs,Sup X.K X.mg y C C') (hgy:Gl X y) (hst:X.stack = X.env :: X.outer) (hf:X.env.frame = some X.env.locals) (hex:X.ex = []) (hs:∀ ev,WSs (X.suite ev) E0 (b0 :: suite) gs) (hdy:(y == ("__debug__":Str)) = false:=by decide):WS X XE (.Try sts [.ExceptHandler (some (.Name y np)) none (b0 :: suite) hp] [] [] tp) (zcm cs g gs):=by
 have hb:=hb.pe
 have hs:=fun ev=>(hs ev).pe
 exact ⟨PS.imp (zgV (th:=lS E0 X.K gs) hb hgy hst hf hex hs hdy) fun D σ H h9=>by
  obtain ⟨S,στ,a,e,m,ev,ra,fin⟩:=h9
  refine ⟨S,στ,a,e,m,ev,ra,?_⟩
  show Fin _ (FlR X.K) X.K S (g στ S.M) (zn D)
  replace fin:Fin XE (FlR X.K) X.K S (match g στ S.M with | .exn C _ M'=>if cs.contains C = true then noX (gs στ M') else .bad | o=>o) (zn D):=fin
  cases o:g στ S.M with
  | bad=>rw [o] at fin;exact fin
  | ok fl M1=>rw [o] at fin;exact fin
  | exn C' fs M'=>
   rw [o] at fin
   intro S1 od e1 s1 xr
   by_cases hc:cs.contains C' = true
   ·replace fin:Fin XE (FlR X.K) X.K S (if cs.contains C' = true then noX (gs στ M') else .bad) (zn D):=fin
    rw [if_pos hc] at fin
    refine ⟨C',rfl,hS C' (List.contains_iff_mem.mp hc),S1,στ,(),rfl,s1.mok,Mo.mo m s1 ev,trivial,?_⟩
    show Fin E0 (FlR X.K) X.K S1 (gs στ S1.M) _
    rw [e1]
    exact (zhg fin).later s1
   ·replace fin:Fin XE (FlR X.K) X.K S (if cs.contains C' = true then noX (gs στ M') else .bad) (zn D):=fin
    rw [if_neg hc] at fin
    exact fin.elim⟩
end
variable {n:Nat}
section
theorem zC {p:Nat} (D:Df K mg x st ps) (Sc:FnScope N ps (yc st)) (hp:ps.length = p) (hn:N.length = n)
 (hb:∀ (f:Addr) (cdv:Value) (A:Around) (outer:List PySem.Env) (s:Shared) (H:Hp) (E:XK),Room k (A.deeper (envOfC x (yc st) s.heap.objs.size f cdv))->WSs (qL CX0 P w K mg base N x (yc st) f cdv A outer s H E).nox E0 (qo st) g) :
  CalT P w K mg base (k + 1) x ps (qh p n g):=zfa D Sc hp hn fun f cdv A outer s H E hr=>(hb f cdv A outer s H E hr).pe
theorem zb7 {p:Nat} (D:Df K mg x st ps) (Sc:FnScope N ps (yc st)) (hp:ps.length = p) (hn:N.length = n)
 (hb:∀ (f:Addr) (cdv:Value) (A:Around) (outer:List PySem.Env) (s:Shared) (H:Hp) (E:XK),Room k (A.deeper (envOfC x (yc st) s.heap.objs.size f cdv))->WSs (qL (CXX P w) P w K mg base N x (yc st) f cdv A outer s H E) E (qo st) g) :
  CalX P w K mg base (k + 1) x ps (yz p n g):=zhL D Sc hp hn fun f cdv A outer s H E hr=>(hb f cdv A outer s H E hr).pe
theorem zgB {qual:Str} {f:Addr} {fd:FuncData} {p:Nat} (F:Fun K x qual st f fd) (Sc:FnScope N ps (yc st)) (hp:ps.length = p) (hn:N.length = n)
 (hb:∀ (cdv:Value) (A:Around) (outer:List PySem.Env) (s:Shared) (H:Hp) (E:XK),Room k (A.deeper (envOfC qual (yc st) s.heap.objs.size f cdv))->WSs (qL CX0 P w K mg base N qual (yc st) f cdv A outer s H E).nox E0 (qo st) g) :
  FnOk P w K mg base CX0 (k + 1) f fd ps (spT K (qh p n g)):=ziK F Sc hp hn fun cdv A outer s H E hr=>(hb cdv A outer s H E hr).pe
end
section
variable {f:Str}
theorem zec (hg:Gl X x) (hm:∃ a,X.mg x = some (.ref a)/\KTu X.K a (ss.map .str)) (hd:(x == ("__debug__":Str)) = false:=by decide):WE X XE (.Name x pos) (eC (.tup (ss.map .str))):=by
 refine ⟨?_⟩
 obtain ⟨a,hm,o,its,n,h⟩:=hm
 refine qF (zdg (v:=.ref a) hg hm rfl hd) fun S=>.tup (.inr ⟨o,its,n,h⟩) (by simp) fun i t v e1 e2=>?_
 rw [Qa] at e1 e2
 cases q:ss[i]? with
 | none=>rw [q] at e1;cases e1
 | some z=>rw [q] at e1 e2;cases e1;cases e2;exact .str _
end
theorem CalX.refine {f g:List T->Mem->Out T} (C:CalX P w K mg base k x ps g) (h:Refines f g) (nox:∀ ts M C fs M',f ts M ≠ .exn C fs M'):CalT P w K mg base k x ps f:=by
 refine ⟨?_,nox⟩
 obtain ⟨fa,fd,F,kp,b,gg⟩:=C.ex
 have key:∀ vs H Q E,spT K f vs H Q E->spT K g vs H Q fun _ _ _=>False:=by
  rintro vs H Q E ⟨S,ts,e,m,r,fin⟩
  refine ⟨S,ts,e,m,r,?_⟩
  have wf:∀ c ∈ S.M,Cell.lt S.M.length c:=fun c hc=>by
   obtain ⟨i,hi,rfl⟩:=getElem_of_mem hc
   exact (m.cell i _ (by simp [hi])).lt
  cases o:f ts S.M with
  | bad=>rw [o] at fin;exact fin.elim
  | exn C' fs M'=>exact absurd o (nox _ _ _ _ _)
  | ok t' M1=>
   rw [o] at fin
   obtain ⟨t,M',eg,l1,l2,eM,hc,z⟩:=h ts S.M t' M1 wf o
   rw [eg]
   intro S' v e1 s r1
   have hl:∀ (i:Nat) c,i < M1.length->S'.M[i]? = some c->Cell.lt M1.length c:=fun i c hi ec=>by
    have e2:M1[i]? = some c:=by
     rw [eM,getElem?_take,if_pos hi,← e1];exact ec
    rcases hc i c e2 with q | q
    ·exact (wf c (Q9 q)).mono l1
    ·exact q
   have sc:=s.cut l1 (by rw [e1];exact l2) hl
   refine fin (S'.cut M1.length S.hid) v ?_ sc ?_
   ·show S'.M.take M1.length = M1
    rw [e1];exact eM.symm
   ·exact Rep.fz s.mok (by rw [e1];exact l2) (fun p h=>(s.hk p h).1) (by rw [e1];exact z) r1
 refine ⟨⟨fa,fd,⟨fun vs H Q E q=>F.len vs H Q _ (key _ _ _ _ q),?_⟩,kp,b,gg⟩⟩
 intro A outer s H args us vs Q E hr h0 hb hv hq
 refine codeAny_mono (F.run A outer s H args us vs Q _ hr h0 hb hv (key _ _ _ _ hq)) fun r s' z=>?_
 cases r with
 | ok v=>cases v <;> exact z
 | error e=>
  obtain ⟨_,_,_,_,_,_,_,_,_,_,_,_,_,_,_,z⟩:=z
  exact z.elim
end FT
namespace L2
open PySem PySem.Spec PyProof.Rows
section
variable {X:Cx}
theorem zex:OpR X (compareOp .LtE) (fun x y H Q=>∃ i j,x = .str i/\y = .str j/\Q (.bl (!decide (j.cps.toList < i.cps.toList))) H):=by
 intro pins s σ H x y v u Q I rx ry h
 obtain ⟨i,j,rfl,rfl,q⟩:=h
 obtain ⟨t,rfl⟩:=rx
 obtain ⟨t',rfl⟩:=ry
 exact PySem.P.le_str (zeU I q rfl)
theorem zdJ:OpR X (binaryOp .Mult) (fun x y H Q=>∃ i n,x = .str i/\y = .int n/\MulOk i n/\Q (.str (Txt.mul i n)) H):=by
 intro pins s σ H x y v u Q I rx ry h
 obtain ⟨i,n,rfl,rfl,hk,q⟩:=h
 obtain ⟨t,rfl⟩:=rx
 obtain ⟨t',rfl⟩:=ry
 exact SB.mul hk fun t' k=>⟨.str _,H,I.tok _,⟨_,rfl⟩,q⟩
theorem zcM:CallR X (.type "str") (fun xs H Q=>∃ z,xs = [.str z]/\Q (.str z) H):=by
 intro pins s σ H xs us Q I r h
 obtain ⟨z,rfl,q⟩:=h
 obtain ⟨u,rfl,t,rfl⟩:=vals1 r
 exact PySem.P.str_of_str ⟨.str z,H,I,⟨_,rfl⟩,q⟩
theorem zbW:CallR X (.type "int") (fun xs H Q=>∃ z n,xs = [.str z]/\z.length<=640/\intText? z = some n/\Q (.int n) H):=by
 intro pins s σ H xs us Q I r h
 obtain ⟨z,n,rfl,hz,hn,q⟩:=h
 obtain ⟨u,rfl,t,rfl⟩:=vals1 r
 exact PySem.W.KIN.call_text hn hz ⟨.int n,H,I.tok _,⟨_,rfl⟩,q⟩
end
end L2
namespace FT
open PySem PySem.Spec PyProof.Rows L2
noncomputable def leU:T->T->Mem->Out T:=fun x y M=>match x,y with
 | .int i,.int j=>.ok (.bl (decide (i<=j))) M
 | .str i,.str j=>.ok (.bl (!decide (j.cps.toList < i.cps.toList))) M
 | _,_=>.bad
noncomputable def zaZ:T->T->Mem->Out T:=fun x y M=>match x,y with
 | .str i,.int n=>@ite _ (MulOk i n) (Classical.propDecidable _) (.ok (.str (Txt.mul i n)) M) .bad
 | _,_=>.bad
noncomputable def ixS:T->T->Mem->Out T:=fun x y M=>match x,y with
 | .str z,.int i=>match atI z.cps.toList i with
  | some c=>if z.length<=sizeLine then .ok (.str ⟨#[c]⟩) M else .bad
  | none=>.bad
 | _,_=>.bad
noncomputable def zcz:T->Mem->Out T:=fun t M=>match t with
 | .bl b=>.ok (.int (if b then 1 else 0)) M
 | .str z=>match intText? z with
  | some n=>if z.length<=640 then .ok (.int n) M else .bad
  | none=>.bad
 | _=>.bad
noncomputable def zah:T->Mem->Out T:=fun t M=>match t with
 | .int i=>@ite _ (i.natAbs.log2 < 1920) (Classical.propDecidable _) (.ok (.str (Str.ofString (toString i))) M) .bad
 | .str z=>.ok (.str z) M
 | _=>.bad
section
variable {X:Cx} {XE:XK}
theorem zbb:OpR X (compareOp .LtE) (lR2 XE X.K leU):=by
 intro pins s σ H x y v u Q I rx ry ⟨S,⟨tx,ty⟩,e,m,⟨r1,r2⟩,fin⟩
 subst e
 replace fin:Fin XE (Rep X.K) X.K S (leU tx ty S.M) Q:=fin
 unfold leU at fin
 split at fin
 ·cases r1;cases r2
  exact zjM pins s σ S.H _ _ v u Q I rx ry ⟨_,_,rfl,rfl,fin S _ rfl (.refl m) (.bl _)⟩
 ·cases r1;cases r2
  exact zex pins s σ S.H _ _ v u Q I rx ry ⟨_,_,rfl,rfl,fin S _ rfl (.refl m) (.bl _)⟩
 ·exact fin.elim
theorem zdj:OpR X (binaryOp .Mult) (lR2 XE X.K zaZ):=by
 intro pins s σ H x y v u Q I rx ry ⟨S,⟨tx,ty⟩,e,m,⟨r1,r2⟩,fin⟩
 subst e
 replace fin:Fin XE (Rep X.K) X.K S (zaZ tx ty S.M) Q:=fin
 unfold zaZ at fin
 split at fin
 ·cases r1;cases r2
  split at fin
  ·rename_i hk
   exact zdJ pins s σ S.H _ _ v u Q I rx ry ⟨_,_,rfl,rfl,hk,fin S _ rfl (.refl m) (.str _)⟩
  ·exact fin.elim
 ·exact fin.elim
theorem ziV:IxR X (lR2 XE X.K ixS):=by
 intro va sl pins s σ H x y v u Q I rx ry ⟨S,⟨tx,ty⟩,e,m,⟨r1,r2⟩,fin⟩ hs
 subst e
 replace fin:Fin XE (Rep X.K) X.K S (ixS tx ty S.M) Q:=fin
 unfold ixS at fin
 split at fin
 ·cases r1;cases r2
  split at fin
  ·rename_i c hc
   split at fin
   ·rename_i hz
    exact zeL va sl pins s σ S.H _ _ v u Q I rx ry ⟨_,_,c,rfl,rfl,hz,hc,fin S _ rfl (.refl m) (.str _)⟩ hs
   ·exact fin.elim
  ·exact fin.elim
 ·exact fin.elim
theorem ze6:CallR X (.type "int") (lRN XE X.K (zk zcz)):=zM fun pins s σ S t x v Q I rx m r fin=>by
 unfold zcz at fin
 split at fin
 ·cases r
  cases (show v = Value.bool _ from rx)
  exact call_int_bool ⟨.int _,S.H,I.tok _,⟨_,rfl⟩,fin S _ rfl (.refl m) (.int _)⟩
 ·cases r
  split at fin
  ·rename_i n hn
   split at fin
   ·rename_i hz
    exact zbW pins s σ S.H _ _ Q I (.cons rx .nil) ⟨_,n,rfl,hz,hn,fin S _ rfl (.refl m) (.int _)⟩
   ·exact fin.elim
  ·exact fin.elim
 ·exact fin.elim
theorem ze3:CallR X (.type "str") (lRN XE X.K (zk zah)):=zM fun pins s σ S t x v Q I rx m r fin=>by
 unfold zah at fin
 split at fin
 ·cases r
  split at fin
  ·rename_i hz
   exact zcN pins s σ S.H _ _ Q I (.cons rx .nil) ⟨_,rfl,hz,fin S _ rfl (.refl m) (.str _)⟩
  ·exact fin.elim
 ·cases r
  exact zcM pins s σ S.H _ _ Q I (.cons rx .nil) ⟨_,rfl,fin S _ rfl (.refl m) (.str _)⟩
 ·exact fin.elim
end
end FT
namespace L2
open PySem PySem.Spec PyProof.Rows
noncomputable def Its (x:Str):It:=⟨fun i _=>i < x.cps.size,fun i H v H'=>H' = H/\∃ c,x.cps[i]? = some c/\v = .str ⟨#[c]⟩,fun i _=>x.cps.size<=i⟩
variable {tg:Expr}
theorem zb9 {P:Program} {w:World} {K:Frag} (it:Addr) (x:Str) (t:Tok) (kd:String) (hW:∀ A:Around,A.handled = none->Walks P w A it [it] [it] x.cps.size (SignAt x) (fun i h=>h.IsStrIter it kd x t i))
 (hk:["enumerate","zip","dict_itemiterator","dict_reverseitemiterator","odict_iterator","itertools.zip_longest","itertools.pairwise"].contains kd = false) (he:∀ (A:Around) (i:Nat) (s:Shared) (Q:Option Value->Shared->Prop) (E:Value->Shared->Prop),A.handled = none->s.heap.IsStrIter it kd x t i->x.cps[i]? = none->(∀ h',Heap.ExtBut it s.heap h'->Q none { s with heap:=h' })->wpAny (model P w) A (pyNext (.ref it)) Q E s) (hs:∀ (A:Around) (i:Nat) (s:Shared) (Q:Value->Shared->Prop) (E:Value->Shared->Prop),s.heap.IsStrIter it kd x t i->Q (.ref it) s->wpAny (model P w) A (pyIter (.ref it)) Q E s) :
  Turn P w K tg (Its x) [it] it (fun i h=>h.IsStrIter it kd x t i) where
 mem:=by simp
 obj:=fun i h st b hb=>by
  have e:b = it:=by simpa using hb
  subst e
  obtain ⟨o,e,c,d⟩:=st
  exact ⟨o,e,fun v z=>by rw [d] at z;cases z⟩
 keep:=fun i h h' st k=>by
  obtain ⟨o,e,c⟩:=st
  exact ⟨o,k it (by simp) o e,c⟩
 item:=by
  intro X hP hw hK hc i pins s σ H E I hf st hg
  subst hP hw hK
  obtain ⟨f0,f1,f2,f3,f4,f5⟩:=hf it (by simp)
  refine (hW X.A (I.ok.hd hc)).item i s _ _ hg st fun v h' tk hv st' kk=>?_
  obtain ⟨c,u,hc1,rfl⟩:=hv
  have I1:Inv X pins σ H { s with heap:=h',toks:=tk }:=I.turned (fun b o hb e=>kk b o (by simpa using hb) e) f0 f1 f3 f4 f5
  have st2:=st'
  obtain ⟨o,e,c1,d1⟩:=st2
  exact ⟨_,rfl,zdU (s:={ s with heap:=h',toks:=tk }) (n:=kd) e c1 d1 hk ⟨.str ⟨#[c]⟩,H,I1,⟨u,rfl⟩,⟨rfl,c,hc1,rfl⟩,st',fun b hb=>(hf b hb).1⟩⟩
 done:=by
  intro X hP hw hK hc i pins s σ H E I hf st hg
  subst hP hw hK
  obtain ⟨f0,f1,f2,f3,f4,f5⟩:=hf it (by simp)
  have hg':x.cps.size<=i:=hg
  exact he X.A i s _ _ (I.ok.hd hc) st (by simp;exact hg') fun h' eb=>⟨rfl,I.turned (t':=s.toks) (fun b o hb e=>eb b o hb e) f0 f1 f3 f4 f5⟩
 self:=fun A i s Q E st h=>hs A i s Q E st h
section
variable {X:Cx}
noncomputable def zkG (tl:TE):TI:=fun σ H R=>tl σ H fun x H1=>∃ z,x = .str z/\R (Its z) H1
theorem zim {l:Expr} {tl:TE} (hl:PE X l tl):PI X tg l (zkG tl):=by
 intro pins s σ H R I h
 refine thn (hl pins s σ H _ I h) fun v s1 ⟨x,H1,I1,r1,q1⟩=>?_
 obtain ⟨z,e,q⟩:=q1
 subst e
 obtain ⟨t,rfl⟩:=r1
 have fin:∀ (o:Obj) (kd:String),o.isFreed = false->o.cls = .type kd->o.data = .fields #[.str z t,.int (0:Nat) 0]->Turn X.prog X.w X.K tg (Its z) [s1.heap.objs.size] s1.heap.objs.size (fun i h=>h.IsStrIter s1.heap.objs.size kd z t i)->PIE X pins σ tg R (.ref s1.heap.objs.size) { s1 with heap:=s1.heap.push o }:=fun o kd fr hc hd tu=>by
  refine ⟨s1.heap.objs.size,[s1.heap.objs.size],_,_,H1,rfl,I1.kept (t':=s1.toks) fun b o e=>Q2 _ e,tu,⟨o,Qj _ fr,hc,hd⟩,fun b hb=>?_,q⟩
  have e:b = s1.heap.objs.size:=by simpa using hb
  subst e
  exact I1.fpOk (Q3 _) (I1.hok.fresh (Q3 _))
 cases ha:z.cps.all (· < 128)
 ·exact wpAny_pyIter_wide ha (fin _ "str_iterator" rfl rfl rfl (zb9 _ z t _ (fun A hA=>Walks.strWide hA _ z t) (by decide) (fun A i s Q E h1 h2 h3 h4=>wpAny_pyNext_wide_end h1 h2 h3 h4) (fun A i s Q E h1 h2=>wpAny_pyIter_striter_wide h1 h2)))
 ·exact wpAny_pyIter_ascii ha (fin _ "str_ascii_iterator" rfl rfl rfl (zb9 _ z t _ (fun A hA=>Walks.strAscii hA _ z t) (by decide) (fun A i s Q E h1 h2 h3 h4=>wpAny_pyNext_ascii_end h1 h2 h3 h4) (fun A i s Q E h1 h2=>wpAny_pyIter_striter_ascii h1 h2)))
theorem zcc:∀ {zs:List Str} {its:List Value},Vals (zs.map V.str) its->StrsAre its zs
 | [],its,r=>by cases r;exact .nil
 | z :: zs,its,r=>by
  cases r with
  | cons a b=>
   obtain ⟨t,rfl⟩:=a
   exact .cons z t (zcc b)
theorem zbG:∀ {l:List (Str × Tok)},Vals ((l.map (·.1)).map V.str) (strValues l)
 | []=>.nil
 | p :: l=>.cons ⟨_,rfl⟩ zbG
theorem zhi:MtR X "str.join" (fun x xs H Q=>∃ z p zs,x = .str z/\xs = [.ref p]/\SqL X.K H p (zs.map V.str)/\(zs.map (·.length)).sum + zs.length * z.length<=16777216/\Q (.str (Txt.join z zs)) H):=by
 intro pins s σ H x xs v us Q I rx rs ⟨z,p,zs,e1,e2,hq,hb,q⟩
 subst e1;subst e2
 obtain ⟨t,rfl⟩:=rx
 obtain ⟨u,rfl,ru⟩:=vals1 rs
 cases ru
 obtain ⟨its,r,pl,hz⟩:=I.list hq
 exact join_list pl.isList (zcc r) hb fun t' k=>⟨.str _,H,I.tok _,⟨_,rfl⟩,q⟩
theorem zfJ:MtR X "str.split" (fun x xs H Q=>∃ z y,x = .str z/\xs = [.str y]/\(y.length == 0) = false/\z.length<=sizeLine/\(Txt.split z y).length<=sizeLine/\∀ l,H l = none->Q (.ref l) (upd H l (.lst ((Txt.split z y).map V.str)))):=by
 intro pins s σ H x xs v us Q I rx rs ⟨z,y,e1,e2,hy,hz,hn,q⟩
 subst e1;subst e2
 obtain ⟨t,rfl⟩:=rx
 obtain ⟨u,rfl,u',rfl⟩:=vals1 rs
 have fin:∀ (l:List (Str × Tok)) (k:Nat),l.map (·.1) = Txt.split z y->EP X pins σ Q (.ref s.heap.objs.size) { s with heap:=s.heap.push { cls:=.type "list",data:=.seq (strValues l).toArray },toks:=k }:=fun l k e=>
  ⟨.ref s.heap.objs.size,_,I.laid (t':=k) (fun b o e=>Q2 _ e) (Q3 _) (show ObjOk X.prog X.w _ _ _ (.lst ((Txt.split z y).map V.str)) from ⟨by rw [Qf];exact hn,strValues l,0,by rw [← e];exact zbG,Qj _ rfl⟩),rfl,q _ (I.hok.fresh (Q3 _))⟩
 cases h1:(decide (z.length < y.length) || decide (Builtin.Str.strKind z < Builtin.Str.strKind y))
 ·cases hf:(Builtin.Str.occurrences z y 0 z.length (z.length + 1)).isEmpty
  ·have e:Txt.split z y = Builtin.Str.partsBetween z (Builtin.Str.occurrences z y 0 z.length (z.length + 1)) y.length:=(if_neg (by rw [h1];exact Q4)).trans (if_neg (by rw [hf];exact Q4))
   refine call_meets PySem.F.slot_str_split (typeIs_str _ _ _) PySem.F.entry_str_split (PySem.F.args_str_split_2 _ _) (meets_str_split_sep z y t u' h1 hy hf hz (by rw [← e];exact hn)) ?_
   have:=fin (numbered s.toks (Builtin.Str.partsBetween z (Builtin.Str.occurrences z y 0 z.length (z.length + 1)) y.length))
   rw [← strsFrom_eq] at this
   exact this _ (by rw [numbered_texts,e])
  ·exact call_meets PySem.F.slot_str_split (typeIs_str _ _ _) PySem.F.entry_str_split (PySem.F.args_str_split_2 _ _) (meets_str_split_not_found z y t u' h1 hy hf) (fin [(z,t)] s.toks ((if_neg (by rw [h1];exact Q4)).trans (if_pos hf)).symm)
 ·exact call_meets PySem.F.slot_str_split (typeIs_str _ _ _) PySem.F.entry_str_split (PySem.F.args_str_split_2 _ _) (meets_str_split_cannot_occur z y t u' h1) (fin [(z,t)] s.toks (if_pos h1).symm)
end
end L2
namespace FT
open PySem PySem.Spec PyProof.Rows L2
noncomputable def sgT (z:Str):List T:=z.cps.toList.map fun c=>T.str ⟨#[c]⟩
noncomputable def iTx (f:Ev->Mem->Out T):Ev->Mem->Out (List T):=fun σ M=>(f σ M).bind fun t M1=>match t with
 | .str z=>.ok (sgT z) M1
 | _=>.bad
noncomputable def zcf:List T->Option (List Str)
 | []=>some []
 | .str z :: ts=>(zcf ts).map (z :: ·)
 | _ :: _=>none
theorem zce:∀ {ts:List T} {zs:List Str},zcf ts = some zs->ts = zs.map .str
 | [],zs,h=>by cases h;rfl
 | t :: ts,zs,h=>by
  unfold zcf at h
  split at h
  ·rename_i e
   cases e
  ·rename_i e
   cases e
   cases q:zcf ts with
   | none=>rw [q] at h;cases h
   | some ys=>
    rw [q] at h
    cases h
    rw [zce q]
    rfl
  ·cases h
noncomputable def isStr (t:T) (_:Mem):Bool:=match t with
 | .str _=>true
 | _=>false
noncomputable def qM (x:T) (ts:List T) (M:Mem):Out T:=match x,ts with
 | .str z,[t]=>match yv t M with
  | some xs=>match zcf xs with
   | some zs=>if (zs.map (·.length)).sum + zs.length * z.length<=16777216 then .ok (.str (Txt.join z zs)) M else .bad
   | none=>.bad
  | none=>.bad
 | _,_=>.bad
section
variable {X:Cx} {XE:XK}
theorem ty_str {K:Frag} {S:Sit} (_:MemOk K S) {t:T} {x:V} (r:Rep K S t x) (h:isStr t S.M = true):tyV K "str" x S.H:=by
 cases r with
 | str z=>exact rfl
 | _=>cases h
theorem zfK:MtR X "str.join" (lMt XE X.K qM):=by
 intro pins s σ H x xs v us Q I rx rs ⟨S,⟨tx,ts⟩,e,m,⟨r1,r2⟩,fin⟩
 subst e
 replace r1:Rep X.K S tx x:=r1
 replace r2:Reps X.K S ts xs:=r2
 replace fin:Fin XE (Rep X.K) X.K S (qM tx ts S.M) Q:=fin
 unfold qM at fin
 split at fin
 ·rename_i z t
  split at fin
  ·rename_i ys q
   split at fin
   ·rename_i zs qz
    split at fin
    ·rename_i hb
     obtain ⟨w1,ws,rfl,h1,h2⟩:=r2.consT
     cases h2.nilT
     obtain ⟨p,vs,rfl,hq,rs'⟩:=qk m h1 q
     cases r1
     have e:=zce qz
     subst e
     have ev:vs = zs.map V.str:=by
      refine List.ext_getElem? fun i=>?_
      have l:=rs'.1
      rw [Qf] at l
      by_cases hi:i < zs.length
      ·have a1:vs[i]? = some (vs[i]'(by omega)):=Q0 _
       have a2:=rs'.2 i (.str zs[i]) _ (by rw [Qa,Q0 hi];rfl) a1
       rw [a1,Qa,Q0 hi]
       generalize vs[i]'(by omega) = w at a2
       cases a2
       rfl
      ·rw [List.getElem?_eq_none (by omega),List.getElem?_eq_none (by rw [Qf];omega)]
     rw [ev] at hq
     exact zhi pins s σ S.H _ _ v us Q I rx rs ⟨z,p,zs,rfl,rfl,hq,hb,fin S _ rfl (.refl m) (.str _)⟩
    ·exact fin.elim
   ·exact fin.elim
  ·exact fin.elim
 ·exact fin.elim
end
end FT
namespace L2
open PySem PySem.Spec PyProof.Rows
variable {x:Str}
section
variable {X:Cx} {C:Addr} {E:XK} {e:Expr} {es:List Expr} {ta:TA} {np cpos pos:Pos}
theorem zeu (O:ExcAt X.K X.mg x C) (hr:Room 2 X.A) (hg:Gl X x) (hst:X.stack = X.env :: X.outer) (hf:X.env.frame = some X.env.locals) (hex:X.ex = [])
  (hxe:X.xe = fun ev s'=>wpAny (model X.prog X.w) X.A (leaving X.env ev) (fun _ s''=>CXX X.prog X.w X.outer X.H₀ X.s₀ E ev s'') (fun e' s''=>CXX X.prog X.w X.outer X.H₀ X.s₀ E e' s'') s')
  (ha:PA X [e] ta) (hd:(x == ("__debug__":Str)) = false:=by decide) (he:starEach [e] X.env = [(false,eval e X.env)]:=by rfl) :
  PS X (.Raise (some (.Call (.Name x np) [e] [] cpos)) none pos) (fun _ σ H=>ta σ H fun vs H1=>vs.length<=sizeLine/\E (.ref C) none H1):=by
 intro pins s σ H D I h
 obtain ⟨bm,N,nm,q,bs,hdct,sn,sub,ab,col,dd,k0,k1,k2,k3,k5,mN,hC,hN,hni,T⟩:=O.obj X.base I.ok.mod.kin
 refine zdF (C:=C) (nm:=nm) (q:=q) (N:=N) (bs:=bs) (bm:=bm) (hdct:=hdct) (sn:=sn) (sub:=sub) (ab:=ab) (col:=col) (dd:=dd) (k0:=k0) (k1:=k1) (k2:=k2) (k3:=k3) (k5:=k5) (T.hasType PySem.F.excBase_ValueError.hasBase) hr.hd (by rw [he];rfl) (y9 I hg O.bound ⟨rfl,?_⟩ hd)
 have hq:=ha cpos pins s σ H _ I h
 rw [he] at hq ⊢
 refine Calls.evalArgs_plain (Qe hq (fun us s2 ⟨vs,H2,I2,r2,hl,hE⟩=>?_) fun _ _ y=>y)
 have hC2:=I2.bk _ _ hC
 refine ⟨rfl,hC2,?_⟩
 obtain ⟨h2,g2,d2,t2,os2⟩:=s2
 refine wpAny_call_exc_subT PySem.F.excBase_ValueError (T.keeps I2.bk) hC2 (hN.keeps I2.bk) hni (fun h' ev hm=>?_) (by rw [← r2.length];exact hl)
 obtain ⟨t,ge,_,_⟩:=hm.there
 obtain ⟨b1,b2,b3,b4,b5⟩:=I2.new0 hex hm.new
 have I3:Inv X pins σ H2 ⟨h',g2,d2,t2,os2⟩:=I2.kept (t':=t2) hm.keeps
 exact ⟨ev,t,none,rfl,hm.keeps _ _ hC2,ge,zhF I3 hst hf hex hxe ge b2 b1 hE⟩
theorem zgJ {K:Frag} {mg:Str->Option Value} (O:ExcAt K mg x C):Sup K mg x C C:=⟨O.bound,fun h X=>by
 obtain ⟨bm,N,nm,q,bs,hdct,sn,sub,ab,col,dd,k0,k1,k2,k3,k5,mN,hC,_,_,T⟩:=O.obj h X
 exact ⟨⟨bm,N,nm,q,bs,hdct,sn,sub,ab,col,dd,k0,k1,k2,k3,k5,hC,T.hasType PySem.F.excBase_ValueError.hasBase⟩,bm,N,nm,q,bs,hdct,sn,sub,ab,col,dd,k0,k1,k2,k3,k5,hC,by simp⟩⟩
end
end L2
namespace FT
open PySem PySem.Spec PyProof.Rows L2
variable {x:Str}
theorem zhT {K:Frag} {mg:Str->Option Value} {h:Heap} (X:K.In h) (G:h.Ns mainGlobals mg) {C N W:Addr} {nm q:Str} {bs:List Value} {hdct:Bool} {sn:List Str} {sub:List Value} {ab:Bool} {col:Option Bool} {dd:Option Addr} {k0 k1 k2 k3 k5:Option Value}
 {c1 c2 c3:Value} {d1 d2 d3:Option Addr} {es es':Array DictEntry} {ep ep':Nat} {s1 s2 s3:Array (Option Value)} {cdw:ClassData}
 (a:PySem.W.nsIn K mainGlobals x = some (some (.ref C)))
 (l:K.lookup C = some (excClassObj nm q C N bs (.ref W :: za2) hdct sn sub ab col dd k0 k1 k2 k3 k5 "ValueError.__new__"))
 (ln:K.lookup N = some ⟨c1,d1,.dict es ep,s1⟩) (sk:zag es = true) (q0:PySem.W.nsIn K N "__init__" = some none)
 (lw:K.lookup W = some ⟨c2,d2,.cls cdw,s2⟩) (lwn:K.lookup cdw.ns = some ⟨c3,d3,.dict es' ep',s3⟩) (sk':zag es' = true) (q1:PySem.W.nsIn K cdw.ns "__init__" = some none):ExcAt K mg x (zbA K x):=by
 rw [zhI a]
 refine ⟨PySem.W.mg_of X G a,fun h' X'=>?_⟩
 obtain ⟨mN,hN,eN⟩:=zdk X' ln sk q0
 obtain ⟨mW,hW,eW⟩:=zdk X' lwn sk' q1
 exact ⟨_,N,nm,q,bs,hdct,sn,sub,ab,col,dd,k0,k1,k2,k3,k5,mN,X' _ _ l,hN,eN,.own (X' _ _ lw) hW eW .base⟩
noncomputable def yU (x:T) (ts:List T) (M:Mem):Out (List T):=match x,ts with
 | .str z,[.str y]=>if (y.length == 0) = false/\z.length<=sizeLine/\(Txt.split z y).length<=sizeLine then .ok ((Txt.split z y).map .str) M else .bad
 | _,_=>.bad
noncomputable def zl (f:Ev->Mem->Out T) (g:Ev->Mem->Out (List T)):Ev->Mem->Out (List T):=fun σ M=>(f σ M).bind fun x M1=>if isStr x M1 = true then (g σ M1).bind fun ts M2=>yU x ts M2 else .bad
variable {X:Cx} {ga:Ev->Mem->Out (List T)} {f:Ev->Mem->Out T} {e o:Expr} {apos cpos np pos:Pos} {XE:XK}
section
end
section
theorem zgD {tg:Expr} (he:WE X XE e f):WI X XE tg e (iTx f):=by
 have he:=he.pe
 exact ⟨PI.imp (zim he) fun σ H R h9=>by
  obtain ⟨S,στ,_,e,m,ev,_,fin⟩:=h9
  replace fin:Fin XE (zaG X.K) X.K S ((f στ S.M).bind fun t M1=>match t with | .str z=>.ok (sgT z) M1 | _=>.bad) R:=fin
  refine ⟨S,στ,(),e,m,ev,trivial,?_⟩
  show Fin XE (Rep X.K) X.K S (f στ S.M) _
  cases o:f στ S.M with
  | bad=>rw [o] at fin;exact fin.elim
  | exn C fs M'=>rw [o] at fin;exact fin
  | ok t M1=>
   rw [o] at fin
   cases t with
   | str z=>
    intro S1 v e1 s1 r1
    cases r1
    refine ⟨z,rfl,fin S1 _ e1 s1 fun S3 s3=>⟨fun i t et=>?_,fun i hi=>?_⟩⟩
    ·unfold sgT at et
     rw [Qa] at et
     cases q:z.cps.toList[i]? with
     | none=>rw [q] at et;cases et
     | some c=>
      rw [q] at et
      cases et
      have hi:i < z.cps.size:=by
       have:=(List.getElem?_eq_some_iff.mp q).1
       simpa using this
      refine ⟨hi,fun x H' hy=>?_⟩
      obtain ⟨rfl,c',hc,rfl⟩:=hy
      have:c' = c:=by
       rw [Array.getElem?_toList] at q
       rw [q] at hc
       exact (Qb hc).symm
      subst this
      exact ⟨S3,rfl,rfl,.refl s3.mok,.str _⟩
    ·show z.cps.size<=i
     unfold sgT at hi
     simpa using hi
   | _=>exact fin.elim⟩
end
section
theorem za7 {C:Addr} (O:ExcAt X.K X.mg x C) (hr:Room 2 X.A) (hg:Gl X x) (hst:X.stack = X.env :: X.outer) (hf:X.env.frame = some X.env.locals) (hex:X.ex = []) (hxe:X.xe = fun ev s'=>wpAny (model X.prog X.w) X.A (leaving X.env ev) (fun _ s''=>CXX X.prog X.w X.outer X.H₀ X.s₀ XE ev s'') (fun e' s''=>CXX X.prog X.w X.outer X.H₀ X.s₀ XE e' s'') s') (ha:WA X XE [e] ga) (hd:(x == ("__debug__":Str)) = false:=by decide) (he:noStar e = true:=by rfl):WS X XE (.Raise (some (.Call (.Name x np) [e] [] cpos)) none pos) (qm (yI C) ga):=by
 have ha:=ha.pe
 exact ⟨
  PS.imp (zeu O hr hg hst hf hex hxe ha hd (zr he)) fun D σ H hh=>
   LN.mono (LN.bind (f:=fun _ σ M=>ga σ M) (k:=fun _ ts σ M1=>yI C ts M1) (RB:=Reps X.K) hh) fun vs H1 h9=>by
    obtain ⟨S,στ,a,e,m,ev,ra,fin⟩:=h9
    obtain ⟨u,ts⟩:=a
    have r:Reps X.K S ts vs:=ra.2
    replace fin:Fin XE (FlR X.K) X.K S (yI C ts S.M) (zn D):=fin
    unfold yI at fin
    split at fin
    ·rename_i hl
     subst e
     exact ⟨by rw [← r.1];exact hl,fin S none rfl (.refl m) (.inl ⟨rfl,rfl⟩)⟩
    ·exact fin.elim⟩
theorem zd9 (ho:WE X XE o f) (ha:WA X XE [e] ga) (hbase:attributeBase o "split" X.env (eval o X.env) = eval o X.env:=by rfl) (hfew:((backTo cpos (starEach [e] X.env)).all (fun x=>!x.1) && (backToKw cpos (keywordEach [] X.env)).all (fun x=>x.1.isSome) && decide ([e].length + ([]:List Keyword).length + (if ([]:List Keyword).isEmpty then 0 else 1) < 30)) = true:=by rfl) (hline:(apos.endLine == cpos.line) = true:=by rfl) (hs:starEach [e] X.env = (false,eval e X.env) :: starEach [] X.env:=by rfl) (hplain:(backTo cpos (starEach [] X.env)).any (·.1) = false:=by rfl):WL X XE (.Call (.Attribute o "split" apos) [e] [] cpos) (zl f ga):=by
 have ho:=ho.pe
 have ha:=ha.pe
 exact ⟨PE.imp (zdI PySem.F.plainAttrs_str PySem.F.slot_str_split PySem.F.type_str_split zfJ ho ha hbase hfew hline hs hplain) fun σ H Q hh=>by
  obtain ⟨S,στ,e0,m,ev,fin⟩:=hh
  replace fin:FinL XE X.K S ((f στ S.M).bind fun x M1=>if isStr x M1 = true then (ga στ M1).bind fun ts M2=>yU x ts M2 else .bad) Q:=fin
  refine ⟨S,στ,(),e0,m,ev,trivial,?_⟩
  show Fin XE (Rep X.K) X.K S (f στ S.M) _
  cases o1:f στ S.M with
  | bad=>rw [o1] at fin;exact fin
  | exn C fs M'=>rw [o1] at fin;exact fin
  | ok x M1=>
   rw [o1] at fin
   intro S1 v e1 s1 r1
   replace fin:FinL XE X.K S (if isStr x M1 = true then (ga στ M1).bind fun ts M2=>yU x ts M2 else .bad) Q:=fin
   split at fin
   ·rename_i hk
    refine ⟨ty_str s1.mok r1 (by rw [e1];exact hk),S1,στ,(),rfl,s1.mok,Mo.mo m s1 ev,trivial,?_⟩
    show Fin XE (Reps X.K) X.K S1 (ga στ S1.M) _
    rw [e1]
    cases o2:ga στ M1 with
    | bad=>rw [o2] at fin;exact fin
    | exn C fs M'=>rw [o2] at fin;exact FinL.later s1 fin
    | ok ts M2=>
     rw [o2] at fin
     intro S2 ws e2 s2 r2
     replace fin:FinL XE X.K S (yU x ts M2) Q:=fin
     have fin2:=FinL.later (s1.trans s2) fin
     unfold yU at fin2
     split at fin2
     ·split at fin2
      ·rename_i hz
       obtain ⟨w1,ws',rfl,h1,h2⟩:=Reps.consT r2
       cases h2.nilT
       cases r1
       cases h1
       rw [← e2] at fin2
       refine ⟨_,_,rfl,rfl,hz.1,hz.2.1,hz.2.2,zfI s2.mok fin2 ?_⟩
       refine ⟨by simp,fun i t v e3 e4=>?_⟩
       rw [Qa] at e3 e4
       cases q:(Txt.split _ _)[i]? with
       | none=>rw [q] at e3;cases e3
       | some y=>
        rw [q] at e3 e4
        cases e3
        cases e4
        exact .str _
      ·exact fin2.elim
     ·exact fin2.elim
   ·exact fin.elim⟩
end
end FT
namespace L2
open PySem PySem.Spec PyProof.Rows
structure XiAt (K:Frag) (D:Addr):Prop where
 ga:PySem.W.findIn K (.ref D) "__getattribute__" = some (some (.builtin "BaseException.__getattribute__"))
 gt:PySem.W.findIn K (.ref D) "__getattr__" = some none
 c:(PySem.W.clsIn K D).isSome = true
 a:PySem.W.findIn K (.ref D) "__class__" = some (some (.builtin "object.__class__"))
 n:PySem.W.specialIn K (.builtin "object.__class__") "__get__" = some (some (.builtin "getset_descriptor.__get__"))
 t:PySem.W.takesIn K (.builtin "object.__class__") = some true
 m:PySem.W.mroIn K D (.type "object") = some true
 be:PySem.W.mroIn K D (.type "BaseException") = some true
end L2
namespace FT
open PySem PySem.Spec PyProof.Rows L2
structure IsAt (K:Frag) (mg:Str->Option Value) (y:Str) (g:Addr->Option Bool):Prop where
 ex:∃ (v:V) (c:Value),RelV v c/\(mg y = some c\/(mg y = none/\bootBuiltins y = some c))/\(∀ u,RelV v u->u = c)/\∀ C b,g C = some b->XiAt K C/\PySem.W.kitOne K (.ref C) c = some b
structure XmAt (K:Frag) (D W:Addr):Prop where
 ga:PySem.W.findIn K (.ref D) "__getattribute__" = some (some (.builtin "BaseException.__getattribute__"))
 gt:PySem.W.findIn K (.ref D) "__getattr__" = some none
 a:PySem.W.findIn K (.ref D) "__class__" = some (some (.builtin "object.__class__"))
 n:PySem.W.specialIn K (.builtin "object.__class__") "__get__" = some (some (.builtin "getset_descriptor.__get__"))
 t:PySem.W.takesIn K (.builtin "object.__class__") = some true
 mro:(PySem.W.clsIn K D).map (·.mro) = some (.ref D :: .ref W :: za2)
 ty:PySem.W.typeIn K (.ref D) = some (.type "type")
section
variable {K:Frag} {mg:Str->Option Value} {C D W Y:Addr} {y:Str} {ks:List Addr}
theorem XmAt.in (x:XmAt K D W) (base:Value):PySem.W.mroIn K D base = some ((Value.ref D :: .ref W :: za2).contains base):=by
 obtain ⟨cd,h,e⟩:=Option.map_eq_some_iff.mp x.mro
 unfold PySem.W.mroIn
 rw [h,Option.bind_some,e]
 rfl
theorem XmAt.cls (x:XmAt K D W):(PySem.W.clsIn K D).isSome = true:=by
 obtain ⟨cd,h,e⟩:=Option.map_eq_some_iff.mp x.mro
 rw [h]
 rfl
theorem zar (a b:Value) (l:List Value):(b :: l).contains a = (a == b || l.contains a):=List.contains_cons
theorem XmAt.xi (x:XmAt K D W):XiAt K D:=⟨x.ga,x.gt,x.cls,x.a,x.n,x.t,by rw [x.in,zar,zar,show za2.contains (.type "object") = true by decide +kernel,Bool.or_true,Bool.or_true],by rw [x.in,zar,zar,show za2.contains (.type "BaseException") = true by decide +kernel,Bool.or_true,Bool.or_true]⟩
end
end FT
namespace L2
open PySem PySem.Spec PyProof.Rows
noncomputable def zkt (a:List Str) (x:Str):List Str:=if x ∈ a then a else a ++ [x]
noncomputable def met (ss:List Str):List Str:=ss.foldl zkt []
end L2
namespace FT
open PySem PySem.Spec PyProof.Rows L2
noncomputable def kd (M:Mem) (t:T):Nat:=if yP t = true then 1 else match t with
 | .tup _=>2
 | t=>match yv t M with
  | some _=>3
  | none=>0
end FT
namespace TS
open PySem PyProof.Rows
noncomputable abbrev kof (p:Keyed):Int:=numOf p.1
def IK (p:Keyed):Prop:=∃ n t,p.1 = .int n t
def So (l:List Keyed):Prop:=l.Pairwise fun x y=>kof x<=kof y
def le' (c d:List Keyed):Prop:=∀ x ∈ c,∀ y ∈ d,kof x<=kof y
variable {l m:List Keyed}
theorem qD:So (l ++ m) ↔ So l/\So m/\le' l m:=List.pairwise_append
variable {n:List Keyed}
theorem le_app:le' l (m ++ n) ↔ le' l m/\le' l n:=by
 unfold le'
 constructor
 ·intro h;exact ⟨fun x hx y hy=>h x hx y (mem_append_left _ hy),fun x hx y hy=>h x hx y (Qk _ hy)⟩
 ·rintro ⟨h1,h2⟩ x hx y hy
  rcases mem_append.mp hy with h | h
  ·exact h1 x hx y h
  ·exact h2 x hx y h
theorem zfc:le' (l ++ m) n ↔ le' l n/\le' m n:=by
 unfold le'
 constructor
 ·intro h;exact ⟨fun x hx y hy=>h x (mem_append_left _ hx) y hy,fun x hx y hy=>h x (Qk _ hx) y hy⟩
 ·rintro ⟨h1,h2⟩ x hx y hy
  rcases mem_append.mp hx with h | h
  ·exact h1 x h y hy
  ·exact h2 x h y hy
structure MI (T o xs ys:List Keyed):Prop where
 perm:(o ++ (xs ++ ys)).Perm T
 l:So (o ++ xs)
 r:So (o ++ ys)
structure Res (T r:List Keyed):Prop where
 perm:r.Perm T
 so:So r
variable {c o xs ys:List Keyed}
theorem MI.movL {T:List Keyed} (h:MI T o (c ++ xs) ys) (hc:le' c ys):MI T (o ++ c) xs ys:=by
 have h1:=h.l
 have h2:=h.r
 rw [qD,qD,le_app] at h1
 rw [qD] at h2
 refine ⟨by simpa [append_assoc] using h.perm,by simpa [append_assoc] using h.l,?_⟩
 rw [qD,qD,zfc]
 exact ⟨⟨h1.1,h1.2.1.1,h1.2.2.1⟩,h2.2.1,h2.2.2,hc⟩
theorem MI.swap {T:List Keyed} (h:MI T o xs ys):MI T o ys xs:=
 ⟨(List.Perm.append_left o List.perm_append_comm).trans h.perm,h.r,h.l⟩
structure MJ (T o xs ys:List Keyed):Prop where
 perm:((xs ++ ys) ++ o).Perm T
 l:So (xs ++ o)
 r:So (ys ++ o)
theorem MJ.swap {T:List Keyed} (h:MJ T o xs ys):MJ T o ys xs:=
 ⟨(List.Perm.append_right o List.perm_append_comm).trans h.perm,h.r,h.l⟩
theorem MJ.movR {T:List Keyed} (h:MJ T o xs (ys ++ c)) (hc:le' xs c):MJ T (c ++ o) xs ys:=by
 have h1:=h.l
 have h2:=h.r
 rw [qD] at h1
 rw [qD,qD,zfc] at h2
 refine ⟨by simpa [append_assoc] using h.perm,?_,by simpa [append_assoc] using h.r⟩
 rw [qD,qD,le_app]
 exact ⟨h1.1,⟨h2.1.2.1,h2.2.1,h2.2.2.2⟩,hc,h1.2.2⟩
structure MC (a b:Array Keyed):Prop where
 ia:∀ p ∈ a.toList,IK p
 ib:∀ p ∈ b.toList,IK p
 sa:So a.toList
 sb:So b.toList
 na:0 < a.toList.length
 nb:0 < b.toList.length
 first:∀ y ∈ a.toList,kof (b.toList[0]'nb)<=kof y
 last:∀ y ∈ b.toList,kof y<=kof (a.toList[a.toList.length - 1]'(by omega))
noncomputable abbrev TT (a b:Array Keyed):List Keyed:=a.toList ++ b.toList
structure LB (st0:SortSt) (lo:Nat) (st:SortSt):Prop where
 kind:kindOf st = oneType'
 failed:failedOf st = none
 pend:pendingOf st = pendingOf st0
 perm:(arrOf st).Perm (arrOf st0)
 pre:∀ i,i < lo->(arrOf st)[i]? = (arrOf st0)[i]?
def Sg (xs:Array Keyed) (lo n:Nat):Prop:=∀ i j,i<=j->j < n->K xs (lo + i)<=K xs (lo + j)
theorem Sg.step {xs:Array Keyed} {lo n:Nat} (h:Sg xs lo n) (h1:n = 0\/K xs (lo + n - 1)<=K xs (lo + n)):Sg xs lo (n + 1):=by
 intro i j hij hj
 by_cases hjn:j < n
 ·exact h i j hij hjn
 ·have e:j = n:=by omega
  subst e
  by_cases hi:i = j
  ·subst hi;exact Int.le_refl _
  ·rcases h1 with h1 | h1
   ·omega
   ·have:=h i (j - 1) (by omega) (by omega)
    rw [show lo + (j - 1) = lo + j - 1 by omega] at this
    exact Int.le_trans this h1
noncomputable abbrev Pd:=Nat × Nat × Nat
noncomputable def Runs (xs:Array Keyed):Nat->List Pd->Nat->Prop
 | st,[],e=>st = e
 | st,(a,n,_) :: l,e=>a = st/\0 < n/\Sg xs st n/\Runs xs (st + n) l e
theorem Runs.len {xs:Array Keyed}:∀ {l:List Pd} {st e:Nat},Runs xs st l e->st + l.length<=e
 | [],st,e,h=>by have:st = e:=h;simp;omega
 | (a,n,p) :: l,st,e,h=>by have:=Runs.len h.2.2.2;have:=h.2.1;simp;omega
theorem Runs.app {xs:Array Keyed}:∀ {l m:List Pd} {st e:Nat},Runs xs st (l ++ m) e ↔ ∃ k,Runs xs st l k/\Runs xs k m e
 | [],m,st,e=>⟨fun h=>⟨st,rfl,h⟩,fun ⟨k,h1,h2⟩=>by have:st = k:=h1;subst this;exact h2⟩
 | (a,n,p) :: l,m,st,e=>by
  constructor
  ·rintro ⟨h1,h2,h3,h4⟩
   obtain ⟨k,g1,g2⟩:=Runs.app.mp h4
   exact ⟨k,⟨h1,h2,h3,g1⟩,g2⟩
  ·rintro ⟨k,⟨h1,h2,h3,g1⟩,g2⟩
   exact ⟨h1,h2,h3,Runs.app.mpr ⟨k,g1,g2⟩⟩
theorem Sg.congr {xs ys:Array Keyed} {lo n:Nat} (h:Sg xs lo n) (he:∀ i,lo<=i->i < lo + n->ys[i]? = xs[i]?):Sg ys lo n:=by
 intro i j hij hj
 rw [K_congr (he (lo + i) (by omega) (by omega)),K_congr (he (lo + j) (by omega) (by omega))]
 exact h i j hij hj
theorem Runs.congr {xs ys:Array Keyed}:∀ {l:List Pd} {st e:Nat},Runs xs st l e->(∀ i,st<=i->i < e->ys[i]? = xs[i]?)->Runs ys st l e
 | [],st,e,h,_=>h
 | (a,n,p) :: l,st,e,h,he=>by
  have:=Runs.len h.2.2.2
  exact ⟨h.1,h.2.1,h.2.2.1.congr fun i h1 h2=>he i h1 (by omega),Runs.congr h.2.2.2 fun i h1 h2=>he i (by omega) h2⟩
theorem Runs.pw {xs:Array Keyed}:∀ {l m:List Pd} {st e:Nat},Runs xs st l e->l.map (fun x=>(x.1,x.2.1)) = m.map (fun x=>(x.1,x.2.1))->Runs xs st m e
 | [],[],st,e,h,_=>h
 | [],_ :: _,st,e,_,hm=>by simp at hm
 | _ :: _,[],st,e,_,hm=>by simp at hm
 | (a,n,p) :: l,(a',n',p') :: m,st,e,h,hm=>by
  simp only [map_cons,List.cons.injEq,Prod.mk.injEq] at hm
  obtain ⟨⟨rfl,rfl⟩,hm⟩:=hm
  exact ⟨h.1,h.2.1,h.2.2.1,Runs.pw h.2.2.2 hm⟩
structure PI (a0:Array Keyed) (st:SortSt) (e:Nat):Prop where
 kind:kindOf st = oneType'
 failed:failedOf st = none
 perm:(arrOf st).Perm a0
 runs:Runs (arrOf st) 0 (pendingOf st).toList e
 le:e<=a0.size
end TS
namespace FT
open PySem PySem.Spec PyProof.Rows L2
section
variable {X:Cx} {XE:XK}
noncomputable def zlo (xs:List T) (k:Nat) (t:T):List T:=xs.take k ++ t :: xs.drop k
end
end FT
namespace TK
open PySem
theorem zc0 (s:Shared) (g:Nat) (x:GenState):(s.setGen g x).toks = s.toks:=rfl
variable {M:Model} {s s':Shared}
theorem zax {Γ:Ctx} {p:Pos} {t:Sem Fin} {fs:List Frame} {e:End} (h:Runs M Γ p t fs s e s'):s.toks<=s'.toks:=by
 induction h
 all_goals (try simp only [zc0] at *)
 all_goals (try dsimp only at *)
 all_goals omega
theorem zdu {Γ:Ctx} {p:Pos} {g:Nat} {r:Resume} {res:GenResult} (h:Wakes M Γ p g r s res s'):s.toks<=s'.toks:=by
 unfold Wakes at h
 split at h
 ·exact h.elim
 ·split at h
  ·obtain ⟨e,s1,h1,_,_,rfl⟩:=h
   exact zax (s:=s.setGen g .running) (s':=s1) h1
  ·rw [h.2];exact Q3 _
  ·rw [h.2];exact Q3 _
 ·obtain ⟨e,s1,h1,_,_,rfl⟩:=h
  exact zax (s:=s.setGen g .running) (s':=s1) h1
 ·rw [h.2];exact Q3 _
 ·rw [h.2];exact Q3 _
theorem wp_toks {α:Type} {Γ:Ctx} (t:Sem α):∀ {Q:α->Pos->Shared->Prop} {E:Value->Pos->Shared->Prop} {p:Pos} {s:Shared} {n:Nat},n<=s.toks->Sem.wp M Γ t Q E p s->
  Sem.wp M Γ t (fun a p' s'=>Q a p' s'/\n<=s'.toks) (fun e p' s'=>E e p' s'/\n<=s'.toks) p s:=by
 induction t with
 | pure a=>intro Q E p s n hn h;exact ⟨h,hn⟩
 | raise e=>intro Q E p s n hn h;exact ⟨h,hn⟩
 | unsupported w=>intro Q E p s n hn h;exact h
 | finish e=>intro Q E p s n hn h;exact h
 | rule t k ih=>intro Q E p s n hn h;exact ih _ hn h
 | «at» p' k ih=>intro Q E p s n hn h;exact ih _ hn h
 | load a pt k ih=>intro Q E p s n hn h;obtain ⟨o,h1,h2⟩:=h;exact ⟨o,h1,ih _ hn h2⟩
 | update a pt f k ih=>intro Q E p s n hn h;exact ⟨h.1,ih _ (by exact hn) h.2⟩
 | alloc o k ih=>intro Q E p s n hn h;exact ih _ (by exact hn) h
 | loadIfAlive a k ih=>intro Q E p s n hn h;exact ih _ hn h
 | point l k ih=>intro Q E p s n hn h;exact ih _ hn h
 | register a k ih=>intro Q E p s n hn h;exact h
 | fresh k ih=>intro Q E p s n hn h;exact ih _ (show n<=s.toks + 1 by omega) h
 | ask k ih=>intro Q E p s n hn h;exact ih _ hn h
 | choose src m k ih=>intro Q E p s n hn h;exact ⟨h.1,ih _ (by exact hn) h.2⟩
 | os q l k ih=>intro Q E p s n hn h;exact ih _ (by exact hn) h
 | call c hd g l k ih=>
  intro Q E p s n hn h
  obtain ⟨r,s',h1,h2⟩:=h
  exact ⟨r,s',h1,ih _ (Qh hn (zax h1)) h2⟩
 | handled own k ih=>intro Q E p s n hn h;exact ih _ hn h
 | newGen c k ih=>intro Q E p s n hn h;exact ih _ (by exact hn) h
 | genState g k ih=>intro Q E p s n hn h;obtain ⟨st,h1,h2⟩:=h;exact ⟨st,h1,ih _ hn h2⟩
 | resume g r l k ih=>intro Q E p s n hn h;obtain ⟨res,s',h1,h2⟩:=h;exact ⟨res,s',h1,ih _ (Qh hn (zdu h1)) h2⟩
 | yield v g l k ih=>intro Q E p s n hn h;exact h
 | stack k ih=>intro Q E p s n hn h;exact ih _ hn h
 | fork c k ih=>intro Q E p s n hn h;exact h
 | thread k ih=>intro Q E p s n hn h;exact ih _ hn h
 | await a tk d l k ih=>intro Q E p s n hn h;exact h
theorem wpAny_toks {α:Type} {A:Around} {t:Sem α} {Q:α->Shared->Prop} {E:Value->Shared->Prop} (h:wpAny M A t Q E s):wpAny M A t (fun a s'=>Q a s'/\s.toks<=s'.toks) E s:=by
 intro Γ p hΓ
 exact Sem.wp_mono _ _ _ (fun a p' s' z=>z) (fun e p' s' z=>z.1) _ _ (wp_toks t (Q3 _) (h Γ p hΓ))
end TK
namespace L2
open PySem PySem.Spec PySem.W PyProof.Rows
def PEp (X:Cx) (e:Expr) (t:TE):Prop:=
 ∀ (pins:List (Addr × Obj)) (s:Shared) (σ:St) (H:Hp) (Q:VK),Inv X pins σ H s->0 < s.toks->t σ H Q->wpAny (model X.prog X.w) X.A (eval e X.env) (EP X pins σ Q) X.xe s
def PEd (X:Cx) (e:Expr) (t:TE):Prop:=
 ∀ (pins:List (Addr × Obj)) (s:Shared) (σ:St) (H:Hp) (Q:VK),Inv X pins σ H s->t σ H Q->wpAny (model X.prog X.w) X.A (eval e X.env) (fun v s'=>EP X pins σ Q v s'/\0 < s'.toks) X.xe s
def PAp (X:Cx) (es:List Expr) (t:TA):Prop:=
 ∀ (pos:Pos) (pins:List (Addr × Obj)) (s:Shared) (σ:St) (H:Hp) (Q:List V->Hp->Prop),Inv X pins σ H s->0 < s.toks->t σ H Q->wpAny (model X.prog X.w) X.A (spliced (backTo pos (starEach es X.env))) (AP X pins σ Q) X.xe s
variable {p2:Pos}
section
variable {X:Cx} {e:Expr} {es:List Expr} {te:TE} {t:TA}
theorem PE.p (h:PE X e te):PEp X e te:=fun pins s σ H Q I _ q=>h pins s σ H Q I q
theorem PA.p (h:PA X es t):PAp X es t:=fun pos pins s σ H Q I _ q=>h pos pins s σ H Q I q
theorem zcq (ha:PEp X e te) (hr:PAp X es t) (hs:starEach (e :: es) X.env = (false,eval e X.env) :: starEach es X.env:=by rfl):PAp X (e :: es) (zbY te t):=by
 intro pos pins s σ H Q I ht h
 rw [hs]
 show wpAny _ _ (spliced ((false,eval e X.env) :: backTo pos (starEach es X.env))) _ _ s
 refine Calls.spliced_cons (thn (TK.wpAny_toks (ha pins s σ H _ I ht h)) fun u s1 ⟨⟨x,H1,I1,r1,q1⟩,hl⟩=>?_)
 exact thn (hr pos pins s1 σ H1 _ I1 (Q5 ht hl) q1) fun us s2 ⟨xs,H2,I2,r2,q2⟩=>⟨x :: xs,H2,I2,.cons r1 r2,q2⟩
theorem zfD (ha:PEd X e te) (hr:PAp X es t) (hs:starEach (e :: es) X.env = (false,eval e X.env) :: starEach es X.env:=by rfl):PA X (e :: es) (zbY te t):=by
 intro pos pins s σ H Q I h
 rw [hs]
 show wpAny _ _ (spliced ((false,eval e X.env) :: backTo pos (starEach es X.env))) _ _ s
 refine Calls.spliced_cons (thn (ha pins s σ H _ I h) fun u s1 ⟨⟨x,H1,I1,r1,q1⟩,hl⟩=>?_)
 exact thn (hr pos pins s1 σ H1 _ I1 hl q1) fun us s2 ⟨xs,H2,I2,r2,q2⟩=>⟨x :: xs,H2,I2,.cons r1 r2,q2⟩
theorem ziq {op:Operator} {r:R2} {a:Expr} {ta:TE} {x:Str} {j:Nat} {pos:Pos} (ho:OpR X (binaryOp op) r) (ha:PE X a ta):PEd X (.BinOp a op (.Constant (.str x) j p2) pos) (tOp r ta (tC (.str x))):=by
 intro pins s σ H Q I h
 refine wpAny_BinOp (thn (ha pins s σ H _ I h) fun v s1 ⟨y,H1,I1,r1,q1⟩=>Calls.Constant_str ?_)
 exact thn (TK.wpAny_toks (ho pins _ σ H1 y (.str x) v _ Q (I1.tok _) r1 ⟨_,rfl⟩ q1)) fun u s2 ⟨z,hl⟩=>⟨z,Q5 (Nat.succ_pos _) hl⟩
noncomputable def zjv (y z:Str) (te:TE):TE:=fun σ H Q=>te σ H fun v H1=>∃ x,v = .str x/\x.length + (x.length + 1) * z.length<=16777216/\Q (.str (Txt.replace x y z)) H1
theorem zfy {o:Expr} {y z:Str} {j1 j2:Nat} {p1 apos cpos:Pos} (ho:PE X o te) (hyz:(y == z) = false)
 (hbase:attributeBase o "replace" X.env (eval o X.env) = eval o X.env:=by rfl)
 (hfew:((backTo cpos (starEach [.Constant (.str y) j1 p1,.Constant (.str z) j2 p2] X.env)).all (fun x=>!x.1) && (backToKw cpos (keywordEach [] X.env)).all (fun x=>x.1.isSome)
 && decide ([Expr.Constant (.str y) j1 p1,.Constant (.str z) j2 p2].length + ([]:List Keyword).length + (if ([]:List Keyword).isEmpty then 0 else 1) < 30)) = true:=by rfl)
 (hline:(apos.endLine == cpos.line) = true:=by rfl) :
  PEp X (.Call (.Attribute o "replace" apos) [.Constant (.str y) j1 p1,.Constant (.str z) j2 p2] [] cpos) (zjv y z te):=by
 intro pins s σ H Q I ht h
 refine wpAny_Call_method_late hbase hfew hline rfl (thn (TK.wpAny_toks (ho pins s σ H _ I h)) fun v s1 ⟨⟨xv,H1,I1,r1,q1⟩,hl⟩=>?_)
 obtain ⟨x,rfl,hb,q⟩:=q1
 obtain ⟨tk,rfl⟩:=r1
 have hp:0 < s1.toks:=Q5 ht hl
 refine ⟨"str","str.replace",PySem.F.plainAttrs_str,PySem.F.slot_str_replace,PySem.F.type_str_replace,typeIs_str _ _ _,(fun _ e=>by cases e),?_⟩
 refine Calls.callWith_builtin rfl (Calls.evalArgs_plain (Calls.spliced_cons (Calls.Constant_str (k:=j1) (pos:=p1) (Calls.spliced_cons ?_))))
 refine (show wpAny _ _ (eval (.Constant (.str z) j2 p2) X.env) _ _ _ from Calls.Constant_str (Calls.spliced_nil ?_))
 refine SC.replace (show s1.toks ≠ 0 by omega) (by show s1.toks + 1 ≠ 0;omega) (by show s1.toks ≠ s1.toks + 1;omega) hyz hb fun t' k=>?_
 exact ⟨.str _,H1,I1.kept (t':=k) fun b o e=>e,⟨_,rfl⟩,q⟩
noncomputable def rUp:V->List V->Hp->VK->Prop:=fun x vs H Q=>∃ z,x = .str z/\vs = []/\Builtin.Str.tooLong (Txt.upper z).length = false/\Q (.str (Txt.upper z)) H
theorem zjP:MtR X "str.upper" rUp:=by
 intro pins s σ H x xs v us Q I rx rs h
 obtain ⟨z,rfl,rfl,hz,q⟩:=h
 obtain ⟨tk,rfl⟩:=rx
 cases rs
 exact SC.upper hz ⟨.str _,H,I.tok _,⟨_,rfl⟩,q⟩
end
end L2
namespace FT
open PySem PySem.Spec PyProof.Rows L2
def GAp (X:Cx) (XE:XK) (es:List Expr) (f:Ev->Mem->Out (List T)):Prop:=PAp X es (lA XE X.K f)
noncomputable def zak (y z:Str):T->Mem->Out T:=fun x M=>match x with
 | .str a=>if a.length + (a.length + 1) * z.length<=16777216 then .ok (.str (Txt.replace a y z)) M else .bad
 | _=>.bad
noncomputable def upT:T->Mem->Out T:=fun x M=>match x with
 | .str a=>if Builtin.Str.tooLong (Txt.upper a).length = false then .ok (.str (Txt.upper a)) M else .bad
 | _=>.bad
variable {X:Cx} {ga:Ev->Mem->Out (List T)} {f:Ev->Mem->Out T} {e o:Expr} {es:List Expr} {apos cpos p2:Pos} {x y z:Str} {XE:XK}
section
theorem PAp.imp {e:List Expr} {t t':TA} (h:PAp X e t) (i:∀ σ H Q,t' σ H Q->t σ H Q):PAp X e t':=fun pos pins s σ H Q I ht q=>h pos pins s σ H Q I ht (i σ H Q q)
theorem PEp.imp {t t':TE} (h:PEp X e t) (i:∀ σ H Q,t' σ H Q->t σ H Q):PEp X e t':=fun pins s σ H Q I ht q=>h pins s σ H Q I ht (i σ H Q q)
theorem za1 {σ:L2.St} {H:Hp} {Q:List V->Hp->Prop} (h:lA XE X.K (qa f ga) σ H Q):zbY (lE XE X.K f) (lA XE X.K ga) σ H Q:=
 LN.mono (LN.bind (f:=fun _ σ M=>f σ M) (k:=fun _ x σ M1=>(ga σ M1).bind fun xs M2=>.ok (x :: xs) M2) (RB:=Rep X.K) h) fun v H1 h1=>
  LN.mono (LN.env (f:=ga) (LN.bind (f:=fun _ σ M=>ga σ M) (k:=fun (ax:Unit × T) ys σ M2=>.ok (ax.2 :: ys) M2) (RB:=Reps X.K) h1)) fun w H2 h2=>by
   obtain ⟨S,στ,a,e,m,ev,ra,fin⟩:=h2
   show Q (v :: w) H2
   rw [← e]
   exact fin S _ rfl (.refl m) (Reps.cons ra.1.2 ra.2)
theorem zjh (h:GA X XE es ga):GAp X XE es ga:=PA.p h
theorem zcC (ha:GE X XE e f) (hr:GAp X XE es ga) (hs:noStar e = true:=by rfl):GAp X XE (e :: es) (qa f ga):=PAp.imp (zcq (PE.p ha) hr (zr hs)) fun _ _ _ h=>za1 h
theorem zeR (ha:PEp X e (lE XE X.K f)) (hr:GAp X XE es ga) (hs:noStar e = true:=by rfl):GAp X XE (e :: es) (qa f ga):=PAp.imp (zcq ha hr (zr hs)) fun _ _ _ h=>za1 h
theorem zfV {j1 j2:Nat} {p1:Pos} (ho:GE X XE o f) (hyz:(y == z) = false)
 (hbase:attributeBase o "replace" X.env (eval o X.env) = eval o X.env:=by rfl)
 (hfew:((backTo cpos (starEach [.Constant (.str y) j1 p1,.Constant (.str z) j2 p2] X.env)).all (fun x=>!x.1) && (backToKw cpos (keywordEach [] X.env)).all (fun x=>x.1.isSome)
 && decide ([Expr.Constant (.str y) j1 p1,.Constant (.str z) j2 p2].length + ([]:List Keyword).length + (if ([]:List Keyword).isEmpty then 0 else 1) < 30)) = true:=by rfl)
 (hline:(apos.endLine == cpos.line) = true:=by rfl) :
  PEp X (.Call (.Attribute o "replace" apos) [.Constant (.str y) j1 p1,.Constant (.str z) j2 p2] [] cpos) (lE XE X.K (eUn (zak y z) f)):=PEp.imp (zfy ho hyz hbase hfew hline) fun σ H Q h=>
 LN.mono (LN.bind (f:=fun _ σ M=>f σ M) (k:=fun _ x σ M1=>zak y z x M1) (RB:=Rep X.K) h) fun v H1 h2=>by
  obtain ⟨S,στ,a,e,m,ev,ra,fin⟩:=h2
  have r:Rep X.K S a.2 v:=ra.2
  replace fin:Fin XE (Rep X.K) X.K S (zak y z a.2 S.M) Q:=fin
  generalize a.2 = t at r fin
  cases r with
  | str x=>
   unfold zak at fin
   simp only at fin
   split at fin
   ·rename_i hb
    exact ⟨x,rfl,hb,by rw [← e];exact fin S _ rfl (.refl m) (.str _)⟩
   ·exact fin.elim
  | _=>exact fin.elim
theorem zg2 {op:Operator} {o:T->T->Mem->Out T} {a:Expr} {j:Nat} {pos:Pos} (ho:OpR X (binaryOp op) (lR2 XE X.K o)) (ha:GE X XE a f):PEd X (.BinOp a op (.Constant (.str x) j p2) pos) (lE XE X.K (eOp o f (eC (.str x)))):=by
 intro pins s σ H Q I h
 refine ziq ho ha pins s σ H Q I (LN.mono (zbj h) fun v H1 h1=>?_)
 obtain ⟨S,στ,a,e,m,ev,ra,fin⟩:=h1
 show lR2 XE X.K o v (.str x) H1 Q
 rw [← e]
 exact fin S _ rfl (.refl m) (.str _)
end
variable {n:Nat}
theorem zkC {K:Frag} {a:Addr} {t u v:Tok} {sl:Array (Option Value)} (h:K.lookup a = some ⟨.type "tuple",none,.seq #[.str x t,.str y u,.str z v] n,sl⟩):KTu K a [.str x,.str y,.str z]:=
 ⟨_,_,_,h,rfl,rfl,rfl,by rw [sizeLine_eq];exact Nat.le_of_ble_eq_true rfl,.cons ⟨_,rfl⟩ (.cons ⟨_,rfl⟩ (.cons ⟨_,rfl⟩ .nil))⟩
section
theorem zef (ha:PEd X e (lE XE X.K f)) (hr:GAp X XE es ga) (hs:noStar e = true:=by rfl):WA X XE (e :: es) (qa f ga):=⟨PA.imp (zfD ha hr (zr hs)) fun _ _ _ h=>za1 h⟩
theorem zhW (ho:WE X XE o f) (hbase:attributeBase o "upper" X.env (eval o X.env) = eval o X.env:=by rfl) (hline:(apos.endLine == cpos.line) = true:=by rfl):WE X XE (.Call (.Attribute o "upper" apos) [] [] cpos) (eUn upT f):=by
 have ho:=ho.pe
 exact ⟨PE.imp (ziy PySem.F.plainAttrs_str PySem.F.slot_str_upper PySem.F.type_str_upper zjP ho hbase hline) fun σ H Q h=>
  LN.mono (LN.bind (f:=fun _ σ M=>f σ M) (k:=fun _ x σ M1=>upT x M1) (RB:=Rep X.K) h) fun v H1 h2=>by
   obtain ⟨S,στ,a,e,m,ev,ra,fin⟩:=h2
   have r:Rep X.K S a.2 v:=ra.2
   replace fin:Fin XE (Rep X.K) X.K S (upT a.2 S.M) Q:=fin
   generalize a.2 = t at r fin
   cases r with
   | str x=>
    unfold upT at fin
    simp only at fin
    split at fin
    ·rename_i hb
     exact ⟨rfl,x,rfl,rfl,hb,by rw [← e];exact fin S _ rfl (.refl m) (.str _)⟩
    ·exact fin.elim
   | _=>exact fin.elim⟩
end
def Ok {β:Type} (o:Out β) (Q:β->Mem->Prop):Prop:=∃ b M,o = .ok b M/\Q b M
variable {M:Mem}
theorem Ok.ret {β:Type} {b:β} {Q:β->Mem->Prop} (h:Q b M):Ok (.ok b M) Q:=⟨b,M,rfl,h⟩
theorem Ok.of {β:Type} {o:Out β} {b:β} {Q:β->Mem->Prop} (e:o = .ok b M) (h:Q b M):Ok o Q:=⟨b,M,e,h⟩
theorem Ok.bind {β γ:Type} {o:Out β} {k:β->Mem->Out γ} {P:β->Mem->Prop} {Q:γ->Mem->Prop} (h:Ok o P) (g:∀ b M,P b M->Ok (k b M) Q):Ok (o.bind k) Q:=by
 obtain ⟨b,M,e,p⟩:=h
 rw [e]
 exact g b M p
theorem Ok.mono {β:Type} {o:Out β} {P Q:β->Mem->Prop} (h:Ok o P) (g:∀ b M,P b M->Q b M):Ok o Q:=by
 obtain ⟨b,M,e,p⟩:=h
 exact ⟨b,M,e,g b M p⟩
theorem zkN {β γ δ:Type} {o:Out β} {k:β->Mem->Out γ} {l:γ->Mem->Out δ}:(o.bind k).bind l = o.bind fun b M=>(k b M).bind l:=by cases o <;> rfl
theorem zkL {β γ:Type} {p:Prop} [Decidable p] {x y:Out β} {k:β->Mem->Out γ}:(if p then x else y).bind k = if p then x.bind k else y.bind k:=by split <;> rfl
variable {t:T}
theorem zkK {β γ:Type} {k:Bool->Mem->Out β} {l:β->Mem->Out γ}:(blT t M k).bind l = blT t M fun b M=>(k b M).bind l:=by cases t <;> rfl
noncomputable def zbp (fl:Fl) (M:Mem):Out T:=match fl with
 | .rt t=>.ok t M
 | .nx _=>.ok .non M
 | _=>.bad
theorem zkS:zbp (.rt t) M = .ok t M:=rfl
variable {σ:Ev}
theorem zkT:zbp (.nx σ) M = .ok .non M:=rfl
variable {g:Ev->Mem->Out Fl} {ts:List T} {Q:T->Mem->Prop}
theorem yG {p:Nat} (h:ts.length = p) (k:Ok ((g (startT n ts) M).bind zbp) Q):Ok (qh p n g ts M) Q:=by
 obtain ⟨b,M1,e,q⟩:=k
 refine ⟨b,M1,?_,q⟩
 rw [zet h]
 cases r:g (startT n ts) M with
 | bad=>rw [r] at e;cases e
 | exn C fs M'=>rw [r] at e;cases e
 | ok fl M'=>
  rw [r] at e
  cases fl with
  | rt t=>exact e
  | nx σ=>exact e
  | bk σ=>cases e
  | ct σ=>cases e
def Fr (S:List Nat) (M M':Mem):Prop:=M.length<=M'.length/\∀ i,i < M.length->i ∉ S->M'[i]? = M[i]?
variable {A B:Mem}
theorem Fr.trans {S:List Nat} {C:Mem} (h:Fr S A B) (g:Fr S B C):Fr S A C:=⟨Qh h.1 g.1,fun i hi hs=>by rw [g.2 i (Q5 hi h.1) hs,h.2 i hi hs]⟩
variable {S':List Nat}
theorem Fr.tr {S:List Nat} {C:Mem} (h:Fr S A B) (g:Fr S' B C) (s:∀ i ∈ S',i ∈ S\/A.length<=i):Fr S A C:=⟨Qh h.1 g.1,fun i hi hs=>by
 rw [g.2 i (Q5 hi h.1) (fun z=>by rcases s i z with a | a;exact hs a;omega),h.2 i hi hs]⟩
variable {c:Cell} {M':Mem} {i:Nat}
theorem Fr.get {S:List Nat} (h:Fr S M M') (e:M[i]? = some c) (hs:i ∉ S):M'[i]? = some c:=by
 rw [h.2 i (List.getElem?_eq_some_iff.mp e).1 hs];exact e
theorem Fr.sub {S:List Nat} (h:Fr S M M') (s:∀ i ∈ S,i ∈ S'\/M.length<=i):Fr S' M M':=⟨h.1,fun i hi hs=>h.2 i hi fun z=>by
 rcases s i z with a | a
 ·exact hs a
 ·omega⟩
theorem Fr.app (M:Mem) (l:List Cell):Fr [] M (M ++ l):=⟨by simp,fun i hi _=>by rw [Q6 hi]⟩
theorem Fr.set (M:Mem) (a:Nat) (c:Cell):Fr [a] M (M.set a c):=⟨by simp,fun i _ hs=>by rw [getElem?_set,if_neg (by simp at hs;omega)]⟩
theorem zjb (e:M[i]? = some c):i < M.length:=(List.getElem?_eq_some_iff.mp e).1
theorem zbv:(M ++ [c])[M.length]? = some c:=List.getElem?_concat_length
theorem get_set {a:Nat} {c':Cell} (e:M[a]? = some c):(M.set a c')[a]? = some c':=by
 rw [getElem?_set,if_pos rfl,if_pos (zjb e)]
theorem Ok.loop {bd:T->Ev->Mem->Out Ev} {body:Ev->Mem->Out Fl} {α:Type} {r:α->T} (P:Nat->Ev->Mem->Prop) {R:T->Mem->Prop}:∀ (xs:List α) (i:Nat) {σ:Ev} {M:Mem},
  P i σ M->(∀ (k:Nat) x σ M,xs[k]? = some x->P (i + k) σ M->Ok ((bd (r x) σ M).bind fun σ1 M1=>body σ1 M1) fun fl M'=>(∃ σ',(fl = .nx σ'\/fl = .ct σ')/\P (i + k + 1) σ' M')\/(∃ σ',fl = .bk σ'/\P (i + xs.length) σ' M')\/∃ t,fl = .rt t/\R t M')->
  Ok (forL bd body (xs.map r) σ M) fun fl M'=>(∃ σ',fl = .nx σ'/\P (i + xs.length) σ' M')\/∃ t,fl = .rt t/\R t M'
 | [],i,σ,M,h,_=>⟨.nx σ,M,rfl,.inl ⟨σ,rfl,h⟩⟩
 | x :: xs,i,σ,M,h,t=>by
  obtain ⟨fl,M1,e1,h1⟩:=t 0 x σ M rfl h
  rw [map_cons,zeT]
  cases q:bd (r x) σ M with
  | bad=>rw [q] at e1;cases e1
  | exn C fs M'=>rw [q] at e1;cases e1
  | ok σ3 M3=>
   rw [q] at e1
   replace e1:body σ3 M3 = .ok fl M1:=e1
   show Ok ((body σ3 M3).bind (qv (forL bd body (xs.map r)))) _
   rw [e1]
   have go:∀ σ1,P (i + 1) σ1 M1->Ok (forL bd body (xs.map r) σ1 M1) fun fl M'=>(∃ σ',fl = .nx σ'/\P (i + (x :: xs).length) σ' M')\/∃ t,fl = .rt t/\R t M':=fun σ1 h1=>by
    have ih:=Ok.loop (R:=R) P xs (i + 1) (bd:=bd) (body:=body) h1 (fun k y σ M hk hp=>by
     have:=t (k + 1) y σ M (by simpa using hk) (by rw [show i + (k + 1) = i + 1 + k by omega];exact hp)
     rw [show i + (k + 1) + 1 = i + 1 + k + 1 by omega,Qn,show i + (xs.length + 1) = i + 1 + xs.length by omega] at this
     exact this)
    rw [Qn,show i + (xs.length + 1) = i + 1 + xs.length by omega]
    exact ih
   rcases h1 with ⟨σ1,h1 | h1,h2⟩ | ⟨σ1,h1,h2⟩ | ⟨u,h1,h2⟩
   ·rw [h1];exact go σ1 h2
   ·rw [h1];exact go σ1 h2
   ·rw [h1];exact ⟨.nx σ1,M1,rfl,.inl ⟨σ1,rfl,h2⟩⟩
   ·rw [h1];exact ⟨.rt u,M1,rfl,.inr ⟨u,rfl,h2⟩⟩
variable {body:Ev->Mem->Out Fl} {bd:T->Ev->Mem->Out Ev}
theorem Ok.for {α:Type} {r:α->T} (P:Nat->Ev->Mem->Prop) {xs:List α} 
 (h:P 0 σ M) (t:∀ (k:Nat) x σ M,xs[k]? = some x->P k σ M->Ok ((bd (r x) σ M).bind fun σ1 M1=>body σ1 M1) fun fl M'=>∃ σ',fl = .nx σ'/\P (k + 1) σ' M') :
  Ok (forL bd body (xs.map r) σ M) fun fl M'=>∃ σ',fl = .nx σ'/\P xs.length σ' M':=by
 refine (Ok.loop (R:=fun _ _=>False) P xs 0 h (fun k x σ M hk hp=>?_)).mono ?_
 ·rw [Nat.zero_add] at hp
  refine (t k x σ M hk hp).mono ?_
  rintro fl M' ⟨σ',e,q⟩
  exact .inl ⟨σ',.inl e,by rw [Nat.zero_add];exact q⟩
 ·rintro fl M' (⟨σ',e,q⟩ | ⟨t,_,f⟩)
  ·exact ⟨σ',e,by rw [Nat.zero_add] at q;exact q⟩
  ·exact f.elim
theorem Ok.comp {bd:T->Ev->Mem->Out Ev} {cond:Ev->Mem->Out Bool} {el:Ev->Mem->Out T} {α:Type} {r:α->T} (P:Nat->List T->Ev->Mem->Prop):∀ (xs:List α) {σ:Ev} {M:Mem} (i:Nat) (acc:List T),
  P i acc σ M->acc.length + xs.length<=sizeLine->(∀ (k:Nat) x σ M acc,xs[k]? = some x->P (i + k) acc σ M->Ok ((bd (r x) σ M).bind fun σ1 M1=>(cond σ1 M1).bind fun b M2=>if b = true then (el σ1 M2).bind fun t M3=>.ok (some t,σ1) M3 else .ok (none,σ1) M2) fun o M'=>P (i + k + 1) (match o.1 with | some t=>acc ++ [t] | none=>acc) o.2 M')->
  Ok (qg bd cond el (xs.map r) σ M acc) fun ts M'=>∃ σ',P (i + xs.length) ts σ' M'
 | [],σ,M,i,acc,h,_,_=>⟨acc,M,by simp [qg],σ,h⟩
 | x :: xs,σ,M,i,acc,h,hl,t=>by
  obtain ⟨o,M1,e1,h1⟩:=t 0 x σ M acc rfl h
  rw [Qn] at hl
  rw [map_cons]
  unfold qg
  have go:∀ acc σ1 M1,acc.length + xs.length<=sizeLine->P (i + 1) acc σ1 M1->Ok (qg bd cond el (xs.map r) σ1 M1 acc) fun ts M'=>∃ σ',P (i + (x :: xs).length) ts σ' M':=fun acc σ1 M1 hl h1=>by
   have ih:=Ok.comp P xs (i + 1) acc (bd:=bd) (cond:=cond) (el:=el) h1 hl (fun k y σ M acc hk hp=>by
    have:=t (k + 1) y σ M acc (by simpa using hk) (by rw [show i + (k + 1) = i + 1 + k by omega];exact hp)
    rw [show i + (k + 1) + 1 = i + 1 + k + 1 by omega] at this
    exact this)
   rw [Qn,show i + (xs.length + 1) = i + 1 + xs.length by omega]
   exact ih
  cases q:bd (r x) σ M with
  | bad=>rw [q] at e1;cases e1
  | exn C fs M'=>rw [q] at e1;cases e1
  | ok σ3 M3=>
   rw [q] at e1
   replace e1:((cond σ3 M3).bind fun b M2=>if b = true then (el σ3 M2).bind fun t M3=>.ok (some t,σ3) M3 else .ok (none,σ3) M2) = .ok o M1:=e1
   show Ok ((cond σ3 M3).bind _) _
   cases q2:cond σ3 M3 with
   | bad=>rw [q2] at e1;cases e1
   | exn C fs M'=>rw [q2] at e1;cases e1
   | ok b M4=>
    rw [q2] at e1
    cases b with
    | false=>
     replace e1:(Out.ok (none,σ3) M4:Out (Option T × Ev)) = .ok o M1:=e1
     cases e1
     exact go acc σ3 _ (by omega) h1
    | true=>
     replace e1:((el σ3 M4).bind fun t M3=>.ok (some t,σ3) M3) = .ok o M1:=e1
     show Ok ((el σ3 M4).bind _) _
     cases q3:el σ3 M4 with
     | bad=>rw [q3] at e1;cases e1
     | exn C fs M'=>rw [q3] at e1;cases e1
     | ok u M5=>
      rw [q3] at e1
      replace e1:(Out.ok (some u,σ3) M5:Out (Option T × Ev)) = .ok o M1:=e1
      cases e1
      show Ok (if acc.length < sizeLine then _ else _) _
      rw [if_pos (by omega)]
      exact go (acc ++ [u]) σ3 _ (by rw [Ql,Qn,length_nil];omega) h1
theorem Ok.whileN {c:Ev->Mem->Out Bool} {body:Ev->Mem->Out Fl} (P:Ev->Mem->Prop) (μ:Ev->Mem->Nat) {Q:Ev->Mem->Prop} {R:T->Mem->Prop}
  (t:∀ σ M,P σ M->Ok (c σ M) fun b M1=>(b = true/\Ok (body σ M1) fun fl M2=>(∃ σ',(fl = .nx σ'\/fl = .ct σ')/\P σ' M2/\μ σ' M2 < μ σ M)\/(∃ σ',fl = .bk σ'/\Q σ' M2)\/∃ t,fl = .rt t/\R t M2)\/(b = false/\Q σ M1)) :
  ∀ (n:Nat) (σ:Ev) (M:Mem),μ σ M < n->P σ M->Ok (whileN c body n σ M) fun fl M'=>(∃ σ',fl = .nx σ'/\Q σ' M')\/∃ t,fl = .rt t/\R t M'
 | 0,_,_,hn,_=>absurd hn (by omega)
 | n + 1,σ,M,hn,h=>by
  obtain ⟨b,M1,e,r⟩:=t σ M h
  unfold FT.whileN
  rw [e]
  rcases r with ⟨rfl,fl,M2,e2,r⟩ | ⟨rfl,q⟩
  ·show Ok ((body σ M1).bind _) _
   rw [e2]
   rcases r with ⟨σ1,h1 | h1,h2,h3⟩ | ⟨σ1,h1,h2⟩ | ⟨u,h1,h2⟩
   ·rw [h1];exact Ok.whileN P μ t n σ1 M2 (by omega) h2
   ·rw [h1];exact Ok.whileN P μ t n σ1 M2 (by omega) h2
   ·rw [h1];exact ⟨.nx σ1,M2,rfl,.inl ⟨σ1,rfl,h2⟩⟩
   ·rw [h1];exact ⟨.rt u,M2,rfl,.inr ⟨u,rfl,h2⟩⟩
  ·exact ⟨.nx σ,M1,rfl,.inl ⟨σ,rfl,q⟩⟩
theorem Ok.while {c:Ev->Mem->Out Bool} (P:Ev->Mem->Prop) (μ:Ev->Mem->Nat) {Q:Ev->Mem->Prop} {R:T->Mem->Prop} (h:P σ M)
 (t:∀ σ M,P σ M->Ok (c σ M) fun b M1=>(b = true/\Ok (body σ M1) fun fl M2=>(∃ σ',(fl = .nx σ'\/fl = .ct σ')/\P σ' M2/\μ σ' M2 < μ σ M)\/(∃ σ',fl = .bk σ'/\Q σ' M2)\/∃ t,fl = .rt t/\R t M2)\/(b = false/\Q σ M1)) :
  Ok (qN c body σ M) fun fl M'=>(∃ σ',fl = .nx σ'/\Q σ' M')\/∃ t,fl = .rt t/\R t M':=by
 obtain ⟨fl,M',e,r⟩:=Ok.whileN P μ t (μ σ M + 1) σ M (by omega) h
 exact ⟨fl,M',zes _ e (by simp),r⟩
variable {el:Ev->Mem->Out T}
theorem Ok.filt {cond:Ev->Mem->Out Bool} {α:Type} {r:α->T} (I:Ev->Prop) (c:α->Bool) (f:α->T) {xs:List α} (h:I σ) (hl:xs.length<=1000000)
 (t:∀ x σ,x ∈ xs->I σ->∃ σ1,bd (r x) σ M = .ok σ1 M/\I σ1/\cond σ1 M = .ok (c x) M/\(c x = true->el σ1 M = .ok (f x) M)):qg bd cond el (xs.map r) σ M [] = .ok ((xs.filter c).map f) M:=by
 have key:∀ (xs:List α) (σ:Ev) (acc:List T),(∀ x σ,x ∈ xs->I σ->∃ σ1,bd (r x) σ M = .ok σ1 M/\I σ1/\cond σ1 M = .ok (c x) M/\(c x = true->el σ1 M = .ok (f x) M))->I σ->acc.length + xs.length<=sizeLine->qg bd cond el (xs.map r) σ M acc = .ok (acc ++ (xs.filter c).map f) M:=by
  intro xs
  induction xs with
  | nil=>intro σ acc _ _ _;simp [qg]
  | cons x xs ih=>
   intro σ acc t h hl
   obtain ⟨σ1,e1,h1,e2,e3⟩:=t x σ (.head _) h
   rw [Qn] at hl
   rw [map_cons]
   unfold qg
   rw [e1]
   show ((cond σ1 M).bind _) = _
   rw [e2]
   cases hc:c x with
   | true=>
    have ih:=ih σ1 (acc ++ [f x]) (fun y σ hy=>t y σ (.tail _ hy)) h1 (by rw [Ql,Qn,length_nil];omega)
    show ((el σ1 M).bind _) = _
    rw [e3 hc]
    show (if acc.length < sizeLine then qg bd cond el (xs.map r) σ1 M (acc ++ [f x]) else .bad) = _
    rw [if_pos (by omega),ih,List.filter_cons_of_pos hc]
    simp
   | false=>
    have ih:=ih σ1 acc (fun y σ hy=>t y σ (.tail _ hy)) h1 (by omega)
    show qg bd cond el (xs.map r) σ1 M acc = _
    rw [ih,List.filter_cons_of_neg (by rw [hc];exact Q4)]
 have:=key xs σ [] t h (by rw [length_nil,Nat.zero_add];exact Qh hl (by decide))
 rw [this,nil_append]
theorem Ok.mapc {α:Type} {r:α->T} (I:Ev->Prop) (f:α->T) {xs:List α} (h:I σ) (hl:xs.length<=1000000)
 (t:∀ x σ,x ∈ xs->I σ->∃ σ1,bd (r x) σ M = .ok σ1 M/\I σ1/\el σ1 M = .ok (f x) M):qg bd yZ el (xs.map r) σ M [] = .ok (xs.map f) M:=by
 have:=Ok.filt (cond:=yZ) I (fun _=>true) f h hl (fun x σ hx hs=>by
  obtain ⟨σ1,a,b,c⟩:=t x σ hx hs
  exact ⟨σ1,a,b,rfl,fun _=>c⟩)
 rw [this,List.filter_eq_self.mpr (fun _ _=>rfl)]
theorem Ok.loopG {G:Gd} {bd:T->Ev->Mem->Out Ev} {body:Ev->Mem->Out Fl} {α:Type} {r:α->T} (P:Nat->Ev->Mem->Prop) {R:T->Mem->Prop} (hG:∀ i σ M,P i σ M->zdW G M):∀ (xs:List α) (i:Nat) {σ:Ev} {M:Mem},
  P i σ M->(∀ (k:Nat) x σ M,xs[k]? = some x->P (i + k) σ M->Ok ((bd (r x) σ M).bind fun σ1 M1=>body σ1 M1) fun fl M'=>(∃ σ',(fl = .nx σ'\/fl = .ct σ')/\P (i + k + 1) σ' M')\/(∃ σ',fl = .bk σ'/\P (i + xs.length) σ' M')\/∃ t,fl = .rt t/\R t M')->
  Ok (zbw G bd body (xs.map r) σ M) fun fl M'=>(∃ σ',fl = .nx σ'/\P (i + xs.length) σ' M')\/∃ t,fl = .rt t/\R t M'
 | [],i,σ,M,h,_=>⟨.nx σ,M,by rw [map_nil];unfold zbw;exact zeQ (hG _ _ _ h),.inl ⟨σ,rfl,h⟩⟩
 | x :: xs,i,σ,M,h,t=>by
  obtain ⟨fl,M1,e1,h1⟩:=t 0 x σ M rfl h
  rw [map_cons]
  unfold zbw
  rw [zeQ (hG _ _ _ h)]
  cases q:bd (r x) σ M with
  | bad=>rw [q] at e1;cases e1
  | exn C fs M'=>rw [q] at e1;cases e1
  | ok σ3 M3=>
   rw [q] at e1
   replace e1:body σ3 M3 = .ok fl M1:=e1
   show Ok ((body σ3 M3).bind (qv (zbw G bd body (xs.map r)))) _
   rw [e1]
   have go:∀ σ1,P (i + 1) σ1 M1->Ok (zbw G bd body (xs.map r) σ1 M1) fun fl M'=>(∃ σ',fl = .nx σ'/\P (i + (x :: xs).length) σ' M')\/∃ t,fl = .rt t/\R t M':=fun σ1 h1=>by
    have ih:=Ok.loopG (R:=R) P hG xs (i + 1) (bd:=bd) (body:=body) h1 (fun k y σ M hk hp=>by
     have:=t (k + 1) y σ M (by simpa using hk) (by rw [show i + (k + 1) = i + 1 + k by omega];exact hp)
     rw [show i + (k + 1) + 1 = i + 1 + k + 1 by omega,Qn,show i + (xs.length + 1) = i + 1 + xs.length by omega] at this
     exact this)
    rw [Qn,show i + (xs.length + 1) = i + 1 + xs.length by omega]
    exact ih
   rcases h1 with ⟨σ1,h1 | h1,h2⟩ | ⟨σ1,h1,h2⟩ | ⟨u,h1,h2⟩
   ·rw [h1];exact go σ1 h2
   ·rw [h1];exact go σ1 h2
   ·rw [h1];exact ⟨.nx σ1,M1,rfl,.inl ⟨σ1,rfl,h2⟩⟩
   ·rw [h1];exact ⟨.rt u,M1,rfl,.inr ⟨u,rfl,h2⟩⟩
def OkX {β:Type} (o:Out β) (Q:β->Mem->Prop) (E:Addr->List (Str × T)->Mem->Prop):Prop:=match o with
 | .ok b M=>Q b M
 | .exn C fs M=>E C fs M
 | .bad=>False
variable {E:Addr->List (Str × T)->Mem->Prop}
theorem OkX.ok {β:Type} {o:Out β} {Q:β->Mem->Prop} (h:Ok o Q):OkX o Q E:=by
 obtain ⟨b,M,rfl,q⟩:=h
 exact q
theorem OkX.bind {β γ:Type} {o:Out β} {k:β->Mem->Out γ} {P:β->Mem->Prop} {Q:γ->Mem->Prop} (h:OkX o P E) (g:∀ b M,P b M->OkX (k b M) Q E):OkX (o.bind k) Q E:=by
 cases o with
 | ok b M=>exact g b M h
 | exn C fs M=>exact h
 | bad=>exact h.elim
theorem OkX.mono {β:Type} {o:Out β} {P Q:β->Mem->Prop} {D:Addr->List (Str × T)->Mem->Prop} (h:OkX o P D) (g:∀ b M,P b M->Q b M) (g':∀ C fs M,D C fs M->E C fs M):OkX o Q E:=by
 cases o with
 | ok b M=>exact g b M h
 | exn C fs M=>exact g' C fs M h
 | bad=>exact h.elim
theorem OkX.toOk {β:Type} {o:Out β} {Q:β->Mem->Prop} (h:OkX o Q fun _ _ _=>False):Ok o Q:=by
 cases o with
 | ok b M=>exact ⟨b,M,rfl,h⟩
 | exn C fs M=>exact h.elim
 | bad=>exact h.elim
theorem zR {p:Nat} (h:ts.length = p) (k:OkX ((g (startT n ts) M).bind zbp) Q E):OkX (yz p n g ts M) Q E:=by
 unfold yz
 rw [if_pos h]
 cases r:g (startT n ts) M with
 | bad=>rw [r] at k;exact k.elim
 | exn C fs M'=>rw [r] at k;exact k
 | ok fl M'=>
  rw [r] at k
  cases fl with
  | rt t=>exact k
  | nx σ=>exact k
  | bk σ=>exact k.elim
  | ct σ=>exact k.elim
theorem Ok.try {cs:List Addr} {gs:Ev->Mem->Out Fl} {Q:Fl->Mem->Prop} (h:OkX (g σ M) Q fun C _ M'=>cs.contains C = true/\Ok (gs σ M') Q):Ok (zcm cs g gs σ M) Q:=by
 unfold zcm
 cases r:g σ M with
 | ok b M1=>rw [r] at h;exact ⟨b,M1,rfl,h⟩
 | bad=>rw [r] at h;exact h.elim
 | exn C fs M1=>
  rw [r] at h
  obtain ⟨hc,b,M2,e,h⟩:=h
  show Ok (if cs.contains C = true then _ else _) _
  rw [if_pos hc,e]
  exact ⟨b,M2,rfl,h⟩
end FT
namespace My
open PySem L2 FT
noncomputable def top (i:Nat):Stmt:=PySem.Challenge.pw_tryweir_k72_whole_events_written_and_rea.main.body.getD i (.Pass ⟨0,0,0,0⟩)
noncomputable abbrev zaW:Stmt:=top 11
noncomputable abbrev zaX:Stmt:=top 12
noncomputable abbrev zav:Stmt:=top 14
noncomputable abbrev y0:Stmt:=top 13
noncomputable abbrev yK:Stmt:=top 15
noncomputable abbrev zaw:Stmt:=top 16
noncomputable abbrev qV:Stmt:=top 6
noncomputable abbrev qZ:Stmt:=top 7
noncomputable abbrev zV:Stmt:=top 9
noncomputable abbrev yV:Stmt:=top 8
noncomputable abbrev z0:Stmt:=top 17
noncomputable abbrev zdB:Stmt:=top 18
structure Txt (K:Frag) (mg:Str->Option Value):Prop where
 n_max:mg "max" = none
 n_abs:mg "abs" = none
 n_int:mg "int" = none
 n_len:mg "len" = none
 n_str:mg "str" = none
 n_isinstance:mg "isinstance" = none
 n_all:mg "all" = none
 c_MOST_EVENT_FIGURES:∃ t,mg "MOST_EVENT_FIGURES" = some (.int 60 t)
 c_ENDS:∃ a,mg "ENDS" = some (.ref a)/\KTu K a [.str "well",.str "bad",.str "spent"]
theorem boot_max:bootBuiltins "max" = some (.builtin "max"):=by decide +kernel
theorem boot_abs:bootBuiltins "abs" = some (.builtin "abs"):=by decide +kernel
theorem boot_int:bootBuiltins "int" = some (.type "int"):=by decide +kernel
theorem boot_len:bootBuiltins "len" = some (.builtin "len"):=by decide +kernel
theorem boot_str:bootBuiltins "str" = some (.type "str"):=by decide +kernel
theorem boot_isinstance:bootBuiltins "isinstance" = some (.builtin "isinstance"):=by decide +kernel
theorem boot_all:bootBuiltins "all" = some (.builtin "all"):=by decide +kernel
end My
theorem FT.nc_l {k:PySem.NameKind} {P:Prop} (e:(k == .cell || k == .free) = false) (h:k = .cell\/k = .free):P:=by
 rcases h with rfl | rfl
 ·exact absurd e (by decide)
 ·exact absurd e (by decide)
open PySem L2 FT in
local macro_rules | `(tactic| bv_omega) => `(tactic| exact ⟨rfl, rfl, by decide +kernel, rfl, by decide +kernel, by first | exact (fun _ _ h => h) | exact zcx (by repeat (first | exact True.intro | refine ⟨rfl, ?_⟩)), fun _ => ziW (by repeat (first | exact True.intro | (refine ⟨?_, ?_⟩; first | exact (fun _ => ⟨_, rfl⟩) | exact nc_l rfl | exact (fun h => h.elim (fun h => nomatch h) (fun h => nomatch h))))), by repeat (first | exact List.forall_mem_nil _ | refine List.forall_mem_cons.mpr ⟨⟨rfl, rfl, by first | exact .inl rfl | exact .inr rfl⟩, ?_⟩)⟩)
namespace My
open PySem L2 FT
noncomputable def zcD:Ev->Mem->Out Fl:=
 (yw (eTk (zw (qa (qd (call2 zdO) (qa (eC (.int 0)) (qa (eOp zdy (qb 0) (eOp zbr (eC (.int 10)) (eC (.int 18)))) zd))) (qa (eOp y3 (qb 0) (eOp zbr (eC (.int 10)) (eC (.int 18)))) (qa (eC (.int 0)) zd))))))
noncomputable def yX:List FT.T->Mem->Out FT.T:=qh 1 1 (zcD)
variable {K:Frag} {base:Heap} {P:Program} {mg:Str->Option Value} {w:World}
section
theorem zer:FnScope ["cell"] ["cell"] (yc zaW):=by ac_rfl
theorem qX (D:Df K mg "_law_pool" zaW ["cell"]) (T:Txt K mg)   :CalT P w K mg base 1 "_law_pool" ["cell"] yX:=
 zC D zer rfl rfl (fun f cdv A outer s H E hr=>(qe (zj (zea (yk (za (zp (ze4 rfl) rfl T.n_max boot_max (za yb (za (ye zdi (ya (pv 0)) (ye zaM yb yb)) zb))) (za (ye qK (ya (pv 0)) (ye zaM yb yb)) (za yb zb))))))))
end
noncomputable def zcE:Ev->Mem->Out Fl:=
 (qf (sIf (ym (eOp gtI (eOp ixT (qb 0) (eC (.int 0))) (eC (.int 0)))) (qf (qt 2 (eOp y3 (eOp ixT (qb 0) (eC (.int 0))) (qb 1)))
 (qf (zdD (eOp zaB (eOp ixT (qb 0) (eC (.int 0))) (qb 1)) (zd2 zci (qb 0) (eC (.int 0))))
 (yw (qb 2)))) qH)
 (qf (zdD (eOp zi (eOp ixT (qb 0) (eC (.int 2))) (eC (.int 1))) (zd2 zci (qb 0) (eC (.int 2))))
 (qf (qt 3 (eOp y3 (eOp zi (eOp ixT (qb 0) (eC (.int 1))) (eOp zW (eC (.int 7919)) (eOp ixT (qb 0) (eC (.int 2))))) (eC (.int 1000000007))))
 (qf (qt 4 (eOp y3 (eOp zW (eOp zi (qb 3) (eC (.int 11))) (eOp zi (qb 3) (eC (.int 48271)))) (eC (.int 998244353))))
 (yw (eOp y3 (eOp zaB (eOp y3 (eOp zW (qb 4) (qb 4)) (eC (.int 2147483647))) (eC (.int 8))) (qb 1)))))))
noncomputable def qp:List FT.T->Mem->Out FT.T:=qh 2 5 (zcE)
section
theorem zY:FnScope ["pool","base","digit","mixed","stir"] ["pool","base"] (yc zaX):=by ac_rfl
theorem zo (D:Df K mg "_law_next" zaX ["pool","base"]) (T:Txt K mg)   :CalT P w K mg base 1 "_law_next" ["pool","base"] qp:=
 zC D zY rfl rfl (fun f cdv A outer s H E hr=>(qc (zz (qi zcs (zg zu (ya (pv 0)) yb (fun _ _=>rfl)) yb (zm _)) (qc (yg (i:=2) zY.nd rfl (Or.inl rfl) (ye qK (zg zu (ya (pv 0)) yb (fun _ _=>rfl)) (ya (pv 1))))
  (qc (zc7 (ye zbt (zg zu (ya (pv 0)) yb (fun _ _=>rfl)) (ya (pv 1))) (zc8 (ya (pv 0)) yb zgo))
  (qe (zj (ya (pv 2)))))) zt)
  (qc (zc7 (ye yh (zg zu (ya (pv 0)) yb (fun _ _=>rfl)) yb) (zc8 (ya (pv 0)) yb zgo))
  (qc (yg (i:=3) zY.nd rfl (Or.inl rfl) (ye qK (ye yh (zg zu (ya (pv 0)) yb (fun _ _=>rfl)) (ye zbs yb (zg zu (ya (pv 0)) yb (fun _ _=>rfl)))) yb))
  (qc (yg (i:=4) zY.nd rfl (Or.inl rfl) (ye qK (ye zbs (ye yh (ya (pv 3)) yb) (ye yh (ya (pv 3)) yb)) yb))
  (qe (zj (ye qK (ye zbt (ye qK (ye zbs (ya (pv 4)) (ya (pv 4))) yb) yb) (ya (pv 1))))))))))
end
noncomputable def zbL:Ev->Mem->Out Fl:=
 (qf (qt 1 (qd qp (qa (qb 0) (qa (eOp ixT (eFz (zw (qa (eC (.int 3)) (qa (eC (.int 12)) (qa (eC (.int 2000)) (qa (eOp zbr (eC (.int 10)) (eC (.int 60))) zd)))))) (qd qp (qa (qb 0) (qa (eC (.int 4)) zd)))) zd))))
 (qf (qt 2 (eOp ixT (eFz (zw (qa (eC (.str "bad")) (qa (eC (.str "spent")) (qa (eC (.str "well")) zd))))) (qd qp (qa (qb 0) (qa (eC (.int 3)) zd)))))
 (yw (eOp ixT (eFz (zw (qa (zG (qa (eC (.str "fresh")) zd)) (qa (zG (qa (eC (.str "ends")) (qa (qb 1) (qa (qb 2) zd)))) (qa (zG (qa (eC (.str "lost")) (qa (qb 1) zd))) (qa (zG (qa (eC (.str "again")) (qa (qb 1) zd))) (qa (zG (qa (eC (.str "up")) (qa (qb 1) zd))) zd))))))) (qd qp (qa (qb 0) (qa (eC (.int 5)) zd)))))))
noncomputable def yY:List FT.T->Mem->Out FT.T:=qh 1 3 (zbL)
section
theorem zai:FnScope ["pool","number","word"] ["pool"] (yc zav):=by ac_rfl
theorem yO (D:Df K mg "_law_event" zav ["pool"]) (T:Txt K mg)   (zo:CalT P w K mg base 1 "_law_next" ["pool","base"] qp):CalT P w K mg base 2 "_law_event" ["pool"] yY:=
 zC D zai rfl rfl (fun f cdv A outer s H E hr=>(qc (yg (i:=1) zai.nd rfl (Or.inl rfl) (yi zo (hr.mono (by decide)) rfl (za (ya (pv 0)) (za (zg zu (qq (yk (za yb (za yb (za yb (za (ye zaM yb yb) zb)))))) (yi zo (hr.mono (by decide)) rfl (za (ya (pv 0)) (za yb zb))) (fun _ _=>rfl)) zb))))
  (qc (yg (i:=2) zai.nd rfl (Or.inl rfl) (zg zu (qq (yk (za zc (za zc (za zc zb))))) (yi zo (hr.mono (by decide)) rfl (za (ya (pv 0)) (za yb zb))) (fun _ _=>rfl)))
  (qe (zj (zg zu (qq (yk (za (yu (za zc zb)) (za (yu (za zc (za (ya (pv 1)) (za (ya (pv 2)) zb)))) (za (yu (za zc (za (ya (pv 1)) zb))) (za (yu (za zc (za (ya (pv 1)) zb))) (za (yu (za zc (za (ya (pv 1)) zb))) zb))))))) (yi zo (hr.mono (by decide)) rfl (za (ya (pv 0)) (za yb zb))) (fun _ _=>rfl)))))))
end
noncomputable def zaE:Ev->Mem->Out Fl:=
 (qf (qt 1 (eOp zi (eOp ixS (eC (.str "0123456789")) (eOp y3 (qb 2) (eC (.int 10)))) (qb 1)))
 (qt 2 (eOp zaB (qb 2) (eC (.int 10)))))
noncomputable def zaD:Ev->Mem->Out Bool:=
 (ym (eOp gtI (qb 2) (eC (.int 0))))
noncomputable def zaU:Ev->Mem->Out Fl:=
 (qf (qt 1 (eC (.str "")))
 (qf (qt 2 (qd (zk zd4) (qa (qb 0) zd)))
 (qf (qN zaD zaE)
 (yw (eOp zi (eOp ixT (eFz (zw (qa (eC (.str "")) (qa (eC (.str "-")) zd)))) (qd (zk zcA) (qa (eOp ltI (qb 0) (eC (.int 0))) zd))) (eOp ixT (eFz (zw (qa (eC (.str "0")) (qa (qb 1) zd)))) (qd (zk zcA) (qa (eOp neA (qb 0) (eC (.int 0))) zd))))))))
noncomputable def yE:List FT.T->Mem->Out FT.T:=qh 1 3 (zaU)
section
theorem qA:FnScope ["number","text","rest"] ["number"] (yc y0):=by ac_rfl
theorem zF (D:Df K mg "_law_figures" y0 ["number"]) (T:Txt K mg)   :CalT P w K mg base 1 "_law_figures" ["number"] yE:=
 zC D qA rfl rfl (fun f cdv A outer s H E hr=>(qc (yg (i:=1) qA.nd rfl (Or.inl rfl) zc)
  (qc (yg (i:=2) qA.nd rfl (Or.inl rfl) (zp ze9 rfl T.n_abs boot_abs (za (ya (pv 0)) zb)))
  (qc (zd8 PassesOwn.never (qi zcs (ya (pv 2)) yb (zm _)) (qc (yg (i:=1) qA.nd rfl (Or.inl rfl) (ye yh (zg ziV zc (ye qK (ya (pv 2)) yb) (fun _ _=>rfl)) (ya (pv 1))))
  (qe (yg (i:=2) qA.nd rfl (Or.inl rfl) (ye zbt (ya (pv 2)) yb)))))
  (qe (zj (ye yh (zg zu (qq (yk (za zc (za zc zb)))) (yQ zbO rfl T.n_int boot_int (za (zbm ziD (ya (pv 0)) yb (zm _)) zb)) (fun _ _=>rfl)) (zg zu (qq (yk (za zc (za (ya (pv 1)) zb)))) (yQ zbO rfl T.n_int boot_int (za (zbm (z8 hr.units) (ya (pv 0)) yb (zm _)) zb)) (fun _ _=>rfl)))))))))
end
noncomputable def yC:Ev->Mem->Out Fl:=
 (qf (sIf (ym (eOp eqA (qd (zk zJ) (qa (qb 0) zd)) (eC (.int 1)))) (yw (eOp ixT (qb 0) (eC (.int 0)))) qH)
 (qf (qt 1 (eOp zi (eOp zi (eOp ixT (qb 0) (eC (.int 0))) (eC (.str " "))) (qd yE (qa (eOp ixT (qb 0) (eC (.int 1))) zd))))
 (qf (sIf (ym (eOp eqA (qd (zk zJ) (qa (qb 0) zd)) (eC (.int 3)))) (qt 1 (eOp zi (eOp zi (qb 1) (eC (.str " "))) (eOp ixT (qb 0) (eC (.int 2))))) qH)
 (yw (qb 1)))))
noncomputable def yj:List FT.T->Mem->Out FT.T:=qh 1 2 (yC)
section
theorem yH:FnScope ["event","text"] ["event"] (yc yK):=by ac_rfl
theorem zq (D:Df K mg "_law_event_text" yK ["event"]) (T:Txt K mg)   (zF:CalT P w K mg base 1 "_law_figures" ["number"] yE):CalT P w K mg base 2 "_law_event_text" ["event"] yj:=
 zC D yH rfl rfl (fun f cdv A outer s H E hr=>(qc (zz (qi (qI hr.units) (zp zy rfl T.n_len boot_len (za (ya (pv 0)) zb)) yb (zm _)) (qe (zj (zg zu (ya (pv 0)) yb (fun _ _=>rfl)))) zt)
  (qc (yg (i:=1) yH.nd rfl (Or.inl rfl) (ye yh (ye yh (zg zu (ya (pv 0)) yb (fun _ _=>rfl)) zc) (yi zF (hr.mono (by decide)) rfl (za (zg zu (ya (pv 0)) yb (fun _ _=>rfl)) zb))))
  (qc (zz (qi (qI hr.units) (zp zy rfl T.n_len boot_len (za (ya (pv 0)) zb)) yb (zm _)) (qe (yg (i:=1) yH.nd rfl (Or.inl rfl) (ye yh (ye yh (ya (pv 1)) zc) (zg zu (ya (pv 0)) yb (fun _ _=>rfl))))) zt)
  (qe (zj (ya (pv 1))))))))
end
noncomputable def zbM:Ev->Mem->Out Fl:=
 (qf (qt 2 (eFz (zw (qa (eOp zi (qb 0) (eC (.str " "))) (qa (eOp zi (eC (.str " ")) (qb 0)) (qa (eOp zi (qb 0) (eC (.str " 1"))) (qa (eUn (zak " " "  ") (qb 0)) (qa (eUn upT (qb 0)) (qa (eC (.str "")) (qa (eC (.str "fresh 0")) (qa (eC (.str "ends 1")) (qa (eC (.str "lost")) zd))))))))))))
 (qf (qt 2 (eOp zi (qb 2) (eFz (zw (qa (eC (.str "ends well 1")) (qa (eC (.str "ends 1 good")) (qa (eC (.str "ends 1 bad 1")) (qa (eC (.str "lost -1")) (qa (eC (.str "lost 01")) (qa (eC (.str "again -0")) (qa (eC (.str "up 1 1")) (qa (eC (.str "up x")) zd))))))))))))
 (qf (qt 2 (eOp zi (qb 2) (eFz (zw (qa (eOp zi (eC (.str "lost 1")) (eOp zaZ (eC (.str "0")) (eC (.int 60)))) (qa (eOp zi (eOp zi (eC (.str "ends 1")) (eOp zaZ (eC (.str "0")) (eC (.int 60)))) (eC (.str " bad"))) (qa (eC (.str "again +1")) (qa (eC (.str "done 1")) (qa (eC (.str "lost 1_0")) (qa (eOp zi (qb 0) (eC (.str "\n"))) zd))))))))))
 (yw (eOp ixT (qb 2) (qd qp (qa (qb 1) (qa (qd (zk zJ) (qa (qb 2) zd)) zd))))))))
noncomputable def qY:List FT.T->Mem->Out FT.T:=qh 2 3 (zbM)
section
theorem qQ:FnScope ["text","pool","some"] ["text","pool"] (yc zaw):=by ac_rfl
theorem qO (D:Df K mg "_law_amiss" zaw ["text","pool"]) (T:Txt K mg)   (zo:CalT P w K mg base 1 "_law_next" ["pool","base"] qp):CalT P w K mg base 2 "_law_amiss" ["text","pool"] qY:=
 zC D qQ rfl rfl (fun f cdv A outer s H E hr=>(qc (yg (i:=2) qQ.nd rfl (Or.inl rfl) (qq (yk (zef (zg2 yh (WE.pe (ya (pv 0)))) (zcC (WE.pe (ye yh zc (ya (pv 0)))) (zcC (WE.pe (ye yh (ya (pv 0)) zc)) (zeR (zfV (WE.pe (ya (pv 0))) (by decide)) (zjh (WA.pe (za (zhW (ya (pv 0))) (za zc (za zc (za zc (za zc zb))))))))))))))
  (qc (yg (i:=2) qQ.nd rfl (Or.inl rfl) (ye yh (ya (pv 2)) (qq (yk (za zc (za zc (za zc (za zc (za zc (za zc (za zc (za zc zb))))))))))))
  (qc (yg (i:=2) qQ.nd rfl (Or.inl rfl) (ye yh (ya (pv 2)) (qq (yk (za (ye yh zc (ye zdj zc yb)) (za (ye yh (ye yh zc (ye zdj zc yb)) zc) (za zc (za zc (za zc (za (ye yh (ya (pv 0)) zc) zb))))))))))
  (qe (zj (zg zu (ya (pv 2)) (yi zo (hr.mono (by decide)) rfl (za (ya (pv 1)) (za (zp zy rfl T.n_len boot_len (za (ya (pv 2)) zb)) zb))) (fun _ _=>rfl))))))))
end
noncomputable def qW (k_NoText:Addr):Ev->Mem->Out Fl:=
 (sIf (zae (ym (qd (call2 zL) (qa (qb 0) (qa (eC (.ty "str")) zd))))) (qm (yI k_NoText) (qa (eC (.str "this is no text")) zd)) qH)
noncomputable def qr (k_NoText:Addr):List FT.T->Mem->Out FT.T:=yz 1 1 (qW k_NoText)
variable {k_NoText:Addr}
section
theorem zbV:FnScope ["thing"] ["thing"] (yc qV):=by ac_rfl
theorem yB (D:Df K mg "check_text" qV ["thing"]) (T:Txt K mg) (x_NoText:ExcAt K mg "NoText" k_NoText)  :CalX P w K mg base 3 "check_text" ["thing"] (qr k_NoText):=
 zb7 D zbV rfl rfl (fun f cdv A outer s H E hr=>(qe (zz (y6 (zaI (zp zcQ rfl T.n_isinstance boot_isinstance (za (ya (pv 0)) (za (zfi rfl T.n_str boot_str) zb))))) (qe (za7 x_NoText (hr.mono (by decide)) rfl rfl rfl rfl rfl (za zc zb))) zt)))
end
noncomputable def zaS:Ev->Mem->Out Fl:=
 (qf (sIf (zbn (zae (ym (qJ leU leU (eC (.int 1)) (qd (zk zJ) (qa (qb 0) zd)) (qb 1)))) (zae (ym (qd (zk zcY) (qa (eFz (zbe (iTx (qb 0)) (zN 0) yZ (qJ leU leU (eC (.str "0")) (qb 0) (eC (.str "9"))) ["sign"] [])) zd))))) (yw (eC .non)) qH)
 (yw (eIf (zaf (ym (eOp eqA (eOp ixS (qb 0) (eC (.int 0))) (eC (.str "0")))) (ym (eOp gtI (qd (zk zJ) (qa (qb 0) zd)) (eC (.int 1))))) (eC .non) (qd (zk zcz) (qa (qb 0) zd)))))
noncomputable def zA:List FT.T->Mem->Out FT.T:=qh 2 2 (zaS)
section
theorem zcl:FnScope ["word","most"] ["word","most"] (yc qZ):=by ac_rfl
theorem qE (D:Df K mg "number_in" qZ ["word","most"]) (T:Txt K mg)   :CalT P w K mg base 1 "number_in" ["word","most"] zA:=
 zC D zcl rfl rfl (fun f cdv A outer s H E hr=>(qc (zz (WW.gt (za6 (y6 (zd7 zbb zbb yb (zp zy rfl T.n_len boot_len (za (ya (pv 0)) zb)) (ya (pv 1)))) (zaH (y6 (zaI (zp (ze7 rfl) rfl T.n_all boot_all (za (qq (zb6 (tgs:=["sign"]) (caps:=[]) (zgD (ya (pv 0))) (by bv_omega) (fun _ _ _=>(zad (zaL (i:=0) (show (["sign"]:List Str).Nodup by decide +kernel) rfl (by first | exact Or.inl rfl | exact Or.inr rfl)))) (fun _ _ _=>zb5) (fun _ _ _=>(zee zbb zbb zc (ya (pv 0)) zc)))) zb))))))) (qe (zj z7)) zt)
  (qe (zj (zeb (WW.gt (z6 (qi (qI hr.units) (zg ziV (ya (pv 0)) yb (fun _ _=>rfl)) zc (zm _)) (zac (qi zcs (zp zy rfl T.n_len boot_len (za (ya (pv 0)) zb)) yb (zm _))))) z7 (yQ ze6 rfl T.n_int boot_int (za (ya (pv 0)) zb)))))))
end
noncomputable def yW (k_NoText:Addr):Ev->Mem->Out Fl:=
 (qf (zaj (qd (qr k_NoText) (qa (qb 0) zd)))
 (qf (qt 1 (eFz (zl (qb 0) (qa (eC (.str " ")) zd))))
 (qf (sIf (ym (eOp eqA (qb 0) (eC (.str "fresh")))) (yw (zG (qa (eC (.str "fresh")) zd))) qH)
 (qf (qt 2 (eIf (ym (eOp eqA (qd (zk zJ) (qa (qb 1) zd)) (eC (.int 1)))) (eC .non) (qd zA (qa (eOp ixT (qb 1) (eC (.int 1))) (qa (eC (.int 60)) zd)))))
 (qf (sIf (ym (eOp zaO (qb 2) (eC .non))) (qf (sIf (zaf (ym (eOp eqA (eOp ixT (qb 1) (eC (.int 0))) (eC (.str "ends")))) (zaf (ym (eOp eqA (qd (zk zJ) (qa (qb 1) zd)) (eC (.int 3)))) (ym (eOp inA (eOp ixT (qb 1) (eC (.int 2))) (eC (.tup [.str "well",.str "bad",.str "spent"])))))) (yw (zG (qa (eC (.str "ends")) (qa (qb 2) (qa (eOp ixT (qb 1) (eC (.int 2))) zd))))) qH)
 (sIf (zaf (ym (eOp inA (eOp ixT (qb 1) (eC (.int 0))) (zG (qa (eC (.str "lost")) (qa (eC (.str "again")) (qa (eC (.str "up")) zd)))))) (ym (eOp eqA (qd (zk zJ) (qa (qb 1) zd)) (eC (.int 2))))) (yw (zG (qa (eOp ixT (qb 1) (eC (.int 0))) (qa (qb 2) zd)))) qH)) qH)
 (qm (yI k_NoText) (qa (eC (.str "this is no text of an event")) zd)))))))
noncomputable def ql (k_NoText:Addr):List FT.T->Mem->Out FT.T:=yz 1 3 (yW k_NoText)
noncomputable def zB (k_NoText:Addr):List FT.T->Mem->Out FT.T:=zaP (ql k_NoText)
section
theorem qP:FnScope ["text","words","number"] ["text"] (yc zV):=by ac_rfl
theorem yn (D:Df K mg "read_event" zV ["text"]) (T:Txt K mg) (x_NoText:ExcAt K mg "NoText" k_NoText)  (yB:CalX P w K mg base 3 "check_text" ["thing"] (qr k_NoText)) (qE:CalT P w K mg base 1 "number_in" ["word","most"] zA):CalX P w K mg base 4 "read_event" ["text"] (ql k_NoText):=
 zb7 D qP rfl rfl (fun f cdv A outer s H E hr=>(qc (zc6 (zfh yB (hr.mono (by decide)) rfl (ziz rfl rfl rfl rfl) (za (ya (pv 0)) zb)))
  (qc (yg (i:=1) qP.nd rfl (Or.inl rfl) (qq (zd9 (ya (pv 0)) (za zc zb))))
  (qc (zz (qi (qI hr.units) (ya (pv 0)) zc (zm _)) (qe (zj (yu (za zc zb)))) zt)
  (qc (yg (i:=2) qP.nd rfl (Or.inl rfl) (zeb (qi (qI hr.units) (zp zy rfl T.n_len boot_len (za (ya (pv 1)) zb)) yb (zm _)) z7 (yi qE (hr.mono (by decide)) rfl (za (zg zu (ya (pv 1)) yb (fun _ _=>rfl)) (za (zed rfl T.c_MOST_EVENT_FIGURES) zb)))))
  (qc (zz (qi zey (ya (pv 2)) z7 (zm _)) (qc (zz (WW.gt (z6 (qi (qI hr.units) (zg zu (ya (pv 1)) yb (fun _ _=>rfl)) zc (zm _)) (z6 (qi (qI hr.units) (zp zy rfl T.n_len boot_len (za (ya (pv 1)) zb)) yb (zm _)) (zac (qi zeA (zg zu (ya (pv 1)) yb (fun _ _=>rfl)) (zec (ss:=["well","bad","spent"]) rfl T.c_ENDS) rfl))))) (qe (zj (yu (za zc (za (ya (pv 2)) (za (zg zu (ya (pv 1)) yb (fun _ _=>rfl)) zb)))))) zt)
  (qe (zz (WW.gt (z6 (qi zeA (zg zu (ya (pv 1)) yb (fun _ _=>rfl)) (yu (za zc (za zc (za zc zb)))) rfl) (zac (qi (qI hr.units) (zp zy rfl T.n_len boot_len (za (ya (pv 1)) zb)) yb (zm _))))) (qe (zj (yu (za (zg zu (ya (pv 1)) yb (fun _ _=>rfl)) (za (ya (pv 2)) zb))))) zt))) zt)
  (qe (za7 x_NoText (hr.mono (by decide)) rfl rfl rfl rfl rfl (za zc zb)))))))))
end
noncomputable def yJ:Ev->Mem->Out Fl:=
 (yw (zaa isStr qM (eC (.str " ")) (qa (eOp zi (eFz (zw (qa (eOp ixT (qb 0) (eC (.int 0))) zd))) (eFz (zbe (zcB (eSl (qb 0) (zdL (eC (.int 1))) zdM)) (zN 0) yZ (qd (zk zah) (qa (qb 0) zd)) ["part"] []))) zd)))
noncomputable def yr:List FT.T->Mem->Out FT.T:=qh 1 1 (yJ)
section
theorem zbU:FnScope ["event"] ["event"] (yc yV):=by ac_rfl
theorem yx (D:Df K mg "event_text" yV ["event"]) (T:Txt K mg)   :CalT P w K mg base 1 "event_text" ["event"] yr:=
 zC D zbU rfl rfl (fun f cdv A outer s H E hr=>(qe (zj (zfg ty_str (zdI PySem.F.plainAttrs_str PySem.F.slot_str_join PySem.F.type_str_join zfK (WE.pe zc) (WA.pe (za (ye yh (qq (yk (za (zg zu (ya (pv 0)) yb (fun _ _=>rfl)) zb))) (qq (zb6 (tgs:=["part"]) (caps:=[]) (zbl (zhX (ya (pv 0)) (zfe yb) zff)) (by bv_omega) (fun _ _ _=>(zad (zaL (i:=0) (show (["part"]:List Str).Nodup by decide +kernel) rfl (by first | exact Or.inl rfl | exact Or.inr rfl)))) (fun _ _ _=>zb5) (fun _ _ _=>(yQ ze3 rfl T.n_str boot_str (za (ya (pv 0)) zb)))))) zb)))))))
end
noncomputable def zaT (k_NoText:Addr):Ev->Mem->Out Fl:=
 (qf (qt 1 (eTk (zw zd)))
 (qf (zcm [k_NoText] (zaj (qd (ql k_NoText) (qa (qb 0) zd))) (zaj (zdX z5 (eUn zO (qb 1)) (qa (eC (.bl true)) zd))))
 (yw (eOp eqA (qb 1) (eFz (zw (qa (eC (.bl true)) zd)))))))
noncomputable def zE (k_NoText:Addr):List FT.T->Mem->Out FT.T:=qh 1 2 (zaT k_NoText)
section
theorem zau:FnScope ["thing","signs"] ["thing"] (yc z0):=by ac_rfl
theorem yA (D:Df K mg "_law_refused" z0 ["thing"]) (T:Txt K mg) (x_NoText:ExcAt K mg "NoText" k_NoText)  (yn:CalX P w K mg base 4 "read_event" ["text"] (ql k_NoText)):CalT P w K mg base 5 "_law_refused" ["thing"] (zE k_NoText):=
 zC D zau rfl rfl (fun f cdv A outer s H E hr=>(qc (yg (i:=1) zau.nd rfl (Or.inl rfl) (zea (yk zb)))
  (qc (zgC (cs:=[k_NoText]) (zfd yn (hr.mono (by decide)) rfl (fun _ _=>(za (ya (pv 0)) zb))) (List.forall_mem_cons.mpr ⟨zgJ x_NoText,List.forall_mem_nil _⟩) rfl rfl rfl rfl (fun _=>(qe (zc6 (zgE (zdI PySem.F.plainAttrs_list PySem.F.slot_list_append PySem.F.type_list_append zbK (WE.pe (ya (pv 1))) (WA.pe (za yT zb))))))))
  (qe (zj (zbm (qI hr.units) (ya (pv 1)) (qq (yk (za yT zb))) (zm _)))))))
end
noncomputable def zcX (k_NoText:Addr):Ev->Mem->Out Fl:=
 (sIf (zbn (ym (eOp neA (qd (zB k_NoText) (qa (qd yj (qa (qb 1) zd)) zd)) (qb 1))) (ym (eOp neA (qd yr (qa (qb 1) zd)) (qd yj (qa (qb 1) zd))))) (yw (eC (.bl false))) qH)
noncomputable def zbk (k_NoText:Addr):Ev->Mem->Out Fl:=
 (qf (qt 3 (qd yX (qa (qb 2) zd)))
 (qf (qt 1 (qd yY (qa (qb 3) zd)))
 (qf (qt 4 (qd yj (qa (qb 1) zd)))
 (qf (sIf (zbn (ym (eOp neA (qd yr (qa (qb 1) zd)) (qb 4))) (ym (eOp neA (qd (zB k_NoText) (qa (qb 4) zd)) (qb 1)))) (yw (eC (.bl false))) qH)
 (qf (qt 5 (eOp ixT (eFz (zw (qa (eC .non) (qa (eC (.int 7)) (qa (qb 1) (qa (eFz (zw (qa (qb 4) zd))) (qa (zG (qa (eC (.str "fresh")) zd)) (qa (eC (.bl true)) zd)))))))) (qd qp (qa (qb 3) (qa (eC (.int 6)) zd)))))
 (qf (qt 6 (qd qY (qa (qb 4) (qa (qb 3) zd))))
 (sIf (zbn (zaf (ym (eOp neA (qb 6) (eC (.str "fresh")))) (zae (ym (qd (zE k_NoText) (qa (qb 6) zd))))) (zae (ym (qd (zE k_NoText) (qa (qb 5) zd))))) (yw (eC (.bl false))) qH)))))))
noncomputable def zgw (k_NoText:Addr):Ev->Mem->Out Fl:=
 (qf (zdC (zcB (eFz (zw (qa (zG (qa (eC (.str "lost")) (qa (eOp zdy (eOp zbr (eC (.int 10)) (eC (.int 60))) (eC (.int 1))) zd))) (qa (zG (qa (eC (.str "ends")) (qa (eC (.int 0)) (qa (eC (.str "bad")) zd)))) (qa (zG (qa (eC (.str "fresh")) zd)) zd)))))) (zN 1) (zcX k_NoText))
 (qf (zdC (zcB (eOp zi (eFz (zw (qa (eC (.int 0)) zd))) (qb 0))) (zN 2) (zbk k_NoText))
 (yw (eC (.bl true)))))
noncomputable def zb1 (k_NoText:Addr):List FT.T->Mem->Out FT.T:=qh 1 7 (zgw k_NoText)
section
theorem yN:FnScope ["script","event","cell","pool","text","odd","wrong"] ["script"] (yc zdB):=by ac_rfl
theorem ziG {f:Addr} {fd:FuncData} (D:Fun K "law" "law" zdB f fd) (T:Txt K mg)   (qX:CalT P w K mg base 1 "_law_pool" ["cell"] yX) (yO:CalT P w K mg base 2 "_law_event" ["pool"] yY) (zq:CalT P w K mg base 2 "_law_event_text" ["event"] yj) (qO:CalT P w K mg base 2 "_law_amiss" ["text","pool"] qY) (zo:CalT P w K mg base 1 "_law_next" ["pool","base"] qp) (yn:CalT P w K mg base 4 "read_event" ["text"] (zB k_NoText)) (yx:CalT P w K mg base 1 "event_text" ["event"] yr) (yA:CalT P w K mg base 5 "_law_refused" ["thing"] (zE k_NoText)):FnOk P w K mg base CX0 6 f fd ["script"] (spT K (zb1 k_NoText)):=
 zgB D yN rfl rfl (fun cdv A outer s H E hr=>(qc (zc5 PassesOwn.never rfl (zbl (qq (yk (za (yu (za zc (za (ye zdi (ye zaM yb yb) yb) zb))) (za (yu (za zc (za yb (za zc zb)))) (za (yu (za zc zb)) zb)))))) (zad (zaL (i:=1) yN.nd rfl (by first | exact Or.inl rfl | exact Or.inr rfl))) (qe (zz (WW.gt (za6 (qi (z8 hr.units) (yi yn (hr.mono (by decide)) rfl (za (yi zq (hr.mono (by decide)) rfl (za (ya (pv 1)) zb)) zb)) (ya (pv 1)) (zm _)) (zaH (qi (z8 hr.units) (yi yx (hr.mono (by decide)) rfl (za (ya (pv 1)) zb)) (yi zq (hr.mono (by decide)) rfl (za (ya (pv 1)) zb)) (zm _))))) (qe (zj yT)) zt)))
  (qc (zc5 PassesOwn.never rfl (zbl (ye yh (qq (yk (za yb zb))) (ya (pv 0)))) (zad (zaL (i:=2) yN.nd rfl (by first | exact Or.inl rfl | exact Or.inr rfl))) (qc (yg (i:=3) yN.nd rfl (Or.inl rfl) (yi qX (hr.mono (by decide)) rfl (za (ya (pv 2)) zb)))
  (qc (yg (i:=1) yN.nd rfl (Or.inl rfl) (yi yO (hr.mono (by decide)) rfl (za (ya (pv 3)) zb)))
  (qc (yg (i:=4) yN.nd rfl (Or.inl rfl) (yi zq (hr.mono (by decide)) rfl (za (ya (pv 1)) zb)))
  (qc (zz (WW.gt (za6 (qi (z8 hr.units) (yi yx (hr.mono (by decide)) rfl (za (ya (pv 1)) zb)) (ya (pv 4)) (zm _)) (zaH (qi (z8 hr.units) (yi yn (hr.mono (by decide)) rfl (za (ya (pv 4)) zb)) (ya (pv 1)) (zm _))))) (qe (zj yT)) zt)
  (qc (yg (i:=5) yN.nd rfl (Or.inl rfl) (zg zu (qq (yk (za z7 (za yb (za (ya (pv 1)) (za (qq (yk (za (ya (pv 4)) zb))) (za (yu (za zc zb)) (za yT zb)))))))) (yi zo (hr.mono (by decide)) rfl (za (ya (pv 3)) (za yb zb))) (fun _ _=>rfl)))
  (qc (yg (i:=6) yN.nd rfl (Or.inl rfl) (yi qO (hr.mono (by decide)) rfl (za (ya (pv 4)) (za (ya (pv 3)) zb))))
  (qe (zz (WW.gt (za6 (WW.gt (z6 (qi (z8 hr.units) (ya (pv 6)) zc (zm _)) (zac (y6 (zaI (yi yA (hr.mono (by decide)) rfl (za (ya (pv 6)) zb))))))) (zaH (y6 (zaI (yi yA (hr.mono (by decide)) rfl (za (ya (pv 5)) zb))))))) (qe (zj yT)) zt)))))))))
  (qe (zj yT)))))
end
end My
open Lean in
local macro_rules | `(tactic| simp_arith [$xs,*]) => do
  let ids := ("FT.zet FT.zkU FT.zkV FT.startT FT.qf FT.yw FT.qt FT.sIf FT.zaj FT.zdD FT.qH FT.zdC FT.qb FT.eC FT.eOp FT.eUn FT.zlx FT.eOr FT.zlw FT.eIf FT.qd FT.zG FT.eFz FT.eTk FT.zw FT.zlk FT.qJ FT.lOp FT.eSl FT.zdM FT.zdL FT.zfO FT.zbz FT.zk5 FT.zlj FT.zdX FT.zd FT.qa FT.ym FT.zaf FT.zbn FT.zae FT.zlg FT.zk2 FT.zkM FT.zj8 FT.zj7 FT.zka FT.zj9 FT.zkv FT.zku FT.zkx FT.zkw FT.zN FT.zd2 FT.zly FT.zlq FT.zlz FT.zcB FT.zkZ FT.zkY FT.zck FT.ixT FT.zcr FT.zdV FT.zlu FT.zlt FT.zls FT.zlr FT.zbe FT.zaC FT.yZ Option.join_some Option.join_none FT.zkz FT.zkA FT.zci FT.zln FT.zlm FT.zll map_cons map_nil Qn length_nil List.cons_append nil_append List.getElem?_cons_zero List.getElem?_cons_succ List.set_cons_zero List.set_cons_succ List.replicate Nat.zero_add Nat.reduceAdd Nat.reduceSub FT.zk1 FT.zk0 FT.zk4 FT.zk3 Int.reduceBEq Int.reduceLT FT.zkR FT.zk9 FT.zla FT.zlc FT.zld FT.zk7 FT.zkX FT.zle FT.zk8 FT.zlb FT.zkE Bool.false_eq_true reduceIte Nat.reduceEqDiff Nat.succ.injEq Bool.not_true Bool.not_false FT.zhj FT.zkW FT.zlf Int.reduceToNat Int.reducePow ne_eq Int.reduceEq not_false_eq_true Int.reduceNeg Bool.bne_true Bool.bne_false Bool.true_bne Bool.false_bne decide_true decide_false FT.zkN FT.zkL FT.zkK FT.zkS FT.zkT".splitOn " ").toArray.map fun s => Lean.mkIdent s.toName
  `(tactic| simp (config := {decide := true}) only [$[$ids:term],*, $xs,*])
namespace My
open PySem L2 FT
noncomputable def yD (n:Nat):List Nat:=if h:n = 0 then [] else yD (n / 10) ++ [48 + n % 10]
termination_by n
decreasing_by omega
theorem qG:yD 0 = []:=by unfold yD;rfl
variable {n:Nat}
theorem zX (h:n ≠ 0):yD n = yD (n / 10) ++ [48 + n % 10]:=by
 rw [yD]
 exact dif_neg h
noncomputable def dgs (n:Nat):List Nat:=if n = 0 then [48] else yD n
noncomputable def D (i:Int):List Nat:=(if i < 0 then [45] else []) ++ dgs i.natAbs
theorem zgz:∀ d:Nat,d < 10->(Nat.digitChar d).toNat = 48 + d:=by decide
theorem zeZ (n:Nat):dgs n = (Nat.toDigits 10 n).map Char.toNat:=by
 have key:∀ n,n ≠ 0->yD n = (Nat.toDigits 10 n).map Char.toNat:=by
  intro n
  induction n using Nat.strongRecOn with
  | _ n ih=>
   intro h0
   rw [zX h0]
   by_cases h:n < 10
   ·rw [Nat.toDigits_of_lt_base h,show n / 10 = 0 by omega,qG,show n % 10 = n by omega]
    simp [zgz n h]
   ·have hm:n % 10 < 10:=Nat.mod_lt n (by decide)
    have t:Nat.toDigits 10 (n / 10) ++ Nat.toDigits 10 (n % 10) = Nat.toDigits 10 (10 * (n / 10) + n % 10):=Nat.toDigits_append_toDigits (by decide) (by omega) hm
    rw [Nat.div_add_mod] at t
    rw [← t,map_append,Nat.toDigits_of_lt_base hm,ih (n / 10) (by omega) (by omega)]
    simp [zgz _ hm]
 unfold dgs
 by_cases h:n = 0
 ·rw [if_pos h,h];rfl
 ·rw [if_neg h,key n h]
theorem str_int (i:Int):Str.ofString (toString i) = ⟨(D i).toArray⟩:=by
 rw [Str.ofString_eq_toList]
 congr 2
 unfold D
 rw [zeZ]
 cases i with
 | ofNat n=>
  rw [if_neg (by show ¬ (Int.ofNat n < 0);exact Int.not_lt.mpr (Int.natCast_nonneg n))]
  show ((Nat.repr n).toList).map Char.toNat = _
  simp [Nat.repr]
 | negSucc n=>
  rw [if_pos (Int.negSucc_lt_zero n)]
  show (("-" ++ Nat.repr (n + 1)).toList).map Char.toNat = _
  simp [Nat.repr]
theorem zf2:∀ n,PySem.NumText.AllDigits (yD n):=by
 intro n
 induction n using Nat.strongRecOn with
 | _ n ih=>
  by_cases h:n = 0
  ·rw [h,qG];intro c hc;cases hc
  ·rw [zX h]
   intro c hc
   rcases mem_append.mp hc with hc | hc
   ·exact ih (n / 10) (by omega) c hc
   ·rw [mem_singleton.mp hc];omega
theorem zby (n:Nat):PySem.NumText.AllDigits (dgs n):=by
 unfold dgs
 split
 ·intro c hc;rw [mem_singleton.mp hc];omega
 ·exact zf2 n
theorem zhH (n:Nat):PySem.NumText.digitsVal (dgs n) = n:=by rw [zeZ];exact PySem.W.KIN.val_back n
theorem zao:∀ (k n:Nat),n < 10 ^ k->(yD n).length<=k
 | 0,n,h=>by
  have:n = 0:=by simpa using h
  rw [this,qG];exact Q3 _
 | k + 1,n,h=>by
  by_cases h0:n = 0
  ·rw [h0,qG];exact Nat.zero_le _
  ·rw [zX h0,Ql,length_singleton]
   have:=zao k (n / 10) (by rw [Nat.pow_succ] at h;omega)
   omega
theorem qC {k:Nat} (hk:1<=k) (h:n < 10 ^ k):(dgs n).length<=k:=by
 unfold dgs
 split
 ·exact hk
 ·exact zao k n h
theorem zbN:∀ n,n ≠ 0->∃ c r,yD n = c :: r/\49<=c/\c<=57:=by
 intro n
 induction n using Nat.strongRecOn with
 | _ n ih=>
  intro h
  rw [zX h]
  by_cases h1:n / 10 = 0
  ·rw [h1,qG];exact ⟨48 + n % 10,[],rfl,by omega,by omega⟩
  ·obtain ⟨c,r,e,h2,h3⟩:=ih (n / 10) (by omega) h1
   rw [e]
   exact ⟨c,r ++ [48 + n % 10],rfl,h2,h3⟩
theorem zeY (n:Nat):dgs n ≠ []:=by
 unfold dgs
 split
 ·simp
 ·rename_i h
  obtain ⟨c,r,e,_⟩:=zbN n h
  rw [e];simp
variable {r:List Nat}
theorem zf8 (h:dgs n = 48 :: r):n = 0/\r = []:=by
 unfold dgs at h
 split at h
 ·rename_i h0
  exact ⟨h0,by simpa using h.symm⟩
 ·rename_i h0
  obtain ⟨c,r',e,h2,_⟩:=zbN n h0
  rw [e] at h
  injection h with h3
  omega
variable {i:Int}
theorem za5 (h:0<=i):D i = dgs i.natAbs:=by unfold D;rw [if_neg (by omega)];rfl
theorem zj4 (h:i < 0):D i = 45 :: dgs i.natAbs:=by unfold D;rw [if_pos h];rfl
noncomputable def C (a b:Int):List Nat:=if b = 1 then D a else D a ++ 47 :: D b
structure Va (a b:Int):Prop where
 b1:1<=b
 gc:Nat.gcd a.natAbs b.natAbs = 1
 al:a.natAbs < 10 ^ 300
 bl:b.natAbs < 10 ^ 300
noncomputable abbrev S (l:List Nat):Str:=⟨l.toArray⟩
theorem zx (l:List Nat):(S l).length = l.length:=by simp [Str.length]
theorem zj3 (l m:List Nat):S l ++ S m = S (l ++ m):=by
 show Str.append _ _ = _
 unfold Str.append
 simp
theorem sz (h:n<=10000):n<=sizeLine:=by rw [sizeLine_eq];omega
variable {l:List Nat}
theorem ad {m:List Nat} (h:l.length + m.length<=10000) (M:Mem):zi (.str (S l)) (.str (S m)) M = .ok (.str (S (l ++ m))) M:=by
 unfold zi
 dsimp only
 rw [if_pos (sz (by rw [zx,zx];exact h)),zj3]
variable {M:Mem}
theorem zjm:zd4 (.int i) M = .ok (.int (if i < 0 then -i else i)) M:=rfl
theorem zhQ (i:Int):(if i < 0 then -i else i) = ((i.natAbs:Nat):Int):=by split <;> omega
noncomputable def y2 (σ:FT.Ev):Nat:=match (σ[2]?:Option (Option FT.T)) with
 | some (some (FT.T.int y))=>y.toNat
 | _=>0
theorem zjl:∀ d:Nat,d < 10->atI (Str.ofString "0123456789").cps.toList ((d:Nat):Int) = some (48 + d):=by decide
theorem ziU {d:Nat} (h:d < 10) (M:Mem):ixS (.str "0123456789") (.int (d:Int)) M = .ok (.str (S [48 + d])) M:=by
 unfold ixS
 simp only [zjl d h]
 exact if_pos (sz (by decide))
theorem zbg (hi:i.natAbs < 10 ^ 400) (M:Mem):yE [.int i] M = .ok (.str (S (D i))) M:=by
 have key:Ok (yE [.int i] M) fun t M'=>t = .str (S (D i))/\M' = M:=by
  refine yG rfl ?_
  unfold zaU
  simp_arith [zjm,zhQ]
  rw [show (Str.ofString "") = S [] from rfl]
  refine Ok.bind (Ok.while (fun σ M'=>M' = M/\∃ (t:List Nat) (r:Nat),σ = [some (.int i),some (.str (S t)),some (.int (r:Int))]/\yD i.natAbs = yD r ++ t) (fun σ _=>y2 σ)
   (Q:=fun σ M'=>M' = M/\∃ r:Nat,σ = [some (.int i),some (.str (S (yD i.natAbs))),some (.int (r:Int))]) (R:=fun _ _=>False) ⟨rfl,[],i.natAbs,rfl,by simp⟩ ?_) ?_
  ·rintro σ M' ⟨rfl,t,r,rfl,ht⟩
   unfold zaD zaE
   by_cases h0:r = 0
   ·subst h0
    rw [qG,nil_append] at ht
    simp_arith [and_self]
    exact Ok.ret (.inr ⟨rfl,rfl,0,by rw [ht]⟩)
   ·have hg:decide ((r:Int) > 0) = true:=Qp (by omega)
    simp_arith [hg]
    refine Ok.ret (.inl ⟨rfl,?_⟩)
    have e1:(r:Int).fmod 10 = ((r % 10:Nat):Int):=by rw [Q8 _ (by decide)];omega
    have e2:∀ M,zaB (.int (r:Int)) (.int 10) M = .ok (.int ((r / 10:Nat):Int)) M:=fun M=>by
     rw [zbx (zgy 2 (by decide) (by decide) (by decide)),Int.fdiv_eq_ediv_of_nonneg _ (by decide)]
     rfl
    have lt:=zao 400 _ hi
    rw [ht,Ql] at lt
    have a1:=ad (l:=[48 + r % 10]) (m:=t) (by rw [length_singleton];omega) M'
    simp_arith [e1,ziU (Nat.mod_lt r (by decide)),a1,e2]
    refine Ok.ret (.inl ⟨_,.inl rfl,⟨rfl,(48 + r % 10) :: t,r / 10,rfl,?_⟩,?_⟩)
    ·rw [ht,zX h0,append_assoc]
     rfl
    ·show ((r / 10:Nat):Int).toNat < ((r:Nat):Int).toNat
     omega
  ·rintro fl M' (⟨σ,rfl,rfl,r,rfl⟩ | ⟨t,_,z⟩)
   ·have i1:∀ b:Bool,zcA (.bl b) M' = .ok (.int (if b then 1 else 0)) M':=fun _=>rfl
    have ln:(yD i.natAbs).length<=400:=zao 400 _ hi
    by_cases h0:i = 0
    ·subst h0
     simp_arith [i1]
     rw [show (Str.ofString "0") = S [48] from rfl,ad (by decide)]
     exact Ok.ret ⟨by rw [za5 (by decide)];rfl,rfl⟩
    ·have hne:(!(i == 0)) = true:=by simpa using h0
     have e3:dgs i.natAbs = yD i.natAbs:=by unfold dgs;rw [if_neg (by omega)]
     by_cases h1:i < 0
     ·simp_arith [i1,Qp h1,hne]
      rw [show (Str.ofString "-") = S [45] from rfl,ad (by rw [length_singleton];omega)]
      exact Ok.ret ⟨by rw [zj4 h1,e3];rfl,rfl⟩
     ·simp_arith [i1,Qq h1,hne]
      rw [ad (by rw [length_nil];omega)]
      exact Ok.ret ⟨by rw [za5 (by omega),e3];rfl,rfl⟩
   ·exact z.elim
 obtain ⟨t,M',e,rfl,rfl⟩:=key
 exact e
noncomputable def isD (c:Nat):Bool:=decide (48<=c/\c<=57)
noncomputable def yp (l:List Nat):Option Nat:=if (1<=l.length/\l.length<=60)/\l.all isD = true/\¬ (l.head? = some 48/\1 < l.length) then some (NumText.digitsVal l) else none
noncomputable def noT:Option Nat->FT.T
 | none=>.non
 | some n=>.int (n:Int)
theorem z9 (i j:Int) (M:Mem):leU (.int i) (.int j) M = .ok (.bl (decide (i<=j))) M:=rfl
theorem zeD (c d:Nat):([c] < [d]) ↔ c < d:=by simp [List.cons_lt_cons_iff]
theorem le_lo (c:Nat) (M:Mem):leU (.str "0") (.str (S [c])) M = .ok (.bl (decide (48<=c))) M:=by
 show Out.ok (FT.T.bl (!decide ([c] < [48]))) M = _
 rw [show decide ([c] < [48]) = decide (c < 48) from by simp only [zeD]]
 by_cases h:c < 48
 ·rw [Qp h,Qq (by omega)];rfl
 ·rw [Qq h,Qp (by omega)];rfl
theorem zgt (c:Nat) (M:Mem):leU (.str (S [c])) (.str "9") M = .ok (.bl (decide (c<=57))) M:=by
 show Out.ok (FT.T.bl (!decide ([57] < [c]))) M = _
 rw [show decide ([57] < [c]) = decide (57 < c) from by simp only [zeD]]
 by_cases h:57 < c
 ·rw [Qp h,Qq (by omega)];rfl
 ·rw [Qq h,Qp (by omega)];rfl
theorem zky (h:l.length<=10000) (M:Mem):zJ (.str (S l)) M = .ok (.int (l.length:Int)) M:=by
 unfold zJ
 dsimp only
 rw [zx,if_pos (sz h)]
theorem zdz (l:List Nat):sgT (S l) = l.map fun c=>FT.T.str (S [c]):=by
 unfold sgT
 simp
theorem zct (hl:l.length<=2000) (M:Mem):zA [.str (S l),.int 60] M = .ok (noT (yp l)) M:=by
 have key:Ok (zA [.str (S l),.int 60] M) fun t M'=>t = noT (yp l)/\M' = M:=by
  refine yG rfl ?_
  unfold zaS
  have ln:=zky (l:=l) (by omega) M
  have cp:qg (zN 0) yZ (qJ leU leU (eC (.str "0")) (qb 0) (eC (.str "9"))) (l.map fun c=>FT.T.str (S [c])) [none] M [] = .ok (l.map fun c=>.bl (isD c)) M:=
   Ok.mapc (r:=fun c=>FT.T.str (S [c])) (fun σ=>∃ o,σ = [o]) _ ⟨_,rfl⟩ (by omega) (by
    rintro c σ _ ⟨o,rfl⟩
    refine ⟨[some (.str (S [c]))],rfl,⟨_,rfl⟩,?_⟩
    unfold isD
    by_cases h1:48<=c
    ·by_cases h2:c<=57
     ·simp_arith [le_lo,zgt,Qp h1,Qp h2]
      rw [Qp ⟨h1,h2⟩]
     ·simp_arith [le_lo,zgt,Qp h1,Qq h2]
      rw [Qq (fun z=>h2 z.2)]
    ·simp_arith [le_lo,Qq h1]
     rw [Qq (fun z=>h1 z.1)])
  have al:=zgg isD l M
  by_cases h1:1<=l.length
  ·by_cases h2:l.length<=60
   ·cases h3:l.all isD with
    | false=>
     rw [h3] at al
     simp_arith [z9,ln,Qp (show (1:Int)<=(l.length:Int) by omega),Qp (show (l.length:Int)<=60 by omega),iTx,zdz,cp,al]
     exact Ok.ret ⟨by unfold yp;rw [if_neg (by rw [h3];simp)];rfl,rfl⟩
    | true=>
     rw [h3] at al
     obtain ⟨c,hc⟩:∃ c,l.head? = some c:=by
      cases l with
      | nil=>simp at h1
      | cons c r=>exact ⟨c,rfl⟩
     have ne:l ≠ []:=fun z=>by rw [z] at h1;simp at h1
     have ix:ixS (.str (S l)) (.int 0) M = .ok (.str (S [c])) M:=by
      unfold ixS
      have a0:atI (S l).cps.toList 0 = some c:=by
       rw [show (S l).cps.toList = l by simp,show (0:Int) = ((0:Nat):Int) from rfl,FT.yM,← hc]
       cases l <;> rfl
      simp only [a0]
      exact if_pos (sz (by rw [zx];omega))
     have eq0:eqA (.str (S [c])) (.str "0") M = .ok (.bl (decide (c = 48))) M:=by
      show Out.ok (FT.T.bl (S [c] == S [48])) M = _
      congr 2
      by_cases h:c = 48
      ·subst h;simp
      ·rw [Qq h]
       simp only [beq_eq_false_iff_ne,ne_eq]
       intro z
       injection z with z
       have:=congrArg Array.toList z
       simp at this
       exact h this
     have iu:zcz (.str (S l)) M = .ok (.int ((NumText.digitsVal l:Nat):Int)) M:=by
      unfold zcz
      have hd:NumText.AllDigits (S l).cps.toList:=by
       rw [show (S l).cps.toList = l by simp]
       intro d hd
       have:=all_eq_true.mp h3 d hd
       exact of_decide_eq_true this
      have e:=PySem.intText_digits hd (by simpa using ne) (by rw [zx];omega)
      rw [show (S l).cps.toList = l by simp] at e
      simp only [e]
      exact if_pos (by rw [zx];omega)
     by_cases h4:c = 48
     ·by_cases h5:1 < l.length
      ·simp_arith [z9,ln,Qp (show (1:Int)<=(l.length:Int) by omega),Qp (show (l.length:Int)<=60 by omega),iTx,zdz,cp,al,ix,eq0,Qp h4,Qp (show (l.length:Int) > 1 by omega)]
       exact Ok.ret ⟨by unfold yp;rw [if_neg (fun z=>z.2.2 ⟨by rw [hc,h4],h5⟩)];rfl,rfl⟩
      ·simp_arith [z9,ln,Qp (show (1:Int)<=(l.length:Int) by omega),Qp (show (l.length:Int)<=60 by omega),iTx,zdz,cp,al,ix,eq0,Qp h4,Qq (show ¬ (l.length:Int) > 1 by omega),iu]
       exact Ok.ret ⟨by unfold yp;rw [if_pos ⟨⟨h1,h2⟩,h3,fun z=>h5 z.2⟩];rfl,rfl⟩
     ·simp_arith [z9,ln,Qp (show (1:Int)<=(l.length:Int) by omega),Qp (show (l.length:Int)<=60 by omega),iTx,zdz,cp,al,ix,eq0,Qq h4,iu]
      exact Ok.ret ⟨by unfold yp;rw [if_pos ⟨⟨h1,h2⟩,h3,fun z=>h4 (by rw [hc] at z;exact Qb z.1)⟩];rfl,rfl⟩
   ·simp_arith [z9,ln,Qp (show (1:Int)<=(l.length:Int) by omega),Qq (show ¬ (l.length:Int)<=60 by omega)]
    exact Ok.ret ⟨by unfold yp;rw [if_neg (fun z=>h2 z.1.2)];rfl,rfl⟩
  ·simp_arith [z9,ln,Qq (show ¬ (1:Int)<=(l.length:Int) by omega)]
   exact Ok.ret ⟨by unfold yp;rw [if_neg (fun z=>h1 z.1.1)];rfl,rfl⟩
 obtain ⟨t,M',e,rfl,rfl⟩:=key
 exact e
theorem ziI (h:i.natAbs < 10 ^ 400):i.natAbs.log2 < 1920:=by
 by_cases h0:i.natAbs = 0
 ·rw [h0];decide
 ·rw [Nat.log2_lt h0]
  exact Q5 h (by decide)
theorem zel (h:i.natAbs < 10 ^ 400) (M:Mem):zah (.int i) M = .ok (.str (S (D i))) M:=by
 unfold zah
 dsimp only
 rw [if_pos (ziI h),str_int]
noncomputable def jn:List (List Nat)->List Nat
 | []=>[]
 | [x]=>x
 | x :: y :: r=>x ++ 32 :: jn (y :: r)
theorem zaA:∀ ps:List Str,(Str.join (S [32]) ps).cps.toList = jn (ps.map fun p=>p.cps.toList)
 | []=>rfl
 | [x]=>rfl
 | x :: y :: r=>by
  show ((x.cps ++ #[32]) ++ (Str.join (S [32]) (y :: r)).cps).toList = _
  rw [Array.toList_append,Array.toList_append,zaA (y :: r)]
  simp [jn]
theorem zeH:∀ {ps:List (List Nat)} {p:List Nat},p ∈ ps->p.length<=(jn ps).length
 | [x],p,h=>by rw [mem_singleton.mp h];exact Q3 _
 | x :: y :: r,p,h=>by
  rw [jn,Ql,Qn]
  rcases mem_cons.mp h with rfl | h
  ·omega
  ·have:=zeH h
   omega
theorem zcF:∀ {p A X B:List Nat},32 ∉ p->32 ∉ A->p ++ 32 :: X = A ++ 32 :: B->p = A/\X = B
 | [],[],X,B,_,_,h=>⟨rfl,by simpa using h⟩
 | [],a :: A,X,B,_,hA,h=>by
  exfalso
  have:(32:Nat) = a:=(List.cons.inj h).1
  exact hA (by rw [← this];exact .head _)
 | a :: p,[],X,B,hp,_,h=>by
  exfalso
  have:a = (32:Nat):=(List.cons.inj h).1
  exact hp (by rw [this];exact .head _)
 | a :: p,b :: A,X,B,hp,hA,h=>by
  obtain ⟨h1,h2⟩:=List.cons.inj h
  obtain ⟨h3,h4⟩:=zcF (fun z=>hp (.tail _ z)) (fun z=>hA (.tail _ z)) h2
  exact ⟨by rw [h1,h3],h4⟩
theorem zfm (x y:Str):Txt.split x y ≠ []:=by
 unfold Txt.split
 split
 ·simp
 ·split
  ·simp
  ·rw [StrLaws.partsBetween_eq]
   obtain ⟨p,q,e⟩:=StrLaws.partsFrom_ne x y.length 0 (Builtin.Str.occurrences x y 0 x.length (x.length + 1))
   rw [e]
   simp
noncomputable def spl (l:List Nat):List (List Nat):=(Txt.split (S l) (S [32])).map fun p=>p.cps.toList
theorem zgn (l:List Nat):Txt.split (S l) (S [32]) = (spl l).map S:=by
 unfold spl
 rw [List.map_map]
 refine (List.map_id _).symm.trans (List.map_congr_left fun p _=>?_)
 show p = (⟨p.cps.toList.toArray⟩:Str)
 simp
theorem zeo (l:List Nat):spl l ≠ []:=by
 unfold spl
 intro z
 exact zfm _ _ (List.map_eq_nil_iff.mp z)
theorem zfn (l:List Nat):∀ p ∈ spl l,32 ∉ p:=by
 intro p hp
 obtain ⟨q,hq,rfl⟩:=mem_map.mp hp
 exact StrLaws.split_free (S l) 32 q hq
theorem za8 (l:List Nat):jn (spl l) = l:=by
 have:=congrArg (fun s:Str=>s.cps.toList) (StrLaws.join_split (S l) (S [32]))
 dsimp only at this
 rw [zaA] at this
 rw [show jn (spl l) = (S l).cps.toList from this]
theorem zgK {p:List Nat} (h:p ∈ spl l):p.length<=l.length:=by
 have:=zeH h
 rwa [za8] at this
theorem zeI:∀ {ps qs:List (List Nat)},ps ≠ []->qs ≠ []->(∀ p ∈ ps,32 ∉ p)->(∀ q ∈ qs,32 ∉ q)->jn ps = jn qs->ps = qs
 | [],_,h,_,_,_,_=>absurd rfl h
 | _,[],_,h,_,_,_=>absurd rfl h
 | [a],[b],_,_,_,_,e=>by rw [show a = b from e]
 | [a],b :: c :: r,_,_,ha,hb,e=>by
  exfalso
  have e':a = b ++ 32 :: jn (c :: r):=e
  exact ha a (.head _) (by rw [e'];simp)
 | a :: c :: r,[b],_,_,ha,hb,e=>by
  exfalso
  have e':a ++ 32 :: jn (c :: r) = b:=e
  exact hb b (.head _) (by rw [← e'];simp)
 | a :: c :: r,b :: d :: u,_,_,ha,hb,e=>by
  have e':a ++ 32 :: jn (c :: r) = b ++ 32 :: jn (d :: u):=e
  obtain ⟨h1,h2⟩:=zcF (ha a (.head _)) (hb b (.head _)) e'
  rw [h1,zeI (by simp) (by simp) (fun p hp=>ha p (.tail _ hp)) (fun q hq=>hb q (.tail _ hq)) h2]
variable {ws:List (List Nat)}
theorem zen (hn:ws ≠ []) (hf:∀ w ∈ ws,32 ∉ w):spl (jn ws) = ws:=zeI (zeo _) hn (zfn _) hf (za8 _)
theorem zbJ (h:n < 10 ^ 60):yp (dgs n) = some n:=by
 unfold yp
 rw [if_pos,zhH]
 refine ⟨⟨?_,qC (by decide) h⟩,all_eq_true.mpr fun c hc=>Qp (zby n c hc),fun z=>?_⟩
 ·have:=List.length_pos_iff.mpr (zeY n)
  omega
 ·cases e:dgs n with
  | nil=>exact zeY n e
  | cons c r=>
   rw [e] at z
   have hc:c = 48:=by simpa using z.1
   subst hc
   have:=(zf8 e).2
   rw [this] at z
   simp at z
variable {kN:Addr}
section
theorem ze1 (l:Str) (M:Mem):qr kN [.str l] M = .ok .non M:=by
 have i1:zL (.str l) (.ty "str") M = .ok (.bl true) M:=by unfold zL tyN;exact if_pos (by decide)
 have key:Ok (qr kN [.str l] M) fun t M'=>t = .non/\M' = M:=by
  refine OkX.toOk (zR rfl (OkX.ok ?_))
  unfold qW
  simp_arith [i1]
  exact Ok.ret ⟨rfl,rfl⟩
 obtain ⟨t,M',e,rfl,rfl⟩:=key
 exact e
theorem rai (x:FT.T) (M:Mem):yI kN [x] M = .exn kN [] M:=by
 unfold yI
 exact if_pos (show 1<=sizeLine by rw [sizeLine_eq];decide)
theorem neS (l m:List Nat) (M:Mem):neA (.str (S l)) (.str (S m)) M = .ok (.bl (!decide (l = m))) M:=by
 show Out.ok (FT.T.bl (!(S l == S m))) M = _
 congr 3
 by_cases h:l = m
 ·subst h;simp
 ·rw [Qq h]
  simp only [beq_eq_false_iff_ne,ne_eq]
  intro z
  injection z with z
  have:=congrArg Array.toList z
  simp at this
  exact h this
theorem zjj (l m:List Nat) (M:Mem):eqA (.str (S l)) (.str (S m)) M = .ok (.bl (decide (l = m))) M:=by
 show Out.ok (FT.T.bl (S l == S m)) M = _
 congr 2
 by_cases h:l = m
 ·subst h;simp
 ·rw [Qq h]
  simp only [beq_eq_false_iff_ne,ne_eq]
  intro z
  injection z with z
  have:=congrArg Array.toList z
  simp at this
  exact h this
theorem zeJ:∀ ps:List (List Nat),ps.length<=(jn ps).length + 1
 | []=>Nat.zero_le _
 | [x]=>by simp
 | x :: y :: r=>by
  have:=zeJ (y :: r)
  show (x :: y :: r).length<=(x ++ 32 :: jn (y :: r)).length + 1
  simp only [Ql,Qn] at this ⊢
  omega
noncomputable def zf:List Nat:=[102,114,101,115,104]
noncomputable def ze:List Nat:=[101,110,100,115]
noncomputable def zh:List Nat:=[108,111,115,116]
noncomputable def yo:List Nat:=[97,103,97,105,110]
noncomputable def cUp:List Nat:=[117,112]
noncomputable def zD:List Nat:=[119,101,108,108]
noncomputable def qx:List Nat:=[98,97,100]
noncomputable def qB:List Nat:=[115,112,101,110,116]
noncomputable def rdW:List (List Nat)->Option FT.T
 | [a,b]=>if a = zh\/a = yo\/a = cUp then (yp b).map fun (n:Nat)=>FT.T.tup [.str (S a),.int (n:Int)] else none
 | [a,b,c]=>if a = ze/\(c = zD\/c = qx\/c = qB) then (yp b).map fun (n:Nat)=>FT.T.tup [.str (S ze),.int (n:Int),.str (S c)] else none
 | _=>none
theorem zQ (a b:List Nat):rdW [a,b] = if a = zh\/a = yo\/a = cUp then (yp b).map fun (n:Nat)=>FT.T.tup [.str (S a),.int (n:Int)] else none:=rfl
theorem zI (a b c:List Nat):rdW [a,b,c] = if a = ze/\(c = zD\/c = qx\/c = qB) then (yp b).map fun (n:Nat)=>FT.T.tup [.str (S ze),.int (n:Int),.str (S c)] else none:=rfl
noncomputable def rdE (l:List Nat):Option FT.T:=if l = zf then some (.tup [.str (S zf)]) else rdW (spl l)
end
section
theorem in3 (c x y z:List Nat) (M:Mem):inA (.str (S c)) (.tup [.str (S x),.str (S y),.str (S z)]) M = .ok (.bl (decide (c = x\/c = y\/c = z))) M:=by
 have hh:∀ w:List Nat,(S w == S c) = decide (c = w):=fun w=>by
  by_cases h:c = w
  ·subst h;simp
  ·rw [Qq h,beq_eq_false_iff_ne]
   intro q
   injection q with q
   have:=congrArg Array.toList q
   simp at this
   exact h this.symm
 show Out.ok (FT.T.bl ((S x == S c) || ((S y == S c) || ((S z == S c) || false)))) M = _
 rw [hh,hh,hh]
 congr 2
 by_cases h1:c = x <;> by_cases h2:c = y <;> by_cases h3:c = z <;> simp [h1,h2,h3]
theorem qu (i:Int) (M:Mem):zaO (.int i) .non M = .ok (.bl true) M:=rfl
theorem zaN (M:Mem):zaO .non .non M = .ok (.bl false) M:=rfl
theorem zdd (hl:l.length<=1000) (M:Mem) :
  OkX (ql kN [.str (S l)] M) (fun v M'=>M' = M/\rdE l = some v) (fun C' _ M'=>C' = kN/\M' = M/\rdE l = none):=by
 refine zR rfl ?_
 unfold yW
 have sp:yU (.str (S l)) [.str " "] M = .ok ((spl l).map fun w=>.str (S w)) M:=by
  unfold yU
  dsimp only
  rw [show (Str.ofString " ") = S [32] from rfl,zgn,if_pos,List.map_map]
  ·rfl
  ·refine ⟨rfl,sz (by rw [zx];omega),?_⟩
   rw [Qf]
   have:=zeJ (spl l)
   rw [za8] at this
   exact sz (by omega)
 have ck:=ze1 (kN:=kN) (S l) M
 have ef:eqA (.str (S l)) (.str "fresh") M = .ok (.bl (decide (l = zf))) M:=zjj l zf M
 have hmem:∀ w ∈ spl l,w.length<=2000:=fun w hw=>by
  have:=zgK hw
  omega
 have nm:∀ w ∈ spl l,zA [.str (S w),.int 60] M = .ok (noT (yp w)) M:=fun w hw=>zct (hmem w hw) M
 have ee:∀ a,eqA (.str (S a)) (.str "ends") M = .ok (.bl (decide (a = ze))) M:=fun a=>zjj a ze M
 have e3:∀ c,inA (.str (S c)) (.tup [.str "well",.str "bad",.str "spent"]) M = .ok (.bl (decide (c = zD\/c = qx\/c = qB))) M:=fun c=>in3 c zD qx qB M
 have l3:∀ a,inA (.str (S a)) (.tup [.str "lost",.str "again",.str "up"]) M = .ok (.bl (decide (a = zh\/a = yo\/a = cUp))) M:=fun c=>in3 c zh yo cUp M
 by_cases hf:l = zf
 ·simp_arith [ck,zl,isStr,sp,ef,Qp hf]
  exact ⟨rfl,by unfold rdE;rw [if_pos hf];rfl⟩
 ·have rd:rdE l = rdW (spl l):=by unfold rdE;rw [if_neg hf]
  rw [rd]
  have hne:=zeo l
  generalize spl l = W at sp nm hne
  match W,hne with
  | [a],_=>
   simp_arith [ck,zl,isStr,sp,ef,Qq hf,zaN,qm,rai]
   exact ⟨rfl,rfl,rfl⟩
  | [a,b],_=>
   have nb:=nm b (.tail _ (.head _))
   cases hb:yp b with
   | none=>
    rw [hb,show noT none = FT.T.non from rfl] at nb
    simp_arith [ck,zl,isStr,sp,ef,Qq hf,nb,zaN,qm,rai]
    refine ⟨rfl,rfl,?_⟩
    rw [zQ,hb]
    split <;> rfl
   | some n=>
    rw [hb,show noT (some n) = FT.T.int (n:Int) from rfl] at nb
    by_cases hc:a = zh\/a = yo\/a = cUp
    ·by_cases ha:a = ze
     ·simp_arith [ck,zl,isStr,sp,ef,Qq hf,nb,qu,ee,Qp ha,l3,Qp hc]
      exact ⟨rfl,by rw [zQ,if_pos hc,hb];rfl⟩
     ·simp_arith [ck,zl,isStr,sp,ef,Qq hf,nb,qu,ee,Qq ha,l3,Qp hc]
      exact ⟨rfl,by rw [zQ,if_pos hc,hb];rfl⟩
    ·by_cases ha:a = ze
     ·simp_arith [ck,zl,isStr,sp,ef,Qq hf,nb,qu,ee,Qp ha,l3,Qq hc,qm,rai]
      exact ⟨rfl,rfl,by rw [zQ,if_neg hc]⟩
     ·simp_arith [ck,zl,isStr,sp,ef,Qq hf,nb,qu,ee,Qq ha,l3,Qq hc,qm,rai]
      exact ⟨rfl,rfl,by rw [zQ,if_neg hc]⟩
  | [a,b,c],_=>
   have nb:=nm b (.tail _ (.head _))
   cases hb:yp b with
   | none=>
    rw [hb,show noT none = FT.T.non from rfl] at nb
    simp_arith [ck,zl,isStr,sp,ef,Qq hf,nb,zaN,qm,rai]
    refine ⟨rfl,rfl,?_⟩
    rw [zI,hb]
    split <;> rfl
   | some n=>
    rw [hb,show noT (some n) = FT.T.int (n:Int) from rfl] at nb
    have l3a:=l3 a
    by_cases ha:a = ze
    ·by_cases hc:c = zD\/c = qx\/c = qB
     ·simp_arith [ck,zl,isStr,sp,ef,Qq hf,nb,qu,ee,Qp ha,e3,Qp hc]
      exact ⟨rfl,by rw [zI,if_pos ⟨ha,hc⟩,hb];rfl⟩
     ·cases hd:decide (a = zh\/a = yo\/a = cUp) with
      | true=>
       rw [hd] at l3a
       simp_arith [ck,zl,isStr,sp,ef,Qq hf,nb,qu,ee,Qp ha,e3,Qq hc,l3a,qm,rai]
       exact ⟨rfl,rfl,by rw [zI,if_neg (fun z=>hc z.2)]⟩
      | false=>
       rw [hd] at l3a
       simp_arith [ck,zl,isStr,sp,ef,Qq hf,nb,qu,ee,Qp ha,e3,Qq hc,l3a,qm,rai]
       exact ⟨rfl,rfl,by rw [zI,if_neg (fun z=>hc z.2)]⟩
    ·cases hd:decide (a = zh\/a = yo\/a = cUp) with
     | true=>
      rw [hd] at l3a
      simp_arith [ck,zl,isStr,sp,ef,Qq hf,nb,qu,ee,Qq ha,l3a,qm,rai]
      exact ⟨rfl,rfl,by rw [zI,if_neg (fun z=>ha z.1)]⟩
     | false=>
      rw [hd] at l3a
      simp_arith [ck,zl,isStr,sp,ef,Qq hf,nb,qu,ee,Qq ha,l3a,qm,rai]
      exact ⟨rfl,rfl,by rw [zI,if_neg (fun z=>ha z.1)]⟩
  | a :: b :: c :: d :: r,_=>
   have nb:=nm b (.tail _ (.head _))
   have n1:(((r.length + 1 + 1 + 1 + 1:Nat):Int) == 1) = false:=by rw [beq_eq_false_iff_ne];omega
   have n2:(((r.length + 1 + 1 + 1 + 1:Nat):Int) == 2) = false:=by rw [beq_eq_false_iff_ne];omega
   have n3:(((r.length + 1 + 1 + 1 + 1:Nat):Int) == 3) = false:=by rw [beq_eq_false_iff_ne];omega
   cases hb:yp b with
   | none=>
    rw [hb,show noT none = FT.T.non from rfl] at nb
    simp_arith [ck,zl,isStr,sp,ef,Qq hf,Qf,n1,nb,zaN,qm,rai]
    exact ⟨rfl,rfl,rfl⟩
   | some n=>
    rw [hb,show noT (some n) = FT.T.int (n:Int) from rfl] at nb
    have l3a:=l3 a
    cases ha:decide (a = ze) with
    | true=>
     cases hd:decide (a = zh\/a = yo\/a = cUp) with
     | true=>
      rw [hd] at l3a
      simp_arith [ck,zl,isStr,sp,ef,Qq hf,Qf,n1,n2,n3,nb,qu,ee,ha,l3a,qm,rai]
      exact ⟨rfl,rfl,rfl⟩
     | false=>
      rw [hd] at l3a
      simp_arith [ck,zl,isStr,sp,ef,Qq hf,Qf,n1,n2,n3,nb,qu,ee,ha,l3a,qm,rai]
      exact ⟨rfl,rfl,rfl⟩
    | false=>
     cases hd:decide (a = zh\/a = yo\/a = cUp) with
     | true=>
      rw [hd] at l3a
      simp_arith [ck,zl,isStr,sp,ef,Qq hf,Qf,n1,n2,n3,nb,qu,ee,ha,l3a,qm,rai]
      exact ⟨rfl,rfl,rfl⟩
     | false=>
      rw [hd] at l3a
      simp_arith [ck,zl,isStr,sp,ef,Qq hf,Qf,n1,n2,n3,nb,qu,ee,ha,l3a,qm,rai]
      exact ⟨rfl,rfl,rfl⟩
end
inductive EvK
 | fr
 | en (n:Nat) (w:List Nat)
 | ot (a:List Nat) (n:Nat)
noncomputable def qw:EvK->Prop
 | .fr=>True
 | .en n w=>n < 10 ^ 60/\(w = zD\/w = qx\/w = qB)
 | .ot a n=>n < 10 ^ 60/\(a = zh\/a = yo\/a = cUp)
noncomputable def wW:EvK->List (List Nat)
 | .fr=>[zf]
 | .en n w=>[ze,dgs n,w]
 | .ot a n=>[a,dgs n]
noncomputable def evT:EvK->FT.T
 | .fr=>.tup [.str (S zf)]
 | .en n w=>.tup [.str (S ze),.int (n:Int),.str (S w)]
 | .ot a n=>.tup [.str (S a),.int (n:Int)]
noncomputable def tx (e:EvK):List Nat:=jn (wW e)
theorem zab (n:Nat):32 ∉ dgs n:=fun h=>by have:=zby n 32 h;omega
variable {e:EvK}
theorem zaJ (h:qw e):∀ w ∈ wW e,32 ∉ w:=by
 cases e with
 | fr=>intro w hw;rw [mem_singleton.mp hw];decide
 | en n w=>
  intro x hx
  simp only [wW,mem_cons,not_mem_nil,or_false] at hx
  rcases hx with rfl | rfl | rfl
  ·decide
  ·exact zab n
  ·rcases h.2 with rfl | rfl | rfl <;> decide
 | ot a n=>
  intro x hx
  simp only [wW,mem_cons,not_mem_nil,or_false] at hx
  rcases hx with rfl | rfl
  ·rcases h.2 with rfl | rfl | rfl <;> decide
  ·exact zab n
theorem zgi (e:EvK):wW e ≠ []:=by cases e <;> simp [wW]
theorem zcg (h:qw e):spl (tx e) = wW e:=zen (zgi e) (zaJ h)
theorem zgq (h:qw e):rdE (tx e) = some (evT e):=by
 cases e with
 | fr=>exact if_pos rfl
 | en n w=>
  unfold rdE
  rw [if_neg (fun z=>absurd (show 32 ∈ zf by rw [← z];simp [tx,wW,jn]) (by decide)),zcg h]
  show rdW [ze,dgs n,w] = _
  rw [zI,if_pos ⟨rfl,h.2⟩,zbJ h.1]
  rfl
 | ot a n=>
  unfold rdE
  rw [if_neg (fun z=>absurd (show 32 ∈ zf by rw [← z];simp [tx,wW,jn]) (by decide)),zcg h]
  show rdW [a,dgs n] = _
  rw [zQ,if_pos h.2,zbJ h.1]
  rfl
theorem zej (h:qw e):(tx e).length<=80:=by
 cases e with
 | fr=>decide
 | en n w=>
  have:=qC (k:=60) (by decide) h.1
  show (ze ++ 32 :: (dgs n ++ 32 :: w)).length<=80
  rcases h.2 with rfl | rfl | rfl <;> simp [ze,zD,qx,qB] <;> omega
 | ot a n=>
  have:=qC (k:=60) (by decide) h.1
  show (a ++ 32 :: dgs n).length<=80
  rcases h.2 with rfl | rfl | rfl <;> simp [zh,yo,cUp] <;> omega
theorem zb3 (h:n < 10 ^ 60):((n:Int)).natAbs < 10 ^ 400:=Q5 (show ((n:Int)).natAbs < 10 ^ 60 by simpa using h) (Nat.pow_le_pow_right (by decide) (by decide))
theorem zb4 (n:Nat):D (n:Int) = dgs n:=by rw [za5 (by omega)];simp
theorem zcw (h:qw e) (M:Mem):yj [evT e] M = .ok (.str (S (tx e))) M:=by
 have b1:Str.ofString " " = S [32]:=rfl
 cases e with
 | fr=>
  unfold yj yC evT
  simp_arith [and_self]
  rfl
 | en n w=>
  have fg:=zbg (zb3 h.1) M
  rw [zb4] at fg
  have dl:=qC (k:=60) (by decide) h.1
  have wl:w.length<=10:=by rcases h.2 with rfl | rfl | rfl <;> decide
  have a1:=ad (l:=ze) (m:=[32]) (by decide) M
  have a2:=ad (l:=ze ++ [32]) (m:=dgs n) (by simp [ze];omega) M
  have a3:=ad (l:=ze ++ [32] ++ dgs n) (m:=[32]) (by simp [ze];omega) M
  have a4:=ad (l:=ze ++ [32] ++ dgs n ++ [32]) (m:=w) (by simp [ze];omega) M
  unfold yj yC evT
  rw [b1]
  simp_arith [a1,fg,a2,a3,a4]
  congr 3
  simp [tx,wW,jn]
 | ot a n=>
  have fg:=zbg (zb3 h.1) M
  rw [zb4] at fg
  have dl:=qC (k:=60) (by decide) h.1
  have wl:a.length<=10:=by rcases h.2 with rfl | rfl | rfl <;> decide
  have a1:=ad (l:=a) (m:=[32]) (by simp;omega) M
  have a2:=ad (l:=a ++ [32]) (m:=dgs n) (by simp;omega) M
  unfold yj yC evT
  rw [b1]
  simp_arith [a1,fg,a2]
  congr 3
  simp [tx,wW,jn]
theorem j1 (x:List Nat) (h:x.length<=1000) (M:Mem):qM (.str " ") [.lst [.str (S x)]] M = .ok (.str (S x)) M:=by
 unfold qM
 show (if ((S x).length + 0) + 1 * 1<=16777216 then Out.ok (FT.T.str (Txt.join (S [32]) [S x])) M else .bad) = _
 rw [if_pos (by rw [zx];omega)]
 rfl
theorem j2 (x y:List Nat) (h:x.length + y.length<=1000) (M:Mem):qM (.str " ") [.lst [.str (S x),.str (S y)]] M = .ok (.str (S (x ++ 32 :: y))) M:=by
 unfold qM
 show (if ((S x).length + ((S y).length + 0)) + 2 * 1<=16777216 then Out.ok (FT.T.str (Txt.join (S [32]) [S x,S y])) M else .bad) = _
 rw [if_pos (by rw [zx,zx];omega)]
 show Out.ok (FT.T.str ⟨x.toArray ++ #[32] ++ y.toArray⟩) M = _
 congr 2
 simp
theorem j3 (x y z:List Nat) (h:x.length + y.length + z.length<=1000) (M:Mem):qM (.str " ") [.lst [.str (S x),.str (S y),.str (S z)]] M = .ok (.str (S (x ++ 32 :: (y ++ 32 :: z)))) M:=by
 unfold qM
 show (if ((S x).length + ((S y).length + ((S z).length + 0))) + 3 * 1<=16777216 then Out.ok (FT.T.str (Txt.join (S [32]) [S x,S y,S z])) M else .bad) = _
 rw [if_pos (by rw [zx,zx,zx];omega)]
 show Out.ok (FT.T.str ⟨x.toArray ++ #[32] ++ y.toArray ++ #[32] ++ z.toArray⟩) M = _
 congr 2
 simp
theorem zh4 (x:Str) (M:Mem):zah (.str x) M = .ok (.str x) M:=rfl
theorem zcG (h:qw e) (M:Mem):yr [evT e] M = .ok (.str (S (tx e))) M:=by
 cases e with
 | fr=>
  have c0:zaq [FT.T.str (S zf)] (some 1) none = []:=rfl
  have cp:qg (zN 0) yZ (qd (zk zah) (qa (qb 0) zd)) [] [none] M [] = .ok [] M:=rfl
  have a1:=zT (xs:=[FT.T.str (S zf)]) (ys:=[]) (M:=M) (sz (by decide))
  have jj:=j1 zf (by decide) M
  rw [append_nil] at a1
  unfold yr yJ evT
  simp_arith [c0,cp,a1,zaa,isStr,jj]
  rfl
 | en n w=>
  have si:=zel (zb3 h.1) M
  rw [zb4] at si
  have dl:=qC (k:=60) (by decide) h.1
  have wl:w.length<=10:=by rcases h.2 with rfl | rfl | rfl <;> decide
  have c0:zaq [FT.T.str (S ze),.int (n:Int),.str (S w)] (some 1) none = [.int (n:Int),.str (S w)]:=rfl
  have cp:qg (zN 0) yZ (qd (zk zah) (qa (qb 0) zd)) [.int (n:Int),.str (S w)] [none] M [] = .ok [.str (S (dgs n)),.str (S w)] M:=by
   refine Ok.mapc (r:=fun b:Bool=>if b = true then FT.T.int (n:Int) else .str (S w)) (xs:=[true,false]) (fun σ=>∃ o,σ = [o]) (fun b=>if b = true then .str (S (dgs n)) else .str (S w)) ⟨_,rfl⟩ (Nat.le_of_ble_eq_true rfl) ?_
   rintro b σ hb ⟨o,rfl⟩
   cases b with
   | true=>exact ⟨[some (.int (n:Int))],rfl,⟨_,rfl⟩,by simp_arith [si]⟩
   | false=>exact ⟨[some (.str (S w))],rfl,⟨_,rfl⟩,by simp_arith [zh4]⟩
  have a1:=zT (xs:=[FT.T.str (S ze)]) (ys:=[.str (S (dgs n)),.str (S w)]) (M:=M) (sz (by simp))
  have jj:=j3 ze (dgs n) w (by simp [ze];omega) M
  unfold yr yJ evT
  simp_arith [c0,cp,a1,zaa,isStr,jj]
  rfl
 | ot a n=>
  have si:=zel (zb3 h.1) M
  rw [zb4] at si
  have dl:=qC (k:=60) (by decide) h.1
  have wl:a.length<=10:=by rcases h.2 with rfl | rfl | rfl <;> decide
  have c0:zaq [FT.T.str (S a),.int (n:Int)] (some 1) none = [.int (n:Int)]:=rfl
  have cp:qg (zN 0) yZ (qd (zk zah) (qa (qb 0) zd)) [.int (n:Int)] [none] M [] = .ok [.str (S (dgs n))] M:=by
   refine Ok.mapc (r:=FT.T.int) (xs:=[(n:Int)]) (fun σ=>∃ o,σ = [o]) (fun _=>.str (S (dgs n))) ⟨_,rfl⟩ (Nat.le_of_ble_eq_true rfl) ?_
   rintro i σ hi ⟨o,rfl⟩
   rw [mem_singleton.mp hi]
   exact ⟨[some (.int (n:Int))],rfl,⟨_,rfl⟩,by simp_arith [si]⟩
  have a1:=zT (xs:=[FT.T.str (S a)]) (ys:=[.str (S (dgs n))]) (M:=M) (sz (by simp))
  have jj:=j2 a (dgs n) (by omega) M
  unfold yr yJ evT
  simp_arith [c0,cp,a1,zaa,isStr,jj]
  rfl
theorem yF (hn:ws ≠ []) (hf:∀ w ∈ ws,32 ∉ w) (e:l = jn ws) (h1:l ≠ zf) (h2:rdW ws = none):rdE l = none:=by
 unfold rdE
 rw [if_neg h1,e,zen hn hf,h2]
theorem zeK:∀ (ws:List (List Nat)) (w:List Nat),ws ≠ []->jn (ws ++ [w]) = jn ws ++ 32 :: w
 | [x],w,_=>rfl
 | x :: y :: r,w,_=>by
  show x ++ 32 :: jn ((y :: r) ++ [w]) = (x ++ 32 :: jn (y :: r)) ++ 32 :: w
  rw [zeK (y :: r) w (by simp)]
  simp
theorem zgd {c:Nat} (h32:c ≠ 32) (h:c ≠ 102/\c ≠ 101/\c ≠ 108/\c ≠ 97/\c ≠ 117):rdE (c :: r) = none:=by
 have hj:=za8 (c :: r)
 unfold rdE
 have hne:c :: r ≠ zf:=fun z=>h.1 (List.cons.inj (show c :: r = 102 :: [114,101,115,104] from z)).1
 rw [if_neg hne]
 have hd:∀ x ws,spl (c :: r) = x :: ws->∃ x',x = c :: x':=by
  intro x ws e
  rw [e] at hj
  cases x with
  | nil=>
   exfalso
   cases ws with
   | nil=>cases hj
   | cons y t=>exact h32 (List.cons.inj hj).1.symm
  | cons d x'=>
   cases ws with
   | nil=>exact ⟨x',by rw [(List.cons.inj hj).1]⟩
   | cons y t=>exact ⟨x',by rw [(List.cons.inj hj).1]⟩
 match hW:spl (c :: r) with
 | []=>rfl
 | [a]=>rfl
 | [a,b]=>
  obtain ⟨x',rfl⟩:=hd _ _ hW
  rw [zQ,if_neg]
  rintro (z | z | z) <;> have:=(List.cons.inj z).1 <;> omega
 | [a,b,d]=>
  obtain ⟨x',rfl⟩:=hd _ _ hW
  rw [zI,if_neg]
  rintro ⟨z,_⟩
  have:=(List.cons.inj z).1
  omega
 | a :: b :: d :: f :: t=>rfl
variable {w:List Nat}
theorem zjr:tx e ++ 32 :: w ≠ zf:=fun z=>absurd (show 32 ∈ zf by rw [← z];simp) (by decide)
theorem zgr {a:List Nat} (h:a = zh\/a = yo\/a = cUp):a ≠ ze:=by rcases h with rfl | rfl | rfl <;> decide
theorem zdt (h:qw e) (hw:32 ∉ w):rdE (tx e ++ 32 :: w) = none:=by
 refine yF (ws:=wW e ++ [w]) (by simp) (fun x hx=>?_) (zeK _ _ (zgi e)).symm zjr ?_
 ·rcases mem_append.mp hx with hx | hx
  ·exact zaJ h x hx
  ·rw [mem_singleton.mp hx];exact hw
 ·cases e with
  | fr=>show rdW [zf,w] = none;rw [zQ,if_neg (by decide)]
  | en n v=>rfl
  | ot a n=>show rdW [a,dgs n,w] = none;rw [zI,if_neg (fun z=>zgr h.2 z.1)]
theorem zgX (h:qw e):rdE (32 :: tx e) = none:=by
 refine yF (ws:=[] :: wW e) (by simp) (fun x hx=>?_) ?_ (by simp [zf]) ?_
 ·rcases mem_cons.mp hx with rfl | hx
  ·simp
  ·exact zaJ h x hx
 ·cases e <;> rfl
 ·cases e with
  | fr=>show rdW [[],zf] = none;rw [zQ,if_neg (by decide)]
  | en n v=>rfl
  | ot a n=>show rdW [[],a,dgs n] = none;rw [zI,if_neg (fun z=>absurd z.1 (by decide))]
theorem zhG (h:qw e):rdE (tx e ++ [10]) = none:=by
 cases e with
 | fr=>exact yF (ws:=[zf ++ [10]]) (by simp) (fun x hx=>by rw [mem_singleton.mp hx];decide) rfl (by decide) rfl
 | en n w=>
  have hf:=zaJ h
  refine yF (ws:=[ze,dgs n,w ++ [10]]) (by simp) (fun x hx=>?_) (by simp [tx,wW,jn]) (fun z=>absurd (show 32 ∈ zf by rw [← z];simp [tx,wW,jn]) (by decide)) ?_
  ·simp only [mem_cons,not_mem_nil,or_false] at hx
   rcases hx with rfl | rfl | rfl
   ·decide
   ·exact zab n
   ·rcases h.2 with rfl | rfl | rfl <;> decide
  ·rw [zI,if_neg]
   rintro ⟨_,z⟩
   rcases h.2 with rfl | rfl | rfl <;> revert z <;> decide
 | ot a n=>
  refine yF (ws:=[a,dgs n ++ [10]]) (by simp) (fun x hx=>?_) (by simp [tx,wW,jn]) (fun z=>absurd (show 32 ∈ zf by rw [← z];simp [tx,wW,jn]) (by decide)) ?_
  ·simp only [mem_cons,not_mem_nil,or_false] at hx
   rcases hx with rfl | rfl
   ·rcases h.2 with rfl | rfl | rfl <;> decide
   ·intro z
    rcases mem_append.mp z with z | z
    ·exact zab n z
    ·simp at z
  ·have:yp (dgs n ++ [10]) = none:=by
    unfold yp
    rw [if_neg]
    rintro ⟨_,z,_⟩
    rw [List.all_append] at z
    simp [isD] at z
   rw [zQ,this]
   split <;> rfl
noncomputable def wr:List (List (List Nat)):=[[[102,114,101,115,104],[48]],[[101,110,100,115],[49]],[zh],[ze,zD,[49]],[ze,[49],[103,111,111,100]],[ze,[49],qx,[49]],[zh,[45,49]],[zh,[48,49]],[yo,[45,48]],[cUp,[49],[49]],[cUp,[120]],[yo,[43,49]],[[100,111,110,101],[49]],[zh,[49,95,48]],[[]]]
theorem zhV:∀ ws ∈ wr,rdE (jn ws) = none:=by
 intro ws hws
 have hf:∀ ws ∈ wr,ws ≠ []/\(∀ w ∈ ws,32 ∉ w)/\jn ws ≠ zf:=by decide
 obtain ⟨a,b,c⟩:=hf ws hws
 refine yF a b rfl c ?_
 simp only [wr,mem_cons,not_mem_nil,or_false] at hws
 rcases hws with rfl | rfl | rfl | rfl | rfl | rfl | rfl | rfl | rfl | rfl | rfl | rfl | rfl | rfl | rfl <;> first | rfl | (rw [zQ];decide) | (rw [zI];decide)
noncomputable def z4:EvK->List (List Nat)
 | .fr=>[zf]
 | .en n w=>[ze,[],dgs n,[],w]
 | .ot a n=>[a,[],dgs n]
theorem zgO (h:qw e):Txt.replace (S (tx e)) (S [32]) (S [32,32]) = S (jn (z4 e)):=by
 have r1:=StrLaws.replace_one (S (tx e)) (S [32,32]) 32
 rw [show (⟨#[32]⟩:Str) = S [32] from rfl,zgn,zcg h] at r1
 rw [r1]
 cases e with
 | fr=>rfl
 | en n w=>
  show (⟨ze.toArray ++ #[32,32] ++ ((dgs n).toArray ++ #[32,32] ++ w.toArray)⟩:Str) = _
  congr 1
  simp [z4,jn]
 | ot a n=>
  show (⟨a.toArray ++ #[32,32] ++ (dgs n).toArray⟩:Str) = _
  congr 1
  simp [z4,jn]
theorem zfp (h:qw e):jn (z4 e) = zf\/rdE (jn (z4 e)) = none:=by
 cases e with
 | fr=>exact .inl rfl
 | en n w=>
  refine .inr (yF (ws:=[ze,[],dgs n,[],w]) (by simp) (fun x hx=>?_) rfl (fun z=>absurd (show 32 ∈ zf by rw [← z];simp [z4,jn]) (by decide)) rfl)
  simp only [mem_cons,not_mem_nil,or_false] at hx
  rcases hx with rfl | rfl | rfl | rfl | rfl
  ·decide
  ·simp
  ·exact zab n
  ·simp
  ·rcases h.2 with rfl | rfl | rfl <;> decide
 | ot a n=>
  refine .inr (yF (ws:=[a,[],dgs n]) (by simp) (fun x hx=>?_) rfl (fun z=>absurd (show 32 ∈ zf by rw [← z];simp [z4,jn]) (by decide)) ?_)
  ·simp only [mem_cons,not_mem_nil,or_false] at hx
   rcases hx with rfl | rfl | rfl
   ·rcases h.2 with rfl | rfl | rfl <;> decide
   ·simp
   ·exact zab n
  ·rw [zI,if_neg (fun z=>zgr h.2 z.1)]
theorem zc9 (c:Nat) (r:List Nat):(Txt.upper (S (c :: r))).cps.toList = Unicode.upperOf c ++ (Txt.upper (S r)).cps.toList:=by
 unfold Txt.upper placed
 simp [List.mapIdx_cons]
theorem zhZ:∀ c:Nat,c < 128->(Unicode.upperOf c).length = 1:=by decide +kernel
theorem zeg:∀ l:List Nat,(∀ c ∈ l,c < 128)->(Txt.upper (S l)).cps.toList.length = l.length
 | [],_=>by unfold Txt.upper placed;simp
 | c :: r,h=>by
  rw [zc9,Ql,zhZ c (h c (.head _)),zeg r fun d hd=>h d (.tail _ hd)]
  simp;omega
theorem zfk:∀ c ∈ [102,101,108,97,117],∃ d,Unicode.upperOf c = [d]/\d ≠ 32/\(d ≠ 102/\d ≠ 101/\d ≠ 108/\d ≠ 97/\d ≠ 117):=by
 intro c hc
 simp only [mem_cons,not_mem_nil,or_false] at hc
 rcases hc with rfl | rfl | rfl | rfl | rfl
 ·exact ⟨70,by decide +kernel,by decide⟩
 ·exact ⟨69,by decide +kernel,by decide⟩
 ·exact ⟨76,by decide +kernel,by decide⟩
 ·exact ⟨65,by decide +kernel,by decide⟩
 ·exact ⟨85,by decide +kernel,by decide⟩
theorem zgH (h:qw e):∃ c r,tx e = c :: r/\c ∈ [102,101,108,97,117]:=by
 cases e with
 | fr=>exact ⟨_,_,rfl,by decide⟩
 | en n w=>exact ⟨_,_,rfl,by decide⟩
 | ot a n=>rcases h.2 with rfl | rfl | rfl <;> exact ⟨_,_,rfl,by decide⟩
theorem zh0 (h:qw e):∃ l,Txt.upper (S (tx e)) = S l/\rdE l = none:=by
 obtain ⟨c,r,e1,hc⟩:=zgH h
 obtain ⟨d,hd,h32,hx⟩:=zfk c hc
 refine ⟨(Txt.upper (S (tx e))).cps.toList,by simp,?_⟩
 rw [e1,zc9,hd]
 exact zgd h32 hx
variable {t:FT.T}
section
noncomputable def zdN:FT.T->Bool
 | .non=>true
 | .int _=>true
 | .bl _=>true
 | .tup _=>true
 | .lst _=>true
 | _=>false
theorem zco (h:zdN t = true) (M:Mem):OkX (ql kN [t] M) (fun _ _=>False) (fun C' _ M'=>C' = kN/\M' = M):=by
 have i1:zL t (.ty "str") M = .ok (.bl false) M:=by
  unfold zL
  cases t with
  | non=>exact if_pos (by decide)
  | int i=>exact if_pos (by decide)
  | bl b=>exact if_pos (by decide)
  | tup xs=>exact if_pos (by decide)
  | lst xs=>exact if_pos (by decide)
  | _=>cases h
 have ck:qr kN [t] M = .exn kN [] M:=by
  have key:OkX (qr kN [t] M) (fun _ _=>False) (fun C' fs M'=>C' = kN/\fs = []/\M' = M):=by
   refine zR rfl ?_
   unfold qW
   simp_arith [i1,qm,rai]
   exact ⟨rfl,rfl,rfl⟩
  cases o:qr kN [t] M with
  | bad=>rw [o] at key;exact key.elim
  | ok _ _=>rw [o] at key;exact key.elim
  | exn C' fs M'=>
   rw [o] at key
   obtain ⟨rfl,rfl,rfl⟩:=key
   rfl
 refine zR rfl ?_
 unfold yW
 simp_arith [ck]
 exact ⟨rfl,rfl⟩
theorem zal (h:∀ M,OkX (ql kN [t] M) (fun _ _=>False) (fun C' _ M'=>C' = kN/\M' = M)):Ok (zE kN [t] M) fun u M'=>u = .bl true/\Fr [] M M':=by
 refine yG rfl ?_
 unfold zaT
 simp_arith [and_self]
 refine Ok.bind (P:=fun fl M'=>fl = .nx [some t,some (.ref M.length)]/\M' = (M ++ [.lst [.bl true]])) (Ok.try ?_) ?_
 ·simp_arith [and_self]
  refine OkX.bind (P:=fun _ _=>False) ((h _).mono (fun _ _ z=>z) (fun C' fs M' z=>?_)) fun b M z=>z.elim
  obtain ⟨rfl,rfl⟩:=z
  refine ⟨by simp,?_⟩
  have g:(M ++ [Cell.lst []])[M.length]? = some (.lst []):=zbv
  have ap:=zge (t:=.bl true) g (Q5 (show 0 < 1 by decide) (sz (by decide)))
  simp_arith [zdS g,ap]
  exact Ok.ret ⟨rfl,by simp⟩
 ·rintro fl M' ⟨rfl,rfl⟩
  have g:(M ++ [Cell.lst [.bl true]])[M.length]? = some (.lst [.bl true]):=zbv
  have e:eqA (.ref M.length) (.lst [.bl true]) (M ++ [.lst [.bl true]]) = .ok (.bl true) (M ++ [.lst [.bl true]]):=by
   unfold eqA
   have e1:eqD (M ++ [Cell.lst [.bl true]]) 20 (.ref M.length) (.lst [.bl true]) = some true:=by
    rw [show eqD (M ++ [Cell.lst [.bl true]]) 20 (.ref M.length) (.lst [.bl true]) = (match yv (.ref M.length) (M ++ [Cell.lst [.bl true]]) with | some zs=>(if zs.length = [FT.T.bl true].length then eqL (eqD (M ++ [Cell.lst [.bl true]]) 19) zs [.bl true] else some false) | none=>none) from by
     unfold eqD yv
     simp only [g]
     rfl]
    unfold yv
    simp only [g]
    rfl
   rw [e1]
  simp_arith [e]
  exact Ok.ret ⟨rfl,Fr.app _ _⟩
end
variable {d:Int} {xs:List Int}
section
theorem zeF (c:Int) (M:Mem):yX [.int c] M = .ok (.ref M.length) (M ++ [(Po.new c).cell]):=by
 unfold yX zcD
 simp_arith [and_self]
 rw [show Po.new c = ⟨if c - 10 ^ 18 > 0 then c - 10 ^ 18 else 0,c % 10 ^ 18,0⟩ from rfl,Q8 _ (by decide)]
 rfl
theorem zeG (p:Po) (a:Nat) (base:Int) (M:Mem) (e:M[a]? = some p.cell) (h:0 < base) (hb:base.natAbs < 10 ^ 100):qp [.ref a,.int base] M = .ok (.int (p.dig base)) (M.set a (p.nxt base).cell):=by
 unfold qp zcE
 have ha:a < M.length:=(List.getElem?_eq_some_iff.mp e).1
 have hd:∀ i M,zaB (.int i) (.int base) M = .ok (.int (i.fdiv base)) M:=fun i M=>zbx (zgy 100 (by decide) (by omega) hb)
 have hm:∀ i M,y3 (.int i) (.int base) M = .ok (.int (i.fmod base)) M:=fun i M=>zhj (by omega)
 by_cases hp:0 < p.a
 ·simp_arith [e,Po.cell,hd,hm,Qp hp]
  unfold Po.dig Po.nxt
  rw [if_pos hp,if_pos hp,Q8 _ (by omega),Int.fdiv_eq_ediv_of_nonneg _ (by omega)]
 ·have hs:∀ c:Cell,(M.set a c)[a]? = some c:=fun c=>by rw [getElem?_set,if_pos rfl,if_pos ha]
  have h1:∀ j M,zW (.int 7919) (.int j) M = .ok (.int (7919 * j)) M:=fun j M=>zcv (by decide)
  have hx:∀ x:Int,0<=x.fmod 1000000007/\x.fmod 1000000007 < 1000000007:=fun x=>by rw [Q8 _ (by decide)];omega
  have hy:∀ x:Int,0<=x.fmod 998244353/\x.fmod 998244353 < 998244353:=fun x=>by rw [Q8 _ (by decide)];omega
  have h2:∀ (x y:Int) M,zW (.int (x.fmod 1000000007 + 11)) (.int y) M = .ok (.int ((x.fmod 1000000007 + 11) * y)) M:=fun x y M=>zcv (by have:=hx x;omega)
  have h3:∀ (x y:Int) M,zW (.int (x.fmod 998244353)) (.int y) M = .ok (.int (x.fmod 998244353 * y)) M:=fun x y M=>zcv (by have:=hy x;omega)
  simp_arith [e,Po.cell,hd,hm,Qq hp,hs,h1,h2,h3]
  unfold Po.dig Po.nxt
  rw [if_neg hp,if_neg hp]
  simp only [Q8 _ (show (0:Int)<=1000000007 by decide),Q8 _ (show (0:Int)<=998244353 by decide),Q8 _ (show (0:Int)<=2147483647 by decide),Int.fdiv_eq_ediv_of_nonneg _ (show (0:Int)<=8 by decide),Q8 _ (show (0:Int)<=base by omega)]
def PO (a:Nat) (M:Mem):Prop:=∃ p:Po,M[a]? = some p.cell
theorem yS {a:Nat} {base:Int} (e:PO a M) (h:0 < base) (hb:base.natAbs < 10 ^ 100) :
  Ok (qp [.ref a,.int base] M) fun t M'=>∃ d:Int,t = .int d/\0<=d/\d < base/\PO a M'/\Fr [a] M M':=by
 obtain ⟨p,e⟩:=e
 exact Ok.of (zeG p a base M e h hb) ⟨_,rfl,p.dig_lo h,p.dig_hi h,⟨_,get_set e⟩,Fr.set _ _ _⟩
theorem PO.app {c:Int}:PO M.length (M ++ [(Po.new c).cell]):=⟨_,zbv⟩
theorem pick (h0:0<=d) (h1:d < xs.length):∃ v ∈ xs,atI (xs.map FT.T.int) d = some (.int v):=by
 obtain ⟨x,h1,h2⟩:=zaF (xs:=xs.map FT.T.int) h0 (by simpa using h1)
 obtain ⟨v,hv,rfl⟩:=mem_map.mp h2
 exact ⟨v,hv,h1⟩
theorem zg0 (lo hi:Int) (h0:0<=d) (h1:d < xs.length) (h:xs.all (fun v=>decide (lo<=v/\v<=hi)) = true):∃ v:Int,atI (xs.map FT.T.int) d = some (.int v)/\lo<=v/\v<=hi:=by
 obtain ⟨v,hv,e⟩:=pick h0 h1
 have:=all_eq_true.mp h v hv
 exact ⟨v,e,of_decide_eq_true this⟩
end
theorem zf3 {a:Nat} (e:PO a M):Ok (yY [.ref a] M) fun t M'=>∃ k:EvK,t = evT k/\qw k/\PO a M'/\Fr [a] M M':=by
 refine yG rfl ?_
 unfold zbL
 obtain ⟨_,M1,n1,d1,rfl,a1,b1,o1,f1⟩:=yS (base:=4) e (by decide) (by decide)
 obtain ⟨v,hv,v1,v2⟩:=zg0 (xs:=[3,12,2000,10 ^ 60]) (d:=d1) 1 (10 ^ 60) a1 (by simpa using b1) (by decide +kernel)
 obtain ⟨_,M2,n2,n,rfl,a2,b2,o2,f2⟩:=yS (base:=v) o1 (by omega) (Nat.lt_of_le_of_lt (show v.natAbs<=10 ^ 60 by omega) (by decide))
 obtain ⟨_,M3,n3,d3,rfl,a3,b3,o3,f3⟩:=yS (base:=3) o2 (by decide) (by decide)
 obtain ⟨_,M4,n4,d4,rfl,a4,b4,o4,f4⟩:=yS (base:=5) o3 (by decide) (by decide)
 obtain ⟨N,rfl⟩:∃ N:Nat,n = N:=⟨n.toNat,by omega⟩
 have hN:N < 10 ^ 60:=by omega
 obtain ⟨w,hw,w1⟩:∃ w:List Nat,atI [FT.T.str "bad",.str "spent",.str "well"] d3 = some (.str (S w))/\(w = zD\/w = qx\/w = qB):=by
  obtain ⟨x,h1,h2⟩:=zaF (xs:=[FT.T.str "bad",.str "spent",.str "well"]) a3 (by simpa using b3)
  simp only [mem_cons,not_mem_nil,or_false] at h2
  rcases h2 with rfl | rfl | rfl
  ·exact ⟨qx,h1,by simp⟩
  ·exact ⟨qB,h1,by simp⟩
  ·exact ⟨zD,h1,by simp⟩
 obtain ⟨k,hk,k1⟩:∃ k:EvK,atI [FT.T.tup [.str "fresh"],.tup [.str "ends",.int (N:Int),.str (S w)],.tup [.str "lost",.int (N:Int)],.tup [.str "again",.int (N:Int)],.tup [.str "up",.int (N:Int)]] d4 = some (evT k)/\qw k:=by
  obtain ⟨x,h1,h2⟩:=zaF (xs:=[FT.T.tup [.str "fresh"],.tup [.str "ends",.int (N:Int),.str (S w)],.tup [.str "lost",.int (N:Int)],.tup [.str "again",.int (N:Int)],.tup [.str "up",.int (N:Int)]]) a4 (by simpa using b4)
  simp only [mem_cons,not_mem_nil,or_false] at h2
  rcases h2 with rfl | rfl | rfl | rfl | rfl
  ·exact ⟨.fr,h1,trivial⟩
  ·exact ⟨.en N w,h1,hN,w1⟩
  ·exact ⟨.ot zh N,h1,hN,by simp⟩
  ·exact ⟨.ot yo N,h1,hN,by simp⟩
  ·exact ⟨.ot cUp N,h1,hN,by simp⟩
 rw [show ([3,12,2000,10 ^ 60]:List Int).map FT.T.int = [.int 3,.int 12,.int 2000,.int (10 ^ 60)] from rfl] at hv
 simp only [Int.reducePow] at hv
 simp_arith [n1,hv,n2,n3,hw,n4,hk]
 exact Ok.ret ⟨k,rfl,k1,o4,f1.trans (f2.trans (f3.trans f4))⟩
theorem zcj {f g:Ev->Mem->Out Fl} {σ σ':Ev} {M':Mem} {Q:T->Mem->Prop} (e:f σ M = .ok (.nx σ') M') (h:Ok ((g σ' M').bind zbp) Q):Ok ((qf f g σ M).bind zbp) Q:=by
 unfold qf
 rw [e]
 exact h
theorem zjO (M:Mem):zaZ (.str "0") (.int 60) M = .ok (.str (S (List.replicate 60 48))) M:=by
 have h:MulOk (Str.ofString "0") 60:=⟨by decide,fun _ _=>by decide,fun _ _=>by decide⟩
 unfold zaZ
 dsimp only
 rw [if_pos h]
 congr 2
def Bd (l:List Nat):Prop:=l.length<=1000/\(l = zf\/rdE l = none)
theorem zgh:rdE (jn [zh,49 :: List.replicate 60 48]) = none/\rdE (jn [ze,49 :: List.replicate 60 48,qx]) = none:=by
 have hn:yp (49 :: List.replicate 60 48) = none:=by
  unfold yp
  rw [if_neg]
  rintro ⟨⟨_,z⟩,_⟩
  simp at z
 have hz:32 ∉ 49 :: List.replicate 60 48:=by decide
 constructor
 ·refine yF (by simp) (fun x hx=>?_) rfl (by decide) (by rw [zQ,hn];split <;> rfl)
  simp only [mem_cons,not_mem_nil,or_false] at hx
  rcases hx with rfl | rfl
  ·decide
  ·exact hz
 ·refine yF (by simp) (fun x hx=>?_) rfl (by decide) (by rw [zI,hn];split <;> rfl)
  simp only [mem_cons,not_mem_nil,or_false] at hx
  rcases hx with rfl | rfl | rfl
  ·decide
  ·exact hz
  ·decide
theorem zhU:∀ ws ∈ wr,(jn ws).length<=1000:=by decide
theorem zjq (h:ws ∈ wr):Bd (jn ws):=⟨zhU ws h,.inr (zhV ws h)⟩
theorem zhY (h:qw e):∀ c ∈ tx e,c < 128:=by
 have hd:∀ n,∀ c ∈ dgs n,c < 128:=fun n c hc=>by have:=zby n c hc;omega
 cases e with
 | fr=>decide
 | en n w=>
  intro c hc
  have hc:c ∈ ze ++ 32 :: (dgs n ++ 32 :: w):=hc
  simp only [mem_append,mem_cons] at hc
  rcases hc with hc | rfl | hc | rfl | hc
  ·exact (show ∀ c ∈ ze,c < 128 by decide) c hc
  ·decide
  ·exact hd n c hc
  ·decide
  ·rcases h.2 with rfl | rfl | rfl
   ·exact (show ∀ c ∈ zD,c < 128 by decide) c hc
   ·exact (show ∀ c ∈ qx,c < 128 by decide) c hc
   ·exact (show ∀ c ∈ qB,c < 128 by decide) c hc
 | ot a n=>
  intro c hc
  have hc:c ∈ a ++ 32 :: dgs n:=hc
  simp only [mem_append,mem_cons] at hc
  rcases hc with hc | rfl | hc
  ·rcases h.2 with rfl | rfl | rfl
   ·exact (show ∀ c ∈ zh,c < 128 by decide) c hc
   ·exact (show ∀ c ∈ yo,c < 128 by decide) c hc
   ·exact (show ∀ c ∈ cUp,c < 128 by decide) c hc
  ·decide
  ·exact hd n c hc
theorem zf9 (h:qw e):(jn (z4 e)).length<=90:=by
 cases e with
 | fr=>decide
 | en n w=>
  have:=qC (k:=60) (by decide) h.1
  show (ze ++ 32 :: ([] ++ 32 :: (dgs n ++ 32 :: ([] ++ 32 :: w)))).length<=90
  rcases h.2 with rfl | rfl | rfl <;> simp [ze,zD,qx,qB] <;> omega
 | ot a n=>
  have:=qC (k:=60) (by decide) h.1
  show (a ++ 32 :: ([] ++ 32 :: dgs n)).length<=90
  rcases h.2 with rfl | rfl | rfl <;> simp [zh,yo,cUp] <;> omega
theorem zgf (h:qw e) {a:Nat} (hp:PO a M):Ok (qY [.str (S (tx e)),.ref a] M) fun t M'=>∃ l,t = .str (S l)/\Bd l/\PO a M'/\Fr [a] M M':=by
 refine yG rfl ?_
 unfold zbM
 obtain ⟨U,eU,bU⟩:=zh0 h
 have tl:=zej h
 have dl:=zf9 h
 have Ul:U.length = (tx e).length:=by
  have:=zeg (tx e) (zhY h)
  rw [eU] at this
  simpa using this
 have u1:zi (.str (S (tx e))) (.str " ") M = .ok (.str (S (tx e ++ [32]))) M:=ad (m:=[32]) (by simp;omega) M
 have u2:zi (.str " ") (.str (S (tx e))) M = .ok (.str (S (32 :: tx e))) M:=ad (l:=[32]) (by simp;omega) M
 have u3:zi (.str (S (tx e))) (.str " 1") M = .ok (.str (S (tx e ++ [32,49]))) M:=ad (m:=[32,49]) (by simp;omega) M
 have u4:zak " " "  " (.str (S (tx e))) M = .ok (.str (S (jn (z4 e)))) M:=by
  unfold zak
  dsimp only
  rw [show Str.ofString " " = S [32] from rfl,show Str.ofString "  " = S [32,32] from rfl,zgO h,if_pos]
  rw [zx,zx]
  simp
  omega
 have u5:upT (.str (S (tx e))) M = .ok (.str (S U)) M:=by
  unfold upT
  dsimp only
  rw [eU,if_pos]
  rw [zx]
  unfold Builtin.Str.tooLong
  exact Qq (by have:=sz (n:=100) (by decide);omega)
 have u6:zi (.str (S (tx e))) (.str "\n") M = .ok (.str (S (tx e ++ [10]))) M:=ad (m:=[10]) (by simp;omega) M
 have mz:=zjO M
 have z1:zi (.str "lost 1") (.str (S (List.replicate 60 48))) M = .ok (.str (S (jn [zh,49 :: List.replicate 60 48]))) M:=ad (l:=zh ++ [32,49]) (by simp [zh]) M
 have z2:zi (.str "ends 1") (.str (S (List.replicate 60 48))) M = .ok (.str (S (ze ++ [32,49] ++ List.replicate 60 48))) M:=ad (l:=ze ++ [32,49]) (by simp [ze]) M
 have z3:zi (.str (S (ze ++ [32,49] ++ List.replicate 60 48))) (.str " bad") M = .ok (.str (S (jn [ze,49 :: List.replicate 60 48,qx]))) M:=ad (m:=32 :: qx) (by simp [ze,qx]) M
 generalize hz1:jn [zh,49 :: List.replicate 60 48] = Z1 at z1
 generalize hz2:jn [ze,49 :: List.replicate 60 48,qx] = Z2 at z3
 generalize ze ++ [32,49] ++ List.replicate 60 48 = Y at z2 z3
 generalize hZ:List.replicate 60 48 = Z at mz z1 z2
 obtain ⟨T1,hT1⟩:∃ T1:List FT.T,T1 = [.str (S (tx e ++ [32])),.str (S (32 :: tx e)),.str (S (tx e ++ [32,49])),.str (S (jn (z4 e))),.str (S U),.str "",.str "fresh 0",.str "ends 1",.str "lost"]:=⟨_,rfl⟩
 refine zcj (σ':=[some (.str (S (tx e))),some (.ref a),some (.lst T1)]) (M':=M) (by simp_arith [u1,u2,u3,u4,u5,hT1]) ?_
 have a1:=zT (xs:=T1) (ys:=[.str "ends well 1",.str "ends 1 good",.str "ends 1 bad 1",.str "lost -1",.str "lost 01",.str "again -0",.str "up 1 1",.str "up x"]) (M:=M) (sz (by rw [hT1];simp))
 obtain ⟨T2,hT2⟩:∃ T2:List FT.T,T2 = T1 ++ [.str "ends well 1",.str "ends 1 good",.str "ends 1 bad 1",.str "lost -1",.str "lost 01",.str "again -0",.str "up 1 1",.str "up x"]:=⟨_,rfl⟩
 rw [← hT2] at a1
 refine zcj (σ':=[some (.str (S (tx e))),some (.ref a),some (.lst T2)]) (M':=M) (by simp_arith [a1]) ?_
 have a2:=zT (xs:=T2) (ys:=[.str (S Z1),.str (S Z2),.str "again +1",.str "done 1",.str "lost 1_0",.str (S (tx e ++ [10]))]) (M:=M) (sz (by rw [hT2,hT1];simp))
 obtain ⟨T3,hT3⟩:∃ T3:List FT.T,T3 = T2 ++ [.str (S Z1),.str (S Z2),.str "again +1",.str "done 1",.str "lost 1_0",.str (S (tx e ++ [10]))]:=⟨_,rfl⟩
 rw [← hT3] at a2
 refine zcj (σ':=[some (.str (S (tx e))),some (.ref a),some (.lst T3)]) (M':=M) (by simp_arith [mz,z1,z2,z3,u6,a2]) ?_
 have l3:T3.length = 23:=by rw [hT3,hT2,hT1];rfl
 have hall:∀ t ∈ T3,∃ l,t = .str (S l)/\Bd l:=by
  intro t ht
  have c0:=fun (ws:List (List Nat)) (hw:ws ∈ wr)=>zjq hw
  rw [hT3,hT2,hT1] at ht
  simp only [List.cons_append,nil_append,mem_cons,not_mem_nil,or_false] at ht
  rcases ht with rfl | rfl | rfl | rfl | rfl | rfl | rfl | rfl | rfl | rfl | rfl | rfl | rfl | rfl | rfl | rfl | rfl | rfl | rfl | rfl | rfl | rfl | rfl
  ·exact ⟨_,rfl,by simp;omega,.inr (zdt h (by simp))⟩
  ·exact ⟨_,rfl,by simp;omega,.inr (zgX h)⟩
  ·exact ⟨_,rfl,by simp;omega,.inr (zdt h (w:=[49]) (by decide))⟩
  ·exact ⟨_,rfl,by omega,zfp h⟩
  ·exact ⟨_,rfl,by omega,.inr bU⟩
  ·exact ⟨_,rfl,c0 [[]] (by decide)⟩
  ·exact ⟨_,rfl,c0 [[102,114,101,115,104],[48]] (by decide)⟩
  ·exact ⟨_,rfl,c0 [[101,110,100,115],[49]] (by decide)⟩
  ·exact ⟨_,rfl,c0 [zh] (by decide)⟩
  ·exact ⟨_,rfl,c0 [ze,zD,[49]] (by decide)⟩
  ·exact ⟨_,rfl,c0 [ze,[49],[103,111,111,100]] (by decide)⟩
  ·exact ⟨_,rfl,c0 [ze,[49],qx,[49]] (by decide)⟩
  ·exact ⟨_,rfl,c0 [zh,[45,49]] (by decide)⟩
  ·exact ⟨_,rfl,c0 [zh,[48,49]] (by decide)⟩
  ·exact ⟨_,rfl,c0 [yo,[45,48]] (by decide)⟩
  ·exact ⟨_,rfl,c0 [cUp,[49],[49]] (by decide)⟩
  ·exact ⟨_,rfl,c0 [cUp,[120]] (by decide)⟩
  ·exact ⟨_,rfl,by rw [← hz1];decide,.inr (by rw [← hz1];exact zgh.1)⟩
  ·exact ⟨_,rfl,by rw [← hz2];decide,.inr (by rw [← hz2];exact zgh.2)⟩
  ·exact ⟨_,rfl,c0 [yo,[43,49]] (by decide)⟩
  ·exact ⟨_,rfl,c0 [[100,111,110,101],[49]] (by decide)⟩
  ·exact ⟨_,rfl,c0 [zh,[49,95,48]] (by decide)⟩
  ·exact ⟨_,rfl,by simp;omega,.inr (zhG h)⟩
 obtain ⟨_,M1,n1,d,rfl,d0,d1,o1,f1⟩:=yS (base:=(T3.length:Int)) hp (by rw [l3];decide) (by rw [l3];decide)
 obtain ⟨x,hx,hm⟩:=zaF (xs:=T3) d0 d1
 obtain ⟨l,rfl,hb⟩:=hall x hm
 simp_arith [n1,hx]
 exact Ok.ret ⟨l,rfl,hb,o1,f1⟩
section
theorem zgp (h:qw e) (M:Mem):zB kN [.str (S (tx e))] M = .ok (evT e) M:=by
 have k:=zdd (kN:=kN) (l:=tx e) (by have:=zej h;omega) M
 have f:ql kN [.str (S (tx e))] M = .ok (evT e) M:=by
  cases o:ql kN [.str (S (tx e))] M with
  | bad=>rw [o] at k;exact k.elim
  | ok v M'=>
   rw [o] at k
   obtain ⟨rfl,z⟩:=k
   rw [zgq h] at z
   cases z
   rfl
  | exn C fs M'=>
   rw [o] at k
   obtain ⟨_,_,z⟩:=k
   rw [zgq h] at z
   cases z
 unfold zB zaP
 rw [f]
 dsimp only
 rw [if_pos]
 refine ⟨List.take_length,?_⟩
 cases e with
 | fr=>
  refine .tup fun t ht=>?_
  rw [mem_singleton.mp ht];exact .str _
 | en n w=>
  refine .tup fun t ht=>?_
  simp only [mem_cons,not_mem_nil,or_false] at ht
  rcases ht with rfl | rfl | rfl
  ·exact .str _
  ·exact .int _
  ·exact .str _
 | ot a n=>
  refine .tup fun t ht=>?_
  simp only [mem_cons,not_mem_nil,or_false] at ht
  rcases ht with rfl | rfl
  ·exact .str _
  ·exact .int _
theorem zdm (l:List Nat) (M:Mem):neA (.str (S l)) (.str (S l)) M = .ok (.bl false) M:=by
 rw [neS,Qp rfl]
 rfl
theorem zgs (e:EvK) (M:Mem):neA (evT e) (evT e) M = .ok (.bl false) M:=by
 cases e with
 | fr=>show Out.ok (FT.T.bl (!((S zf == S zf) && true))) M = _;simp
 | en n w=>show Out.ok (FT.T.bl (!((S ze == S ze) && (((n:Int) == (n:Int)) && ((S w == S w) && true))))) M = _;simp
 | ot a n=>show Out.ok (FT.T.bl (!((S a == S a) && (((n:Int) == (n:Int)) && true)))) M = _;simp
theorem zhO (hl:l.length<=1000) (h:rdE l = none) (M:Mem):OkX (ql kN [.str (S l)] M) (fun _ _=>False) (fun C' _ M'=>C' = kN/\M' = M):=
 (zdd (kN:=kN) hl M).mono (fun v M' z=>by rw [h] at z;cases z.2) fun C' fs M' z=>⟨z.1,z.2.1⟩
theorem zjt (h:qw e) (s0 o2 o3 o4 o5 o6:Option FT.T) (M:Mem):zcX kN [s0,some (evT e),o2,o3,o4,o5,o6] M = .ok (.nx [s0,some (evT e),o2,o3,o4,o5,o6]) M:=by
 have l1:=zcw h M
 have r1:=zgp (kN:=kN) h M
 have e1:=zcG h M
 have n1:=zgs e M
 have n2:=zdm (tx e) M
 unfold zcX
 generalize evT e = E at *
 simp_arith [l1,r1,n1,e1,n2]
theorem zj2 (e:EvK):zdN (evT e) = true:=by cases e <;> rfl
theorem zjs (c:Int) (s0 o1 o3 o4 o5 o6:Option FT.T) (M:Mem):Ok (zbk kN [s0,o1,some (.int c),o3,o4,o5,o6] M) fun fl _=>∃ o1 o2 o3 o4 o5 o6,fl = .nx [s0,o1,o2,o3,o4,o5,o6]:=by
 obtain ⟨_,M1,e1,k,rfl,hk,p1,f1⟩:=zf3 (PO.app (M:=M) (c:=c))
 have l1:=zcw hk M1
 have x1:=zcG hk M1
 have n1:=zdm (tx k) M1
 have r1:=zgp (kN:=kN) hk M1
 have n2:=zgs k M1
 obtain ⟨_,M2,e2,d,rfl,d0,d1,p2,f2⟩:=yS (base:=6) p1 (by decide) (by decide)
 obtain ⟨od,hod,ho⟩:∃ od,atI [FT.T.non,.int 7,evT k,.lst [.str (S (tx k))],.tup [.str "fresh"],.bl true] d = some od/\zdN od = true:=by
  obtain ⟨x,h1,h2⟩:=zaF (xs:=[FT.T.non,.int 7,evT k,.lst [.str (S (tx k))],.tup [.str "fresh"],.bl true]) d0 (by simpa using d1)
  simp only [mem_cons,not_mem_nil,or_false] at h2
  rcases h2 with rfl | rfl | rfl | rfl | rfl | rfl
  ·exact ⟨_,h1,rfl⟩
  ·exact ⟨_,h1,rfl⟩
  ·exact ⟨_,h1,zj2 k⟩
  ·exact ⟨_,h1,rfl⟩
  ·exact ⟨_,h1,rfl⟩
  ·exact ⟨_,h1,rfl⟩
 obtain ⟨_,M3,e3,l,rfl,hb,p3,f3⟩:=zgf hk p2
 have pl:=zeF c M
 have nf:neA (.str (S l)) (.str "fresh") M3 = .ok (.bl (!decide (l = zf))) M3:=neS l zf M3
 generalize evT k = E at *
 by_cases hf:l = zf
 ·obtain ⟨_,M4,e4,rfl,f4⟩:=zal (kN:=kN) (t:=od) (M:=M3) (zco ho)
  rw [Qp hf] at nf
  unfold zbk
  simp_arith [pl,e1,l1,x1,n1,r1,n2,e2,hod,e3,nf,e4]
  exact Ok.ret ⟨_,_,_,_,_,_,rfl⟩
 ·obtain ⟨_,M4,e4,rfl,f4⟩:=zal (kN:=kN) (t:=.str (S l)) (M:=M3) (zhO hb.1 (hb.2.resolve_left hf))
  obtain ⟨_,M5,e5,rfl,f5⟩:=zal (kN:=kN) (t:=od) (M:=M4) (zco ho)
  rw [Qq hf] at nf
  unfold zbk
  simp_arith [pl,e1,l1,x1,n1,r1,n2,e2,hod,e3,nf,e4,e5]
  exact Ok.ret ⟨_,_,_,_,_,_,rfl⟩
theorem law_true (kN:Addr) (ns:List Int) (hn:ns.length<=63):∃ M,zb1 kN [.lst (ns.map .int)] [] = .ok (.bl true) M:=by
 have:Ok (zb1 kN [.lst (ns.map .int)] []) fun t _=>t = .bl true:=by
  refine yG rfl ?_
  unfold zgw
  have a1:=zT (xs:=[.int 0]) (ys:=ns.map FT.T.int) (M:=[]) (sz (by simp;omega))
  have hE:[FT.T.tup [.str "lost",.int (10 ^ 60 - 1)],.tup [.str "ends",.int 0,.str "bad"],.tup [.str "fresh"]] = [EvK.ot zh (10 ^ 60 - 1),.en 0 qx,.fr].map evT:=rfl
  simp only [Int.reducePow,Int.reduceSub] at hE
  simp_arith [Int.reduceSub]
  rw [hE]
  refine Ok.bind (Ok.for (r:=evT) (P:=fun _ σ M'=>M' = []/\∃ o1,σ = [some (.lst (ns.map .int)),o1,none,none,none,none,none]) (xs:=[EvK.ot zh (10 ^ 60 - 1),.en 0 qx,.fr]) ⟨rfl,_,rfl⟩ ?_) ?_
  ·rintro k e σ M' he ⟨rfl,o1,rfl⟩
   have ok:qw e:=by
    have:=Q9 he
    simp only [mem_cons,not_mem_nil,or_false] at this
    rcases this with rfl | rfl | rfl
    ·exact ⟨by decide,.inl rfl⟩
    ·exact ⟨by decide,.inr (.inl rfl)⟩
    ·exact trivial
   exact Ok.of (zjt (kN:=kN) ok (some (.lst (ns.map .int))) none none none none none []) ⟨_,rfl,rfl,_,rfl⟩
  ·rintro fl M' ⟨σ,rfl,rfl,o1,rfl⟩
   rw [show ([FT.T.int 0] ++ ns.map .int) = (0 :: ns).map .int from rfl] at a1
   generalize hL:(0 :: ns) = L at a1
   simp_arith [a1]
   refine Ok.bind (Ok.for (r:=FT.T.int) (P:=fun _ σ M'=>∃ o1 o2 o3 o4 o5 o6,σ = [some (.lst (ns.map .int)),o1,o2,o3,o4,o5,o6]) (xs:=L) ⟨_,_,_,_,_,_,rfl⟩ ?_) ?_
   ·rintro k c σ M' hc ⟨o1,o2,o3,o4,o5,o6,rfl⟩
    refine (zjs (kN:=kN) c (some (.lst (ns.map .int))) o1 o3 o4 o5 o6 M').mono ?_
    rintro fl M2 ⟨o1,o2,o3,o4,o5,o6,rfl⟩
    exact ⟨_,rfl,_,_,_,_,_,_,rfl⟩
   ·rintro fl M' ⟨σ,rfl,o1,o2,o3,o4,o5,o6,rfl⟩
    simp_arith [and_self]
    exact Ok.ret rfl
 obtain ⟨_,M,e,rfl⟩:=this
 exact ⟨M,e⟩
end
end My
theorem My.e1 {α:Type} {P:List α->Prop} (h:∀ a,P [a]):∀ us:List α,us.length = 1->P us
 | [a],_=>h a
theorem My.e2 {α:Type} {P:List α->Prop} (h:∀ a b,P [a,b]):∀ us:List α,us.length = 2->P us
 | [a,b],_=>h a b
local macro_rules | `(tactic| rfl') => do
 let K:=Lean.mkIdent `KX
 let G:=Lean.mkIdent `G
 `(tactic| (dsimp only [L2.KOf];refine' L2.zK $K $G ?a ?l ?c ?k ?b;(case a=>k_is);(case l=>k_is);(case c=>k_is);(case k=>k_is)))
open PySem PySem.W PyProof.Rows
set_option maxRecDepth 100000 in
set_option maxHeartbeats 0 in
theorem PySem.Challenge.cw_tryweir_k72_whole_events_written_and_rea_holds : PySem.Challenge.rw_tryweir_k72_whole_events_written_and_rea.Holds := by
 refine My.hdD.2 ?_
 dsimp only [My.hdD]
 k_fill
 refine L2.zfj (l:=PySem.Challenge.rw_tryweir_k72_whole_events_written_and_rea) (n:=63) (k:=6) (x:="script") (CX:=L2.CX0) (sp:=fun K=>FT.spT K (My.zb1 (FT.zbA K "NoText"))) rfl (by decide) rfl ⟨rfl,by decide,by decide⟩ (fun w h Y=>PySem.W.kIn_of Y) ?F ?S ?C
 case F=>
  intro w mg fa h KX G hmg
  have un:L2.Df (L2.KOf KX) mg "_law_pool" My.zaW ["cell"]:=by rfl';exact fun _ _ _ _ _ _=>My.e1 fun _=>rfl
  have uo:L2.Df (L2.KOf KX) mg "_law_next" My.zaX ["pool","base"]:=by rfl';exact fun _ _ _ _ _ _=>My.e2 fun _ _=>rfl
  have ul:L2.Df (L2.KOf KX) mg "_law_event" My.zav ["pool"]:=by rfl';exact fun _ _ _ _ _ _=>My.e1 fun _=>rfl
  have uh:L2.Df (L2.KOf KX) mg "_law_figures" My.y0 ["number"]:=by rfl';exact fun _ _ _ _ _ _=>My.e1 fun _=>rfl
  have ub:L2.Df (L2.KOf KX) mg "_law_event_text" My.yK ["event"]:=by rfl';exact fun _ _ _ _ _ _=>My.e1 fun _=>rfl
  have uk:L2.Df (L2.KOf KX) mg "_law_amiss" My.zaw ["text","pool"]:=by rfl';exact fun _ _ _ _ _ _=>My.e2 fun _ _=>rfl
  have uf:L2.Df (L2.KOf KX) mg "check_text" My.qV ["thing"]:=by rfl';exact fun _ _ _ _ _ _=>My.e1 fun _=>rfl
  have uj:L2.Df (L2.KOf KX) mg "number_in" My.qZ ["word","most"]:=by rfl';exact fun _ _ _ _ _ _=>My.e2 fun _ _=>rfl
  have uc:L2.Df (L2.KOf KX) mg "read_event" My.zV ["text"]:=by rfl';exact fun _ _ _ _ _ _=>My.e1 fun _=>rfl
  have ue:L2.Df (L2.KOf KX) mg "event_text" My.yV ["event"]:=by rfl';exact fun _ _ _ _ _ _=>My.e1 fun _=>rfl
  have ui:L2.Df (L2.KOf KX) mg "_law_refused" My.z0 ["thing"]:=by rfl';exact fun _ _ _ _ _ _=>My.e1 fun _=>rfl
  have us:mg "max" = none:=by refine' PySem.W.mg_none_of KX G ?z12;k_is
  have ut:mg "abs" = none:=by refine' PySem.W.mg_none_of KX G ?z13;k_is
  have uu:mg "int" = none:=by refine' PySem.W.mg_none_of KX G ?z14;k_is
  have uq:mg "len" = none:=by refine' PySem.W.mg_none_of KX G ?z15;k_is
  have ur:mg "str" = none:=by refine' PySem.W.mg_none_of KX G ?z16;k_is
  have ug:mg "isinstance" = none:=by refine' PySem.W.mg_none_of KX G ?z17;k_is
  have uv:mg "all" = none:=by refine' PySem.W.mg_none_of KX G ?z18;k_is
  have ua:∃ t,mg "MOST_EVENT_FIGURES" = some (.int 60 t):=by
   have h:∃ v,mg "MOST_EVENT_FIGURES" = some v/\∃ t,v = .int 60 t:=by
    refine' ⟨_,PySem.W.mg_of KX G ?z19,?y19⟩
    (case z19=>k_is)
    exact ⟨_,rfl⟩
   obtain ⟨v,h1,t,h2⟩:=h
   exact ⟨t,by rw [h1,h2]⟩
  have up:∃ a,mg "ENDS" = some (.ref a)/\FT.KTu (L2.KOf KX) a [.str "well",.str "bad",.str "spent"]:=by
   dsimp only [L2.KOf]
   refine' ⟨_,PySem.W.mg_of KX G ?z20,FT.zkC ?y20⟩
   (case z20=>k_is);(case y20=>k_is)
  have L:=by
   refine' L2.ziL (st:=My.zdB) KX G ?la ?ll ?lc ?lk ?lb
   (case la=>k_is);(case ll=>k_is);(case lc=>k_is);(case lk=>k_is)
   exact fun _ _ _ _ _ _ s u=>.of_eq rfl
  obtain ⟨f,fd,F,g,hb⟩:=L
  have e:=hmg.symm.trans g
  cases e
  have T:My.Txt (L2.KOf KX) mg:=⟨us,ut,uu,uq,ur,ug,uv,ua,up⟩
  refine ⟨fd,hb,fun base _ _=>?_⟩
  have um:L2.ExcAt (L2.KOf KX) mg "NoText" (FT.zbA (L2.KOf KX) "NoText"):=by
   dsimp only [L2.KOf]
   refine' FT.zhT KX G ?a21 ?l21 ?ln21 ?sk21 ?q21 ?lw21 ?lwn21 ?sl21 ?ni21
   (case a21=>k_is);(case l21=>k_is);(case ln21=>k_is);(case sk21=>exact rfl);(case q21=>k_is);(case lw21=>k_is);(case lwn21=>k_is);(case sl21=>exact rfl);(case ni21=>k_is)
  have qX:=My.qX (P:=My.pg) (w:=w) (base:=base) un T
  have zo:=My.zo (P:=My.pg) (w:=w) (base:=base) uo T
  have yO:=My.yO ul T zo
  have zF:=My.zF (P:=My.pg) (w:=w) (base:=base) uh T
  have zq:=My.zq ub T zF
  have qO:=My.qO uk T zo
  have yB:=My.yB (P:=My.pg) (w:=w) (base:=base) uf T um
  have qE:=My.qE (P:=My.pg) (w:=w) (base:=base) uj T
  have yn:=My.yn uc T um yB qE
  have ud:=FT.CalX.refine yn (FT.zf6 _) (FT.zf7 _)
  have yx:=My.yx (P:=My.pg) (w:=w) (base:=base) ue T
  have yA:=My.yA ui T um yn
  exact My.ziG F T qX yO zq qO zo ud yx yA
 case S=>
  intro K H a ns hl _ hS
  obtain ⟨M,h⟩:=My.law_true (FT.zbA K "NoText") ns hl
  exact FT.zhl hS h
 case C=>exact fun _ _ _ _ z=>z
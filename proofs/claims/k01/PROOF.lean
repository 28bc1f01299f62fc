import PyProof.Rows.All
import Wide.All
import OpenK.AllK
import Wide.FinOn
import Lean
import PyProof.EqAt
import PyProof.EqKinds
import PyProof.TupleCall
import PyProof.NeKinds
import PyProof.SumAny
import KE.KDictList
import KE.KDictOf
import PyProof.AttrMissHeap
import PyProof.Conv_int_bool
import PyProof.TupleOfStr
import PyProof.CollectIter
import PyProof.ListRange
import PyProof.DictWalks
import PyProof.ConsumeS
import PyProof.WalkInts
import PyProof.Draws
import PyProof.EnumFor
import PyProof.EnumStmt
import KE.KDictLaws
import KE.KRevIter
import KE.KDictSum
import PyProof.SeqRoads2
import PyProof.EqAt
import PyProof.EnumMake
import PyProof.ZipIter
import PyProof.InstStore
import PyProof.InstStoreFacts
import PyProof.ExcInit
import PyProof.ExcClass2
import PyProof.NsDelKeeps
import PyProof.ExcArgsOwn
import PyProof.Rows.SetFrom
import PyProof.SetRoads
import KE.KIsAll
import KE.KIntText
import PyProof.StrBlock2
import PyProof.FString5
import PyProof.CallStr
import PyProof.StrWalks
import PyProof.StrCalls
import PyProof.StrCalls2
import PyProof.SliceStr2
import PyProof.StrBlockI
import PyProof.Rows.StrJoin2
import PyProof.CallRoads3
import PyProof.TupleKey
import PySem.Challenge.RW_tryweir_k01_words_and_refusals
open PySem.W (Frag)
open List (mem_filter mem_range mem_cons_self mem_cons_of_mem mem_cons mem_append mem_append_right append_nil nodup_cons of_mem_zip length_take getElem?_append_right getElem?_append_left getElem?_map mem_of_getElem? length_append length_map size_toArray all_cons any_cons replicate_succ flatten_cons map_nil map_cons find?_cons lookup_cons all_eq_true getElem_of_mem nil_append length_cons length_nil getElem?_set getElem?_eq_getElem mem_map getElem_toArray contains_iff_mem mem_singleton getElem?_eq_none not_mem_nil)
set_option Elab.async false
set_option linter.all false
set_option maxRecDepth 100000
local macro_rules | `(tactic| ac_rfl) => `(tactic| exact ⟨rfl, rfl, rfl, by decide +kernel, rfl, by decide +kernel, by decide +kernel⟩)
abbrev Q0:=@List.getElem?_eq_getElem
abbrev Q1:=@PySem.wpAny_bind
abbrev Q2:=@PySem.Heap.get?_push_of_some
abbrev Q3:=@Nat.le_refl
abbrev Q4:=@Bool.false_ne_true
abbrev Q5:=@Nat.lt_of_lt_of_le
abbrev Q6:=@List.getElem?_append_left
abbrev Q7:=@List.getElem?_append_right
abbrev Q8:=@Int.fmod_eq_emod_of_nonneg
abbrev Q9:=@List.mem_of_getElem?
abbrev Qa:=@List.getElem?_map
abbrev Qb:=@Option.some.inj
abbrev Qc:=@PySem.Heap.lt_size
abbrev Qd:=@PySem.wpAny_pure
abbrev Qe:=@PySem.wpAny_mono
abbrev Qf:=@List.size_toArray
abbrev Qg:=@Nat.le_trans
abbrev Qh:=@Nat.ne_of_lt
abbrev Qi:=@PySem.Heap.get?_push_size
abbrev Qj:=@List.mem_append_right
abbrev Qk:=@List.length_append
abbrev Ql:=@Nat.lt_irrefl
abbrev Qm:=@List.length_cons
abbrev Qn:=@Bool.and_eq_true
abbrev Qo:=@decide_eq_true
abbrev Qp:=@decide_eq_false
namespace My
open PySem
noncomputable def zjb:Stmt->Bool
 | .Assign [.Name x _] _ _=>!(x == "__name__")
 | _=>true
noncomputable abbrev pg:Program:=PySem.Challenge.rw_tryweir_k01_words_and_refusals.prog
noncomputable def vw:Program:={ pg with main:={ pg.main with body:=pg.main.body.filter zjb } }
end My
section
open PySem PySem.W PyProof.Rows in
local macro_rules | `(tactic| o_head $H) => `(tactic| refine holds_open (q := My.vw) (loose := []) (Xt := fun s => xlAt My.vw [] s && recOk (RowW.records (OpenRow.toRowW (OpenLaw.row PySem.Challenge.rw_tryweir_k01_words_and_refusals))) s) (XP := XL My.vw []) (Yf := Hook.obs $H) (Ya := Hook.val $H) (YP := Hook.says $H) (N := 40000) (by intro w; kernel_rfl) (Hook.of $H) (Hook.keeps $H) (fun s e => xl_of s (Bool.and_eq_true_iff.mp e).1) XL.keeps (by rfl) (by rfl) (by rfl) (fun s e => recFacts_of (Bool.and_eq_true_iff.mp e).2) (by rfl) (by first | assumption | decide +kernel) (by decide +kernel) ⟨rfl, rfl, rfl, rfl, rfl, by decide +kernel⟩ ?hw ?hc)
open PySem PySem.W PyProof.Rows in
set_option maxHeartbeats 0 in
noncomputable def My.hdD:Σ' P:Prop,P->PySem.Challenge.rw_tryweir_k01_words_and_refusals.Holds:=by
 refine ⟨?P,fun hc=>?_⟩
 rotate_left
 ·w_on;o_law;k_head;(case hw=>w_witness2)
  exact hc
end
namespace L2
open PySem PySem.Spec PyProof.Rows
noncomputable abbrev Key:=Sum Int Str
noncomputable def zfe:Key->Value->Bool
 | .inl k,v=>Value.isInt k v
 | .inr x,v=>Value.isStrOf x v
noncomputable def zi8 (w:World):Key->Int
 | .inl k=>hashInt k
 | .inr x=>hashStr w x
theorem zn:∀ {k:Key} {v:Value},zfe k v = true->(∃ i t,k = Sum.inl i/\v = Value.int i t)\/(∃ x t,k = Sum.inr x/\v = Value.str x t)
 | .inl i,v,h=>by
  obtain ⟨t,e⟩:=Value.isInt_shape (k:=i) (v:=v) h
  exact .inl ⟨i,t,rfl,e⟩
 | .inr x,v,h=>by
  obtain ⟨t,e⟩:=Value.isStrOf_shape (x:=x) (v:=v) h
  exact .inr ⟨x,t,rfl,e⟩
theorem zhm (a b:Int):decide ((Sum.inl a:Key) = Sum.inl b) = (a == b):=by
 by_cases e:a = b
 ·subst e;simp
 ·have h:¬ (Sum.inl a:Key) = Sum.inl b:=fun q=>e (Sum.inl.inj q)
  rw [Qp h]
  exact (beq_eq_false_iff_ne.mpr e).symm
theorem zhj (a b:Str):decide ((Sum.inr a:Key) = Sum.inr b) = decide (a = b):=by
 by_cases e:a = b
 ·subst e;simp
 ·have h:¬ (Sum.inr a:Key) = Sum.inr b:=fun q=>e (Sum.inr.inj q)
  rw [Qp h,Qp e]
theorem zhl (a:Int) (b:Str):decide ((Sum.inl a:Key) = Sum.inr b) = false:=Qp (fun q=>nomatch q)
theorem zhk (a:Str) (b:Int):decide ((Sum.inr a:Key) = Sum.inl b) = false:=Qp (fun q=>nomatch q)
noncomputable def zcM (prog:Program) (w:World):PySem.KeyKind prog w Key where
 is:=zfe
 hash:=zi8 w
 inj:=fun v a b ha hb=>by
  rcases zn ha with ⟨i,t,rfl,rfl⟩ | ⟨x,t,rfl,rfl⟩
  ·rcases zn hb with ⟨j,u,rfl,e⟩ | ⟨y,u,rfl,e⟩
   ·injection e with e1 _;rw [e1]
   ·exact nomatch e
  ·rcases zn hb with ⟨j,u,rfl,e⟩ | ⟨y,u,rfl,e⟩
   ·exact nomatch e
   ·injection e with e1 _;rw [e1]
 byValue:=fun k v h=>by
  rcases zn h with ⟨i,t,rfl,rfl⟩ | ⟨x,t,rfl,rfl⟩ <;> rfl
 pyHash:=fun hv h=>by
  rcases zn hv with ⟨i,t,rfl,rfl⟩ | ⟨x,t,rfl,rfl⟩
  ·exact wpAny_pyHash_int h
  ·exact wpAny_pyHash_str h
 eqBool:=fun hu hv h=>by
  rcases zn hu with ⟨i,t,rfl,rfl⟩ | ⟨x,t,rfl,rfl⟩
  ·rcases zn hv with ⟨j,u,rfl,rfl⟩ | ⟨y,u,rfl,rfl⟩
   ·rw [zhm] at h;exact wpAny_eqBool_int h
   ·rw [zhl] at h;exact SeqAt.EqAt.int_str i t y u _ _ _ _ h
  ·rcases zn hv with ⟨j,u,rfl,rfl⟩ | ⟨y,u,rfl,rfl⟩
   ·rw [zhk] at h;exact SeqAt.EqAt.str_int x t j u _ _ _ _ h
   ·rw [zhj] at h;exact wpAny_eqBool_str h
 «strs»:=fun k x t v h=>by
  rcases zn h with ⟨i,u,rfl,e⟩ | ⟨y,u,rfl,e⟩
  ·exact nomatch e
  ·injection e with e1 _
   subst e1
   cases v <;> rfl
inductive V where
 | non | bl (b:Bool) | int (i:Int) | str (x:Str) | byt (b:Array UInt8) | flt (b:UInt64) | ref (a:Addr) | ty (n:String)
 deriving DecidableEq
noncomputable def RelV:V->Value->Prop
 | .non,u=>u = Value.none
 | .bl b,u=>u = Value.bool b
 | .int i,u=>∃ t,u = Value.int i t
 | .str x,u=>∃ t,u = Value.str x t
 | .byt b,u=>∃ t,u = Value.bytes b t
 | .flt b,u=>∃ t,u = Value.float b t
 | .ref a,u=>u = Value.ref a
 | .ty n,u=>u = Value.type n
noncomputable abbrev Vals:List V->List Value->Prop:=Paired RelV
variable {xs:List V} {us:List Value}
theorem Vals.length (r:Vals xs us):xs.length = us.length:=Paired.length r
theorem Vals.get:∀ {xs:List V} {us:List Value} {i:Nat} {x:V},Vals xs us->xs[i]? = some x->∃ u,us[i]? = some u/\RelV x u
 | _,_,_,_,.nil,e=>by simp at e
 | _,_,0,_,.cons r _,e=>by simp at e;subst e;exact ⟨_,rfl,r⟩
 | _,_,i + 1,x,.cons _ t,e=>by
  obtain ⟨u,h1,h2⟩:=Vals.get (i:=i) (x:=x) t (by simpa using e)
  exact ⟨u,by simpa using h1,h2⟩
theorem Vals.set {x:V} {u:Value} (r:RelV x u):∀ {xs:List V} {us:List Value} (i:Nat),Vals xs us->Vals (xs.set i x) (us.set i u)
 | _,_,_,.nil=>.nil
 | _,_,0,.cons _ t=>.cons r t
 | _,_,i + 1,.cons q t=>.cons q (Vals.set r i t)
theorem Vals.append:∀ {xs ys:List V} {us ws:List Value},Vals xs us->Vals ys ws->Vals (xs ++ ys) (us ++ ws)
 | _,_,_,_,.nil,s=>s
 | _,_,_,_,.cons r t,s=>.cons r (Vals.append t s)
theorem Vals.take:∀ {xs:List V} {us:List Value} (n:Nat),Vals xs us->Vals (xs.take n) (us.take n)
 | _,_,0,_=>.nil
 | _,_,_ + 1,.nil=>.nil
 | _,_,n + 1,.cons r t=>.cons r (Vals.take n t)
theorem Vals.drop:∀ {xs:List V} {us:List Value} (n:Nat),Vals xs us->Vals (xs.drop n) (us.drop n)
 | _,_,0,r=>r
 | _,_,_ + 1,.nil=>.nil
 | _,_,n + 1,.cons _ t=>Vals.drop n t
theorem Vals.none_of:∀ {xs:List V} {us:List Value} {i:Nat},Vals xs us->xs[i]? = none->us[i]? = none:=fun {xs us i} r e=>by
 have h1:=r.length
 have h2:xs.length<=i:=List.getElem?_eq_none_iff.mp e
 exact List.getElem?_eq_none_iff.mpr (by omega)
noncomputable def ze7:Option V->Option Value->Prop
 | some v,some u=>RelV v u
 | none,none=>True
 | _,_=>False
noncomputable def KV {κ:Type}:List (κ × V)->List (κ × Value)->Prop:=Paired fun (p:κ × V) (q:κ × Value)=>p.1 = q.1/\RelV p.2 q.2
noncomputable def kV:Key->V
 | .inl i=>.int i
 | .inr x=>.str x
inductive HO where
 | lst (xs:List V)
 | tup (xs:List V)
 | dK (kvs:List (Key × V)) | dT (kvs:List (List Key × V))
 | set (S:Int->Bool) (n:Nat)
 | ins (C dx:Addr) (fs:List (Str × V))
 | own (x:Addr)
 | xd (fs:List (Str × V))
 | met (f x:Addr)
 | rng (lo hi:Int)
 | frz (o:Obj) (u:HO)
 | tbl (ps:Array Value)
 | ext (φ:Heap->Prop)
noncomputable abbrev Hp:=Addr->Option HO
noncomputable def upd (H:Hp) (a:Addr) (o:HO):Hp:=fun b=>if b = a then some o else H b
variable {o:HO} {H:Hp}
theorem zh {a:Addr} :upd H a o a = some o:=by unfold upd;rw [if_pos rfl]
theorem yc {a b:Addr} (h:b ≠ a):upd H a o b = H b:=by unfold upd;rw [if_neg h]
theorem zaH {a b:Addr} {u:HO} (h:H a = some o) (h':H b = some u) (d:o ≠ u):a ≠ b:=by
 intro e;subst e;rw [h] at h';exact d (Qb h')
theorem zg {a b:Addr} (h:H a = some o) (h':H b = none):a ≠ b:=by
 intro e;subst e;rw [h] at h';cases h'
def NoDict (h:Heap) (a:Addr):Prop:=∀ o,h.get? a = some o->o.dict = none
variable {h:Heap} {n:Nat}
theorem NoDict.new {its:Array Value} {n:Nat}:NoDict (h.push { cls:=.type "tuple",data:=.seq its n }) h.objs.size:=fun o e=>by
 rw [Qi _ rfl] at e;cases e;rfl
section
variable (P:Program) (w:World)
noncomputable def ObjOk (H:Hp) (h:Heap) (a:Addr):HO->Prop
 | .lst xs=>xs.length<=sizeLine/\∃ (its:List Value) (n:Nat),Vals xs its/\h.get? a = some { cls:=.type "list",data:=.seq its.toArray n }
 | .tup xs=>xs.length<=sizeLine/\∃ its:List Value,Vals xs its/\IsTup h a its.toArray/\NoDict h a
 | .dK kvs=>kvs.length<=sizeLine/\(a == sysModules) = false/\∃ vs,KV kvs vs/\h.DictOf (zcM P w) a vs
 | .dT kvs=>kvs.length<=sizeLine/\(a == sysModules) = false/\∃ xs:List (List Key × Addr × Value),
   Paired (fun (p:List Key × V) (q:List Key × Addr × Value)=>p.1 = q.1/\H q.2.1 = some (.tup (p.1.map kV))/\RelV p.2 q.2.2) kvs xs /\
   ∃ o es ep,h.get? a = some o/\o.ExactDict/\o.data = .dict es ep/\es.toList = xs.map (entryOfKey (tupleKind (zcM P w)))/\(xs.map (·.1)).Nodup
 | .set S n=>h.SetOf (intKind P w) a S n
 | .ins C dx fs=>H dx = some (.own a)/\fs.length<=1000/\dx ≠ a/\h.get? a = some (PySem.W.instObj C dx) /\
   ∃ mA,h.Ns1 dx mA/\(∀ f,ze7 (fs.lookup f) (mA f))/\PySem.Within mA (fs.map (·.1))
 | .own _=>∃ o,h.get? a = some o
 | .xd fs=>∃ mA,h.Ns1 a mA/\∀ f,ze7 (fs.lookup f) (mA f)
 | .rng lo hi=>∃ t u v,h.get? a = some { cls:=.type "range",data:=.fields #[.int lo t,.int hi u,.int 1 v] }
 | .frz o u=>h.get? a = some o/\ObjOk H h a u
 | .tbl ps=>h.get? a = some { cls:=.none,data:=.fields ps }
 | .met f x=>h.get? a = some (PySem.W.methodObj (.ref f) (.ref x))
 | .ext φ=>φ h/\(∃ o,h.get? a = some o)/\∀ h1 h2:Heap,φ h1->(∀ o,h1.get? a = some o->h2.get? a = some o)->φ h2
def HOk (H:Hp) (h:Heap):Prop:=∀ a o,H a = some o->ObjOk P w H h a o
end
variable {h':Heap} {H':Hp} {P:Program} {w:World}
section
variable {a:Addr}
theorem ObjOk.lt (x:ObjOk P w H h a o):a < h.objs.size:=by
 cases o with
 | lst xs=>obtain ⟨_,_,_,_,e⟩:=x;exact Qc e
 | tup xs=>obtain ⟨_,_,_,p,_⟩:=x;exact p.lt
 | dK kvs=>obtain ⟨_,_,_,_,o,_,_,e,_⟩:=x;exact Qc e
 | dT kvs=>obtain ⟨_,_,_,_,o,_,_,e,_⟩:=x;exact Qc e
 | set S n=>obtain ⟨o,_,_,_,e,_⟩:=x;exact Qc e
 | ins C dx fs=>obtain ⟨_,_,_,e,_⟩:=x;exact Qc e
 | own y=>obtain ⟨_,e⟩:=x;exact Qc e
 | xd fs=>obtain ⟨_,⟨_,_,_,e,_⟩,_⟩:=x;exact Qc e
 | rng lo hi=>obtain ⟨_,_,_,e⟩:=x;exact Qc e
 | frz ob u=>obtain ⟨e,_⟩:=x;exact Qc e
 | tbl ps=>exact Qc (show h.get? a = some _ from x)
 | met f y=>exact Qc (show h.get? a = some _ from x)
 | ext φ=>obtain ⟨_,⟨_,e⟩,_⟩:=x;exact Qc e
theorem Paired.mapP {α β:Type} {F G:α->β->Prop}:∀ {l₁:List α} {l₂:List β},Paired F l₁ l₂->(∀ a b,F a b->G a b)->Paired G l₁ l₂
 | _,_,.nil,_=>.nil
 | _,_,.cons r t,f=>.cons (f _ _ r) (Paired.mapP t f)
theorem ObjOk.stay (x:ObjOk P w H h a o) (k:∀ b u,(b = a\/H b = some (.own a))->h.get? b = some u->h'.get? b = some u)
  (ho:∀ b,H b = some (.own a)->H' b = some (.own a)) (ht:∀ b xs,H b = some (.tup xs)->H' b = some (.tup xs)):ObjOk P w H' h' a o:=by
 induction o with
 | lst xs=>obtain ⟨z,its,n,r,e⟩:=x;exact ⟨z,its,n,r,k _ _ (.inl rfl) e⟩
 | tup xs=>obtain ⟨z,its,r,⟨ob,e,c⟩,nd⟩:=x;exact ⟨z,its,r,⟨ob,k _ _ (.inl rfl) e,c⟩,fun o q=>nd o (by rw [k _ _ (.inl rfl) e] at q;rw [e];exact q)⟩
 | dK kvs=>obtain ⟨z,y,vs,r,ob,es,ep,e,c⟩:=x;exact ⟨z,y,vs,r,ob,es,ep,k _ _ (.inl rfl) e,c⟩
 | dT kvs=>
  obtain ⟨z,y,xs,r,ob,es,ep,e,c⟩:=x
  exact ⟨z,y,xs,Paired.mapP r fun p q z=>⟨z.1,ht _ _ z.2.1,z.2.2⟩,ob,es,ep,k _ _ (.inl rfl) e,c⟩
 | set S n=>obtain ⟨ob,es,ep,t,e,c⟩:=x;exact ⟨ob,es,ep,t,k _ _ (.inl rfl) e,c⟩
 | ins C dx fs=>
  obtain ⟨d,z,ne,e,mA,⟨od,es,ep,e2,c⟩,r⟩:=x
  exact ⟨ho _ d,z,ne,k _ _ (.inl rfl) e,mA,⟨od,es,ep,k _ _ (.inr d) e2,c⟩,r⟩
 | own y=>obtain ⟨ob,e⟩:=x;exact ⟨ob,k _ _ (.inl rfl) e⟩
 | xd fs=>obtain ⟨mA,⟨od,es,ep,e,c⟩,r⟩:=x;exact ⟨mA,⟨od,es,ep,k _ _ (.inl rfl) e,c⟩,r⟩
 | rng lo hi=>obtain ⟨t,u,v,e⟩:=x;exact ⟨t,u,v,k _ _ (.inl rfl) e⟩
 | frz ob u ih=>obtain ⟨e,q⟩:=x;exact ⟨k _ _ (.inl rfl) e,ih q⟩
 | tbl ps=>
  have e:h.get? a = some { cls:=.none,data:=.fields ps }:=x
  show h'.get? a = some { cls:=.none,data:=.fields ps }
  exact k a _ (.inl rfl) e
 | met f y=>
  have e:h.get? a = some (PySem.W.methodObj (.ref f) (.ref y)):=x
  show h'.get? a = some (PySem.W.methodObj (.ref f) (.ref y))
  exact k a _ (.inl rfl) e
 | ext φ=>obtain ⟨p,⟨o,e⟩,st⟩:=x;exact ⟨st _ _ p fun o q=>k _ _ (.inl rfl) q,⟨o,k _ _ (.inl rfl) e⟩,st⟩
theorem HOk.lt (x:HOk P w H h) (e:H a = some o):a < h.objs.size:=(x a o e).lt
theorem HOk.fresh (x:HOk P w H h) (e:h.objs.size<=a):H a = none:=by
 cases q:H a with
 | none=>rfl
 | some u=>exact absurd (Q5 (x.lt q) e) (Ql _)
theorem HOk.kept (x:HOk P w H h) (k:∀ b u,h.get? b = some u->h'.get? b = some u):HOk P w H h':=fun a o e=>
 (x a o e).stay (fun b u _ q=>k b u q) (fun _ q=>q) fun _ _ q=>q
theorem HOk.laid (x:HOk P w H h) (k:∀ b u,h.get? b = some u->h'.get? b = some u) (hp:h.objs.size<=a) (new:ObjOk P w (upd H a o) h' a o):HOk P w (upd H a o) h':=fun b u e=>by
 have hn:=x.fresh hp
 by_cases hb:b = a
 ·subst hb;rw [zh] at e;cases e;exact new
 ·rw [yc hb] at e
  exact (x b u e).stay (fun c v _ q=>k c v q) (fun c q=>by rw [yc (zg q hn)];exact q) fun c xs q=>by rw [yc (zg q hn)];exact q
end
def Rd (H:Hp) (a:Addr) (u:HO):Prop:=H a = some u\/∃ o,H a = some (.frz o u)
theorem Rd.ok {a:Addr} {u:HO} (r:Rd H a u) (x:HOk P w H h):ObjOk P w H h a u:=by
 rcases r with r | ⟨o,r⟩
 ·exact x a u r
 ·obtain ⟨_,q⟩:=x a _ r
  exact q
noncomputable def Mut:Option HO->Prop
 | some (.lst _)=>True
 | some (.dK _)=>True
 | some (.dT _)=>True
 | some (.set _ _)=>True
 | some (.ins _ _ _)=>True
 | some (.ext _)=>True
 | _=>False
section
variable {x e:Addr} {o':HO}
theorem HOk.write (ok:HOk P w H h) (mu:Mut (H x)) (he:e = x\/H e = some (.own x)) (k:∀ b u,b ≠ e->h.get? b = some u->h'.get? b = some u) (heo:∃ u,h'.get? e = some u)
  (new:ObjOk P w (upd H x o') h' x o'):HOk P w (upd H x o') h':=fun b u q=>by
 have nown:∀ c y,H c = some (.own y)->c ≠ x:=fun c y r z=>by subst z;rw [r] at mu;exact mu
 have ntup:∀ c xs,H c = some (.tup xs)->c ≠ x:=fun c xs r z=>by subst z;rw [r] at mu;exact mu
 by_cases hb:b = x
 ·subst hb;rw [zh] at q;cases q;exact new
 ·rw [yc hb] at q
  by_cases hbe:b = e
  ·have q':H b = some (.own x):=by
    rcases he with z | z
    ·exact absurd (hbe.trans z) hb
    ·rw [hbe];exact z
   rw [q] at q';cases q'
   obtain ⟨v,hv⟩:=heo
   exact ⟨v,by rw [hbe];exact hv⟩
  ·refine (ok b u q).stay (fun c v hc r=>k c v ?_ r) (fun c r=>by rw [yc (nown c b r)];exact r) fun c xs r=>by rw [yc (ntup c xs r)];exact r
   rcases hc with rfl | hc
   ·exact hbe
   ·rintro rfl
    rcases he with z | z
    ·exact nown c b hc z
    ·rw [hc] at z;cases z;exact hb rfl
end
structure Un (fs ex:List Addr) (H H':Hp) (h h':Heap):Prop where
 keep:∀ b o,h.get? b = some o->H b = none->b ∉ fs->b ∉ ex->h'.get? b = some o
 slot:∀ b o,h.get? b = some o->H b = none->b ∈ fs->b ∉ ex->∃ sl,h'.get? b = some { o with slots:=sl }
 free:∀ b o,h.get? b = some o->H b = none->b ∉ ex->H' b = none
 there:∀ b o,h.get? b = some o->b ∉ ex->∃ o',h'.get? b = some o'
 tups:∀ b xs,H b = some (.tup xs)->H' b = some (.tup xs)
 frzs:∀ b o u,H b = some (.frz o u)->H' b = some (.frz o u)
 tbls:∀ b ps,H b = some (.tbl ps)->∃ more,H' b = some (.tbl (ps ++ more))
section
variable {fs fs' ex ex':List Addr} {H1 H2:Hp} {h1 h2:Heap} {a x e:Addr}
theorem Un.any (u:Un fs ex H H1 h h1) {b:Addr} {ob:Obj} (q:h.get? b = some ob) (n:H b = none) (hx:b ∉ ex):∃ sl,h1.get? b = some { ob with slots:=sl }:=by
 by_cases hb:b ∈ fs
 ·exact u.slot b ob q n hb hx
 ·exact ⟨ob.slots,u.keep b ob q n hb hx⟩
theorem Un.kept (k:∀ b u,h.get? b = some u->h'.get? b = some u):Un fs ex H H h h':=
 ⟨fun b ob q _ _ _=>k b ob q,fun b ob q _ _ _=>⟨ob.slots,k b ob q⟩,fun _ _ _ n _=>n,fun b ob q _=>⟨ob,k b ob q⟩,fun _ _ q=>q,fun _ _ _ q=>q,fun _ ps q=>⟨#[],by rw [q];simp⟩⟩
theorem Un.refl:Un fs ex H H h h:=Un.kept fun _ _ q=>q
theorem Un.laid (k:∀ b u,h.get? b = some u->h'.get? b = some u) (hp:h.objs.size<=a) (hn:H a = none):Un fs ex H (upd H a o) h h' where
 keep:=fun b u q _ _ _=>k b u q
 slot:=fun b u q _ _ _=>⟨u.slots,k b u q⟩
 free:=fun b u q n _=>by rw [yc (Qh (Q5 (Qc q) hp))];exact n
 there:=fun b u q _=>⟨u,k b u q⟩
 tups:=fun b xs q=>by rw [yc (zg q hn)];exact q
 frzs:=fun b u xs q=>by rw [yc (zg q hn)];exact q
 tbls:=fun b ps q=>⟨#[],by rw [yc (zg q hn),q];simp⟩
theorem Un.write (mu:Mut (H x)) (he:e = x\/H e = some (.own x)) (k:∀ b u,b ≠ e->h.get? b = some u->h'.get? b = some u) (heo:∃ u,h'.get? e = some u):Un fs ex H (upd H x o) h h':=by
 have hx:∀ b,H b = none->b ≠ x:=fun b n z=>by subst z;rw [n] at mu;exact mu
 have hb:∀ b,H b = none->b ≠ e:=fun b n z=>by
  subst z
  rcases he with r | r
  ·exact hx b n r
  ·rw [n] at r;cases r
 have hm:∀ b u,H b = some u->¬ Mut (some u)->b ≠ x:=fun b u q nm z=>by subst z;rw [q] at mu;exact nm mu
 refine ⟨fun b u q n _ _=>k b u (hb b n) q,fun b u q n _ _=>⟨u.slots,k b u (hb b n) q⟩,fun b u q n _=>by rw [yc (hx b n)];exact n,fun b u q _=>?_,
  fun b xs q=>by rw [yc (hm b _ q fun z=>z)];exact q,fun b u xs q=>by rw [yc (hm b _ q fun z=>z)];exact q,fun b ps q=>⟨#[],by rw [yc (hm b _ q fun z=>z),q];simp⟩⟩
 by_cases hbe:b = e
 ·subst hbe;exact heo
 ·exact ⟨u,k b u hbe q⟩
end
noncomputable def trk (h:Heap) (H:Hp):List Addr:=(List.range h.objs.size).filter fun a=>(H a).isSome
noncomputable def y4 (h:Heap) (H:Hp):Heap:=PySem.W.hideAll h (trk h H)
theorem zdX (h:Heap) (H:Hp):(y4 h H).objs.size = h.objs.size:=PySem.W.hideAll_size _ _
theorem zeP {b:Addr} {o:Obj} (e:h.get? b = some o) (n:H b = none):(y4 h H).get? b = some o:=
 PySem.W.hideAll_get _ e fun hm=>by
  have q:(H b).isSome = true:=(mem_filter.mp hm).2
  rw [n] at q;simp at q
theorem zfS {b:Addr} {o:Obj} (e:(y4 h H).get? b = some o):h.get? b = some o/\H b = none:=by
 have e':h.get? b = some o:=PySem.W.of_hideAll (trk h H) e
 refine ⟨e',?_⟩
 cases q:H b with
 | none=>rfl
 | some x=>
  have hm:b ∈ trk h H:=mem_filter.mpr ⟨mem_range.mpr (Qc e'),by simp [q]⟩
  have z:(y4 h H).get? b = none:=PySem.W.hideAll_none (trk h H) hm
  rw [z] at e;cases e
noncomputable def zgr (g h:Heap) (L:Addr):List (Addr × Obj):=(List.range h.objs.size).filterMap fun a=>if a = L\/(g.get? a).isSome = true then none else (h.get? a).map fun o=>(a,o)
noncomputable def rest (g h:Heap) (L d:Addr):List (Addr × Obj):=(zgr g h L).filter fun p=>decide (p.1 ≠ d)
structure Mod (K:Frag) (mg:Str->Option Value) (base:Heap):Prop where
 kin:K.In base
 glob:base.Ns mainGlobals mg
 blt:∃ mb,base.Ns builtinsNs mb/\∀ x:Str,x ≠ "__name__"->mb x = bootBuiltins x
 nolimit:base.NoLimit
structure Cx where
 prog:Program
 w:World
 K:Frag
 mg:Str->Option Value
 base:Heap
 A:Around
 N:List Str
 s₀:Shared
 H₀:Hp
 env:Env
 outer:List Env
 stack:List Env
 ex:List Addr
 fn:Str->Bool
 calm:Bool
 pn:List (Addr × Obj)
 xe:Value->Shared->Prop
noncomputable def frs (l:List Env):List Addr:=l.filterMap (·.frame)
noncomputable abbrev Cx.fs (X:Cx):List Addr:=frs X.outer
def Vis (sc:Scope) (x:Str):Prop:=sc.names.lookup x = some .local\/sc.names.lookup x = some .cell\/sc.names.lookup x = some .free
def Loc (sc:Scope) (x:Str):Prop:=sc.names.lookup x = some .local\/sc.names.lookup x = some .cell
def Look (env:Env) (h:Heap) (m:Str->Option Value) (x:Str) (u:Value):Prop:=
 (env.kindOf x = some .local/\m x = some u)\/((env.kindOf x = some .cell\/env.kindOf x = some .free)/\∃ c,env.cells.lookup x = some c/\h.IsCell c (some u))
structure Cx.Ok (X:Cx):Prop where
 mod:Mod X.K X.mg X.base
 kind:X.env.scope.kind = .function
 glob:X.env.globals = mainGlobals
 blt:X.env.builtins = builtinsNs
 above:X.s₀.heap.objs.size<=X.env.locals
 inj:∀ x y c,X.env.cells.lookup x = some c->X.env.cells.lookup y = some c->x = y
 has:∀ x,(X.env.kindOf x = some .cell\/X.env.kindOf x = some .free)->∃ c,X.env.cells.lookup x = some c
 cab:∀ x c,X.fn x = true->X.env.cells.lookup x = some c->X.s₀.heap.objs.size<=c
 hd:X.calm = true->X.A.handled = none
 frames:X.A.frames = some X.stack
 stk:X.stack = X.outer\/(X.stack = X.env :: X.outer/\X.env.frame = some X.env.locals)
 exf:∀ b ∈ X.ex,b ≠ X.env.locals/\∀ x c,X.env.cells.lookup x = some c->c ≠ b
 bs:∀ b o,X.base.get? b = some o->X.s₀.heap.get? b = some o/\X.H₀ b = none
 bsz:X.base.objs.size<=X.s₀.heap.objs.size
 noex:∀ b o,X.base.get? b = some o->b ∉ X.ex
 exfs:∀ b ∈ X.ex,b ∉ X.fs
 funs:X.s₀.heap.FunFrames X.base X.outer
 frf:∀ b ∈ X.fs,X.H₀ b = none
structure Inv (X:Cx) (pins:List (Addr × Obj)) (σ:List (Option V)) (H:Hp) (s:Shared):Prop where
 ok:X.Ok
 os:s.os = X.s₀.os
 bare:AllBare s.gens
 base:Un X.fs X.ex X.H₀ H X.s₀.heap s.heap
 loc:∃ m,s.heap.Ns X.env.locals m/\∀ (i:Nat) (x:Str) (v:V),X.N[i]? = some x->σ[i]? = some (some v)->Vis X.env.scope x->∃ u,RelV v u/\Look X.env s.heap m x u
 cell:∀ x c,X.env.cells.lookup x = some c->∃ v,s.heap.IsCell c v
 free:H X.env.locals = none
 freeC:∀ x c,X.env.cells.lookup x = some c->H c = none
 pin:∀ p ∈ X.pn ++ pins,s.heap.get? p.1 = some p.2/\H p.1 = none/\p.1 ≠ X.env.locals/\p.1 ∉ X.fs/\∀ v,p.2.data ≠ .cell v
 hok:HOk X.prog X.w H s.heap
 len:σ.length = X.N.length
variable {it:Addr} {A:Around} {g':Array GenState} {X:Cx} {d':Drawn} {pins:List (Addr × Obj)} {ch:List Addr} {N:List Str} {M:Model} {i j t':Nat} {s s':Shared} {x:Str} {v:V} {u:Value} {E:Value->Shared->Prop}
section
variable {σ:List (Option V)}
theorem Cx.Ok.nofr (ok:X.Ok) {b:Addr} {o:Obj} (e:X.base.get? b = some o):b ∉ X.fs:=fun hb=>by
 have:=(ok.funs.mem hb).1
 rw [e] at this;cases this
theorem Inv.bs (I:Inv X pins σ H s):∀ b o,X.base.get? b = some o->s.heap.get? b = some o/\H b = none:=fun b o e=>
 ⟨I.base.keep b o (I.ok.bs b o e).1 (I.ok.bs b o e).2 (I.ok.nofr e) (I.ok.noex b o e),I.base.free b o (I.ok.bs b o e).1 (I.ok.bs b o e).2 (I.ok.noex b o e)⟩
theorem Inv.bk (I:Inv X pins σ H s):∀ b o,X.base.get? b = some o->s.heap.get? b = some o:=fun b o e=>(I.bs b o e).1
theorem Inv.mod (I:Inv X pins σ H s):Mod X.K X.mg X.base:=I.ok.mod
theorem Inv.kIn (I:Inv X pins σ H s):X.K.In s.heap:=I.ok.mod.kin.keeps I.bk
theorem Inv.fr (I:Inv X pins σ H s):∃ m,Fr X.base X.env.locals s.heap m:=
 let ⟨m,hn,_⟩:=I.loc
 ⟨m,hn,I.bk,Qg I.ok.bsz I.ok.above⟩
theorem Inv.lt (I:Inv X pins σ H s):X.env.locals < s.heap.objs.size:=let ⟨_,hn,_⟩:=I.loc;hn.lt
theorem Inv.sz (I:Inv X pins σ H s):X.s₀.heap.objs.size<=s.heap.objs.size:=Qg I.ok.above (Nat.le_of_lt I.lt)
theorem Inv.nofs (I:Inv X pins σ H s) {a:Addr} (h:s.heap.objs.size<=a):a ∉ X.fs:=fun hb=>by
 obtain ⟨_,o,ho,_⟩:=I.ok.funs.mem hb
 exact absurd (Q5 (Qc ho) (Qg I.sz h)) (Ql _)
theorem Inv.cne (I:Inv X pins σ H s):∀ x c,X.env.cells.lookup x = some c->c ≠ X.env.locals:=fun x c e z=>by
 obtain ⟨v,o,ho,hd⟩:=I.cell x c e
 obtain ⟨m,⟨o',es,ep,ho',hd',_⟩,_⟩:=I.loc
 rw [z,ho'] at ho;cases ho;rw [hd'] at hd;cases hd
theorem Inv.funs (I:Inv X pins σ H s):s.heap.FunFrames X.base X.outer:=by
 have all:∀ (l:List Env),(∀ b ∈ frs l,b ∈ X.fs)->X.s₀.heap.FunFrames X.base l->s.heap.FunFrames X.base l:=by
  intro l
  induction l with
  | nil=>intro _ _;trivial
  | cons env r ih=>
   intro hs hl
   obtain ⟨hk,⟨L,o,hf,hn,ho,hd⟩,hr⟩:=hl
   have hL:L ∈ X.fs:=hs L (by unfold frs;rw [List.filterMap_cons,hf];exact mem_cons_self)
   obtain ⟨sl,e⟩:=I.base.slot L o ho (I.ok.frf L hL) hL fun z=>I.ok.exfs L z hL
   exact ⟨hk,⟨L,_,hf,hn,e,hd⟩,ih (fun b hb=>hs b (by unfold frs;rw [List.filterMap_cons,hf];exact mem_cons_of_mem _ hb)) hr⟩
 exact all X.outer (fun _ hb=>hb) I.ok.funs
theorem Inv.stack (I:Inv X pins σ H s):s.heap.FunFrames X.base X.stack:=by
 rcases I.ok.stk with e | ⟨e,hf⟩
 ·rw [e];exact I.funs
 ·rw [e]
  obtain ⟨m,hn,_⟩:=I.loc
  refine .cons (by rw [I.ok.kind];decide) hf hn ?_ I.funs
  exact Heap.get?_none_of_le (Qg I.ok.bsz I.ok.above)
theorem Inv.stkSub (I:Inv X pins σ H s):∀ b ∈ frs X.stack,b ∈ X.env.locals :: X.fs:=fun b hb=>by
 rcases I.ok.stk with e | ⟨e,hf⟩
 ·rw [e] at hb;exact mem_cons_of_mem _ hb
 ·rw [e] at hb
  unfold frs at hb
  rw [List.filterMap_cons,hf] at hb
  exact hb
theorem Inv.stkFree (I:Inv X pins σ H s):∀ b ∈ frs X.stack,H b = none:=fun b hb=>by
 rcases mem_cons.mp (I.stkSub b hb) with e | hb
 ·rw [e];exact I.free
 ·obtain ⟨_,o,ho,_⟩:=I.ok.funs.mem hb
  exact I.base.free b o ho (I.ok.frf b hb) fun z=>I.ok.exfs b z hb
theorem Inv.step {t':Nat} {d':Drawn} (I:Inv X pins σ H s)
 (hch:∀ b ∈ ch,(b ∈ X.ex\/X.s₀.heap.objs.size<=b)/\b ≠ X.env.locals/\(∀ x c,X.env.cells.lookup x = some c->c ≠ b)/\∀ p ∈ X.pn ++ pins,p.1 ≠ b)
 (keep:∀ b o,b ≠ X.env.locals->b ∉ X.fs->b ∉ ch->s.heap.get? b = some o->H b = none->h'.get? b = some o)
 (slot:∀ b o,b ≠ X.env.locals->b ∈ X.fs->b ∉ ch->s.heap.get? b = some o->H b = none->∃ sl,h'.get? b = some { o with slots:=sl }) (free:∀ b o,b ∉ ch->s.heap.get? b = some o->H b = none->H' b = none)
 (there:∀ b o,b ∉ ch->s.heap.get? b = some o->∃ o',h'.get? b = some o')
 (tups:∀ b xs,H b = some (.tup xs)->H' b = some (.tup xs)) (frzs:∀ b o u,H b = some (.frz o u)->H' b = some (.frz o u)) (tbls:∀ b ps,H b = some (.tbl ps)->∃ more,H' b = some (.tbl (ps ++ more)))
 (ns:∀ m,s.heap.Ns X.env.locals m->h'.Ns X.env.locals m) (hok:HOk X.prog X.w H' h') (hg:AllBare g') :
  Inv X pins σ H' { s with heap:=h',gens:=g',drawn:=d',toks:=t' }:=by
 have neL:∀ b o,X.s₀.heap.get? b = some o->b ≠ X.env.locals:=fun b o e=>Qh (Q5 (Qc e) I.ok.above)
 have neC:∀ b o,X.s₀.heap.get? b = some o->b ∉ X.ex->b ∉ ch:=fun b o e hx hb=>by
  rcases (hch b hb).1 with z | z
  ·exact hx z
  ·exact absurd (Q5 (Qc e) z) (Ql _)
 have cellK:∀ x c,X.env.cells.lookup x = some c->∀ v,s.heap.IsCell c v->h'.IsCell c v:=fun x c e v h9=>by
  obtain ⟨o,ho,hd⟩:=h9
  have nch:c ∉ ch:=fun z=>(hch c z).2.2.1 x c e rfl
  by_cases hc:c ∈ X.fs
  ·obtain ⟨sl,q⟩:=slot c o (I.cne x c e) hc nch ho (I.freeC x c e)
   exact ⟨_,q,hd⟩
  ·exact ⟨o,keep c o (I.cne x c e) hc nch ho (I.freeC x c e),hd⟩
 refine ⟨I.ok,I.os,hg,⟨fun b o e n hb hx=>?_,fun b o e n hb hx=>?_,fun b o e n hx=>?_,fun b o e hx=>?_,fun b xs e=>tups b xs (I.base.tups b xs e),fun b o xs e=>frzs b o xs (I.base.frzs b o xs e),fun b ps e=>?_⟩,?_,fun x c e=>?_,?_,fun x c e=>?_,fun p hp=>?_,hok,I.len⟩
 ·exact keep b o (neL b o e) hb (neC b o e hx) (I.base.keep b o e n hb hx) (I.base.free b o e n hx)
 ·obtain ⟨sl,e1⟩:=I.base.slot b o e n hb hx
  obtain ⟨sl',e2⟩:=slot b _ (neL b o e) hb (neC b o e hx) e1 (I.base.free b o e n hx)
  exact ⟨sl',e2⟩
 ·obtain ⟨o',e1⟩:=I.base.there b o e hx
  exact free b o' (neC b o e hx) e1 (I.base.free b o e n hx)
 ·obtain ⟨o',e1⟩:=I.base.there b o e hx
  exact there b o' (neC b o e hx) e1
 ·obtain ⟨m1,e1⟩:=I.base.tbls b ps e
  obtain ⟨m2,e2⟩:=tbls b _ e1
  exact ⟨m1 ++ m2,by rw [e2,Array.append_assoc]⟩
 ·obtain ⟨m,hn,hl⟩:=I.loc
  refine ⟨m,ns m hn,fun i x v e1 e2 e3=>?_⟩
  obtain ⟨u,r,l⟩:=hl i x v e1 e2 e3
  refine ⟨u,r,?_⟩
  rcases l with l | ⟨k,c,e,z⟩
  ·exact .inl l
  ·exact .inr ⟨k,c,e,cellK x c e _ z⟩
 ·obtain ⟨v,z⟩:=I.cell x c e
  exact ⟨v,cellK x c e v z⟩
 ·obtain ⟨m,⟨o,_,_,ho,_⟩,_⟩:=I.loc
  exact free _ o (fun z=>(hch _ z).2.1 rfl) ho I.free
 ·obtain ⟨v,o,ho,hd⟩:=I.cell x c e
  exact free c o (fun z=>(hch c z).2.2.1 x c e rfl) ho (I.freeC x c e)
 ·obtain ⟨e,n,ne,nf,d⟩:=I.pin p hp
  have nch:p.1 ∉ ch:=fun z=>(hch p.1 z).2.2.2 p hp rfl
  exact ⟨keep p.1 p.2 ne nf nch e n,free p.1 p.2 nch e n,ne,nf,d⟩
theorem Inv.un {t':Nat} (I:Inv X pins σ H s) (u:Un X.fs [] H H' s.heap h') (hok:HOk X.prog X.w H' h'):Inv X pins σ H' { s with heap:=h',toks:=t' }:=by
 obtain ⟨m,⟨o,es,ep,ho,r⟩,_⟩:=id I.loc
 obtain ⟨sl,hL⟩:=u.any ho I.free (by simp)
 exact I.step (g':=s.gens) (d':=s.drawn) (ch:=[]) (fun _ z=>nomatch z) (fun b o _ hb _ e n=>u.keep b o e n hb (by simp)) (fun b o _ hb _ e n=>u.slot b o e n hb (by simp)) (fun b o _ e n=>u.free b o e n (by simp)) (fun b o _ e=>u.there b o e (by simp)) u.tups u.frzs u.tbls (fun m' hm=>by
  obtain ⟨o',es',ep',ho',r'⟩:=hm
  rw [ho] at ho';cases ho'
  exact ⟨_,es',ep',hL,r'⟩) hok I.bare
theorem Inv.call {t':Nat} {d':Drawn} (I:Inv X pins σ H s) (u:Un (frs X.stack) ch H H' s.heap h') (hok:HOk X.prog X.w H' h') (hg:AllBare g')
 (hch:∀ b ∈ ch,(b ∈ X.ex\/X.s₀.heap.objs.size<=b)/\b ≠ X.env.locals/\(∀ x c,X.env.cells.lookup x = some c->c ≠ b)/\∀ p ∈ X.pn ++ pins,p.1 ≠ b) :
  Inv X pins σ H' { s with heap:=h',gens:=g',drawn:=d',toks:=t' }:=by
 obtain ⟨m,⟨o,es,ep,ho,r⟩,_⟩:=id I.loc
 obtain ⟨sl,hL⟩:=u.any ho I.free fun z=>(hch _ z).2.1 rfl
 exact I.step (ch:=ch) hch (fun b o hL hb hc e n=>u.keep b o e n (fun z=>(mem_cons.mp (I.stkSub b z)).elim hL hb) hc) (fun b o _ _ hc e n=>u.any e n hc) (fun b o hc e n=>u.free b o e n hc) (fun b o hc e=>u.there b o e hc) u.tups u.frzs u.tbls (fun m' hm=>by
  obtain ⟨o',es',ep',ho',r'⟩:=hm
  rw [ho] at ho';cases ho'
  exact ⟨_,es',ep',hL,r'⟩) hok hg
theorem Inv.turned {t':Nat} (I:Inv X pins σ H s) (k:∀ b o,b ≠ it->s.heap.get? b = some o->h'.get? b = some o) (hn:H it = none) (hL:it ≠ X.env.locals)
 (h1:it ∈ X.ex\/X.s₀.heap.objs.size<=it) (h2:∀ x c,X.env.cells.lookup x = some c->c ≠ it) (h3:∀ p ∈ X.pn ++ pins,p.1 ≠ it):Inv X pins σ H { s with heap:=h',toks:=t' }:=by
 have nit:∀ b u,H b = some u->b ≠ it:=fun b u e z=>by rw [z,hn] at e;cases e
 refine I.step (g':=s.gens) (d':=s.drawn) (ch:=[it]) (fun b hb=>?_) (fun b o _ _ hc e _=>k b o (fun z=>hc (by simp [z])) e) (fun b o _ _ hc e _=>⟨o.slots,k b o (fun z=>hc (by simp [z])) e⟩) (fun _ _ _ _ n=>n)
  (fun b o hc e=>⟨o,k b o (fun z=>hc (by simp [z])) e⟩) (fun _ _ e=>e) (fun _ _ _ e=>e) (fun b ps e=>⟨#[],by rw [e];simp⟩) (fun m hm=>?_) (fun b u e=>?_) I.bare
 ·have e:b = it:=by simpa using hb
  subst e
  exact ⟨h1,hL,h2,h3⟩
 ·obtain ⟨o,es,ep,ho,r⟩:=hm
  exact ⟨o,es,ep,k _ o (Ne.symm hL) ho,r⟩
 ·refine (I.hok b u e).stay (fun c v hc q=>k c v ?_ q) (fun _ q=>q) fun _ _ q=>q
  rcases hc with z | z
  ·rw [z];exact nit b u e
  ·exact nit c _ z
theorem Inv.tok (I:Inv X pins σ H s) (t:Nat):Inv X pins σ H { s with toks:=t }:=I.un (h':=s.heap) (t':=t) Un.refl I.hok
theorem Inv.kept {t':Nat} (I:Inv X pins σ H s) (k:∀ b u,s.heap.get? b = some u->h'.get? b = some u):Inv X pins σ H { s with heap:=h',toks:=t' }:=I.un (Un.kept k) (I.hok.kept k)
theorem Inv.laid {a:Addr} {t':Nat} (I:Inv X pins σ H s) (k:∀ b u,s.heap.get? b = some u->h'.get? b = some u) (hp:s.heap.objs.size<=a) (new:ObjOk X.prog X.w (upd H a o) h' a o) :
  Inv X pins σ (upd H a o) { s with heap:=h',toks:=t' }:=I.un (Un.laid k hp (I.hok.fresh hp)) (I.hok.laid k hp new)
theorem Inv.write {x e:Addr} {t':Nat} (I:Inv X pins σ H s) (mu:Mut (H x)) (he:e = x\/H e = some (.own x)) (k:∀ b u,b ≠ e->s.heap.get? b = some u->h'.get? b = some u) (heo:∃ u,h'.get? e = some u)
 (new:ObjOk X.prog X.w (upd H x o) h' x o):Inv X pins σ (upd H x o) { s with heap:=h',toks:=t' }:=I.un (Un.write mu he k heo) (I.hok.write mu he k heo new)
theorem Inv.pins_of {pins':List (Addr × Obj)} (I:Inv X pins σ H s) (h:∀ p ∈ pins',s.heap.get? p.1 = some p.2/\H p.1 = none/\p.1 ≠ X.env.locals/\p.1 ∉ X.fs/\∀ v,p.2.data ≠ .cell v):Inv X pins' σ H s:=
 ⟨I.ok,I.os,I.bare,I.base,I.loc,I.cell,I.free,I.freeC,fun p hp=>(mem_append.mp hp).elim (fun z=>I.pin p (List.mem_append_left _ z)) (h p),I.hok,I.len⟩
theorem zbZ (hN:N.Nodup) (a:N[i]? = some x) (b:N[j]? = some x):i = j:=by
 obtain ⟨h1,e1⟩:=List.getElem?_eq_some_iff.mp a
 obtain ⟨h2,e2⟩:=List.getElem?_eq_some_iff.mp b
 exact (List.getElem_inj hN).mp (e1.trans e2.symm)
theorem zdA {Q:Unit->Shared->Prop} (I:Inv X pins σ H s) (hN:X.N.Nodup) (hi:X.N[i]? = some x) (hx:Loc X.env.scope x) (r:RelV v u)
 (h:∀ s',Inv X pins (σ.set i (some v)) H s'->(∃ a,Heap.SameBut a s.heap s'.heap/\(a = X.env.locals\/X.env.cells.lookup x = some a))->Q () s') (hf:X.fn x = true\/X.env.scope.names.lookup x = some .local:=by first | exact .inl rfl | exact .inr rfl | assumption):wpAny M A (storeName X.env x u) Q E s:=by
 obtain ⟨m,hn,hl⟩:=id I.loc
 have hcls:(X.env.scope.kind == .class || (X.env.scope.kind == .module && X.env.locals != X.env.globals)) = false:=by rw [I.ok.kind];rfl
 have hiσ:i < σ.length:=by rw [I.len];exact (List.getElem?_eq_some_iff.mp hi).1
 have cne:=I.cne
 have tracked:∀ {a:Addr} {h':Heap},(∃ o,s.heap.get? a = some o/\H a = none)->Heap.SameBut a s.heap h'->HOk X.prog X.w H h':=fun {a h'} ha hs b ob e=>by
  obtain ⟨_,_,hfree⟩:=ha
  refine (I.hok b ob e).stay (fun c w' hc q=>(hs.2 c ?_).trans q) (fun _ q=>q) fun _ _ q=>q
  rintro rfl
  rcases hc with rfl | hc
  ·rw [hfree] at e;cases e
  ·rw [hfree] at hc;cases hc
 rcases hx with hk | hk
 ·refine wpAny_storeName_local hk hn (fun h' hn' hs=>?_) hcls
  obtain ⟨oL,_,_,hoL,_⟩:=id hn
  refine h _ ⟨I.ok,I.os,I.bare,⟨fun b o e n hb hx=>?_,fun b o e n hb hx=>?_,I.base.free,fun b o e hx=>?_,I.base.tups,I.base.frzs,I.base.tbls⟩,⟨_,hn',fun j y v' e1 e2 e3=>?_⟩,fun y c e=>?_,I.free,I.freeC,fun p hp=>?_,tracked ⟨oL,hoL,I.free⟩ hs,by simpa using I.len⟩ ⟨_,hs,.inl rfl⟩
  ·exact (hs.2 b (Qh (Q5 (Qc e) I.ok.above))).trans (I.base.keep b o e n hb hx)
  ·obtain ⟨sl,e1⟩:=I.base.slot b o e n hb hx
   exact ⟨sl,(hs.2 b (Qh (Q5 (Qc e) I.ok.above))).trans e1⟩
  ·obtain ⟨o',e1⟩:=I.base.there b o e hx
   exact ⟨o',(hs.2 b (Qh (Q5 (Qc e) I.ok.above))).trans e1⟩
  ·by_cases hj:j = i
   ·subst hj
    rw [hi] at e1;cases e1
    rw [List.getElem?_set_self hiσ] at e2
    cases e2
    exact ⟨u,r,.inl ⟨hk,by simp⟩⟩
   ·rw [List.getElem?_set_ne (Ne.symm hj)] at e2
    obtain ⟨u',r',q⟩:=hl j y v' e1 e2 e3
    refine ⟨u',r',?_⟩
    rcases q with ⟨k,e⟩ | ⟨k,c,e,z⟩
    ·refine .inl ⟨k,?_⟩
     have:y ≠ x:=fun e=>hj (zbZ hN e1 (e ▸ hi))
     simp [this,e]
    ·exact .inr ⟨k,c,e,z.sameBut hs (cne y c e)⟩
  ·obtain ⟨w',z⟩:=I.cell y c e
   exact ⟨w',z.sameBut hs (cne y c e)⟩
  ·obtain ⟨e,n,ne,nf,d⟩:=I.pin p hp
   exact ⟨(hs.2 p.1 ne).trans e,n,ne,nf,d⟩
 ·have hfn:X.fn x = true:=by
   rcases hf with z | z
   ·exact z
   ·rw [z] at hk;cases hk
  obtain ⟨c,hc⟩:=I.ok.has x (.inl hk)
  obtain ⟨w',z⟩:=I.cell x c hc
  refine wpAny_storeName_cell I.ok.kind hk hc z (fun h' hc' hs=>?_)
  obtain ⟨oc,hoc,hocd⟩:=id z
  refine h { s with heap:=h' } ⟨I.ok,I.os,I.bare,⟨fun b o e n hb hx=>?_,fun b o e n hb hx=>?_,I.base.free,fun b o e hx=>?_,I.base.tups,I.base.frzs,I.base.tbls⟩,⟨m,hn.sameBut hs (Ne.symm (cne x c hc)),fun j y v' e1 e2 e3=>?_⟩,fun y c' e=>?_,I.free,I.freeC,fun p hp=>?_,tracked ⟨oc,hoc,I.freeC x c hc⟩ hs,by simpa using I.len⟩ ⟨c,hs,.inr hc⟩
  ·exact (hs.2 b (Qh (Q5 (Qc e) (I.ok.cab x c hfn hc)))).trans (I.base.keep b o e n hb hx)
  ·obtain ⟨sl,e1⟩:=I.base.slot b o e n hb hx
   exact ⟨sl,(hs.2 b (Qh (Q5 (Qc e) (I.ok.cab x c hfn hc)))).trans e1⟩
  ·obtain ⟨o',e1⟩:=I.base.there b o e hx
   exact ⟨o',(hs.2 b (Qh (Q5 (Qc e) (I.ok.cab x c hfn hc)))).trans e1⟩
  ·by_cases hj:j = i
   ·subst hj
    rw [hi] at e1;cases e1
    rw [List.getElem?_set_self hiσ] at e2
    cases e2
    exact ⟨u,r,.inr ⟨.inl hk,c,hc,hc'⟩⟩
   ·rw [List.getElem?_set_ne (Ne.symm hj)] at e2
    obtain ⟨u',r',q⟩:=hl j y v' e1 e2 e3
    refine ⟨u',r',?_⟩
    rcases q with q | ⟨k,c',e,z'⟩
    ·exact .inl q
    ·refine .inr ⟨k,c',e,z'.sameBut hs ?_⟩
     rintro rfl
     exact hj (zbZ hN e1 (I.ok.inj _ _ _ e hc ▸ hi))
  ·by_cases hcc:c' = c
   ·subst hcc;exact ⟨_,hc'⟩
   ·obtain ⟨w2,z2⟩:=I.cell y c' e
    exact ⟨w2,z2.sameBut hs hcc⟩
  ·obtain ⟨e,n,ne,nf,d⟩:=I.pin p hp
   refine ⟨(hs.2 p.1 ?_).trans e,n,ne,nf,d⟩
   intro q
   rw [q,hoc] at e
   have q':oc = p.2:=Qb e
   exact d w' (by rw [← q'];exact hocd)
theorem zbI {Q:Unit->Shared->Prop} (I:Inv X pins σ H s) (hN:X.N.Nodup) (hi:X.N[i]? = some x) (hx:Loc X.env.scope x) (r:RelV v u)
 (h:∀ s',Inv X pins (σ.set i (some v)) H s'->Q () s') (hf:X.fn x = true\/X.env.scope.names.lookup x = some .local:=by first | exact .inl rfl | exact .inr rfl | assumption):wpAny M A (storeName X.env x u) Q E s:=
 zdA I hN hi hx r (fun s' I' _=>h s' I') hf
theorem Inv.call' (I:Inv X pins σ H s) (ho:s'.os = s.os) (u:Un (frs X.stack) ch H H' s.heap s'.heap) (hok:HOk X.prog X.w H' s'.heap) (hg:AllBare s'.gens)
 (hch:∀ b ∈ ch,(b ∈ X.ex\/X.s₀.heap.objs.size<=b)/\b ≠ X.env.locals/\(∀ x c,X.env.cells.lookup x = some c->c ≠ b)/\∀ p ∈ X.pn ++ pins,p.1 ≠ b):Inv X pins σ H' s':=by
 obtain ⟨h',g',d',t',o'⟩:=s'
 have e:o' = s.os:=ho
 subst e
 exact I.call (g':=g') (t':=t') (d':=d') u hok hg hch
end
noncomputable abbrev XK:=Value->Option Addr->Hp->Prop
noncomputable abbrev St:=List (Option V)
noncomputable abbrev VK:=V->Hp->Prop
noncomputable abbrev TE:=St->Hp->VK->Prop
noncomputable abbrev TT:=St->Hp->(Bool->Hp->Prop)->Prop
noncomputable abbrev TA:=St->Hp->(List V->Hp->Prop)->Prop
structure Ends where
 nx:St->Hp->Prop
 rt:VK
 bk:St->Hp->Prop:=fun _ _=>False
 ct:St->Hp->Prop:=fun _ _=>False
noncomputable abbrev TS:=Ends->St->Hp->Prop
def EP (X:Cx) (pins:List (Addr × Obj)) (σ:St) (Q:VK) (u:Value) (s':Shared):Prop:=∃ v H',Inv X pins σ H' s'/\RelV v u/\Q v H'
def TP (X:Cx) (pins:List (Addr × Obj)) (σ:St) (Q:Bool->Hp->Prop) (b:Bool) (s':Shared):Prop:=∃ H',Inv X pins σ H' s'/\Q b H'
def AP (X:Cx) (pins:List (Addr × Obj)) (σ:St) (Q:List V->Hp->Prop) (us:List Value) (s':Shared):Prop:=∃ vs H',Inv X pins σ H' s'/\Vals vs us/\Q vs H'
def SP (X:Cx) (pins:List (Addr × Obj)) (D:Ends) (f:Flow) (s':Shared):Prop:=
 match f with
 | .next=>∃ σ' H',Inv X pins σ' H' s'/\D.nx σ' H'
 | .brk=>∃ σ' H',Inv X pins σ' H' s'/\D.bk σ' H'
 | .cont=>∃ σ' H',Inv X pins σ' H' s'/\D.ct σ' H'
 | .ret u=>∃ v σ' H',Inv X pins σ' H' s'/\RelV v u/\D.rt v H'
def PE (X:Cx) (e:Expr) (t:TE):Prop:=
 ∀ (pins:List (Addr × Obj)) (s:Shared) (σ:St) (H:Hp) (Q:VK),Inv X pins σ H s->t σ H Q->wpAny (model X.prog X.w) X.A (eval e X.env) (EP X pins σ Q) X.xe s
def PT (X:Cx) (e:Expr) (t:TT):Prop:=
 ∀ (pins:List (Addr × Obj)) (s:Shared) (σ:St) (H:Hp) (Q:Bool->Hp->Prop),Inv X pins σ H s->t σ H Q->wpAny (model X.prog X.w) X.A (isTrue e X.env (eval e X.env)) (TP X pins σ Q) X.xe s
def PW (X:Cx) (e:Expr) (t:TT):Prop:=
 ∀ (whole:Sem Value) (pins:List (Addr × Obj)) (s:Shared) (σ:St) (H:Hp) (Q:Bool->Hp->Prop),Inv X pins σ H s->t σ H Q->wpAny (model X.prog X.w) X.A (isTrue e X.env whole) (TP X pins σ Q) X.xe s
variable {e:Expr}
theorem PW.pt {t:TT} (h:PW X e t):PT X e t:=h _
def PA (X:Cx) (es:List Expr) (t:TA):Prop:=
 ∀ (pos:Pos) (pins:List (Addr × Obj)) (s:Shared) (σ:St) (H:Hp) (Q:List V->Hp->Prop),Inv X pins σ H s->t σ H Q->wpAny (model X.prog X.w) X.A (spliced (backTo pos (starEach es X.env))) (AP X pins σ Q) X.xe s
def PS (X:Cx) (st:Stmt) (t:TS):Prop:=
 ∀ (pins:List (Addr × Obj)) (s:Shared) (σ:St) (H:Hp) (D:Ends),Inv X pins σ H s->t D σ H->wpAny (model X.prog X.w) X.A (exec st X.env) (SP X pins D) X.xe s
def PSs (X:Cx) (st:List Stmt) (t:TS):Prop:=
 ∀ (pins:List (Addr × Obj)) (s:Shared) (σ:St) (H:Hp) (D:Ends),Inv X pins σ H s->t D σ H->wpAny (model X.prog X.w) X.A (execs st X.env) (SP X pins D) X.xe s
theorem thn {α:Type} {t:Sem α} {Q Q':α->Shared->Prop} (h:wpAny M A t Q E s) (hQ:∀ a s,Q a s->Q' a s):wpAny M A t Q' E s:=Qe h hQ fun _ _ x=>x
variable {op:CmpOp} {pos:Pos} {σ:St} {t ta tb:TE} {R:V->V->Hp->Prop} {Q:Value->Shared->Prop}
section
theorem bin {a b:Expr} (ha:PE X a ta) (hb:PE X b tb) (I:Inv X pins σ H s) (h:ta σ H fun x H1=>tb σ H1 fun y H2=>R x y H2)
 {α:Type} {Q:α->Shared->Prop} {f:Value->Value->Sem α}
 (hf:∀ v u s2 x y H2,Inv X pins σ H2 s2->RelV x v->RelV y u->R x y H2->wpAny (model X.prog X.w) X.A (f v u) Q X.xe s2) :
  wpAny (model X.prog X.w) X.A (eval a X.env) (fun v s₁=>wpAny (model X.prog X.w) X.A (eval b X.env) (fun u s₂=>wpAny (model X.prog X.w) X.A (f v u) Q X.xe s₂) X.xe s₁) X.xe s:=by
 refine thn (ha pins s σ H _ I h) fun v s1 ⟨x,H1,I1,r1,q1⟩=>?_
 refine thn (hb pins s1 σ H1 _ I1 q1) fun u s2 ⟨y,H2,I2,r2,q2⟩=>?_
 exact hf v u s2 x y H2 I2 r1 r2 q2
noncomputable def zc3 (i:Nat):TE:=fun σ H Q=>∃ v,σ[i]? = some (some v)/\Q v H
noncomputable def tC (v:V):TE:=fun _ H Q=>Q v H
theorem zbT (hN:X.N[i]? = some x) (hv:Vis X.env.scope x) (hd:(x == ("__debug__":Str)) = false:=by decide) (hcd:(x == ("__classdict__":Str)) = false:=by decide):PE X (.Name x pos) (zc3 i):=by
 intro pins s σ H Q I h
 obtain ⟨v,e,h⟩:=h
 obtain ⟨m,hn,hl⟩:=I.loc
 obtain ⟨u,r,l⟩:=hl i x v hN e hv
 have fin:EP X pins σ Q u s:=⟨v,H,I,r,h⟩
 rcases l with ⟨hk,hm⟩ | ⟨hk,c,hc,hcell⟩
 ·exact wpAny_Name (wpAny_loadName_local I.ok.kind hk hn hm fin) hd
 ·rcases hk with hk | hk
  ·exact wpAny_Name (wpAny_loadName_cell I.ok.kind hk hc hcell fin) hd
  ·exact wpAny_Name (wpAny_loadName_free I.ok.kind hk hc hcell fin hcd) hd
theorem zg1 {i j pos}:PE X (.Constant (.int i) j pos) (tC (.int i)):=fun _ _ _ H _ I h=>wpAny_Constant_int ⟨.int i,H,I.tok _,⟨_,rfl⟩,h⟩
theorem zic {b j pos}:PE X (.Constant (.bool b) j pos) (tC (.bl b)):=fun _ _ _ H _ I h=>Constant_bool ⟨.bl b,H,I,rfl,h⟩
theorem zgZ {j pos}:PE X (.Constant .none j pos) (tC .non):=fun _ _ _ H _ I h=>Constant_none ⟨.non,H,I,rfl,h⟩
theorem zgW {x j pos}:PE X (.Constant (.str x) j pos) (tC (.str x)):=fun _ _ _ H _ I h=>Calls.Constant_str ⟨.str x,H,I.tok _,⟨_,rfl⟩,h⟩
def Gl (X:Cx) (x:Str):Prop:=X.env.kindOf x = some .globalImplicit
theorem zal (I:Inv X pins σ H s) (hg:Gl X x) (hm:X.mg x = some u) (h:Q u s)
 (hd:(x == ("__debug__":Str)) = false:=by decide):wpAny (model X.prog X.w) X.A (eval (.Name x pos) X.env) Q E s:=
 Calls.Name_function_global I.ok.kind hg (Calls.loadGlobal_global (by rw [I.ok.glob];exact I.mod.glob.keeps I.bk) hm h) hd
theorem zb4 (I:Inv X pins σ H s) (hg:Gl X x) (hm:X.mg x = none) (hv:bootBuiltins x = some u) (h:Q u s)
 (hn:x ≠ "__name__":=by decide) (hd:(x == ("__debug__":Str)) = false:=by decide):wpAny (model X.prog X.w) X.A (eval (.Name x pos) X.env) Q E s:=by
 obtain ⟨mb,h1,h2⟩:=I.mod.blt
 exact Calls.Name_function_global I.ok.kind hg (Calls.loadGlobal_builtin (by rw [I.ok.glob];exact I.mod.glob.keeps I.bk) hm (by rw [I.ok.blt];exact h1.keeps I.bk) ((h2 x hn).trans hv) h) hd
theorem zcG (hg:Gl X x) (hm:X.mg x = some u) (r:RelV v u) (hd:(x == ("__debug__":Str)) = false:=by decide):PE X (.Name x pos) (tC v):=
 fun _ _ _ H _ I h=>zal I hg hm ⟨v,H,I,r,h⟩ hd
theorem zcH (hg:Gl X x) (hm:X.mg x = none) (hv:bootBuiltins x = some u) (r:RelV v u) (hn:x ≠ "__name__":=by decide) (hd:(x == ("__debug__":Str)) = false:=by decide):PE X (.Name x pos) (tC v):=
 fun _ _ _ H _ I h=>zb4 I hg hm hv ⟨v,H,I,r,h⟩ hn hd
variable {a b:Expr}
def PC (X:Cx) (op:CmpOp) (a b:Expr) (t:TE):Prop:=
 ∀ (pins:List (Addr × Obj)) (s:Shared) (σ:St) (H:Hp) (Q:VK),Inv X pins σ H s->t σ H Q->
  wpAny (model X.prog X.w) X.A (eval a X.env) (fun v s₁=>wpAny (model X.prog X.w) X.A (eval b X.env) (fun u s₂=>wpAny (model X.prog X.w) X.A (compareOp op v u) (EP X pins σ Q) X.xe s₂) X.xe s₁) X.xe s
theorem zeD (b:Expr) (h:op ≠ .In) (h2:op ≠ .NotIn):behindInMarks op b = false:=by
 have e1:(op == CmpOp.In) = false:=by cases op <;> first | rfl | exact absurd rfl h
 have e2:(op == CmpOp.NotIn) = false:=by cases op <;> first | rfl | exact absurd rfl h2
 cases b <;> simp [behindInMarks,e1,e2]
noncomputable def tB (t:TE):TT:=fun σ H Q=>t σ H fun x H1=>∃ c,x = .bl c/\Q c H1
theorem zjA (h:PC X op a b t) (h1:behindInMarks op b = false:=by first | exact zeD _ (by decide) (by decide) | rfl):PT X (.Compare a [op] [b] pos) (tB t):=by
 intro pins s σ H Q I hw
 refine wpAny_isTrue_Compare1 (thn (h pins s σ H _ I hw) fun v s1 h1=>thn h1 fun u s2 h2=>thn h2 fun c s3 ⟨x,H1,I1,r1,q1⟩=>?_) h1
 obtain ⟨d,rfl,q⟩:=q1
 cases r1
 exact wpAny_truthy_bool ⟨H1,I1,q⟩
theorem zgK (h:PE X e t) (he:∀ whole,isTrue e X.env whole = (do let v ← whole;standAt e.pos;holding [v] (truthy v)):=by intro _;rfl):PT X e (tB t):=by
 intro pins s σ H Q I hw
 refine isTrue_plain (thn (h pins s σ H _ I hw) fun v s1 ⟨x,H1,I1,r1,q1⟩=>?_) (he _)
 obtain ⟨d,rfl,q⟩:=q1
 cases r1
 exact wpAny_truthy_bool ⟨H1,I1,q⟩
variable {tA tB':TT} {rest:List Expr}
noncomputable def ziP (t u:TT):TT:=fun σ H Q=>t σ H fun c H1=>if c = true then u σ H1 Q else Q false H1
noncomputable def tOr (t u:TT):TT:=fun σ H Q=>t σ H fun c H1=>if c = true then Q true H1 else u σ H1 Q
noncomputable def ziK (t:TT):TT:=fun σ H Q=>t σ H fun c H1=>Q (!c) H1
theorem zfu (ha:PT X a tA):PW X (.BoolOp .And [a] pos) tA:=by
 intro wh pins s σ H Q I h
 refine isTrue_and (thn (ha pins s σ H Q I h) fun c s1 e=>?_)
 cases c with
 | true=>exact isTrue_and_nil e
 | false=>exact e
theorem zgI (ha:PT X a tA):PW X (.BoolOp .Or [a] pos) tA:=by
 intro wh pins s σ H Q I h
 refine isTrue_or (thn (ha pins s σ H Q I h) fun c s1 e=>?_)
 cases c with
 | false=>exact isTrue_or_nil e
 | true=>exact e
theorem zgJ (ha:PT X a tA) (hb:PW X (.BoolOp .And (b :: rest) pos) tB'):PW X (.BoolOp .And (a :: b :: rest) pos) (ziP tA tB'):=by
 intro wh pins s σ H Q I h
 refine isTrue_and (thn (ha pins s σ H _ I h) fun c s1 ⟨H1,I1,q1⟩=>?_)
 cases c with
 | true=>exact hb wh pins s1 σ H1 Q I1 q1
 | false=>exact ⟨H1,I1,q1⟩
theorem zh7 (ha:PT X a tA) (hb:PW X (.BoolOp .Or (b :: rest) pos) tB'):PW X (.BoolOp .Or (a :: b :: rest) pos) (tOr tA tB'):=by
 intro wh pins s σ H Q I h
 refine isTrue_or (thn (ha pins s σ H _ I h) fun c s1 ⟨H1,I1,q1⟩=>?_)
 cases c with
 | true=>exact ⟨H1,I1,q1⟩
 | false=>exact hb wh pins s1 σ H1 Q I1 q1
theorem zgL (ha:PT X a tA):PT X (.UnaryOp .Not a pos) (ziK tA):=by
 intro pins s σ H Q I h
 exact isTrue_not (ha pins s σ H (fun c H1=>Q (!c) H1) I h)
noncomputable def zh1 (ta tb:TE):TE:=fun σ H Q=>ta σ H fun x H1=>∃ c,x = .bl c/\if c = true then tb σ H1 Q else Q (.bl false) H1
noncomputable def zhY (ta:TE):TE:=fun σ H Q=>ta σ H fun x H1=>∃ c,x = .bl c/\Q (.bl (!c)) H1
theorem zgX {op} (h:PE X a t):PE X (.BoolOp op [a] pos) t:=fun pins s σ H Q I hw=>BoolOp_one (h pins s σ H Q I hw)
theorem zg3 (ha:PE X a ta) (hb:PE X (.BoolOp .And (b :: rest) pos) tb):PE X (.BoolOp .And (a :: b :: rest) pos) (zh1 ta tb):=by
 intro pins s σ H Q I h
 refine BoolOp_and (thn (ha pins s σ H _ I h) fun v s1 ⟨x,H1,I1,r1,q1⟩=>?_)
 obtain ⟨c,rfl,q1⟩:=q1
 cases r1
 refine wpAny_truthy_bool ?_
 cases c with
 | true=>exact hb pins s1 σ H1 Q I1 q1
 | false=>exact ⟨.bl false,H1,I1,rfl,q1⟩
theorem zgY (ha:PE X a ta):PE X (.UnaryOp .Not a pos) (zhY ta):=by
 intro pins s σ H Q I h
 refine UnaryOp_ (thn (ha pins s σ H _ I h) fun v s1 ⟨x,H1,I1,r1,q1⟩=>?_)
 obtain ⟨c,rfl,q1⟩:=q1
 cases r1
 exact not_of (wpAny_truthy_bool ⟨.bl (!c),H1,I1,rfl,q1⟩)
end
def SqL (K:Frag) (H:Hp) (a:Addr) (xs:List V):Prop:=
 Rd H a (.lst xs) \/
  ∃ (o:Obj) (its:Array Value) (n:Nat),K.lookup a = some o/\o.cls = .type "list"/\o.dict = none/\o.data = .seq its n/\its.size<=sizeLine/\Vals xs its.toList
def SqT (K:Frag) (H:Hp) (a:Addr) (xs:List V):Prop:=
 Rd H a (.tup xs) \/
  ∃ (o:Obj) (its:Array Value) (n:Nat),K.lookup a = some o/\o.cls = .type "tuple"/\o.dict = none/\o.data = .seq its n/\its.size<=sizeLine/\Vals xs its.toList
noncomputable def zjk:Value->Option V
 | .none=>some .non
 | .bool b=>some (.bl b)
 | .int i _=>some (.int i)
 | .str x _=>some (.str x)
 | .bytes b _=>some (.byt b)
 | .float b _=>some (.flt b)
 | .ref a=>some (.ref a)
 | .type n=>some (.ty n)
 | _=>none
theorem RelV.abs {x:V} (r:RelV x u):zjk u = some x:=by
 cases x with
 | non=>cases r;rfl
 | bl _=>cases r;rfl
 | int _=>obtain ⟨t,rfl⟩:=r;rfl
 | str _=>obtain ⟨t,rfl⟩:=r;rfl
 | byt _=>obtain ⟨t,rfl⟩:=r;rfl
 | flt _=>obtain ⟨t,rfl⟩:=r;rfl
 | ref _=>cases r;rfl
 | ty _=>cases r;rfl
variable {y:V}
theorem RelV.inj {x:V} (r:RelV x u) (q:RelV y u):x = y:=Qb (r.abs.symm.trans q.abs)
theorem Vals.inj:∀ {xs ys:List V} {us:List Value},Vals xs us->Vals ys us->xs = ys
 | _,_,_,.nil,.nil=>rfl
 | _,_,_,.cons r t,.cons r' t'=>by rw [r.inj r',Vals.inj t t']
section
variable {a:Addr} {ys:List V}
theorem Inv.list (I:Inv X pins σ H s) (h:SqL X.K H a xs):∃ its:List Value,Vals xs its/\PlainL s.heap a its.toArray/\xs.length<=sizeLine:=by
 rcases h with h | ⟨o,its,n,hk,hc,hd,hs,hz,r⟩
 ·obtain ⟨z,its,n,r,e⟩:=h.ok I.hok
  exact ⟨its,r,⟨_,n,e,rfl,rfl,rfl⟩,z⟩
 ·refine ⟨its.toList,r,⟨o,n,I.kIn a o hk,hc,hd,by simpa using hs⟩,?_⟩
  have e:=r.length
  simp only [Array.length_toList] at e
  omega
theorem Inv.tuple (I:Inv X pins σ H s) (h:SqT X.K H a xs):∃ its:List Value,Vals xs its/\IsTup s.heap a its.toArray/\xs.length<=sizeLine:=by
 rcases h with h | ⟨o,its,n,hk,hc,_,hs,hz,r⟩
 ·obtain ⟨z,its,r,p,_⟩:=h.ok I.hok
  exact ⟨its,r,p,z⟩
 ·refine ⟨its.toList,r,⟨o,I.kIn a o hk,hc,n,by simpa using hs⟩,?_⟩
  have e:=r.length
  simp only [Array.length_toList] at e
  omega
theorem Inv.list_inj (I:Inv X pins σ H s) (h:SqL X.K H a xs) (h':SqL X.K H a ys):xs = ys:=by
 obtain ⟨its,r,⟨o,n,e,_,_,d⟩,_⟩:=I.list h
 obtain ⟨its',r',⟨o',n',e',_,_,d'⟩,_⟩:=I.list h'
 rw [e] at e';cases e'
 rw [d] at d'
 injection d' with d1 _
 have:its = its':=by simpa using congrArg Array.toList d1
 subst this
 exact r.inj r'
theorem Inv.tuple_inj (I:Inv X pins σ H s) (h:SqT X.K H a xs) (h':SqT X.K H a ys):xs = ys:=by
 obtain ⟨its,r,⟨o,e,_,n,d⟩,_⟩:=I.tuple h
 obtain ⟨its',r',⟨o',e',_,n',d'⟩,_⟩:=I.tuple h'
 rw [e] at e';cases e'
 rw [d] at d'
 injection d' with d1 _
 have:its = its':=by simpa using congrArg Array.toList d1
 subst this
 exact r.inj r'
end
noncomputable abbrev Cx.wish (X:Cx) (E:Value->Shared->Prop):Cx:={ X with xe:=E }
noncomputable abbrev Cx.nox (X:Cx):Cx:=X.wish fun _ _=>False
theorem Cx.Ok.wish (ok:X.Ok) (E:Value->Shared->Prop):(X.wish E).Ok:=
 ⟨ok.mod,ok.kind,ok.glob,ok.blt,ok.above,ok.inj,ok.has,ok.cab,ok.hd,ok.frames,ok.stk,ok.exf,ok.bs,ok.bsz,ok.noex,ok.exfs,ok.funs,ok.frf⟩
theorem Cx.Ok.unwish (ok:(X.wish E).Ok):X.Ok:=
 ⟨ok.mod,ok.kind,ok.glob,ok.blt,ok.above,ok.inj,ok.has,ok.cab,ok.hd,ok.frames,ok.stk,ok.exf,ok.bs,ok.bsz,ok.noex,ok.exfs,ok.funs,ok.frf⟩
section
theorem Inv.wish (I:Inv X pins σ H s) (E:Value->Shared->Prop):Inv (X.wish E) pins σ H s:=⟨I.ok.wish E,I.os,I.bare,I.base,I.loc,I.cell,I.free,I.freeC,I.pin,I.hok,I.len⟩
theorem Inv.unwish (I:Inv (X.wish E) pins σ H s):Inv X pins σ H s:=⟨I.ok.unwish,I.os,I.bare,I.base,I.loc,I.cell,I.free,I.freeC,I.pin,I.hok,I.len⟩
theorem SP.unwish {D:Ends} {f:Flow} (h:SP (X.wish E) pins D f s'):SP X pins D f s':=by
 cases f with
 | next=>obtain ⟨σ',H',I,q⟩:=h;exact ⟨σ',H',I.unwish,q⟩
 | brk=>obtain ⟨σ',H',I,q⟩:=h;exact ⟨σ',H',I.unwish,q⟩
 | cont=>obtain ⟨σ',H',I,q⟩:=h;exact ⟨σ',H',I.unwish,q⟩
 | ret u=>obtain ⟨v,σ',H',I,r,q⟩:=h;exact ⟨v,σ',H',I.unwish,r,q⟩
theorem PE.nox (h:PE X.nox e t):PE X e t:=fun pins s σ H Q I hw=>
 Qe (h pins s σ H Q (I.wish _) hw) (fun _ _ ⟨v,H',I',r,q⟩=>⟨v,H',I'.unwish,r,q⟩) fun _ _ z=>False.elim z
theorem PT.nox {t:TT} (h:PT X.nox e t):PT X e t:=fun pins s σ H Q I hw=>
 Qe (h pins s σ H Q (I.wish _) hw) (fun _ _ ⟨H',I',q⟩=>⟨H',I'.unwish,q⟩) fun _ _ z=>False.elim z
theorem PSs.nox {st:List Stmt} {t:TS} (h:PSs X.nox st t):PSs X st t:=fun pins s σ H D I hw=>
 Qe (h pins s σ H D (I.wish _) hw) (fun _ _ q=>q.unwish) fun _ _ z=>False.elim z
end
variable {c:Expr} {te:TE}
section
variable {st:Stmt} {rest:List Stmt} {t u:TS}
noncomputable def zhZ:TS:=fun D σ H=>D.nx σ H
noncomputable def ziI (t u:TS):TS:=fun D σ H=>t { D with nx:=u D } σ H
theorem zfz:PSs X [] zhZ:=fun _ _ σ H _ I h=>wpAny_execs_nil ⟨σ,H,I,h⟩
theorem zex (h1:PS X st t) (h2:PSs X rest u):PSs X (st :: rest) (ziI t u):=by
 intro pins s σ H D I h
 refine wpAny_execs_cons (thn (h1 pins s σ H { D with nx:=u D } I h) fun f s1 q=>?_)
 cases f with
 | next=>
  obtain ⟨σ',H',I',q⟩:=q
  exact h2 pins s1 σ' H' D I' q
 | ret v=>exact q
 | brk=>exact q
 | cont=>exact q
theorem zcF (h1:PS X st t):PSs X [st] t:=by
 intro pins s σ H D I h
 refine wpAny_execs_cons (thn (h1 pins s σ H D I h) fun f s1 q=>?_)
 cases f with
 | next=>exact wpAny_execs_nil q
 | ret v=>exact q
 | brk=>exact q
 | cont=>exact q
noncomputable def ziJ (te:TE):TS:=fun D σ H=>te σ H D.rt
theorem zgO (he:PE X e te):PS X (.Return (some e) pos) (ziJ te):=by
 intro pins s σ H D I h
 exact wpAny_Return_some (thn (he pins s σ H _ I h) fun v s1 ⟨x,H1,I1,r1,q1⟩=>⟨x,σ,H1,I1,r1,q1⟩)
noncomputable def ziN (c:TT) (t u:TS):TS:=fun D σ H=>c σ H fun b H1=>if b = true then t D σ H1 else u D σ H1
theorem zh8 {a b:List Stmt} {tc:TT} (hc:PT X c tc) (ha:PSs X a t) (hb:PSs X b u):PS X (.If c a b pos) (ziN tc t u):=by
 intro pins s σ H D I h
 refine wpAny_If (thn (hc pins s σ H _ I h) fun d s1 ⟨H1,I1,q1⟩=>?_)
 cases d with
 | true=>exact ha pins s1 σ H1 D I1 q1
 | false=>exact hb pins s1 σ H1 D I1 q1
end
noncomputable abbrev TG:=V->St->Hp->(St->Hp->Prop)->Prop
noncomputable abbrev TGs:=List V->St->Hp->(St->Hp->Prop)->Prop
def PG (X:Cx) (target:Expr) (t:TG):Prop:=
 ∀ (pins:List (Addr × Obj)) (s:Shared) (σ:St) (H:Hp) (v:V) (u:Value) (Q:St->Hp->Prop),Inv X pins σ H s->RelV v u->t v σ H Q->
  wpAny (model X.prog X.w) X.A (assign target X.env u) (fun _ s'=>∃ σ' H',Inv X pins σ' H' s'/\Q σ' H') X.xe s
def PGs (X:Cx) (ts:List Expr) (t:TGs):Prop:=
 ∀ (pins:List (Addr × Obj)) (s:Shared) (σ:St) (H:Hp) (vs:List V) (us:List Value) (Q:St->Hp->Prop),Inv X pins σ H s->Vals vs us->t vs σ H Q->
  wpAny (model X.prog X.w) X.A (assignInOrder ((assignEach ts X.env).map (·.2)) us) (fun _ s'=>∃ σ' H',Inv X pins σ' H' s'/\Q σ' H') X.xe s
noncomputable abbrev zdu:=V->V->V->Hp->(Hp->Prop)->Prop
def zcr (X:Cx) (t:zdu):Prop:=
 ∀ (pins:List (Addr × Obj)) (s:Shared) (σ:St) (H:Hp) (o i v:V) (ov iv u:Value) (Q:Hp->Prop),Inv X pins σ H s->RelV o ov->RelV i iv->RelV v u->t o i v H Q->
  wpAny (model X.prog X.w) X.A (setItem ov iv u) (fun _ s'=>∃ H',Inv X pins σ H' s'/\Q H') X.xe s
variable {tg:Expr} {g:TG}
section
noncomputable def zbz (i:Nat):TG:=fun v σ H Q=>Q (σ.set i (some v)) H
theorem zH (hN:X.N.Nodup) (hi:X.N[i]? = some x) (hx:Loc X.env.scope x) (hf:X.fn x = true\/X.env.scope.names.lookup x = some .local:=by first | exact .inl rfl | exact .inr rfl | assumption):PG X (.Name x pos) (zbz i):=by
 intro pins s σ H v u Q I r h
 exact wpAny_assign_Name (zbI I hN hi hx r (fun s' I'=>⟨_,H,I',h⟩) hf)
noncomputable def zje (to ti:TE) (t:zdu):TG:=fun v σ H Q=>to σ H fun o H1=>ti σ H1 fun i H2=>t o i v H2 fun H3=>Q σ H3
theorem zgT {o i:Expr} {to ti:TE} {t:zdu} (ho:PE X o to) (hi:PE X i ti) (hs:zcr X t)
  (ha:∀ v,assign (.Subscript o i pos) X.env v = (do
   let ov ← holding [v] (eval o X.env)
   let iv ← holding [v,ov] (eval i X.env)
   standAt pos
   holding [v,ov,iv] (setItem ov iv v)
   release [v,ov,iv] []):=by intro _;rfl):PG X (.Subscript o i pos) (zje to ti t):=by
 intro pins s σ H v u Q I r h
 rw [ha]
 refine Q1 (wpAny_holding (thn (ho pins s σ H _ I h) fun ov s1 ⟨x,H1,I1,r1,q1⟩=>?_))
 refine Q1 (wpAny_holding (thn (hi pins s1 σ H1 _ I1 q1) fun iv s2 ⟨y,H2,I2,r2,q2⟩=>?_))
 refine Q1 (wpAny_standAt (Q1 (wpAny_holding (thn (hs pins s2 σ H2 x y v ov iv u _ I2 r1 r2 r q2) fun _ s3 ⟨H3,I3,q3⟩=>?_))))
 exact wpAny_release ⟨σ,H3,I3,q3⟩
noncomputable def zgw (te:TE) (g:TG):TS:=fun D σ H=>te σ H fun x H1=>g x σ H1 D.nx
theorem zgQ (he:PE X e te) (hg:PG X tg g) (hs:swapsWithSole [tg] e pos.line X.env = pure false:=by rfl) (hw:swappedStores [tg] e X.env = pure none:=by rfl)
 (h1:(assignEach [tg] X.env).map (·.2) = [assign tg X.env]:=by rfl):PS X (.Assign [tg] e pos) (zgw te g):=by
 intro pins s σ H D I h
 refine wpAny_Assign_stores (thn (he pins s σ H _ I h) fun v s1 ⟨x,H1,I1,r1,q1⟩=>?_) hs hw
 rw [h1]
 exact thn (hg pins s1 σ H1 x v _ I1 r1 q1) fun _ s2 q=>q
theorem zgN {pos':Pos} (hN:X.N.Nodup) (hi:X.N[i]? = some x) (hx:Loc X.env.scope x) (he:PE X e te) (hs:swapsWith e (some (.Name x pos')) pos.line X.env = pure false:=by rfl) (hf:X.fn x = true\/X.env.scope.names.lookup x = some .local:=by first | exact .inl rfl | exact .inr rfl | assumption) :
  PS X (.Assign [.Name x pos'] e pos) (zgw te (zbz i)):=by
 intro pins s σ H D I h
 refine wpAny_Assign_Name (thn (he pins s σ H _ I h) fun v s1 ⟨y,H1,I1,r1,q1⟩=>?_) hs
 exact zbI I1 hN hi hx r1 (fun s2 I2=>⟨_,H1,I2,q1⟩) hf
end
structure It where
 go:Nat->Hp->Prop
 yld:Nat->Hp->V->Hp->Prop
 stop:Nat->Hp->Prop
def zaD (X:Cx) (pins:List (Addr × Obj)) (H:Hp) (b:Addr):Prop:=
 H b = none/\b ≠ X.env.locals/\b ∉ X.fs/\(b ∈ X.ex\/X.s₀.heap.objs.size<=b)/\(∀ x c,X.env.cells.lookup x = some c->c ≠ b)/\∀ p ∈ X.pn ++ pins,p.1 ≠ b
theorem Inv.fpOk {b:Addr} (I:Inv X pins σ H s) (hb:s.heap.objs.size<=b) (hn:H' b = none):zaD X pins H' b:=by
 refine ⟨hn,Nat.ne_of_gt (Q5 I.lt hb),I.nofs hb,.inr (Qg I.sz hb),fun x c e z=>?_,fun p hp z=>?_⟩
 ·obtain ⟨v,q⟩:=I.cell x c e
  exact absurd (Q5 q.lt (by rw [z];exact hb)) (Ql _)
 ·exact absurd (Q5 (Qc (I.pin p hp).1) (by rw [z];exact hb)) (Ql _)
structure Turn (P:Program) (w:World) (K:Frag) (tg:Expr) (J:It) (fp:List Addr) (it:Addr) (tn:Nat->Heap->Prop):Prop where
 mem:it ∈ fp
 obj:∀ i h,tn i h->∀ b ∈ fp,∃ o,h.get? b = some o/\∀ v,o.data ≠ .cell v
 keep:∀ i h h',tn i h->(∀ b ∈ fp,∀ o,h.get? b = some o->h'.get? b = some o)->tn i h'
 item:∀ (X:Cx),X.prog = P->X.w = w->X.K = K->X.calm = true->∀ (i:Nat) (pins:List (Addr × Obj)) (s:Shared) (σ:St) (H:Hp) (E:Value->Shared->Prop),Inv X pins σ H s->(∀ b ∈ fp,zaD X pins H b)->tn i s.heap->J.go i H->
  wpAny (model P w) X.A (pyNext (.ref it)) (fun r s1=>∃ u,r = some u /\
   wpAny (model P w) X.A (letOwnedTupleGo tg (.ref it) u) (fun _ s2=>∃ x H',Inv X pins σ H' s2/\RelV x u/\J.yld i H x H'/\tn (i + 1) s2.heap/\∀ b ∈ fp,H' b = none) E s1) E s
 done:∀ (X:Cx),X.prog = P->X.w = w->X.K = K->X.calm = true->∀ (i:Nat) (pins:List (Addr × Obj)) (s:Shared) (σ:St) (H:Hp) (E:Value->Shared->Prop),Inv X pins σ H s->(∀ b ∈ fp,zaD X pins H b)->tn i s.heap->J.stop i H->
  wpAny (model P w) X.A (pyNext (.ref it)) (fun r s1=>r = none/\Inv X pins σ H s1) E s
 self:∀ (A:Around) (i:Nat) (s:Shared) (Q:Value->Shared->Prop) (E:Value->Shared->Prop),tn i s.heap->Q (.ref it) s->wpAny (model P w) A (pyIter (.ref it)) Q E s
noncomputable abbrev TI:=St->Hp->(It->Hp->Prop)->Prop
def PIE (X:Cx) (pins:List (Addr × Obj)) (σ:St) (tg:Expr) (R:It->Hp->Prop) (itv:Value) (s2:Shared):Prop:=
 ∃ (it:Addr) (fp:List Addr) (tn:Nat->Heap->Prop) (J:It) (H':Hp),itv = .ref it/\Inv X pins σ H' s2/\Turn X.prog X.w X.K tg J fp it tn/\tn 0 s2.heap/\(∀ b ∈ fp,zaD X pins H' b)/\R J H'
def PI (X:Cx) (tg iter:Expr) (wi:TI):Prop:=
 ∀ (pins:List (Addr × Obj)) (s:Shared) (σ:St) (H:Hp) (R:It->Hp->Prop),Inv X pins σ H s->wi σ H R->
  wpAny (model X.prog X.w) X.A (eval iter X.env) (fun v s1=>wpAny (model X.prog X.w) X.A (pyIter v) (PIE X pins σ tg R) X.xe s1) X.xe s
theorem zby {o:Obj} {n:String} {vs:Array Value} {Q:Unit->Shared->Prop} (ho:s.heap.get? it = some o) (hc:o.cls = .type n) (hd:o.data = .fields vs)
 (hn:["enumerate","zip","dict_itemiterator","dict_reverseitemiterator","odict_iterator","itertools.zip_longest","itertools.pairwise"].contains n = false) (hQ:Q () s):wpAny M A (letOwnedTupleGo tg (.ref it) u) Q E s:=by
 unfold letOwnedTupleGo
 cases tg <;> first
  | exact Qd hQ
  | (cases u <;> first
    | exact Qd hQ
    | (refine Q1 (wpAny_load ho ?_)
       rw [hc,hd]
       show wpAny M A (if (["enumerate","zip","dict_itemiterator","dict_reverseitemiterator","odict_iterator","itertools.zip_longest","itertools.pairwise"].contains n && vs[0]? == some (rawInt _)) = true then _ else _) Q E s
       rw [if_neg (by intro h;rw [hn,Bool.false_and] at h;cases h)]
       exact Qd hQ))
noncomputable def Itl (K:Frag) (a:Addr):It:=
 ⟨fun i H=>∃ xs x,SqL K H a xs/\xs[i]? = some x,fun i H x H'=>H' = H/\∀ xs,SqL K H a xs->xs[i]? = some x,fun i H=>∃ xs,SqL K H a xs/\xs.length<=i⟩
noncomputable def Itt (K:Frag) (a:Addr):It:=
 ⟨fun i H=>∃ xs x,SqT K H a xs/\xs[i]? = some x,fun i H x H'=>H' = H/\∀ xs,SqT K H a xs->xs[i]? = some x,fun i H=>∃ xs,SqT K H a xs/\xs.length<=i⟩
noncomputable def Itr (lo:Int) (n:Nat):It:=⟨fun i _=>i < n,fun i H x H'=>H' = H/\x = .int (lo + i),fun i _=>n<=i⟩
variable {K:Frag}
theorem zdz (a it:Addr):Turn P w K tg (Itl K a) [it] it (fun i h=>h.IsListIter it a i) where
 mem:=by simp
 obj:=fun i h st b hb=>by
  have e:b = it:=by simpa using hb
  subst e
  obtain ⟨o,e,c,d⟩:=st
  exact ⟨o,e,fun v z=>by rw [d] at z;cases z⟩
 keep:=fun i h h' st k=>st.at fun o e=>k it (by simp) o e
 item:=by
  intro X hP hw hK hc i pins s σ H E I hf st hg
  subst hP hw hK
  obtain ⟨xs,x,hq,hx⟩:=hg
  obtain ⟨its,rv,p,hz⟩:=I.list hq
  obtain ⟨u,hu,ru⟩:=rv.get hx
  obtain ⟨f0,f1,f2,f3,f4,f5⟩:=hf it (by simp)
  refine wpAny_pyNext_list_item st p.isList (x:=u) (by simpa using hu) fun h' st' sb=>?_
  have I1:Inv X pins σ H { s with heap:=h' }:=I.turned (t':=s.toks) (fun b o hb e=>(sb.2 b hb).trans e) f0 f1 f3 f4 f5
  obtain ⟨o,e,c,d⟩:=id st'
  exact ⟨u,rfl,zby (s:={ s with heap:=h' }) e c d (by decide) ⟨x,H,I1,ru,⟨rfl,fun ys hy=>by rw [I.list_inj hy hq];exact hx⟩,st',fun b hb=>(hf b hb).1⟩⟩
 done:=by
  intro X hP hw hK hc i pins s σ H E I hf st hg
  subst hP hw hK
  obtain ⟨xs,hq,hx⟩:=hg
  obtain ⟨its,rv,p,hz⟩:=I.list hq
  obtain ⟨f0,f1,f2,f3,f4,f5⟩:=hf it (by simp)
  have hl:=rv.length
  exact wpAny_pyNext_list_end (I.ok.hd hc) st p.isList (by simp;omega) fun h' eb=>⟨rfl,I.turned (t':=s.toks) (fun b o hb e=>eb b o hb e) f0 f1 f3 f4 f5⟩
 self:=fun _ _ _ _ _ st h=>wpAny_pyIter_listiter st h
theorem zc0 (a it:Addr):Turn P w K tg (Itt K a) [it] it (fun i h=>h.IsTupleIter it a i) where
 mem:=by simp
 obj:=fun i h st b hb=>by
  have e:b = it:=by simpa using hb
  subst e
  obtain ⟨o,e,c,d⟩:=st
  exact ⟨o,e,fun v z=>by rw [d] at z;cases z⟩
 keep:=fun i h h' st k=>st.at fun o e=>k it (by simp) o e
 item:=by
  intro X hP hw hK hc i pins s σ H E I hf st hg
  subst hP hw hK
  obtain ⟨xs,x,hq,hx⟩:=hg
  obtain ⟨its,rv,p,hz⟩:=I.tuple hq
  obtain ⟨u,hu,ru⟩:=rv.get hx
  obtain ⟨f0,f1,f2,f3,f4,f5⟩:=hf it (by simp)
  refine wpAny_pyNext_tuple_item st (show s.heap.IsTuple a its.toArray from p) (x:=u) (by simpa using hu) fun h' st' sb=>?_
  have I1:Inv X pins σ H { s with heap:=h' }:=I.turned (t':=s.toks) (fun b o hb e=>(sb.2 b hb).trans e) f0 f1 f3 f4 f5
  obtain ⟨o,e,c,d⟩:=id st'
  exact ⟨u,rfl,zby (s:={ s with heap:=h' }) e c d (by decide) ⟨x,H,I1,ru,⟨rfl,fun ys hy=>by rw [I.tuple_inj hy hq];exact hx⟩,st',fun b hb=>(hf b hb).1⟩⟩
 done:=by
  intro X hP hw hK hc i pins s σ H E I hf st hg
  subst hP hw hK
  obtain ⟨xs,hq,hx⟩:=hg
  obtain ⟨its,rv,p,hz⟩:=I.tuple hq
  obtain ⟨f0,f1,f2,f3,f4,f5⟩:=hf it (by simp)
  have hl:=rv.length
  exact wpAny_pyNext_tuple_end (I.ok.hd hc) st (show s.heap.IsTuple a its.toArray from p) (by simp;omega) fun h' eb=>⟨rfl,I.turned (t':=s.toks) (fun b o hb e=>eb b o hb e) f0 f1 f3 f4 f5⟩
 self:=fun _ _ _ _ _ st h=>wpAny_pyIter_tupleiter st h
theorem zc1 (it:Addr) (lo:Int) (n:Nat):Turn P w K tg (Itr lo n) [it] it (fun i h=>IsRangeIter h it (lo + (i:Nat) * 1) ((n:Int) - (i:Nat)) 1) where
 mem:=by simp
 obj:=fun i h st b hb=>by
  have e:b = it:=by simpa using hb
  subst e
  exact ⟨_,st,fun v z=>by
   have z':Data.fields _ = Data.cell v:=z
   cases z'⟩
 keep:=fun i h h' st k=>k it (by simp) _ st
 item:=by
  intro X hP hw hK hc i pins s σ H E I hf st hg
  subst hP hw hK
  obtain ⟨f0,f1,f2,f3,f4,f5⟩:=hf it (by simp)
  have W:=Walks.range (prog:=X.prog) (w:=X.w) (I.ok.hd hc) it lo 1 n
  refine W.item i s _ _ hg st fun v h' tk hv st' kk=>?_
  obtain ⟨t,rfl⟩:=hv
  have I1:Inv X pins σ H { s with heap:=h',toks:=tk }:=I.turned (fun b o hb e=>kk b o (by simpa using hb) e) f0 f1 f3 f4 f5
  refine ⟨_,rfl,zby (s:={ s with heap:=h',toks:=tk }) (n:="range_iterator") st' rfl rfl (by decide) ⟨.int (lo + i),H,I1,⟨t,?_⟩,⟨rfl,rfl⟩,st',fun b hb=>(hf b hb).1⟩⟩
  rw [Int.mul_one]
 done:=by
  intro X hP hw hK hc i pins s σ H E I hf st hg
  subst hP hw hK
  obtain ⟨f0,f1,f2,f3,f4,f5⟩:=hf it (by simp)
  exact wpAny_pyNext_range_end (I.ok.hd hc) st (by have:n<=i:=hg;omega) fun h' eb=>⟨rfl,I.turned (t':=s.toks) (fun b o hb e=>eb b o hb e) f0 f1 f3 f4 f5⟩
 self:=fun _ _ _ _ _ st h=>wpAny_pyIter_rangeiter st h
variable {l:Expr} {fp:List Addr} {body:List Stmt} {p:Pos} {tl:TE}
section
noncomputable def zio (K:Frag) (tl:TE):TI:=fun σ H R=>tl σ H fun x H1=>∃ a,x = .ref a/\(∃ xs,SqL K H1 a xs)/\R (Itl K a) H1
noncomputable def zjd (K:Frag) (tl:TE):TI:=fun σ H R=>tl σ H fun x H1=>∃ a,x = .ref a/\(∃ xs,SqT K H1 a xs)/\R (Itt K a) H1
theorem zfC (hl:PE X l tl):PI X tg l (zio X.K tl):=by
 intro pins s σ H R I h
 refine thn (hl pins s σ H _ I h) fun v s1 ⟨x,H1,I1,r1,q1⟩=>?_
 obtain ⟨a,e,⟨xs,hq⟩,q⟩:=q1
 subst e
 cases r1
 obtain ⟨its,rv,p,hz⟩:=I1.list hq
 refine wpAny_pyIter_list p.isList ?_
 refine ⟨s1.heap.objs.size,[s1.heap.objs.size],_,_,H1,rfl,I1.kept (t':=s1.toks) fun b o e=>Q2 _ e,zdz a _,⟨_,Qi _ rfl,rfl,rfl⟩,fun b hb=>?_,q⟩
 have e:b = s1.heap.objs.size:=by simpa using hb
 subst e
 exact I1.fpOk (Q3 _) (I1.hok.fresh (Q3 _))
theorem zgS (hl:PE X l tl):PI X tg l (zjd X.K tl):=by
 intro pins s σ H R I h
 refine thn (hl pins s σ H _ I h) fun v s1 ⟨x,H1,I1,r1,q1⟩=>?_
 obtain ⟨a,e,⟨xs,hq⟩,q⟩:=q1
 subst e
 cases r1
 obtain ⟨its,rv,p,hz⟩:=I1.tuple hq
 refine wpAny_pyIter_tuple (show s1.heap.IsTuple a its.toArray from p) ?_
 refine ⟨s1.heap.objs.size,[s1.heap.objs.size],_,_,H1,rfl,I1.kept (t':=s1.toks) fun b o e=>Q2 _ e,zc0 a _,⟨_,Qi _ rfl,rfl,rfl⟩,fun b hb=>?_,q⟩
 have e:b = s1.heap.objs.size:=by simpa using hb
 subst e
 exact I1.fpOk (Q3 _) (I1.hok.fresh (Q3 _))
theorem zet {R:It->Hp->Prop} {lo hi:Int} {t u v:Tok} {tk:Nat} (I:Inv X pins σ H s) (h1:-(2 ^ 62)<=lo) (h2:lo < 2 ^ 62) (h3:-(2 ^ 62)<=hi) (h4:hi < 2 ^ 62)
 (q:R (Itr lo (hi - lo).toNat) H):wpAny (model X.prog X.w) X.A (pyIter (.ref s.heap.objs.size)) (PIE X pins σ tg R) E { s with heap:=s.heap.push { cls:=.type "range",data:=.fields #[.int lo t,.int hi u,.int 1 v] },toks:=tk }:=by
 refine wpAny_pyIter_range (IsRange.new ..) (small_one h1 h2 h3 h4) ?_
 have I1:Inv X pins σ H { s with heap:=s.heap.push { cls:=.type "range",data:=.fields #[.int lo t,.int hi u,.int 1 v] },toks:=tk }:=I.kept fun b o e=>Q2 _ e
 refine ⟨(s.heap.push { cls:=.type "range",data:=.fields #[.int lo t,.int hi u,.int 1 v] }).objs.size,[(s.heap.push { cls:=.type "range",data:=.fields #[.int lo t,.int hi u,.int 1 v] }).objs.size],_,_,H,rfl,
  I1.kept (t':=tk) fun b o e=>Q2 _ e,zc1 _ lo (hi - lo).toNat,?_,fun b hb=>?_,q⟩
 ·have e1:lo + ((0:Nat):Int) * 1 = lo:=by simp
  have e2:(((hi - lo).toNat:Nat):Int) - ((0:Nat):Int) = Builtin.Range.rangeSize lo hi 1:=by rw [rangeSize_one];split <;> omega
  show IsRangeIter _ _ (lo + ((0:Nat):Int) * 1) ((((hi - lo).toNat:Nat):Int) - ((0:Nat):Int)) 1
  rw [e1,e2]
  exact Qi _ rfl
 ·have e:b = (s.heap.push { cls:=.type "range",data:=.fields #[.int lo t,.int hi u,.int 1 v] }).objs.size:=by simpa using hb
  subst e
  exact I1.fpOk (Q3 _) (I1.hok.fresh (Q3 _))
noncomputable def zin (ta:TA):TI:=fun σ H R=>ta σ H fun vs H1=>∃ j:Int,vs = [.int j]/\-(2 ^ 62)<=j/\j < 2 ^ 62/\R (Itr 0 j.toNat) H1
theorem zdI {a:Expr} {ta:TA} (hg:Gl X "range") (hm:X.mg "range" = none) (ha:PA X [a] ta) (hs:starEach [a] X.env = [(false,eval a X.env)]:=by rfl):PI X tg (.Call (.Name "range" p) [a] [] pos) (zin ta):=by
 intro pins s σ H R I h
 refine Call_ (zb4 I hg hm boot_range (PyProof.Rows.callWith_type1 (thn (ha pos pins s σ H _ I h) fun us s1 ⟨vs,H1,I1,r1,q1⟩=>?_) hs rfl))
 obtain ⟨j,e,q1,q2,q⟩:=q1
 subst e
 cases r1 with
 | cons r rr=>
  cases rr
  obtain ⟨t,rfl⟩:=r
  exact call_range_1 (zet I1 (by omega) (by omega) q1 q2 (by simpa using q))
noncomputable def ziO (wi:TI) (g:TG) (tb:TS):TS:=fun D σ H=>wi σ H fun J H1=>∃ W:Nat->Nat->St->Hp->Prop,(∃ m,W 0 m σ H1)/\∀ i m σ H,W i m σ H->
 (J.stop i H/\D.nx σ H)\/(J.go i H/\∃ N:St->Hp->Prop,(∀ σ' H',N σ' H'->∃ m',m' < m/\W (i + 1) m' σ' H')/\∀ x H',J.yld i H x H'->g x σ H' fun σ2 H2=>tb { D with nx:=N,ct:=N,bk:=D.nx } σ2 H2)
noncomputable def zad (fp:List Addr) (h:Heap):List (Addr × Obj):=fp.filterMap fun b=>(h.get? b).map fun o=>(b,o)
theorem zL {b:Addr} {o:Obj} (hb:b ∈ fp) (e:h.get? b = some o):(b,o) ∈ zad fp h:=List.mem_filterMap.mpr ⟨b,hb,by rw [e];rfl⟩
theorem zdL {p:Addr × Obj} (hp:p ∈ zad fp h):p.1 ∈ fp/\h.get? p.1 = some p.2:=by
 obtain ⟨b,hb,e⟩:=List.mem_filterMap.mp hp
 cases q:h.get? b with
 | none=>rw [q] at e;cases e
 | some o=>
  rw [q] at e
  have e':(b,o) = p:=Qb e
  subst e'
  exact ⟨hb,q⟩
theorem Inv.pinned (I:Inv X pins σ H s) (hf:∀ b ∈ fp,zaD X pins H b) (ho:∀ b ∈ fp,∃ o,s.heap.get? b = some o/\∀ v,o.data ≠ .cell v):Inv X (pins ++ zad fp s.heap) σ H s:=
 I.pins_of fun p hp=>(mem_append.mp hp).elim (fun z=>I.pin p (Qj _ z)) fun z=>by
  obtain ⟨hb,e⟩:=zdL z
  obtain ⟨f0,f1,f2,_⟩:=hf p.1 hb
  obtain ⟨o,e',d⟩:=ho p.1 hb
  rw [e] at e';cases e'
  exact ⟨e,f0,f1,f2,d⟩
theorem Inv.unpinned {pl:List (Addr × Obj)} (I:Inv X (pins ++ pl) σ H s):Inv X pins σ H s:=I.pins_of fun p hp=>I.pin p (Qj _ (List.mem_append_left _ hp))
theorem zgP {iter:Expr} {wi:TI} {tb:TS} (hp:PassesOwn (model X.prog X.w) X.A X.env X.xe) (hc:X.calm = true) (hi:PI X tg iter wi) (hg:PG X tg g) (hb:PSs X body tb)
 (hs:∀ x,foldedSetIterable iter X.env x = pure x:=by intro _;rfl):PS X (.For tg iter body [] pos) (ziO wi g tb):=by
 intro pins s σ H D I h
 refine wpAny_For (thn (hi pins s σ H _ I h) fun v s1 h1=>thn h1 fun itv s2 h2=>?_) hs
 obtain ⟨it,fp,tn,J,H2,e,I2,T,st2,f2,W,⟨m0,w0⟩,turn⟩:=h2
 subst e
 -- what stays true of the iterator's objects through the loop
 have stat:∀ {H':Hp},(∀ b ∈ fp,H' b = none)->∀ b ∈ fp,zaD X pins H' b:=fun hn b hb=>⟨hn b hb,(f2 b hb).2⟩
 refine codeAny_forLoop_any (fun n s'=>∃ i σ' H',Inv X pins σ' H' s'/\tn i s'.heap/\(∀ b ∈ fp,H' b = none)/\W i n σ' H') ?_ m0 ⟨0,σ,H2,I2,st2,fun b hb=>(f2 b hb).1,w0⟩
 rintro n s3 ⟨i,σ3,H3,I3,st3,fr3,w3⟩
 rcases turn i n σ3 H3 w3 with ⟨stop,qn⟩ | ⟨go,N,hN,step⟩
 ·refine wpAny_passesOwn hp (thn (T.done X rfl rfl rfl hc i pins s3 σ3 H3 X.xe I3 (stat fr3) st3 stop) fun r s4 ⟨hr,I4⟩=>?_)
  subst hr
  exact wpAny_execs_nil ⟨σ3,H3,I4,qn⟩
 ·refine wpAny_passesOwn hp (thn (T.item X rfl rfl rfl hc i pins s3 σ3 H3 X.xe I3 (stat fr3) st3 go) fun r s4 ⟨u,hr,h4⟩=>?_)
  subst hr
  refine wpAny_passesOwn hp (thn h4 fun _ s5 ⟨x,H5,I5,r5,y5,st5,fr5⟩=>?_)
  have I5':=I5.pinned (stat fr5) (T.obj _ _ st5)
  refine wpAny_passesOwn hp (thn (hg _ s5 σ3 H5 x u _ I5' r5 (step x H5 y5)) fun _ s6 ⟨σ6,H6,I6,q6⟩=>?_)
  refine wpAny_passesOwn hp (thn (hb _ s6 σ6 H6 _ I6 q6) fun f s7 q7=>?_)
  have again:∀ {σ7:St} {H7:Hp},Inv X (pins ++ zad fp s5.heap) σ7 H7 s7->N σ7 H7->∃ m,m < n/\∃ i σ' H',Inv X pins σ' H' s7/\tn i s7.heap/\(∀ b ∈ fp,H' b = none)/\W i m σ' H':=fun {σ7 H7} I7 n7=>by
   obtain ⟨m',hm,w7⟩:=hN σ7 H7 n7
   refine ⟨m',hm,i + 1,σ7,H7,I7.unpinned,T.keep _ _ _ st5 fun b hb o e=>(I7.pin (b,o) (Qj _ (Qj _ (zL hb e)))).1,fun b hb=>?_,w7⟩
   obtain ⟨o,e,d⟩:=T.obj _ _ st5 b hb
   exact (I7.pin (b,o) (Qj _ (Qj _ (zL hb e)))).2.1
  cases f with
  | next=>obtain ⟨σ7,H7,I7,n7⟩:=q7;exact again I7 n7
  | cont=>obtain ⟨σ7,H7,I7,n7⟩:=q7;exact again I7 n7
  | brk=>obtain ⟨σ7,H7,I7,q7⟩:=q7;exact ⟨σ7,H7,I7.unpinned,q7⟩
  | ret v=>obtain ⟨x7,σ7,H7,I7,r7,q7⟩:=q7;exact ⟨x7,σ7,H7,I7.unpinned,r7,q7⟩
end
noncomputable abbrev R2:=V->V->Hp->VK->Prop
def OpR (X:Cx) (f:Value->Value->Sem Value) (r:R2):Prop:=
 ∀ (pins:List (Addr × Obj)) (s:Shared) (σ:St) (H:Hp) (x y:V) (v u:Value) (Q:VK),Inv X pins σ H s->RelV x v->RelV y u->r x y H Q->
  wpAny (model X.prog X.w) X.A (f v u) (EP X pins σ Q) X.xe s
def UnR (X:Cx) (f:Value->Sem Value) (r:V->Hp->VK->Prop):Prop:=
 ∀ (pins:List (Addr × Obj)) (s:Shared) (σ:St) (H:Hp) (x:V) (v:Value) (Q:VK),Inv X pins σ H s->RelV x v->r x H Q->
  wpAny (model X.prog X.w) X.A (f v) (EP X pins σ Q) X.xe s
def CallR (X:Cx) (f:Value) (r:List V->Hp->VK->Prop):Prop:=
 ∀ (pins:List (Addr × Obj)) (s:Shared) (σ:St) (H:Hp) (xs:List V) (us:List Value) (Q:VK),Inv X pins σ H s->Vals xs us->r xs H Q->
  wpAny (model X.prog X.w) X.A (call f us) (EP X pins σ Q) X.xe s
noncomputable def tOp (r:R2) (ta tb:TE):TE:=fun σ H Q=>ta σ H fun x H1=>tb σ H1 fun y H2=>r x y H2 Q
noncomputable def rI (C:Int->Int->Prop) (g:Int->Int->V):R2:=fun x y H Q=>∃ i j,x = .int i/\y = .int j/\C i j/\Q (g i j) H
noncomputable def rI0 (g:Int->Int->V):R2:=fun x y H Q=>∃ i j,x = .int i/\y = .int j/\Q (g i j) H
variable {r:R2} {tc:TE} {f:Value->Value->Sem Value}
section
variable {a b:Expr}
theorem ze3 (ha:PE X a ta) (hb:PE X b tb) (I:Inv X pins σ H s)
 (h:ta σ H fun x H1=>tb σ H1 fun y H2=>R x y H2) 
 (hf:∀ v u s2 x y H2,Inv X pins σ H2 s2->RelV x v->RelV y u->R x y H2->wpAny (model X.prog X.w) X.A (f v u) Q X.xe s2) :
  wpAny (model X.prog X.w) X.A (eval a X.env) (fun v s₁=>wpAny (model X.prog X.w) X.A (eval b X.env) (fun u s₂=>wpAny (model X.prog X.w) X.A (f v u) Q X.xe s₂) X.xe s₁) X.xe s:=by
 refine thn (ha pins s σ H _ I h) fun v s1 ⟨x,H1,I1,r1,q1⟩=>?_
 refine thn (hb pins s1 σ H1 _ I1 q1) fun u s2 ⟨y,H2,I2,r2,q2⟩=>?_
 exact hf v u s2 x y H2 I2 r1 r2 q2
theorem zh9 {op:Operator} (ho:OpR X (binaryOp op) r) (ha:PE X a ta) (hb:PE X b tb):PE X (.BinOp a op b pos) (tOp r ta tb):=by
 intro pins s σ H Q I h
 exact wpAny_BinOp (ze3 ha hb I h fun v u s2 x y H2 I2 rx ry q=>ho pins s2 σ H2 x y v u Q I2 rx ry q)
theorem opI {C:Int->Int->Prop} {g:Int->Int->Int}
 (rule:∀ (i j:Int) (t u:Tok) (s:Shared) (Q:Value->Shared->Prop) (E:Value->Shared->Prop),C i j->Q (.int (g i j) s.toks) { s with toks:=s.toks + 1 }->wpAny (model X.prog X.w) X.A (f (.int i t) (.int j u)) Q E s) :
  OpR X f (rI C fun i j=>.int (g i j)):=by
 intro pins s σ H x y v u Q I rx ry h
 obtain ⟨i,j,rfl,rfl,hc,q⟩:=h
 obtain ⟨t,rfl⟩:=rx
 obtain ⟨t',rfl⟩:=ry
 exact rule i j t t' s _ _ hc ⟨.int (g i j),H,I.tok _,⟨_,rfl⟩,q⟩
theorem zg8 {g:Int->Int->Int}
 (rule:∀ (i j:Int) (t u:Tok) (s:Shared) (Q:Value->Shared->Prop) (E:Value->Shared->Prop),Q (.int (g i j) s.toks) { s with toks:=s.toks + 1 }->wpAny (model X.prog X.w) X.A (f (.int i t) (.int j u)) Q E s) :
  OpR X f (rI0 fun i j=>.int (g i j)):=by
 intro pins s σ H x y v u Q I rx ry h
 obtain ⟨i,j,rfl,rfl,q⟩:=h
 obtain ⟨t,rfl⟩:=rx
 obtain ⟨t',rfl⟩:=ry
 exact rule i j t t' s _ _ ⟨.int (g i j),H,I.tok _,⟨_,rfl⟩,q⟩
theorem zeC {g:Int->Int->Bool}
 (rule:∀ (i j:Int) (t u:Tok) (s:Shared) (Q:Value->Shared->Prop) (E:Value->Shared->Prop),Q (.bool (g i j)) s->wpAny (model X.prog X.w) X.A (f (.int i t) (.int j u)) Q E s) :
  OpR X f (rI0 fun i j=>.bl (g i j)):=by
 intro pins s σ H x y v u Q I rx ry h
 obtain ⟨i,j,rfl,rfl,q⟩:=h
 obtain ⟨t,rfl⟩:=rx
 obtain ⟨t',rfl⟩:=ry
 exact rule i j t t' s _ _ ⟨.bl (g i j),H,I,rfl,q⟩
def zjl (i j:Int):Prop:=0<=j/\j<=1000000/\i.natAbs < 2 ^ 64
def CMul (i j:Int):Prop:=(-(2 ^ 64) < i/\i < 2 ^ 64)\/(-(2 ^ 64) < j/\j < 2 ^ 64)
theorem CMul.ok {i j:Int} (h:CMul i j):IntMulOk i j:=by
 rcases h with ⟨h1,h2⟩ | ⟨h1,h2⟩
 ·exact .of_left (intBits_le_64 h1 h2)
 ·exact .of_right (intBits_le_64 h1 h2)
theorem zg7:OpR X (binaryOp .Add) (rI0 fun i j=>.int (i + j)):=zg8 fun _ _ _ _ _ _ _ q=>add_int q
theorem zg4:OpR X (binaryOp .Sub) (rI0 fun i j=>.int (i - j)):=zg8 fun _ _ _ _ _ _ _ q=>sub_int q
theorem zfO:OpR X (binaryOp .Mod) (rI (fun _ j=>j ≠ 0) fun i j=>.int (i.fmod j)):=opI fun _ _ _ _ _ _ _ hc q=>mod_int' hc q
theorem zg5:OpR X (binaryOp .Pow) (rI zjl fun i j=>.int (i ^ j.toNat)):=opI fun _ _ _ _ _ _ _ hc q=>pow_int_small hc.1 hc.2.1 hc.2.2 q
end
variable {op':CmpOp} {r':R2}
section
variable {a b:Expr}
theorem zd3 {Q:VK} {k k':Bool} (I:Inv X pins σ H s) (q:Q (.bl k) H) (e:k = k'):EP X pins σ Q (.bool k') s:=by
 subst e
 exact ⟨.bl k,H,I,rfl,q⟩
theorem zie:OpR X (compareOp .Lt) (rI0 fun i j=>.bl (decide (i < j))):=zeC fun _ _ _ _ _ _ _ q=>lt_int q
theorem zif:OpR X (compareOp .LtE) (rI0 fun i j=>.bl (decide (i<=j))):=zeC fun _ _ _ _ _ _ _ q=>le_int q
theorem zig:OpR X (compareOp .Gt) (rI0 fun i j=>.bl (decide (j < i))):=zeC fun _ _ _ _ _ _ _ q=>gt_int q
theorem yo (b:Expr) (h:op ≠ .In:=by decide) (h2:op ≠ .NotIn:=by decide):behindInMarks op b = false:=by
 have e1:(op == CmpOp.In) = false:=by cases op <;> first | rfl | exact absurd rfl h
 have e2:(op == CmpOp.NotIn) = false:=by cases op <;> first | rfl | exact absurd rfl h2
 cases b <;> simp [behindInMarks,e1,e2]
theorem zfG (ho:OpR X (compareOp op) r) (ha:PE X a ta) (hb:PE X b tb) (hm:behindInMarks op b = false):PE X (.Compare a [op] [b] pos) (tOp r ta tb):=by
 intro pins s σ H Q I h
 exact wpAny_Compare1 (ze3 ha hb I h fun v u s2 x y H2 I2 rx ry q=>ho pins s2 σ H2 x y v u Q I2 rx ry q) hm
noncomputable def ze9 (t:TE):TT:=fun σ H Q=>t σ H fun x H'=>∃ k,x = .bl k/\Q k H'
theorem zfy (ho:OpR X (compareOp op) r) (ha:PE X a ta) (hb:PE X b tb) (hm:behindInMarks op b = false):PT X (.Compare a [op] [b] pos) (ze9 (tOp r ta tb)):=by
 intro pins s σ H Q I h
 refine wpAny_isTrue_Compare1 (thn (ha pins s σ H _ I h) fun v s1 ⟨x,H1,I1,r1,q1⟩=>thn (hb pins s1 σ H1 _ I1 q1) fun u s2 ⟨y,H2,I2,r2,q2⟩=>
  thn (ho pins s2 σ H2 x y v u _ I2 r1 r2 q2) fun c s3 ⟨z,H3,I3,r3,k,e,q3⟩=>?_) hm
 subst e
 cases r3
 exact wpAny_truthy_bool ⟨H3,I3,q3⟩
noncomputable def zbF (r r':R2) (ta tb tc:TE):TE:=fun σ H Q=>ta σ H fun x H1=>tb σ H1 fun y H2=>r x y H2 fun z H3=>∃ k,z = .bl k /\
 (if k = true then tc σ H3 fun w' H4=>r' y w' H4 Q else Q (.bl false) H3)
theorem zeA (ho:OpR X (compareOp op) r) (ho':OpR X (compareOp op') r') (ha:PE X a ta) (hb:PE X b tb) (hc:PE X c tc)
 (hm:lastMarks [op,op'] [b,c] = false:=by with_unfolding_all rfl):PE X (.Compare a [op,op'] [b,c] pos) (zbF r r' ta tb tc):=by
 intro pins s σ H Q I h
 refine Compare_chain (thn (ha pins s σ H _ I h) fun v s1 ⟨x,H1,I1,r1,q1⟩=>chain_link (thn (hb pins s1 σ H1 _ I1 q1) fun u s2 ⟨y,H2,I2,r2,q2⟩=>
  thn (ho pins s2 σ H2 x y v u _ I2 r1 r2 q2) fun d s3 ⟨z,H3,I3,r3,k,e,q3⟩=>?_)) hm
 subst e
 cases r3
 refine wpAny_truthy_bool ?_
 cases k with
 | false=>exact ite_ff ⟨.bl false,H3,I3,rfl,q3⟩
 | true=>exact ite_tt (chain_last (thn (hc pins s3 σ H3 _ I3 q3) fun w' s4 ⟨z',H4,I4,r4,q4⟩=>ho' pins s4 σ H4 y z' u w' Q I4 r2 r4 q4))
theorem zew (ho:OpR X (compareOp op) r) (ho':OpR X (compareOp op') r') (ha:PE X a ta) (hb:PE X b tb) (hc:PE X c tc)
 (hm:lastMarks [op,op'] [b,c] = false:=by with_unfolding_all rfl):PT X (.Compare a [op,op'] [b,c] pos) (ze9 (zbF r r' ta tb tc)):=by
 intro pins s σ H Q I h
 refine isTrue_chain (thn (ha pins s σ H _ I h) fun v s1 ⟨x,H1,I1,r1,q1⟩=>test_link (thn (hb pins s1 σ H1 _ I1 q1) fun u s2 ⟨y,H2,I2,r2,q2⟩=>
  thn (ho pins s2 σ H2 x y v u _ I2 r1 r2 q2) fun d s3 ⟨z,H3,I3,r3,k,e,q3⟩=>?_)) hm
 subst e
 cases r3
 refine wpAny_truthy_bool ?_
 cases k with
 | false=>
  obtain ⟨k',e',q'⟩:=q3
  cases e'
  exact ite_ff ⟨H3,I3,q'⟩
 | true=>
  refine ite_tt (test_last (thn (hc pins s3 σ H3 _ I3 q3) fun w' s4 ⟨z',H4,I4,r4,q4⟩=>thn (ho' pins s4 σ H4 y z' u w' _ I4 r2 r4 q4) fun d' s5 ⟨z2,H5,I5,r5,k2,e2,q5⟩=>?_))
  subst e2
  cases r5
  exact wpAny_truthy_bool ⟨H5,I5,q5⟩
theorem zX:(sizeLine:Nat) < 2 ^ 63:=by rw [sizeLine_eq];decide
theorem zdc:OpR X (binaryOp .Add) (fun x y H Q=>∃ i j,x = .str i/\y = .str j/\i.length + j.length<=sizeLine/\Q (.str (i ++ j)) H):=by
 intro pins s σ H x y v u Q I rx ry h
 obtain ⟨i,j,rfl,rfl,hz,q⟩:=h
 obtain ⟨t,rfl⟩:=rx
 obtain ⟨t',rfl⟩:=ry
 exact add_str (fun t' tk=>⟨.str (i ++ j),H,I.tok _,⟨_,rfl⟩,q⟩) hz
theorem vals1 {x:V} (r:Vals [x] us):∃ u,us = [u]/\RelV x u:=by
 cases r with
 | cons r1 r2=>cases r2;exact ⟨_,rfl,r1⟩
theorem vals2 {x:V} (r:Vals [x,y] us):∃ u w',us = [u,w']/\RelV x u/\RelV y w':=by
 cases r with
 | cons r1 r2=>
  cases r2 with
  | cons r3 r4=>cases r4;exact ⟨_,_,rfl,r1,r3⟩
theorem ze1:CallR X (.builtin "abs") (fun xs H Q=>∃ i,xs = [.int i]/\Q (.int (if i < 0 then -i else i)) H):=by
 intro pins s σ H xs us Q I r h
 obtain ⟨i,rfl,q⟩:=h
 obtain ⟨u,rfl,t,rfl⟩:=vals1 r
 exact call_abs_int fun u tk=>⟨.int (if i < 0 then -i else i),H,I.tok _,⟨_,rfl⟩,q⟩
theorem zeb (hc:X.calm = true):CallR X (.builtin "max") (fun xs H Q=>∃ i j,xs = [.int i,.int j]/\Q (.int (if j > i then j else i)) H):=by
 intro pins s σ H xs us Q I r h
 obtain ⟨i,j,rfl,q⟩:=h
 obtain ⟨u,w',rfl,⟨t,rfl⟩,⟨t',rfl⟩⟩:=vals2 r
 refine max_two_ints (I.ok.hd hc) fun h' tk k=>⟨_,H,I.kept k,?_,q⟩
 by_cases hj:j > i
 ·rw [if_pos hj,if_pos hj];exact ⟨_,rfl⟩
 ·rw [if_neg hj,if_neg hj];exact ⟨_,rfl⟩
end
structure ObjM (h:Heap) (x dx C:Addr) (mA:Str->Option Value):Prop where
 obj:h.get? x = some (PySem.W.instObj C dx)
 ns:h.Ns1 dx mA
 ne:dx ≠ x
variable {dx:Addr} {mA:Str->Option Value}
theorem zdS (n:h.Ns1 dx mA):∃ od,h.get? dx = some od/\∀ name,PySem.W.lookIn name od = some (mA name):=by
 obtain ⟨o,es,ep,ho,hd,hk,_,hm⟩:=n
 refine ⟨o,ho,fun name=>?_⟩
 have e:=hm name
 unfold nsFind findBy at e
 rw [← Array.find?_toList] at e
 unfold PySem.W.lookIn
 rw [hd]
 dsimp only
 split
 ·rename_i y q
  rw [q] at e
  exact congrArg some e
 ·rename_i q
  rw [q] at e
  have a:es.toList.any (·.refKey) = false:=by
   rw [List.any_eq_false]
   intro y hy
   obtain ⟨z,t,hkey⟩:=hk y (Array.mem_toList_iff.mp hy)
   simp [DictEntry.refKey,hkey]
  have a':¬ es.toList.any (·.refKey) = true:=by rw [a];exact Q4
  rw [if_neg a']
  exact congrArg some e
variable {C:Addr}
theorem ObjM.look {x:Addr} (I:ObjM h x dx C mA):∃ od,PySem.W.InstAt h x (PySem.W.instObj C dx) C (some od)/\∀ name,PySem.W.lookIn name od = some (mA name):=
 let ⟨od,ho,hl⟩:=zdS I.ns
 ⟨od,⟨I.obj,rfl,rfl,ho⟩,hl⟩
noncomputable def zev (f:Str) (v:V):List (Str × V)->List (Str × V)
 | []=>[(f,v)]
 | (g,x) :: r=>if g = f then (g,v) :: r else (g,x) :: zev f v r
structure Cls (K:Frag) (C:Addr):Prop where
 pg:PySem.W.plainGet K C Str.empty = true
 hd:PySem.W.hasDictIn K C = true
 po:PySem.W.plainOver K C = true
 sa:PySem.W.findIn K (.ref C) "__setattr__" = some (some (.builtin "object.__setattr__"))
structure Con (K:Frag) (C:Addr) (f:Str) (v:V) (u:Value):Prop where
 at_:PySem.W.findIn K (.ref C) f = some (some u)
 rel:RelV v u
 get:PySem.W.specialIn K u "__get__" = some none
 cp:PySem.W.copiedNames.contains f = false
structure Meth (K:Frag) (C:Addr) (m:Str) (f:Addr):Prop where
 at_:PySem.W.findIn K (.ref C) m = some (some (.ref f))
 fn:PySem.W.isFn K (.ref f) = true
 kp:PySem.W.keepIn K (.ref f) = true
section
variable {a:Addr} {fs:List (Str × V)} {f:Str}
theorem zgq {prog:Program} {env:Env} (hb:attributeBase e f env (eval e env) = eval e env)
 (h:wpAny (model prog w) A (eval e env) (fun o s₁=>wpAny (model prog w) A (getAttr o f true) Q E s₁) E s):wpAny (model prog w) A (eval (.Attribute e f pos) env) Q E s:=
 Attribute_any_ h (by rw [arm_eval_Attribute,hb])
end
section
variable {c:Value} {b:Bool}
inductive TyOf (K:Frag) (H:Hp):V->Value->Prop where
 | non:TyOf K H .non (.type "NoneType")
 | bl (x:Bool):TyOf K H (.bl x) (.type "bool")
 | int (i:Int):TyOf K H (.int i) (.type "int")
 | str (x:Str):TyOf K H (.str x) (.type "str")
 | flt (x:UInt64):TyOf K H (.flt x) (.type "float")
 | lst {a:Addr} {xs:List V} (e:H a = some (.lst xs)):TyOf K H (.ref a) (.type "list")
 | frz {a:Addr} {o:Obj} {xs:List V} (e:H a = some (.frz o (.lst xs))):TyOf K H (.ref a) (.type "list")
 | tup {a:Addr} {xs:List V} (e:H a = some (.tup xs)):TyOf K H (.ref a) (.type "tuple")
 | dK {a:Addr} {kvs:List (Key × V)} (e:H a = some (.dK kvs)):TyOf K H (.ref a) (.type "dict")
 | dT {a:Addr} {kvs:List (List Key × V)} (e:H a = some (.dT kvs)):TyOf K H (.ref a) (.type "dict")
 | ins {a C dx:Addr} {fs:List (Str × V)} (e:H a = some (.ins C dx fs)) (cl:Cls K C) (ha:PySem.W.findIn K (.ref C) "__class__" = some (some (.builtin "object.__class__")))
   (hn:PySem.W.specialIn K (.builtin "object.__class__") "__get__" = some (some (.builtin "getset_descriptor.__get__"))) (htk:PySem.W.takesIn K (.builtin "object.__class__") = some true)
   (hm:PySem.W.mroIn K C (.type "object") = some true):TyOf K H (.ref a) (.ref C)
end
structure Room (k:Nat) (A:Around):Prop where
 hd:A.handled = none
 dp:A.depth + 3 * k + 5 < recursionLimit
 un:A.units + 16 * k + 200 < cLine
variable {k:Nat}
theorem Room.mono (r:Room k A) (h:j<=k):Room j A:=⟨r.hd,by have:=r.dp;omega,by have:=r.un;omega⟩
theorem Room.deeper (r:Room (k + 1) A) (env:Env):Room k (A.deeper env):=
 ⟨r.hd,by have:=r.dp;show A.depth + 1 + 3 * k + 5 < _;omega,by have:=r.un;show A.units + 3 + 16 * k + 200 < _;omega⟩
theorem Room.in1 (r:Room (k + 1) A):Room k A.in1:=
 ⟨r.hd,by have:=r.dp;show A.depth + 3 * k + 5 < _;omega,by have:=r.un;show A.units + 1 + 16 * k + 200 < _;omega⟩
variable {kw:List (Str × Value)}
theorem zdg:(A.under (.builtin "type.__call__" ⟨.ref C :: us,kw⟩)).depth = A.depth + 1:=by
 first | rfl | simp [Around.under,Code.weight,Code.isCreation,Code.isGuard,Code.isCaller,Code.frames,Code.isFrame,guardIds]
theorem zdf:(A.under (.builtin "type.__call__" ⟨.ref C :: us,kw⟩)).units = A.units + 1:=by
 first | rfl | simp [Around.under,Code.cUnits,Code.frames,Code.isFrame]
theorem Room.make (r:Room (k + 1) A) (C:Addr) (us:List Value) (kw:List (Str × Value)):Room k (A.under (.builtin "type.__call__" ⟨.ref C :: us,kw⟩)):=
 ⟨r.hd,by have:=r.dp;rw [zdg];omega,by have:=r.un;rw [zdf];omega⟩
theorem Room.depth (r:Room k A):A.depth < recursionLimit:=by have:=r.dp;omega
theorem Room.units (r:Room k A):A.units + 64 < cLine:=by have:=r.un;omega
theorem Room.units0 (r:Room k A):A.units < cLine:=by have:=r.un;omega
noncomputable def ziL:TA:=fun _ H Q=>Q [] H
noncomputable def zh0 (ta:TE) (tr:TA):TA:=fun σ H Q=>ta σ H fun x H1=>tr σ H1 fun xs H2=>Q (x :: xs) H2
variable {es:List Expr}
section
variable {t:TA}
theorem zdJ:PA X [] ziL:=fun _ _ _ _ H Q I h=>Calls.spliced_nil ⟨[],H,I,.nil,h⟩
theorem za2 (ha:PE X e te) (hr:PA X es t) (hs:starEach (e :: es) X.env = (false,eval e X.env) :: starEach es X.env:=by rfl):PA X (e :: es) (zh0 te t):=by
 intro pos pins s σ H Q I h
 rw [hs]
 show wpAny _ _ (spliced ((false,eval e X.env) :: backTo pos (starEach es X.env))) _ _ s
 refine Calls.spliced_cons (thn (ha pins s σ H _ I h) fun u s1 ⟨x,H1,I1,r1,q1⟩=>?_)
 exact thn (hr pos pins s1 σ H1 _ I1 q1) fun us s2 ⟨xs,H2,I2,r2,q2⟩=>⟨x :: xs,H2,I2,.cons r1 r2,q2⟩
noncomputable def ziH (t:TA):TE:=fun σ H Q=>t σ H fun xs H1=>xs.length<=sizeLine/\∀ p,H1 p = none->Q (.ref p) (upd H1 p (.tup xs))
noncomputable def ziM (t:TA):TE:=fun σ H Q=>t σ H fun xs H1=>xs.length<=sizeLine/\∀ p,H1 p = none->Q (.ref p) (upd H1 p (.lst xs))
theorem zgV {x1} (h:PA X es t):PE X (.Tuple es x1 pos) (ziH t):=by
 intro pins s σ H Q I hq
 refine wpAny_Tuple_spliced (thn (h pos pins s σ H _ I hq) fun us s1 ⟨xs,H1,I1,r,z,q⟩=>⟨by rw [← r.length];exact z,?_⟩)
 have hf:H1 s1.heap.objs.size = none:=I1.hok.fresh (Q3 _)
 refine ⟨.ref s1.heap.objs.size,upd H1 s1.heap.objs.size (.tup xs),I1.laid (t':=s1.toks) (fun b u e=>Q2 _ e) (Q3 _) ?_,rfl,q _ hf⟩
 exact ⟨z,us,r,⟨_,Qi _ rfl,rfl,_,rfl⟩,NoDict.new⟩
theorem zg0 (h:PA X es t):PE X (.List es pos) (ziM t):=by
 intro pins s σ H Q I hq
 refine wpAny_List_spliced (thn (h pos pins s σ H _ I hq) fun us s1 ⟨xs,H1,I1,r,z,q⟩=>⟨by rw [← r.length];exact z,?_⟩)
 have hf:H1 s1.heap.objs.size = none:=I1.hok.fresh (Q3 _)
 refine ⟨.ref s1.heap.objs.size,upd H1 s1.heap.objs.size (.lst xs),I1.laid (t':=s1.toks) (fun b u e=>Q2 _ e) (Q3 _) ?_,rfl,q _ hf⟩
 exact ⟨z,us,0,r,Qi _ rfl⟩
end
noncomputable abbrev Sp:=List V->Hp->VK->XK->Prop
noncomputable abbrev CXT:=List Env->Hp->Shared->XK->Value->Shared->Prop
structure Env0 (P:Program) (w:World) (K:Frag) (mg:Str->Option Value) (base:Heap) (A:Around) (outer:List Env) (s:Shared) (H:Hp):Prop where
 frames:A.frames = some outer
 mod:Mod K mg base
 bs:∀ b o,base.get? b = some o->s.heap.get? b = some o/\H b = none
 bsz:base.objs.size<=s.heap.objs.size
 funs:s.heap.FunFrames base outer
 frf:∀ b ∈ frs outer,H b = none
 hok:HOk P w H s.heap
 bare:AllBare s.gens
def CE (outer:List Env) (P:Program) (w:World) (H:Hp) (s:Shared) (Q:VK) (u:Value) (s':Shared):Prop:=
 ∃ v H',s'.os = s.os/\AllBare s'.gens/\Un (frs outer) [] H H' s.heap s'.heap/\HOk P w H' s'.heap/\RelV v u/\Q v H'
def CR (CX:CXT) (outer:List Env) (P:Program) (w:World) (H:Hp) (s:Shared) (Q:VK) (E:XK) (r:Result) (s':Shared):Prop:=
 match r with
 | .ok (.ret u)=>CE outer P w H s Q u s'
 | .ok _=>False
 | .error e=>CX outer H s E e s'
structure FnOk (P:Program) (w:World) (K:Frag) (mg:Str->Option Value) (base:Heap) (CX:CXT) (k:Nat) (f:Addr) (fd:FuncData) (ps:List Str) (sp:Sp):Prop where
 len:∀ vs H Q E,sp vs H Q E->vs.length = ps.length
 run:∀ (A:Around) (outer:List Env) (s:Shared) (H:Hp) (args:Args) (us:List Value) (vs:List V) (Q:VK) (E:XK),Room k A->Env0 P w K mg base A outer s H->BindsTo s fd args (ps.zip us)->Vals vs us->sp vs H Q E->
  codeAny (model P w) A (.call (.ref f) args) (CR CX outer P w H s Q E) s
variable {CX:CXT} {fd:FuncData} {base:Heap} {ps:List Str} {sp:Sp} {mg:Str->Option Value}
theorem FnOk.mono {f:Addr} (F:FnOk P w K mg base CX j f fd ps sp) (h:j<=k) :
  FnOk P w K mg base CX k f fd ps sp:=⟨F.len,fun A outer s H args us vs Q E hr=>F.run A outer s H args us vs Q E (hr.mono h)⟩
variable {outer:List Env}
theorem Env0.make (e:Env0 P w K mg base A outer s H) (C:Addr) (us:List Value) (kw:List (Str × Value)) :
  Env0 P w K mg base (A.under (.builtin "type.__call__" ⟨.ref C :: us,kw⟩)) outer s H:=⟨by first | exact e.frames | (simpa [Around.under,Code.envs,Code.isFrame,pushEnvs] using e.frames),e.mod,e.bs,e.bsz,e.funs,e.frf,e.hok,e.bare⟩
section
theorem Inv.env0 (I:Inv X pins σ H s):Env0 X.prog X.w X.K X.mg X.base X.A X.stack s H:=
 ⟨I.ok.frames,I.ok.mod,I.bs,Qg I.ok.bsz I.sz,I.stack,I.stkFree,I.hok,I.bare⟩
theorem Inv.after {Q:VK} (I:Inv X pins σ H s) (h:CE X.stack X.prog X.w H s Q u s'):EP X pins σ Q u s':=by
 obtain ⟨v,H',os,bare,un,hok,r,q⟩:=h
 obtain ⟨hh,g,d,t,os'⟩:=s'
 obtain rfl:os' = s.os:=os
 exact ⟨v,H',I.call (h':=hh) (g':=g) (d':=d) (t':=t) (ch:=[]) un hok bare (fun b z=>absurd z (by simp)),r,q⟩
end
noncomputable def zfb (sp:Sp) (dvs:List V) (E:XK) (t:TA):TE:=fun σ H Q=>t σ H fun vs H1=>sp (vs ++ dvs) H1 Q E
def Binds (K:Frag) (fd:FuncData) (ps:List Str) (ds:List Value):Prop:=
 ∀ (s:Shared) (us:List Value),K.In s.heap->(us ++ ds).length = ps.length->BindsTo s fd ⟨us,[]⟩ (ps.zip (us ++ ds))
theorem Binds.all (h:∀ us:List Value,us.length = ps.length->bindArgs fd ⟨us,[]⟩ = pure (ps.zip us)):Binds K fd ps []:=fun s us _ hl=>by
 rw [append_nil] at hl ⊢
 exact .of_eq (h us hl)
def Passes (CX:CXT) (X:Cx) (E:XK):Prop:=∀ (pins:List (Addr × Obj)) (σ:St) (H:Hp) (s:Shared) (e:Value) (s':Shared),Inv X pins σ H s->CX X.stack H s E e s'->X.xe e s'
variable {vs:List V} {apos:Pos} {m:Str}
section
variable {f:Addr} {dvs:List V} {ds:List Value} {E:XK} {o:Expr} {t:TA}
theorem zgC {Q:VK} (F:FnOk X.prog X.w X.K X.mg X.base CX k f fd ps sp) (hr:Room k X.A) (hb:Binds X.K fd ps ds) (hd:Vals dvs ds) (hx:Passes CX X E)
 (I:Inv X pins σ H s) (r:Vals vs us) (h:sp (vs ++ dvs) H Q E):wpAny (model X.prog X.w) X.A (call (.ref f) us) (EP X pins σ Q) X.xe s:=by
 have r2:Vals (vs ++ dvs) (us ++ ds):=r.append hd
 have hl:(us ++ ds).length = ps.length:=by rw [← r2.length];exact F.len _ _ _ _ h
 refine wpAny_call (codeAny_mono (F.run X.A X.stack s H ⟨us,[]⟩ (us ++ ds) (vs ++ dvs) Q E hr I.env0 (hb s us I.kIn hl) r2 h) fun r s' hq=>?_)
 cases r with
 | error e=>exact hx pins σ H s e s' I hq
 | ok fl=>
  cases fl with
  | ret u=>exact I.after hq
  | next=>exact False.elim hq
  | brk=>exact False.elim hq
  | cont=>exact False.elim hq
theorem zfH (F:FnOk X.prog X.w X.K X.mg X.base CX k f fd ps sp) (hr:Room k X.A) (hg:Gl X x) (hm:X.mg x = some (.ref f)) (hk:PySem.W.keepIn X.K (.ref f) = true) (hb:Binds X.K fd ps ds) (hd:Vals dvs ds) (hx:Passes CX X E)
  (ha:PA X (e :: es) t) (hdb:(x == ("__debug__":Str)) = false:=by decide) (he:starEach (e :: es) X.env = (false,eval e X.env) :: starEach es X.env:=by rfl) (hpl:(backTo pos (starEach es X.env)).any (·.1) = false:=by rfl) :
  PE X (.Call (.Name x p) (e :: es) [] pos) (zfb sp dvs E t):=by
 intro pins s σ H Q I h
 refine wpAny_Call_Name_kw (zal I hg hm ?_ hdb)
 refine PySem.W.callWith_K (h₀:=X.base) I.ok.mod.kin hk (thn (ha pos pins s σ H _ I h) fun us s1 ⟨vs,H1,I1,r,q⟩=>⟨I1.kIn,?_⟩) he hpl
 exact zgC F hr hb hd hx I1 r q
structure Mk (K:Frag) (C f:Addr):Prop where
 makes:PySem.W.makesIn K C = true
 init:PySem.W.findIn K (.ref C) "__init__" = some (some (.ref f))
 fn:PySem.W.isFn K (.ref f) = true
 kp:PySem.W.keepIn K (.ref C) = true
end
section
variable {f:Addr} {ks:List Str} {E:XK} {kpos:Pos} {o:Expr} {kws:List Keyword} {t tk:TA} {nm:Option Str}
structure KBinds (K:Frag) (fd:FuncData) (ps ks:List Str) (g:List Value->List Value->List Value) (gV:List V->List V->List V):Prop where
 to:∀ (s:Shared) (us ws:List Value),K.In s.heap->(g us ws).length = ps.length->BindsTo s fd ⟨us,ks.zip ws⟩ (ps.zip (g us ws))
 rel:∀ {vs:List V} {us:List Value} {zs:List V} {ws:List Value},Vals vs us->Vals zs ws->Vals (gV vs zs) (g us ws)
end
structure FnScope (N P:List Str) (sc:Scope):Prop where
 kind:sc.kind = .function
 co:sc.isCoroutine = false
 gen:sc.isGenerator = false
 nd:N.Nodup
 pre:N.take P.length = P
 par:∀ x ∈ P,sc.names.lookup x = some .local\/sc.names.lookup x = some .cell
 nofree:∀ y ∈ sc.names,y.2 ≠ .free
theorem zbm {kindOf:Str->Option NameKind} {x:Str}:∀ {binds:List (Str × Value)} {m:Str->Option Value},(∀ v,(x,v) ∉ binds)->bindL kindOf binds m x = m x
 | [],_,_=>rfl
 | (n,v) :: r,m,h=>by
  unfold bindL
  rw [zbm fun w hw=>h w (mem_cons_of_mem _ hw)]
  split
  ·have:x ≠ n:=by rintro rfl;exact h v mem_cons_self
   simp [this]
  ·rfl
theorem zbo {kindOf:Str->Option NameKind} {x:Str}:∀ {binds:List (Str × Value)} {m:Str->Option Value},(∀ v,(x,v) ∉ binds)->bindC kindOf binds m x = m x
 | [],_,_=>rfl
 | (n,v) :: r,m,h=>by
  unfold bindC
  rw [zbo fun w hw=>h w (mem_cons_of_mem _ hw)]
  split
  ·rfl
  ·have:x ≠ n:=by rintro rfl;exact h v mem_cons_self
   simp [this]
theorem zbn {kindOf:Str->Option NameKind} {x:Str} {v:Value}:∀ {P:List Str} {vs:List Value} {i:Nat} {m:Str->Option Value},P.Nodup->P[i]? = some x->vs[i]? = some v->kindOf x = some .local->
  bindL kindOf (P.zip vs) m x = some v
 | [],_,_,_,_,h,_,_=>by simp at h
 | _ :: _,[],_,_,_,_,h,_=>by simp at h
 | p :: P,w :: vs,0,m,nd,h1,h2,hk=>by
  simp at h1 h2;subst h1;subst h2
  show bindL kindOf ((p,w) :: P.zip vs) m p = _
  unfold bindL
  rw [zbm fun v hv=>(nodup_cons.mp nd).1 (of_mem_zip hv).1,if_pos hk]
  simp
 | p :: P,w :: vs,i + 1,m,nd,h1,h2,hk=>by
  show bindL kindOf ((p,w) :: P.zip vs) m x = _
  unfold bindL
  exact zbn (i:=i) (nodup_cons.mp nd).2 (by simpa using h1) (by simpa using h2) hk
theorem zbp {kindOf:Str->Option NameKind} {x:Str} {v:Value}:∀ {P:List Str} {vs:List Value} {i:Nat} {m:Str->Option Value},P.Nodup->P[i]? = some x->vs[i]? = some v->kindOf x ≠ some .local->
  bindC kindOf (P.zip vs) m x = some v
 | [],_,_,_,_,h,_,_=>by simp at h
 | _ :: _,[],_,_,_,_,h,_=>by simp at h
 | p :: P,w :: vs,0,m,nd,h1,h2,hk=>by
  simp at h1 h2;subst h1;subst h2
  show bindC kindOf ((p,w) :: P.zip vs) m p = _
  unfold bindC
  rw [zbo fun v hv=>(nodup_cons.mp nd).1 (of_mem_zip hv).1,if_neg hk]
  simp
 | p :: P,w :: vs,i + 1,m,nd,h1,h2,hk=>by
  show bindC kindOf ((p,w) :: P.zip vs) m x = _
  unfold bindC
  exact zbp (i:=i) (nodup_cons.mp nd).2 (by simpa using h1) (by simpa using h2) hk
noncomputable def start (N:List Str) (vs:List V):St:=vs.map some ++ List.replicate (N.length - vs.length) none
noncomputable def qQ (CX:CXT) (P:Program) (w:World) (K:Frag) (mg:Str->Option Value) (base:Heap) (N:List Str) (qual:Str) (scope:Scope) (f:Addr) (cd:Value) (A:Around) (outer:List Env) (s:Shared) (H:Hp) (E:XK):Cx where
 prog:=P
 w:=w
 K:=K
 mg:=mg
 base:=base
 A:=A.deeper (envOfC qual scope s.heap.objs.size f cd)
 N:=N
 s₀:=s
 H₀:=H
 env:=envOfC qual scope s.heap.objs.size f cd
 outer:=outer
 stack:=envOfC qual scope s.heap.objs.size f cd :: outer
 ex:=[]
 calm:=true
 fn:=fun _=>true
 pn:=[]
 xe:=fun e s'=>wpAny (model P w) (A.deeper (envOfC qual scope s.heap.objs.size f cd)) (leaving (envOfC qual scope s.heap.objs.size f cd) e) (fun _ s''=>CX outer H s E e s'') (fun e' s''=>CX outer H s E e' s'') s'
theorem zch {sc:Scope} (h:sc.names.lookup x = some .cell):∃ c,(cellsFrom n sc.names []).lookup x = some c:=by
 have q:=PySem.W.cellsFrom_some sc.names n [] (.inl h)
 exact Option.isSome_iff_exists.mp q
variable {scope:Scope} {qual:Str}
theorem zdW {f:Addr} {cd:Value} {s1:Shared} {E:XK} 
 (S:FnScope N ps scope) (hd:A.handled = none) (e0:Env0 P w K mg base A outer s H) (hl:vs.length = ps.length) (r:Vals vs us)
 (x:InCallC s s.heap.objs.size (bindL (envOfC qual scope s.heap.objs.size f cd).kindOf (ps.zip us) fun _=>none) (cellsFrom (s.heap.objs.size + 1) scope.names []) (bindC (envOfC qual scope s.heap.objs.size f cd).kindOf (ps.zip us) fun _=>none) s1) :
  Inv (qQ CX P w K mg base N qual scope f cd A outer s H E) [] (start N vs) H s1:=by
 have hpl:ps.length<=N.length:=by have:=congrArg List.length S.pre;rw [length_take] at this;omega
 obtain ⟨h1,tk,rfl,hk⟩:=x.done
 have noA:∀ b:Addr,b ∉ (qQ CX P w K mg base N qual scope f cd A outer s H E).ex:=fun b z=>absurd (show b ∈ ([]:List Addr) from z) (by simp)
 refine ⟨⟨e0.mod,S.kind,rfl,rfl,Q3 _,fun y z c h1 h2=>?_,fun y hy=>?_,fun y c _ h=>?_,fun _=>hd,Around.frames_deeper e0.frames,.inr ⟨rfl,rfl⟩,fun b z=>absurd z (noA b),e0.bs,e0.bsz,fun b _ _=>noA b,fun b z=>absurd z (noA b),e0.funs,e0.frf⟩,
  rfl,e0.bare,Un.kept hk,⟨_,x.toInCall.ns,fun i y v h1 h2 h3=>?_⟩,fun y c h=>⟨_,x.cell y c h⟩,e0.hok.fresh (Q3 _),fun y c h=>?_,fun p hp=>absurd (show p ∈ ([]:List (Addr × Obj)) from hp) (by simp),e0.hok.kept hk,?_⟩
 ·exact name_of_addr x.apart (PySem.mem_of_lookup h1) (PySem.mem_of_lookup h2)
 ·have hy:scope.names.lookup y = some .cell\/scope.names.lookup y = some .free:=hy
  rcases hy with hy | hy
  ·exact zch hy
  ·exact absurd rfl (S.nofree _ (PySem.mem_of_lookup hy))
 ·exact Nat.le_of_lt (x.above y c (PySem.mem_of_lookup h))
 ·have hi:i < vs.length:=by
   unfold start at h2
   by_cases hi:i < vs.length
   ·exact hi
   ·rw [Q7 (by simpa using hi)] at h2
    rw [List.getElem?_replicate] at h2
    split at h2 <;> cases h2
  have ha:vs[i]? = some v:=by
   unfold start at h2
   rw [Q6 (by simpa using hi),Qa] at h2
   cases e:vs[i]? with
   | none=>rw [e] at h2;cases h2
   | some a=>rw [e] at h2;cases h2;rfl
  obtain ⟨u,hu,rv⟩:=r.get ha
  have hp:ps[i]? = some y:=by
   rw [← S.pre,List.getElem?_take_of_lt (by omega)];exact h1
  have ndP:ps.Nodup:=by rw [← S.pre];exact S.nd.sublist (List.take_sublist _ _)
  refine ⟨u,rv,?_⟩
  rcases S.par y (Q9 hp) with k | k
  ·exact .inl ⟨k,zbn ndP hp hu k⟩
  ·obtain ⟨c,e⟩:=zch (n:=s.heap.objs.size + 1) k
   refine .inr ⟨.inl k,c,e,?_⟩
   have q:=x.cell y c e
   rw [zbp ndP hp hu (by show scope.names.lookup y ≠ _;rw [k];decide)] at q
   exact q
 ·exact e0.hok.fresh (Nat.le_of_lt (x.above y c (PySem.mem_of_lookup h)))
 ·unfold start
  show _ = N.length
  rw [Qk,length_map,List.length_replicate]
  omega
theorem zix {f:Addr} {name:Str} {params:Arguments} {dV kV doc pm cdv ct oc:Value} {an od:Option Addr}
 {osl:Array (Option Value)} (lk:K.lookup f = some ⟨oc,od,.func (PySem.W.fnOf name qual params body scope dV kV doc pm an cdv ct),osl⟩) (hcd:PySem.W.codeIn K cdv qual = true) (S:FnScope N ps scope)
 (len:∀ vs H Q E,sp vs H Q E->vs.length = ps.length)
 (hbody:∀ (A:Around) (outer:List Env) (s:Shared) (H:Hp) (vs:List V) (Q:VK) (E:XK),Room k (A.deeper (envOfC qual scope s.heap.objs.size f cdv))->sp vs H Q E->
 ∃ t,PSs (qQ CX P w K mg base N qual scope f cdv A outer s H E) body t/\t { nx:=fun _ H'=>Q .non H',rt:=Q } (start N vs) H) :
  FnOk P w K mg base CX (k + 1) f (PySem.W.fnOf name qual params body scope dV kV doc pm an cdv ct) ps sp:=by
 refine ⟨len,fun A outer s H args us vs Q E hr e0 hb r hsp=>?_⟩
 have hl:=len _ _ _ _ hsp
 have KX:K.In s.heap:=e0.mod.kin.keeps fun b o e=>(e0.bs b o e).1
 have lim:s.heap.NoLimit:=e0.mod.nolimit.keeps fun b o e=>(e0.bs b o e).1
 have hkind:∀ y ∈ ps.zip us,scope.names.lookup y.1 = some .local\/(scope.names.lookup y.1 = some .cell/\((cellsFrom (s.heap.objs.size + 1) scope.names []).lookup y.1).isSome = true):=fun ⟨n,v⟩ hy=>by
  rcases S.par n (of_mem_zip hy).1 with q | q
  ·exact .inl q
  ·exact .inr ⟨q,PySem.W.cellsFrom_some _ _ _ (.inl q)⟩
 refine codeAny_call_function hr.depth (KX _ _ lk) rfl S.co S.gen rfl (PySem.W.codeRec_of KX hcd) (hb _ _ _ _ ?_)
 refine wpAny_newFunctionEnv_cells S.kind hkind fun env he s1 x=>?_
 subst he
 refine ⟨lim.keeps x.toInCall.keep,codeAny_func ?_⟩
 obtain ⟨t,ht,hq⟩:=hbody A outer s H vs Q E (hr.deeper _) hsp
 have I:Inv (qQ CX P w K mg base N qual scope f cdv A outer s H E) [] (start N vs) H s1:=zdW S hr.hd e0 hl r x
 refine Qe (ht [] s1 (start N vs) H _ I hq) (fun fl s' hs=>?_) fun e s' hs=>hs
 have fin:∀ {σ':St} {H':Hp} {v:V} {u:Value},Inv (qQ CX P w K mg base N qual scope f cdv A outer s H E) [] σ' H' s'->RelV v u->Q v H'->CE outer P w H s Q u s':=
  fun {σ' H' v u} J rv q=>⟨v,H',J.os,J.bare,J.base,J.hok,rv,q⟩
 cases fl with
 | ret u=>
  obtain ⟨v,σ',H',J,rv,q⟩:=hs
  exact fin J rv q
 | next=>
  obtain ⟨σ',H',J,q⟩:=hs
  exact fin (v:=V.non) (u:=Value.none) J rfl q
 | brk=>
  obtain ⟨_,_,_,q⟩:=hs
  exact False.elim q
 | cont=>
  obtain ⟨_,_,_,q⟩:=hs
  exact False.elim q
section
variable {t:TA} {id T:String} {r:List V->Hp->VK->Prop}
noncomputable def tCB (r:List V->Hp->VK->Prop) (t:TA):TE:=fun σ H Q=>t σ H fun vs H1=>r vs H1 Q
theorem zbU (hc:CallR X (.builtin id) r) (hg:Gl X x) (hm:X.mg x = none) (hv:bootBuiltins x = some (.builtin id)) (ha:PA X (e :: es) t) (hn:x ≠ "__name__":=by decide) (hdb:(x == ("__debug__":Str)) = false:=by decide)
  (he:starEach (e :: es) X.env = (false,eval e X.env) :: starEach es X.env:=by rfl) (hpl:(backTo pos (starEach es X.env)).any (·.1) = false:=by rfl):PE X (.Call (.Name x p) (e :: es) [] pos) (tCB r t):=by
 intro pins s σ H Q I h
 refine wpAny_Call_Name_kw (zb4 I hg hm hv ?_ hn hdb)
 exact PyProof.Rows.callWith_builtin1 (thn (ha pos pins s σ H _ I h) fun us s1 ⟨vs,H1,I1,r1,q1⟩=>hc pins s1 σ H1 vs us Q I1 r1 q1) he hpl
end
end L2
namespace HT
open PySem PyProof.Rows
variable {sl t:Addr} {vl vu:Value} {Q:Value->Shared->Prop}
section
variable {prog:Program} {w:World} {A:Around} {E:Value->Shared->Prop} {s:Shared}
theorem zgn {b:Addr} {vs ws:List Value} (ht:IsTup s.heap t vs.toArray) (hb:IsTup s.heap b ws.toArray) (hv:vs ≠ [])
 (h1:ws = []->Q (.ref t) s) (h2:ws ≠ []->Q (.ref s.heap.objs.size) { s with heap:=s.heap.push { cls:=.type "tuple",data:=.seq (vs ++ ws).toArray } })
 (hsz:vs.length + ws.length<=sizeLine):wpAny (model prog w) A (binaryOp .Add (.ref t) (.ref b)) Q E s:=by
 obtain ⟨⟨cls,dd,data,sl⟩,ho,hc,n,hd⟩:=id ht
 obtain ⟨⟨cls2,dd2,data2,sl2⟩,ho2,hc2,n2,hd2⟩:=id hb
 simp only at hc hd hc2 hd2
 subst hc hd hc2 hd2
 have e:vs.toArray ++ ws.toArray = (vs ++ ws).toArray:=by simp
 by_cases hw:ws = []
 ·exact concat_meets ⟨_,ho,rfl⟩ ⟨_,ho2,rfl⟩ noFill_tuple_add seq_tuple_add PySem.F.slot_tuple_add PySem.F.entry_tuple_add (PySem.F.args_tuple_add_2 _ _)
   (tuple_addW1 t b vs.toArray ws.toArray n n2 dd dd2 sl sl2 (by simpa using hv) (by simp [hw])) ⟨ho,ho2,h1 hw⟩
 ·refine concat_meets ⟨_,ho,rfl⟩ ⟨_,ho2,rfl⟩ noFill_tuple_add seq_tuple_add PySem.F.slot_tuple_add PySem.F.entry_tuple_add (PySem.F.args_tuple_add_2 _ _)
   (tuple_addW2 t b vs.toArray ws.toArray n n2 dd dd2 sl sl2 (by simpa using hv) (by simpa using hw) (by rw [Qf,Qf];exact hsz)) ⟨ho,ho2,?_⟩
  rw [e]
  exact h2 hw
noncomputable def sIx (n d:Nat):Option Int->Nat
 | none=>d
 | some v=>if v < 0 then (v + (n:Int)).toNat else min v.toNat n
theorem zgB (n d:Nat) (hd:d<=n) (o:Option Int):sIx n d o<=n:=by
 cases o with
 | none=>exact hd
 | some v=>
  show (if v < 0 then (v + (n:Int)).toNat else min v.toNat n)<=n
  by_cases hv:v < 0
  ·rw [if_pos hv];omega
  ·rw [if_neg hv];exact Nat.min_le_right _ _
theorem zcS (v:Int) (n d:Nat):(if v < 0 then max (v + (n:Int)) 0 else min v (n:Int)) = ((sIx n d (some v):Nat):Int):=by
 show (if v < 0 then max (v + (n:Int)) 0 else min v (n:Int)) = (((if v < 0 then (v + (n:Int)).toNat else min v.toNat n):Nat):Int)
 by_cases hv:v < 0
 ·simp only [if_pos hv];omega
 ·simp only [if_neg hv];omega
theorem zds (lo hi:Option Int) (n:Nat):Builtin.Slice.sliceAdjust lo hi 1 (n:Int) = (((sIx n 0 lo:Nat):Int),((sIx n n hi:Nat):Int)):=by
 have h1:¬ ((1:Int) < 0):=by omega
 unfold Builtin.Slice.sliceAdjust
 simp only [h1,if_false]
 refine Prod.ext ?_ ?_
 ·cases lo with
  | none=>rfl
  | some v=>exact zcS v n 0
 ·cases hi with
  | none=>rfl
  | some v=>exact zcS v n n
theorem zda (i j:Nat):Builtin.Slice.slicePlaces (i:Int) (j:Int) 1 = j - i:=by
 unfold Builtin.Slice.slicePlaces
 have h1:(1:Int) > 0:=by omega
 simp only [h1,if_true,Int.ediv_one]
 split <;> omega
theorem zaE {v:Value} {o:Option Int} {Q:Option Int->Shared->Prop} (p:IsPart v o) (h:Q o s):wpAny (model prog w) A (Builtin.Slice.slicePartIndex v) Q E s:=by
 cases p with
 | none=>exact slicePart_none h
 | int i t=>exact slicePart_int h
theorem zO {lo hi:Option Int} {n:Nat} {Q:Int × Int × Nat->Shared->Prop} (hs:s.heap.IsSliceOf sl vl vu .none) (pl:IsPart vl lo) (pu:IsPart vu hi)
 (h:Q (((sIx n 0 lo:Nat):Int),1,sIx n n hi - sIx n 0 lo) s):wpAny (model prog w) A (Builtin.Slice.sliceApplied (.ref sl) (pure (n:Int))) Q E s:=by
 obtain ⟨os,hos,hcs,hds⟩:=id hs
 unfold Builtin.Slice.sliceApplied Builtin.Slice.sliceFields
 refine Q1 (Q1 (wpAny_field hos hds (x:=vl) rfl (Q1 (wpAny_field hos hds (x:=vu) rfl (Q1 (wpAny_field hos hds (x:=.none) rfl (Qd ?_)))))))
 refine Q1 (slicePart_none ?_)
 show wpAny _ _ (if ((1:Int) == 0) = true then _ else _) _ _ s
 rw [if_neg (by decide)]
 refine Q1 (zaE pl (Q1 (zaE pu (Q1 (Qd ?_)))))
 show wpAny _ _ (match Builtin.Slice.sliceAdjust lo hi 1 (n:Int) with | (lo,hi)=>pure (lo,(1:Int),Builtin.Slice.slicePlaces lo hi 1)) _ _ s
 rw [zds lo hi n]
 show wpAny _ _ (pure (((sIx n 0 lo:Nat):Int),(1:Int),Builtin.Slice.slicePlaces ((sIx n 0 lo:Nat):Int) ((sIx n n hi:Nat):Int) 1)) _ _ s
 rw [zda]
 exact Qd h
theorem zey (xs:Array Value) (i k:Nat):((List.range k).filterMap fun (m:Nat)=>xs[((i:Int) + (m:Int) * 1).toNat]?).toArray = ((xs.toList.drop i).take k).toArray:=by
 have e:(fun (m:Nat)=>xs[((i:Int) + (m:Int) * 1).toNat]?) = fun m=>xs[i + m]?:=by
  funext m
  have:((i:Int) + (m:Int) * 1).toNat = i + m:=by omega
  rw [this]
 rw [e]
 have:=pick_run xs i k
 rw [List.filterMap_map] at this
 have e2:((fun x=>xs[x]?) ∘ fun x=>i + x) = fun m=>xs[i + m]?:=rfl
 rw [e2] at this
 rw [this]
theorem zaq {items:Array Value} {lo hi:Option Int} (ht:IsTup s.heap t items) (hs:s.heap.IsSliceOf sl vl vu .none) (pl:IsPart vl lo) (pu:IsPart vu hi)
 (hw:¬ (sIx items.size 0 lo = 0/\sIx items.size items.size hi = items.size))
 (h:Q (.ref s.heap.objs.size) { s with heap:=s.heap.push { cls:=.type "tuple",data:=.seq ((items.toList.drop (sIx items.size 0 lo)).take (sIx items.size items.size hi - sIx items.size 0 lo)).toArray } })
 (hsz:items.size<=sizeLine):wpAny (model prog w) A (getItem (.ref t) (.ref sl)) Q E s:=by
 have htake:sizeOk (.seq ((items.toList.drop (sIx items.size 0 lo)).take (sIx items.size items.size hi - sIx items.size 0 lo)).toArray):=by
  show ((items.toList.drop (sIx items.size 0 lo)).take (sIx items.size items.size hi - sIx items.size 0 lo)).toArray.size<=sizeLine
  rw [Qf,length_take,List.length_drop,Array.length_toList]
  omega
 have hj:sIx items.size items.size hi<=items.size:=zgB _ _ (Q3 _) hi
 obtain ⟨os,hos,hcs,hds⟩:=id hs
 have hTs:s.TypeIs (.ref sl) "slice":=⟨os,hos,hcs⟩
 unfold getItem
 try with_reducible refine wpAny_holding ?_
 first | refine Q1 (Qd ?_) | skip
 refine Q1 (wpAny_sequenceKey ht.typeIs (by decide) ?_)
 refine Q1 (wpAny_callSpecial?_slot (name:=Str.ofString "__getitem__") ht.typeIs PyProof.Rows.slot_tuple_getitem
  (wpAny_call_entry PyProof.Rows.slot_tuple_getitem ht.typeIs entry_tuple_getitem ?_ (args_tuple_getitem _ _)))
 show wpAny _ _ (Builtin.Tuple.tupleItemsOf (.ref t) >>= _) _ _ s
 refine Q1 (tupleItemsOf_ ht ?_)
 refine Q1 (wpAny_typeOf hTs ?_)
 rw [if_pos (by decide)]
 refine Q1 (zO hs pl pu ?_)
 have hno:¬ ((((sIx items.size 0 lo:Nat):Int) == 0 && (1:Int) == 1 && (sIx items.size items.size hi - sIx items.size 0 lo) == items.size) = true):=by
  intro q
  rw [Qn,Qn] at q
  have q1:((sIx items.size 0 lo:Nat):Int) = 0:=eq_of_beq q.1.1
  have q2:sIx items.size items.size hi - sIx items.size 0 lo = items.size:=eq_of_beq q.2
  exact hw ⟨by omega,by omega⟩
 show wpAny _ _ (if (((sIx items.size 0 lo:Nat):Int) == 0 && (1:Int) == 1 && (sIx items.size items.size hi - sIx items.size 0 lo) == items.size) = true then _ else _) _ _ s
 rw [if_neg hno,zey]
 first
  | exact Q1 (m:=Builtin.Tuple.tupleExact _) (wpAny_newObj_type (Qd ⟨_,rfl,Qd h⟩) htake)
  | exact Q1 (m:=Builtin.Tuple.tupleExact _) (wpAny_newObj_type (Q1 (Qd (Qd ⟨_,rfl,Qd h⟩))) htake)
  | exact Q1 (Q1 (m:=Builtin.Tuple.tupleExact _) (wpAny_newObj_type (Qd (Qd ⟨_,rfl,Qd h⟩)) htake))
  | exact Q1 (Q1 (m:=Builtin.Tuple.tupleExact _) (wpAny_newObj_type (Qd ⟨_,rfl,Qd h⟩) htake))
end
end HT
namespace L2
open PySem PySem.Spec PyProof.Rows
noncomputable abbrev TO:=St->Hp->(Option Int->Hp->Prop)->Prop
def PO (X:Cx) (e:Option Expr) (t:TO):Prop:=
 ∀ (pins:List (Addr × Obj)) (s:Shared) (σ:St) (H:Hp) (Q:Option Int->Hp->Prop),Inv X pins σ H s->t σ H Q->
  wpAny (model X.prog X.w) X.A (evalPart e X.env) (fun u s'=>∃ o H',Inv X pins σ H' s'/\IsPart u o/\Q o H') X.xe s
noncomputable def zfp:TO:=fun _ H Q=>Q none H
noncomputable def zhX (t:TE):TO:=fun σ H Q=>t σ H fun x H1=>∃ i,x = .int i/\Q (some i) H1
variable {X:Cx} {e:Expr} {xs:List V} {pos:Pos}
section
variable {te:TE} {lo hi:Option Expr} {tl th:TO} {p2:Pos}
theorem zfB:PO X none zfp:=by
 intro pins s σ H Q I h
 rw [evalPart_none]
 exact Qd ⟨none,H,I,.none,h⟩
theorem zfA (h:PE X e te):PO X (some e) (zhX te):=by
 intro pins s σ H Q I hw
 rw [evalPart_some]
 refine thn (h pins s σ H _ I hw) fun u s1 ⟨x,H1,I1,r1,q1⟩=>?_
 obtain ⟨i,rfl,q⟩:=q1
 obtain ⟨t,rfl⟩:=r1
 exact ⟨some i,H1,I1,.int i t,q⟩
def SlR (X:Cx) (r:V->Option Int->Option Int->Hp->VK->Prop):Prop:=
 ∀ (pins:List (Addr × Obj)) (s:Shared) (σ:St) (H:Hp) (x:V) (v vl vu:Value) (lo hi:Option Int) (sl:Addr) (Q:VK),Inv X pins σ H s->RelV x v->s.heap.IsSliceOf sl vl vu .none->IsPart vl lo->IsPart vu hi->r x lo hi H Q->
  ∃ T id,typeLookup (.type T) "__getitem__" = pure (some (.builtin id))/\s.TypeIs v T/\wpAny (model X.prog X.w) X.A (getItem v (.ref sl)) (EP X pins σ Q) X.xe s
noncomputable def tSl (r:V->Option Int->Option Int->Hp->VK->Prop) (te:TE) (tl th:TO):TE:=fun σ H Q=>te σ H fun x H1=>tl σ H1 fun l H2=>th σ H2 fun u H3=>r x l u H3 Q
theorem zez {r:V->Option Int->Option Int->Hp->VK->Prop} (hr:SlR X r) (he:PE X e te) (hl:PO X lo tl) (hu:PO X hi th):PE X (.Subscript e (.Slice lo hi none p2) pos) (tSl r te tl th):=by
 intro pins s σ H Q I h
 refine Subscript_ (thn (he pins s σ H _ I h) fun v s1 ⟨x,H1,I1,r1,q1⟩=>?_)
 refine wpAny_Slice (thn (hl pins s1 σ H1 _ I1 q1) fun vl s2 ⟨l,H2,I2,pl,q2⟩=>thn (hu pins s2 σ H2 _ I2 q2) fun vu s3 ⟨u,H3,I3,pu,q3⟩=>?_)
 rw [evalPart_none]
 refine Qd ?_
 have I4:Inv X pins σ H3 { s3 with heap:=s3.heap.push { cls:=.type "slice",data:=.fields #[vl,vu,.none] } }:=I3.kept (t':=s3.toks) fun b ob q=>Q2 _ q
 obtain ⟨T,id,hT,ht,hg⟩:=hr pins { s3 with heap:=s3.heap.push { cls:=.type "slice",data:=.fields #[vl,vu,.none] } } σ H3 x v vl vu l u s3.heap.objs.size Q I4 r1 (Heap.IsSliceOf.new ..) pl pu q3
 show wpAny (model X.prog X.w) X.A (subscriptTail e (.Slice lo hi none p2) v (.ref s3.heap.objs.size)) (EP X pins σ Q) X.xe { s3 with heap:=s3.heap.push { cls:=.type "slice",data:=.fields #[vl,vu,.none] } }
 exact tail_any (ops:=[.ref s3.heap.objs.size,v]) ht hT hg (by with_unfolding_all rfl)
noncomputable def cutV (xs:List V) (lo hi:Option Int):List V:=(xs.drop (HT.sIx xs.length 0 lo)).take (HT.sIx xs.length xs.length hi - HT.sIx xs.length 0 lo)
theorem zas (xs:List V) (lo hi:Option Int):(cutV xs lo hi).length<=xs.length:=by
 unfold cutV
 rw [length_take,List.length_drop]
 omega
noncomputable def ziT (K:Frag):V->Option Int->Option Int->Hp->VK->Prop:=fun x lo hi H Q=>∃ a xs,x = .ref a/\SqT K H a xs /\
 ¬ (HT.sIx xs.length 0 lo = 0/\HT.sIx xs.length xs.length hi = xs.length)/\∀ p,H p = none->Q (.ref p) (upd H p (.tup (cutV xs lo hi)))
theorem zgy:SlR X (ziT X.K):=by
 intro pins s σ H x v vl vu lo hi sl Q I rx hs pl pu h
 obtain ⟨a,xs,rfl,hx,hw,q⟩:=h
 cases rx
 obtain ⟨its,r,ht,hz⟩:=I.tuple hx
 have hlen:its.toArray.size = xs.length:=by rw [Qf];exact r.length.symm
 refine ⟨"tuple",_,PyProof.Rows.slot_tuple_getitem.lookup,ht.typeIs,?_⟩
 refine HT.zaq ht hs pl pu (by rw [hlen];exact hw) ?_ (by rw [hlen];exact hz)
 rw [hlen]
 refine ⟨.ref s.heap.objs.size,_,I.laid (t':=s.toks) (o:=.tup (cutV xs lo hi)) (fun b ob q=>Q2 _ q) (Q3 _) ?_,rfl,q _ (I.hok.fresh (Q3 _))⟩
 exact ⟨Qg (zas xs lo hi) hz,_,(r.drop (HT.sIx xs.length 0 lo)).take (HT.sIx xs.length xs.length hi - HT.sIx xs.length 0 lo),IsTup.new _ _,NoDict.new⟩
noncomputable def zh4 (K:Frag):R2:=fun x y H Q=>∃ a b xs ys,x = .ref a/\y = .ref b/\SqT K H a xs/\SqT K H b ys/\xs ≠ []/\xs.length + ys.length<=sizeLine /\
 (ys = []->Q (.ref a) H)/\(ys ≠ []->∀ p,H p = none->Q (.ref p) (upd H p (.tup (xs ++ ys))))
theorem Vals.nil_iff {us:List Value} (r:Vals xs us):us = [] ↔ xs = []:=by
 cases r with
 | nil=>simp
 | cons _ _=>simp
theorem zfP:OpR X (binaryOp .Add) (zh4 X.K):=by
 intro pins s σ H x y v u Q I rx ry h
 obtain ⟨a,b,xs,ys,rfl,rfl,ha,hb,hx,hz,q1,q2⟩:=h
 cases rx
 cases ry
 obtain ⟨its,r1,p1,_⟩:=I.tuple ha
 obtain ⟨its2,r2,p2,_⟩:=I.tuple hb
 refine HT.zgn p1 p2 (fun z=>hx (r1.nil_iff.mp z)) (fun z=>⟨.ref a,H,I,rfl,q1 (r2.nil_iff.mp z)⟩) (fun z=>?_) (by rw [← r1.length,← r2.length];exact hz)
 refine ⟨.ref s.heap.objs.size,_,I.laid (t':=s.toks) (o:=.tup (xs ++ ys)) (fun b ob q=>Q2 _ q) (Q3 _) ?_,rfl,q2 (fun w=>z (r2.nil_iff.mpr w)) _ (I.hok.fresh (Q3 _))⟩
 exact ⟨by rw [Qk];exact hz,_,r1.append r2,IsTup.new _ _,NoDict.new⟩
end
noncomputable def ixN (n:Nat) (i:Int):Option Nat:=if 0<=i then (if i < n then some i.toNat else none) else if -(n:Int)<=i then some (i + n).toNat else none
noncomputable def atI {α:Type} (xs:List α) (i:Int):Option α:=(ixN xs.length i).bind fun j=>xs[j]?
variable {i:Int} {j n:Nat}
theorem zcQ (h:ixN n i = some j):seqIndex? i n = some j/\j < n/\-(n:Int)<=i/\i < n:=by
 unfold ixN at h
 by_cases h0:0<=i
 ·rw [if_pos h0] at h
  by_cases h1:i < n
  ·rw [if_pos h1] at h
   have e:i.toNat = j:=Qb h
   exact ⟨by rw [seqIndex_of h0 h1,e],by omega,by omega,h1⟩
  ·rw [if_neg h1] at h;cases h
 ·rw [if_neg h0] at h
  by_cases h1:-(n:Int)<=i
  ·rw [if_pos h1] at h
   have e:(i + n).toNat = j:=Qb h
   exact ⟨by rw [seqIndex_neg (by omega) h1,e],by omega,h1,by omega⟩
  ·rw [if_neg h1] at h;cases h
theorem zba {α:Type} {xs:List α} {v:α} (h:atI xs i = some v):∃ j,seqIndex? i xs.length = some j/\xs[j]? = some v/\j < xs.length/\-(xs.length:Int)<=i/\i < xs.length:=by
 unfold atI at h
 cases e:ixN xs.length i with
 | none=>rw [e] at h;cases h
 | some j=>
  rw [e] at h
  obtain ⟨h1,h2,h3,h4⟩:=zcQ e
  exact ⟨j,h1,h,h2,h3,h4⟩
theorem yN {α:Type} {xs:List α} {v:α} (h:xs[j]? = some v):atI xs (j:Int) = some v:=by
 have hj:j < xs.length:=(List.getElem?_eq_some_iff.mp h).1
 have e:ixN xs.length (j:Int) = some j:=by
  unfold ixN
  rw [if_pos (by omega),if_pos (by omega)];simp
 unfold atI;rw [e];exact h
def zbc (b:Expr):Prop:=∀ o i,subscripted b false o i = operate [o,i] (getItem o i)
def IxR (X:Cx) (r:R2):Prop:=
 ∀ (value slice:Expr) (pins:List (Addr × Obj)) (s:Shared) (σ:St) (H:Hp) (x y:V) (v u:Value) (Q:VK),Inv X pins σ H s->RelV x v->RelV y u->r x y H Q->
  subscripted slice false v u = operate [v,u] (getItem v u)->wpAny (model X.prog X.w) X.A (subscriptTail value slice v u) (EP X pins σ Q) X.xe s
def MtR (X:Cx) (id:String) (r:V->List V->Hp->VK->Prop):Prop:=
 ∀ (pins:List (Addr × Obj)) (s:Shared) (σ:St) (H:Hp) (x:V) (xs:List V) (v:Value) (us:List Value) (Q:VK),Inv X pins σ H s->RelV x v->Vals xs us->r x xs H Q->
  wpAny (model X.prog X.w) X.A (call (.builtin id) (v :: us)) (EP X pins σ Q) X.xe s
variable {p:Addr} {H:Hp} {pins:List (Addr × Obj)} {ys:List V} {its its':List Value} {r:R2} {s:Shared} {σ:St} {x y:V} {u:Value}
section
variable {a b:Expr} {ta tb:TE}
theorem IxR.or {r':R2} (h:IxR X r) (h':IxR X r'):IxR X (fun x y H Q=>r x y H Q\/r' x y H Q):=by
 intro value slice pins s σ H x y v u Q I rx ry q hs
 rcases q with q | q
 ·exact h value slice pins s σ H x y v u Q I rx ry q hs
 ·exact h' value slice pins s σ H x y v u Q I rx ry q hs
theorem zia (hr:IxR X r) (ha:PE X a ta) (hb:PE X b tb) (hs:zbc b):PE X (.Subscript a b pos) (tOp r ta tb):=by
 intro pins s σ H Q I h
 exact Subscript_ (ze3 ha hb I h fun v u s2 x y H2 I2 rx ry q=>hr a b pins s2 σ H2 x y v u Q I2 rx ry q (hs _ _))
noncomputable def zgH (K:Frag):R2:=fun x y H Q=>∃ p xs i v,x = .ref p/\y = .int i/\SqL K H p xs/\atI xs i = some v/\Q v H
noncomputable def zgF (K:Frag):R2:=fun x y H Q=>∃ p xs i v,x = .ref p/\y = .int i/\SqT K H p xs/\atI xs i = some v/\Q v H
noncomputable def zgG:R2:=fun x y H Q=>∃ z i c,x = .str z/\y = .int i/\z.length<=sizeLine/\atI z.cps.toList i = some c/\Q (.str ⟨#[c]⟩) H
theorem zf0:IxR X (zgH X.K):=by
 intro value slice pins s σ H x y v u Q I rx ry h hs
 obtain ⟨p,xs,i,z,rfl,rfl,hq,he,q⟩:=h
 cases rx
 obtain ⟨t,rfl⟩:=ry
 obtain ⟨its,r,pl,hz⟩:=I.list hq
 obtain ⟨j,h1,h2,h3,h4,h5⟩:=zba he
 obtain ⟨w,ew,rw'⟩:=r.get h2
 have hl:=r.length
 have hn:=zX
 have fin:EP X pins σ Q w s:=⟨z,H,I,rw',q⟩
 by_cases h0:0<=i
 ·have hj:i.toNat = j:=by
   rw [seqIndex_of h0 h5] at h1
   exact Qb h1
  exact item_listR pl.isList h0 (by omega) (by rw [hj];simpa using ew) fin hs
 ·have hj:(i + (its.toArray.size:Int)).toNat = j:=by
   rw [seqIndex_neg (by omega) h4] at h1
   rw [Qf,← hl]
   exact Qb h1
  exact subscriptTail_builtinR (x:=w) pl.isList.typeIs slot_list_getitem.lookup
   (wpAny_getItem_list_neg (Q:=fun r s'=>r = w/\EP X pins σ Q r s') pl.isList (by omega) (by rw [Qf] <;> omega) (by omega) (by rw [hj];simpa using ew) ⟨rfl,fin⟩) hs
theorem zhn:IxR X (zgF X.K):=by
 intro value slice pins s σ H x y v u Q I rx ry h hs
 obtain ⟨p,xs,i,z,rfl,rfl,hq,he,q⟩:=h
 cases rx
 obtain ⟨t,rfl⟩:=ry
 obtain ⟨its,r,pl,hz⟩:=I.tuple hq
 obtain ⟨j,h1,h2,h3,h4,h5⟩:=zba he
 obtain ⟨w,ew,rw'⟩:=r.get h2
 have hl:=r.length
 have hn:=zX
 have fin:EP X pins σ Q w s:=⟨z,H,I,rw',q⟩
 exact subscriptTail_builtinR (x:=w) pl.typeIs slot_tuple_getitem.lookup
  (getItem_tuple (j:=j) (Q:=fun r s'=>r = w/\EP X pins σ Q r s') pl (by omega) (by omega) (by rw [Qf,← hl];exact h1) (by simpa using ew) ⟨rfl,fin⟩) hs
theorem zdV:IxR X zgG:=by
 intro value slice pins s σ H x y v u Q I rx ry h hs
 obtain ⟨z,i,c,rfl,rfl,hz,he,q⟩:=h
 obtain ⟨t,rfl⟩:=rx
 obtain ⟨t',rfl⟩:=ry
 obtain ⟨j,h1,h2,h3,h4,h5⟩:=zba he
 have hl:z.cps.toList.length = z.length:=by simp [Str.length]
 rw [hl] at h1 h4 h5
 have hn:=zX
 exact tail_any (typeIs_str s z t) slot_str_getitem.lookup (getItem_str (c:=c) (by
  have e1:decide (i < -(2 ^ 63:Int)) = false:=Qp (by omega)
  have e2:decide (i ≥ 2 ^ 63) = false:=Qp (by omega)
  rw [e1,e2,Bool.or_false]) (by rw [h1];simpa using h2) ⟨.str ⟨#[c]⟩,H,I.tok _,⟨_,rfl⟩,q⟩) hs
noncomputable def rIx (K:Frag):R2:=fun x y H Q=>zgH K x y H Q\/zgF K x y H Q\/zgG x y H Q
theorem zho:IxR X (rIx X.K):=zf0.or (zhn.or zdV)
theorem zde (its:List Value) (n j:Nat) (u:Value):Obj.mapSeq (·.setIfInBounds j u) { cls:=.type "list",data:=.seq its.toArray n } = { cls:=.type "list",data:=.seq (its.set j u).toArray n }:=by
 simp [Obj.mapSeq]
theorem Inv.lst (I:Inv X pins σ H s) (h:H p = some (.lst xs)) :
  ∃ (its:List Value) (n:Nat),Vals xs its/\s.heap.get? p = some { cls:=.type "list",data:=.seq its.toArray n }/\xs.length<=sizeLine:=by
 obtain ⟨z,its,n,r,e⟩:=I.hok p _ h
 exact ⟨its,n,r,e,z⟩
theorem Inv.lstUpd {n':Nat} {f:Obj->Obj} (I:Inv X pins σ H s) (h:H p = some (.lst xs))
 (ho:s.heap.get? p = some { cls:=.type "list",data:=.seq its.toArray n }) (hf:f { cls:=.type "list",data:=.seq its.toArray n } = { cls:=.type "list",data:=.seq its'.toArray n' }) (r:Vals ys its') (hz:ys.length<=sizeLine) (t:Nat) :
  Inv X pins σ (upd H p (.lst ys)) { s with heap:=s.heap.update p f,toks:=t }:=by
 have e:(s.heap.update p f).get? p = some { cls:=.type "list",data:=.seq its'.toArray n' }:=by
  rw [Heap.get?_update_self f ho (by rw [hf] <;> rfl),hf]
 refine I.write (x:=p) (e:=p) (by rw [h];trivial) (.inl rfl) (fun b u hb q=>(Heap.get?_update_other _ _ (Ne.symm hb)).trans q) ⟨_,e⟩ ?_
 exact ⟨hz,its',n',r,e⟩
noncomputable def zh2:V->V->V->Hp->(Hp->Prop)->Prop:=fun o i v H Q=>∃ p xs k j,o = .ref p/\i = .int k/\H p = some (.lst xs)/\ixN xs.length k = some j/\Q (upd H p (.lst (xs.set j v)))
theorem set_list:zcr X zh2:=by
 intro pins s σ H o i v ov iv u Q I ro ri rv h
 obtain ⟨p,xs,k,j,rfl,rfl,hp,hj,q⟩:=h
 cases ro
 obtain ⟨t,rfl⟩:=ri
 obtain ⟨its,n,r,ho,hz⟩:=I.lst hp
 obtain ⟨h1,h2,h3,h4⟩:=zcQ hj
 have hl:=r.length
 have hn:=zX
 have I':Inv X pins σ (upd H p (.lst (xs.set j v))) { s with heap:=s.heap.update p (Obj.mapSeq (·.setIfInBounds j u)) }:=
  I.lstUpd hp ho (zde its n j u) (r.set rv j) (by rw [List.length_set];exact hz) s.toks
 by_cases h0:0<=k
 ·have hk:k.toNat = j:=by
   rw [seqIndex_of h0 h4] at h1
   exact Qb h1
  exact PySem.W.ki_setAt ho h0 (by omega) (by rw [Qf,← hl];exact h4) (by rw [hk];exact ⟨_,I',q⟩)
 ·have hk:(k + (its.toArray.size:Int)).toNat = j:=by
   rw [seqIndex_neg (by omega) h3] at h1
   rw [Qf,← hl]
   exact Qb h1
  exact PySem.W.ki_setBack ho (by omega) (by rw [Qf,← hl];exact h3) (by omega) (by rw [hk];exact ⟨_,I',q⟩)
theorem zbL (lo hi:Option Int) (n:Nat):(sliceBounds lo hi none n).1 = ((HT.sIx n 0 lo:Nat):Int)/\(sliceBounds lo hi none n).2.1 = ((HT.sIx n n hi:Nat):Int)/\(sliceBounds lo hi none n).2.2 = 1:=by
 refine ⟨?_,?_,rfl⟩
 ·cases lo with
  | none=>simp [sliceBounds,HT.sIx]
  | some i=>
   simp only [sliceBounds,HT.sIx,Option.getD_none,show (1:Int) > 0 by decide,if_true]
   by_cases h:i < 0
   ·simp only [h,if_true] <;> omega
   ·simp only [h,if_false] <;> omega
 ·cases hi with
  | none=>simp [sliceBounds,HT.sIx]
  | some i=>
   simp only [sliceBounds,HT.sIx,Option.getD_none,show (1:Int) > 0 by decide,if_true]
   by_cases h:i < 0
   ·simp only [h,if_true] <;> omega
   ·simp only [h,if_false] <;> omega
theorem zbq (its:List Value) (lo hi:Option Int):slicePick its.toArray lo hi none = ((its.drop (HT.sIx its.length 0 lo)).take (HT.sIx its.length its.length hi - HT.sIx its.length 0 lo)).toArray:=by
 obtain ⟨h1,h2,h3⟩:=zbL lo hi its.toArray.size
 unfold slicePick
 rw [h1,h2,h3]
 simp only [sliceRange_one,pick_run,Qf] <;> rfl
noncomputable def ziU (K:Frag):V->Option Int->Option Int->Hp->VK->Prop:=fun x lo hi H Q=>∃ a xs,x = .ref a/\SqL K H a xs/\∀ p,H p = none->Q (.ref p) (upd H p (.lst (cutV xs lo hi)))
theorem zfr:SlR X (ziU X.K):=by
 intro pins s σ H x v vl vu lo hi sl Q I rx hs pl pu h
 obtain ⟨a,xs,rfl,hx,q⟩:=h
 cases rx
 obtain ⟨its,r,ht,hz⟩:=I.list hx
 have hlen:=r.length
 refine ⟨"list",_,slot_list_getitem.lookup,ht.isList.typeIs,?_⟩
 refine wpAny_getItem_list_slice ht.isList hs pl pu .none (by simp) ?_ (by rw [Qf] <;> omega)
 rw [zbq,← hlen]
 refine ⟨.ref s.heap.objs.size,_,I.laid (t':=s.toks) (o:=.lst (cutV xs lo hi)) (fun b ob q=>Q2 _ q) (Q3 _) ?_,rfl,q _ (I.hok.fresh (Q3 _))⟩
 exact ⟨Qg (zas xs lo hi) hz,_,0,(r.drop (HT.sIx xs.length 0 lo)).take (HT.sIx xs.length xs.length hi - HT.sIx xs.length 0 lo),Qi _ rfl⟩
noncomputable def yx:V->Bool
 | .non=>true
 | .bl _=>true
 | .int _=>true
 | .str _=>true
 | _=>false
noncomputable def eqV:V->V->Bool
 | .non,.non=>true
 | .bl a,.bl b=>a == b
 | .bl a,.int b=>(if a then 1 else 0) == b
 | .int a,.bl b=>a == (if b then 1 else 0)
 | .int a,.int b=>a == b
 | .str a,.str b=>a == b
 | _,_=>false
theorem zca {A:Around} {v:Value} (ry:RelV y u) (rx:RelV x v) (fy:yx y = true) (fx:yx x = true):SeqAt.EqAt A s u v (eqV y x):=by
 cases y with
 | non=>
  cases ry
  cases x with
  | non=>cases rx;exact SeqAt.EqAt.same _
  | bl b=>cases rx;exact SeqAt.EqAt.none_bool b
  | int b=>obtain ⟨t,rfl⟩:=rx;exact SeqAt.EqAt.none_int b t
  | str b=>obtain ⟨t,rfl⟩:=rx;exact SeqAt.EqAt.none_str b t
  | _=>exact absurd (show false = true from fx) Q4
 | bl a=>
  cases ry
  cases x with
  | non=>cases rx;exact SeqAt.EqAt.bool_none a
  | bl b=>cases rx;exact SeqAt.EqAt.bool_bool a b
  | int b=>obtain ⟨t,rfl⟩:=rx;exact SeqAt.EqAt.bool_int a b t
  | str b=>obtain ⟨t,rfl⟩:=rx;exact SeqAt.EqAt.bool_str a b t
  | _=>exact absurd (show false = true from fx) Q4
 | int a=>
  obtain ⟨t',rfl⟩:=ry
  cases x with
  | non=>cases rx;exact SeqAt.EqAt.int_none a t'
  | bl b=>cases rx;exact SeqAt.EqAt.int_bool a t' b
  | int b=>obtain ⟨t,rfl⟩:=rx;exact SeqAt.EqAt.int_int a t' b t
  | str b=>obtain ⟨t,rfl⟩:=rx;exact SeqAt.EqAt.int_str a t' b t
  | _=>exact absurd (show false = true from fx) Q4
 | str a=>
  obtain ⟨t',rfl⟩:=ry
  cases x with
  | non=>cases rx;exact SeqAt.EqAt.str_none a t'
  | bl b=>cases rx;exact SeqAt.EqAt.str_bool a t' b
  | int b=>obtain ⟨t,rfl⟩:=rx;exact SeqAt.EqAt.str_int a t' b t
  | str b=>obtain ⟨t,rfl⟩:=rx;exact SeqAt.EqAt.str_str a t' b t
  | _=>exact absurd (show false = true from fx) Q4
 | _=>exact absurd (show false = true from fy) Q4
noncomputable def eqU (x:V) (u:Value):Bool:=match u with
 | .none=>eqV .non x
 | .bool b=>eqV (.bl b) x
 | .int i _=>eqV (.int i) x
 | .str z _=>eqV (.str z) x
 | _=>false
theorem zd6 (r:RelV y u) (f:yx y = true):eqU x u = eqV y x:=by
 cases y with
 | non=>cases r;rfl
 | bl b=>cases r;rfl
 | int i=>obtain ⟨t,rfl⟩:=r;rfl
 | str z=>obtain ⟨t,rfl⟩:=r;rfl
 | _=>exact absurd (show false = true from f) Q4
theorem zbb {x:V}:∀ {xs:List V} {us:List Value},Vals xs us->xs.all yx = true->us.any (eqU x) = xs.any fun y=>eqV y x
 | _,_,.nil,_=>rfl
 | y :: xs,u :: us,.cons r t,f=>by
  rw [all_cons,Qn] at f
  rw [any_cons,any_cons,zd6 r f.1,zbb t f.2]
theorem zaA {A:Around} {s:Shared} {x:V} {v:Value} (rx:RelV x v) (fx:yx x = true):∀ {xs:List V} {us:List Value},Vals xs us->xs.all yx = true->∀ u ∈ us,SeqAt.EqAt A s u v (eqU x u)
 | _,_,.nil,_=>fun u hu=>by cases hu
 | y :: xs,u :: us,.cons r t,f=>fun u' hu=>by
  rw [all_cons,Qn] at f
  rcases mem_cons.mp hu with rfl | hu
  ·rw [zd6 r f.1];exact zca r rx f.1 fx
  ·exact zaA rx fx t f.2 u' hu
noncomputable def inV (x:V) (xs:List V):Bool:=xs.any fun y=>eqV y x
noncomputable def rIn (K:Frag) (neg:Bool):R2:=fun x y H Q=>∃ p xs,y = .ref p/\(SqL K H p xs\/SqT K H p xs)/\yx x = true/\xs.all yx = true/\Q (.bl (if neg then !inV x xs else inV x xs)) H
theorem zbW:OpR X (compareOp .NotIn) (rIn X.K true):=by
 intro pins s σ H x y v u Q I rx ry h
 obtain ⟨p,xs,rfl,hq,fx,fs,q⟩:=h
 cases ry
 rcases hq with hq | hq
 ·obtain ⟨its,r,pl,hz⟩:=I.list hq
  refine SeqAt.notIn_listAt (eqU x) pl.isList (fun w hw=>zaA rx fx r fs w (by simpa using hw)) ⟨.bl _,H,I,rfl,?_⟩
  rw [show its.toArray.any (eqU x) = its.any (eqU x) by simp,zbb r fs]
  exact q
 ·obtain ⟨its,r,pl,hz⟩:=I.tuple hq
  refine SeqAt.notIn_tupleAt (eqU x) pl (fun w hw=>zaA rx fx r fs w (by simpa using hw)) ⟨.bl _,H,I,rfl,?_⟩
  rw [show its.toArray.any (eqU x) = its.any (eqU x) by simp,zbb r fs]
  exact q
theorem zcj:CallR X (.builtin "len") (fun xs H Q=>∃ p ys,xs = [.ref p]/\(SqL X.K H p ys\/SqT X.K H p ys)/\Q (.int ys.length) H):=by
 intro pins s σ H xs us Q I r h
 obtain ⟨p,ys,rfl,hq,q⟩:=h
 obtain ⟨u,rfl,rx⟩:=vals1 r
 cases rx
 have hn:=zX
 rcases hq with hq | hq
 ·obtain ⟨its,r',pl,hz⟩:=I.list hq
  have hlen:=r'.length
  exact Calls.call_len_list pl.isList (by simp only [Qf] <;> omega) ⟨.int ys.length,H,I.tok _,⟨s.toks + 1,by rw [Qf,hlen]⟩,q⟩
 ·obtain ⟨its,r',pl,hz⟩:=I.tuple hq
  have hlen:=r'.length
  exact len_tuple pl (by simp only [Qf] <;> omega) ⟨.int ys.length,H,I.tok _,⟨s.toks + 1,by rw [Qf,hlen]⟩,q⟩
theorem zci:CallR X (.builtin "len") (fun xs H Q=>∃ z,xs = [.str z]/\z.length<=sizeLine/\Q (.int z.length) H):=by
 intro pins s σ H xs us Q I r h
 obtain ⟨z,rfl,hz,q⟩:=h
 obtain ⟨u,rfl,t,rfl⟩:=vals1 r
 have hn:=zX
 exact len_str (by omega) ⟨.int z.length,H,I.tok _,⟨_,rfl⟩,q⟩
def tyV (K:Frag) (T:String) (x:V) (H:Hp):Prop:=match x with
 | .str _=>T = "str"
 | .int _=>T = "int"
 | .ref p=>(T = "list"/\∃ xs,SqL K H p xs)\/(T = "tuple"/\∃ o,K.lookup p = some o/\o.cls = .type "tuple"/\o.dict = none) \/
   (T = "dict"/\((∃ kvs,Rd H p (.dK kvs))\/∃ kvs,H p = some (.dT kvs)))\/(T = "set"/\∃ S n,H p = some (.set S n))
 | _=>False
theorem zgu {pins:List (Addr × Obj)} {σ:St} {H:Hp} {s:Shared} {T:String} {x:V} {v:Value} (I:Inv X pins σ H s) (r:RelV x v) (ty:tyV X.K T x H) :
  s.TypeIs v T/\∀ a,v = .ref a->∃ ob,s.heap.get? a = some ob/\ob.dict = none:=by
 cases x with
 | str z=>
  obtain ⟨t,rfl⟩:=r
  cases (show T = "str" from ty)
  exact ⟨typeIs_str s z t,fun _ e=>nomatch e⟩
 | int i=>
  obtain ⟨t,rfl⟩:=r
  cases (show T = "int" from ty)
  exact ⟨typeIs_int s i t,fun _ e=>nomatch e⟩
 | ref p=>
  cases r
  rcases ty with ⟨rfl,xs,hq⟩ | ⟨rfl,o,hk,hc,hd⟩ | ⟨rfl,hk⟩ | ⟨rfl,S,n,hk⟩
  ·obtain ⟨its,_,pl,_⟩:=I.list hq
   refine ⟨pl.isList.typeIs,fun a e=>?_⟩
   cases e
   obtain ⟨o,n,e,c,hd,_⟩:=pl
   exact ⟨o,e,hd⟩
  ·refine ⟨⟨o,I.kIn p o hk,hc⟩,fun a e=>?_⟩
   cases e
   exact ⟨o,I.kIn _ o hk,hd⟩
  ·have z:∃ o,s.heap.get? p = some o/\o.ExactDict:=by
    rcases hk with ⟨kvs,hk⟩ | ⟨kvs,hk⟩
    ·obtain ⟨_,_,_,_,o,_,_,e,ex,_⟩:=(show ObjOk X.prog X.w H s.heap p (.dK kvs) from hk.ok I.hok)
     exact ⟨o,e,ex⟩
    ·obtain ⟨_,_,_,_,o,_,_,e,ex,_⟩:=I.hok p _ hk
     exact ⟨o,e,ex⟩
   obtain ⟨o,e,ex⟩:=z
   refine ⟨⟨o,e,ex.1⟩,fun a e2=>?_⟩
   cases e2
   exact ⟨o,e,ex.2.1⟩
  ·obtain ⟨o,_,_,_,e,ex,_⟩:=I.hok p _ hk
   refine ⟨⟨o,e,ex.1⟩,fun a e2=>?_⟩
   cases e2
   exact ⟨o,e,ex.2.1⟩
 | _=>exact False.elim ty
noncomputable def tBM (K:Frag) (T:String) (r:V->List V->Hp->VK->Prop) (to:TE) (t:TA):TE:=fun σ H Q=>to σ H fun x H1=>tyV K T x H1/\t σ H1 fun xs H2=>r x xs H2 Q
variable {o:Expr} {es:List Expr} {to:TE} {t:TA} {name:Str} {apos cpos:Pos} {T id:String} {r:V->List V->Hp->VK->Prop}
theorem zib (pa:PlainAttrs T) (slot:Slot T name id) (hty:typeOf (.builtin id) = pure (.type "method_descriptor")) (hm:MtR X id r) (ho:PE X o to) (ha:PA X (e :: es) t)
  (hbase:attributeBase o name X.env (eval o X.env) = eval o X.env:=by rfl)
  (hfew:((backTo cpos (starEach (e :: es) X.env)).all (fun x=>!x.1) && (backToKw cpos (keywordEach [] X.env)).all (fun x=>x.1.isSome)
   && decide ((e :: es).length + ([]:List Keyword).length + (if ([]:List Keyword).isEmpty then 0 else 1) < 30)) = true:=by rfl)
  (hline:(apos.endLine == cpos.line) = true:=by rfl) (hs:starEach (e :: es) X.env = (false,eval e X.env) :: starEach es X.env:=by rfl) (hplain:(backTo cpos (starEach es X.env)).any (·.1) = false:=by rfl) :
  PE X (.Call (.Attribute o name apos) (e :: es) [] cpos) (tBM X.K T r to t):=by
 intro pins s σ H Q I h
 refine wpAny_Call_method_late hbase hfew hline rfl (thn (ho pins s σ H _ I h) fun v s1 ⟨x,H1,I1,r1,ty,q1⟩=>?_)
 obtain ⟨h1,h2⟩:=zgu I1 r1 ty
 refine ⟨T,id,pa,slot,hty,h1,h2,?_⟩
 have hA:=ha cpos pins s1 σ H1 _ I1 q1
 rw [hs] at hA ⊢
 refine Calls.callWith_builtin (by show (false || (backTo cpos (starEach es X.env)).any (·.1)) = false;rw [hplain] <;> rfl) (Calls.evalArgs_plain ?_)
 exact thn hA fun us s2 ⟨vs,H2,I2,r2,q2⟩=>hm pins s2 σ H2 x vs v us Q I2 r1 r2 q2
end
def MtM (X:Cx) (id:String) (r:V->List V->Hp->VK->Prop):Prop:=
 ∀ (pins:List (Addr × Obj)) (s:Shared) (σ:St) (H:Hp) (x:V) (xs:List V) (v:Value) (us:List Value) (Q:VK),Inv X pins σ H s->RelV x v->Vals xs us->r x xs H Q->
  wpAny (model X.prog X.w) X.A (call (.builtin id) (v :: us)) (EP X pins σ Q) X.xe s
theorem Vals.one:∀ {x:V} {us:List Value},Vals [x] us->∃ u,us = [u]/\RelV x u
 | _,_,.cons r .nil=>⟨_,rfl,r⟩
theorem Vals.two:∀ {x y:V} {us:List Value},Vals [x,y] us->∃ u v,us = [u,v]/\RelV x u/\RelV y v
 | _,_,_,.cons r (.cons q .nil)=>⟨_,_,rfl,r,q⟩
theorem Vals.zero:∀ {us:List Value},Vals [] us->us = []
 | _,.nil=>rfl
theorem Vals.eraseIdx:∀ {xs:List V} {us:List Value} (i:Nat),Vals xs us->Vals (xs.eraseIdx i) (us.eraseIdx i)
 | _,_,_,.nil=>.nil
 | _,_,0,.cons _ t=>t
 | _,_,i + 1,.cons r t=>.cons r (Vals.eraseIdx i t)
theorem Vals.rep {xs:List V} {us:List Value} (h:Vals xs us):∀ k:Nat,Vals (List.replicate k xs).flatten (List.replicate k us).flatten
 | 0=>.nil
 | k + 1=>by
  rw [replicate_succ,replicate_succ,flatten_cons,flatten_cons]
  exact Vals.append h (Vals.rep h k)
theorem foldl_rep (its:List Value):∀ (k:Nat) (acc:List Value),
  List.foldl (fun x1 x2=>x1 ++ x2) acc.toArray (List.replicate k its.toArray) = (acc ++ (List.replicate k its).flatten).toArray
 | 0,acc=>by simp
 | k + 1,acc=>by
  have e:acc.toArray ++ its.toArray = (acc ++ its).toArray:=by simp
  have e2:(acc ++ its) ++ (List.replicate k its).flatten = acc ++ (List.replicate (k + 1) its).flatten:=by
   rw [replicate_succ,flatten_cons,List.append_assoc]
  rw [← e2,← foldl_rep its k (acc ++ its),← e,replicate_succ,List.foldl_cons]
variable {t':Nat}
section
variable {l b:Addr} {zs:List V}
theorem Inv.lset {f:Array Value->Array Value} {t':Nat} (I:Inv X pins σ H s) (hH:H l = some (.lst xs))
 (e:s.heap.get? l = some { cls:=.type "list",data:=.seq its.toArray n }) (hf:f its.toArray = its'.toArray) (hv:Vals ys its') (hz:ys.length<=sizeLine) :
  Inv X pins σ (upd H l (.lst ys)) { s with heap:=s.heap.update l (Obj.mapSeq f),toks:=t' }:=by
 have q:=PySem.IsL.update e f
 rw [hf] at q
 refine I.write (x:=l) (e:=l) (by rw [hH];exact trivial) (.inl rfl) (fun b' u hb hu=>(Heap.get?_update_other s.heap (Obj.mapSeq f) (Ne.symm hb)).trans hu) ⟨_,q⟩ ?_
 exact ⟨hz,its',_,hv,q⟩
theorem Inv.lnew {t':Nat} (I:Inv X pins σ H s) (hv:Vals ys its) (hz:ys.length<=sizeLine) :
  Inv X pins σ (upd H s.heap.objs.size (.lst ys)) { s with heap:=s.heap.push { cls:=.type "list",data:=.seq its.toArray },toks:=t' }:=
 I.laid (fun _ _ q=>Q2 _ q) (Q3 _) ⟨hz,its,0,hv,Qi _ rfl⟩
theorem Inv.fresh (I:Inv X pins σ H s):H s.heap.objs.size = none:=I.hok.fresh (Q3 _)
theorem Inv.lstM (I:Inv X pins σ H s) (hH:H l = some (.lst xs)):xs.length<=sizeLine/\∃ (its:List Value) (n:Nat),Vals xs its/\xs.length = its.length/\s.heap.get? l = some { cls:=.type "list",data:=.seq its.toArray n }:=by
 obtain ⟨z,its,n,r,e⟩:=I.hok l _ hH
 exact ⟨z,its,n,r,r.length,e⟩
end
section
noncomputable def zft:V->List V->Hp->VK->Prop:=fun x vs H Q=>∃ l xs y,x = .ref l/\vs = [y]/\H l = some (.lst xs)/\xs.length < sizeLine/\Q .non (upd H l (.lst (xs ++ [y])))
theorem zdP:MtM X "list.append" zft:=by
 intro pins s σ H x vs v us Q I rx rv h
 obtain ⟨l,xs,y,rfl,rfl,hH,hz,q⟩:=h
 cases rx
 obtain ⟨u,rfl,ru⟩:=rv.one
 obtain ⟨z,its,n,r,hl,e⟩:=I.lstM hH
 refine call_meets F.slot_list_append ⟨_,e,rfl⟩ F.entry_list_append (F.args_list_append_2 _ _) (PySem.list_append l its.toArray n u (by rw [Qf];omega)) ⟨e,?_⟩
 refine ⟨.non,_,I.lset (its':=its ++ [u]) hH e (by simp) (r.append (.cons ru .nil)) ?_,rfl,q⟩
 rw [Qk,List.length_singleton]
 omega
theorem len_rep {α:Type} (xs:List α) (k:Nat):(List.replicate k xs).flatten.length = k * xs.length:=by
 induction k with
 | zero=>simp
 | succ k ih=>rw [replicate_succ,flatten_cons,Qk,ih,Nat.succ_mul,Nat.add_comm]
end
end L2
namespace Att
open PySem PySem.W PySem.Calls PyProof.Rows
variable {h:Heap} {P:Params}
theorem zaJ:∀ (ns:List Int) (vs:List Value),WellAll P h vs (ns.map WData.int)->IntsAre vs ns:=by
 intro ns
 induction ns with
 | nil=>
  intro vs w
  rw [map_nil] at w
  cases w
  exact .nil
 | cons n ns ih=>
  intro vs w
  rw [map_cons] at w
  cases w with
  | cons a b=>
   cases a
   exact .cons _ _ (ih _ b)
variable {n:Nat} {l:OpenLaw}
theorem zdC (hn:l.most = some n) {args:List WData} {vals:List Value}
 (hpre:l.row.toRowW.claim.pre args = true) (hwl:WellAll P h vals args) :
  ∃ a vs ns,vals = [Value.ref a]/\args = [WData.list (ns.map WData.int)]/\h.get? a = some { cls:=.type "list",data:=.seq vs.toArray }/\IntsAre vs ns/\ns.length<=n:=by
 have hsh:WShape.hasAll [] args [.list .int] = true:=(pre_splitW hpre).1
 have hc:l.pre.holds [] { args:=args } = true:=(pre_splitW hpre).2
 obtain ⟨d,r,rfl,h1,h2⟩:=hasAllW_cons hsh
 obtain rfl:=hasAllW_nil h2
 obtain ⟨xs,rfl,h3⟩:=hasW_list h1
 obtain ⟨ns,rfl⟩:=items_int h3
 have hlen:ns.length<=n:=by
  unfold OpenLaw.pre at hc
  have h4:(WTm.not (.lt (.lit (.int (n:Int))) (.len (.arg 0)))).holds [] { args:=[.list (ns.map .int)] } = true:=by
   have h4:=(holds_andW hc).1
   rw [hn] at h4
   exact h4
  have h5:=condW_of h4 (w_not (w_lt w_lit (w_len_list (w_arg rfl))))
  rw [length_map] at h5
  refine Nat.le_of_not_lt fun q=>?_
  have q':(n:Int) < ((ns.length:Nat):Int):=by omega
  first
   | (rw [Qo q'] at h5;exact absurd h5 (by decide))
   | (simp at h5;omega)
 cases hwl with
 | cons w1 w2=>
  cases w2
  cases w1 with
  | list ho hall=>exact ⟨_,_,ns,rfl,rfl,ho,zaJ ns _ hall,hlen⟩
theorem zdH (l:OpenLaw) (args:List WData):l.row.toRowW.claim.post args (.bool true) args = true:=
 postW_of (r:=l.row.toRowW) (X:=(true == true))
  (show WShape.has [] (.bool true) .bool = true by first | rfl | decide | simp [WShape.has,WShape.arms,WShape.armsAll])
  (show (WTm.eq .res (.lit (.bool true))).value [] { args:=args,res:=some (.bool true),after:=args } = some (.bool (true == true)) from w_eq_bool (w_res rfl) w_lit) rfl
theorem zcu {q:Program} {loose:List Str} {XP:(Str->Option Value)->Heap->Prop} {YP:World->Heap->Prop} {d:DefRec}
 (hn:l.most = some n) (hdf:d.params.defaults = [])
 (call:∀ (w:World) (s₀ s₁:Shared) (mg mb:Str->Option Value) (fa:Addr) (o:Obj) (pm cd doc:Value) (a:Addr) (vs:List Value) (ns:List Int),
 Ground q loose [] XP w s₀ mg mb s₁.heap->YP w s₁.heap->
 s₁.heap.get? fa = some o->o.data = .func (docDef d.name d.params d.body d.scope pm cd doc)->s₁.heap.CodeRec cd d.name->mg d.name = some (.ref fa)->
 s₁.heap.get? a = some { cls:=.type "list",data:=.seq vs.toArray }->IntsAre vs ns->ns.length<=n->s₁.gens = #[]->
 codeAny (model l.prog w) callerA (.call (.ref fa) ⟨[.ref a],[]⟩) (fun r s'=>r = .ok (.ret (.bool true))/\OldK s₁.heap s'.heap/\s'.os = s₁.os/\AllBare s'.gens) s₁) :
  WalkO q loose XP YP l.row.toRowW d [] (fun f vs=>PySem.call f vs):=by
 intro w s₀ s₁ mg mb G Y fa o pm cd doc dV kV ho hd hcd hD hmg hg args vals as hpre hlay hrd hwl hlo
 obtain rfl:dV = .none:=Dflts.none hD hdf
 obtain rfl:kV = .none:=Dflts.noKw hD
 obtain ⟨a,vs,ns,rfl,rfl,hobj,hints,hlen⟩:=zdC hn hpre hwl
 refine enter_call (codeAny_mono (call w s₀ s₁ mg mb fa o pm cd doc a vs ns G Y ho (fd_plain hd) hcd hmg hobj hints hlen hg) fun r s' hq=>?_)
 obtain ⟨rfl,h2,h3,h4⟩:=hq
 exact ⟨.inl ⟨.bool true,.bool true,[],rfl,fun _=>rfl,.bool true,zdH l _,fun _=>⟨List.Pairwise.nil,fun _ hm=>(nomatch hm)⟩⟩,h2,h3,h4⟩
end Att
namespace L2
open PySem PySem.Spec PyProof.Rows
theorem zbf:∀ {vs:List Value} {ns:List Int},IntsAre vs ns->Vals (ns.map V.int) vs
 | _,_,.nil=>.nil
 | _,_,.cons n t h=>.cons ⟨t,rfl⟩ (zbf h)
def zdv (H:Hp):Prop:=∀ b,H b = none\/∃ o xs,H b = some (.frz o (.lst xs))
variable {CX:CXT} {K:Frag} {fd:FuncData} {k:Nat} {P:Program} {sp:Sp} {x:Str} {mg:Str->Option Value} {w:World}
theorem zeH {mb:Str->Option Value} {fa a:Addr} {s₁:Shared} {vs:List Value} {ns:List Int}
 (KX:K.In s₁.heap) (hns:s₁.heap.Ns mainGlobals mg) (hb:s₁.heap.Ns builtinsNs mb) (hbb:∀ x:Str,x ≠ "__name__"->mb x = bootBuiltins x) (hlim:s₁.heap.NoLimit) (hg:s₁.gens = #[])
 (ha:s₁.heap.get? a = some { cls:=.type "list",data:=.seq vs.toArray }) (hi:IntsAre vs ns) (hl:ns.length<=sizeLine) (hr:Room k callerA)
 (F:∀ base:Heap,K.In base->base.Ns mainGlobals mg->FnOk P w K mg base CX k fa fd [x] sp) (hbind:∀ (s:Shared) (u:Value),BindsTo s fd ⟨[u],[]⟩ [(x,u)])
 (hsp:∀ H:Hp,zdv H->SqL K H a (ns.map V.int)->sp [.ref a] H (fun v _=>v = .bl true) fun _ _ _=>False)
 (hCX:∀ H e s',CX [] H s₁ (fun _ _ _=>False) e s'->False) :
  codeAny (model P w) callerA (.call (.ref fa) ⟨[.ref a],[]⟩) (fun r s'=>r = .ok (.ret (.bool true))/\OldK s₁.heap s'.heap/\s'.os = s₁.os/\AllBare s'.gens) s₁:=by
 have rv:=zbf hi
 have lenV:=hi.length
 -- from an abstract heap in which nothing but the script may be tracked
 have core:∀ H:Hp,zdv H->SqL K H a (ns.map V.int)->HOk P w H s₁.heap->(∀ b,H b ≠ none->b = a)->(H a ≠ none->K.lookup a = none)->
   codeAny (model P w) callerA (.call (.ref fa) ⟨[.ref a],[]⟩) (fun r s'=>r = .ok (.ret (.bool true))/\OldK s₁.heap s'.heap/\s'.os = s₁.os/\AllBare s'.gens) s₁:=by
  intro H hO hS hok hA hK
  have base_of:∀ {b:Addr} {o:Obj},s₁.heap.get? b = some o->H b = none->(y4 s₁.heap H).get? b = some o:=fun e n=>zeP e n
  have noA:∀ {b:Addr} {o:Obj} {es:Array DictEntry} {ep:Nat},s₁.heap.get? b = some o->o.data = .dict es ep->H b = none:=fun {b o es ep} e d=>by
   cases q:H b with
   | none=>rfl
   | some u=>
    have e':b = a:=hA b (by rw [q];simp)
    subst e'
    rw [ha] at e;cases e
    have d':Data.seq vs.toArray _ = Data.dict es ep:=d
    cases d'
  have nsK:∀ {b:Addr} {m:Str->Option Value},s₁.heap.Ns b m->(y4 s₁.heap H).Ns b m:=fun {b m} ⟨o,es,ep,e,d,r⟩=>⟨o,es,ep,base_of e (noA e d),d,r⟩
  have hKb:K.In (y4 s₁.heap H):=fun b o e=>base_of (KX b o e) (by
   cases q:H b with
   | none=>rfl
   | some u=>
    have e':b = a:=hA b (by rw [q];simp)
    subst e'
    rw [hK (by rw [q];simp)] at e;cases e)
  have hM:Mod K mg (y4 s₁.heap H):=⟨hKb,nsK hns,⟨mb,nsK hb,hbb⟩,let ⟨mc,h1,h2⟩:=hlim;⟨mc,nsK h1,h2⟩⟩
  have e0:Env0 P w K mg (y4 s₁.heap H) callerA [] s₁ H:=⟨rfl,hM,fun b o e=>zfS e,Nat.le_of_eq (zdX _ _),trivial,fun b hb=>absurd (show b ∈ ([]:List Addr) from hb) (by simp),hok,.of_eq hg⟩
  refine codeAny_mono ((F _ hKb (nsK hns)).run callerA [] s₁ H ⟨[.ref a],[]⟩ [.ref a] [.ref a] _ _ hr e0 (hbind s₁ (.ref a)) (.cons rfl .nil) (hsp H hO hS)) fun r s' h=>?_
  cases r with
  | error e=>exact (hCX H e s' h).elim
  | ok fl=>
   cases fl with
   | next=>exact False.elim h
   | brk=>exact False.elim h
   | cont=>exact False.elim h
   | ret u=>
    obtain ⟨v,H',os,bare,un,hok',r',q⟩:=h
    have q':v = .bl true:=q
    subst q'
    obtain rfl:u = Value.bool true:=r'
    refine ⟨rfl,OldK.of_keep fun b o e=>?_,os,bare⟩
    cases q:H b with
    | none=>exact un.keep b o e q (by intro z;exact absurd (show b ∈ ([]:List Addr) from z) (by simp)) (by simp)
    | some u=>
     rcases hO b with z | ⟨ob,xs,z⟩
     ·rw [q] at z;cases z
     ·have z2:=un.frzs b ob _ z
      obtain ⟨e1,_⟩:=hok b _ z
      obtain ⟨e2,_⟩:=hok' b _ z2
      rw [e] at e1;cases e1
      exact e2
 cases hk:K.lookup a with
 | some o=>
  -- the script is one of the module's own objects
  have e:=KX a o hk
  rw [ha] at e
  cases e
  refine core (fun _=>none) (fun _=>.inl rfl) (.inr ⟨_,vs.toArray,_,hk,rfl,rfl,rfl,by rw [Qf,lenV];exact hl,by simpa using rv⟩) (fun b u z=>by have z':(none:Option HO) = some u:=z;cases z') (fun b z=>absurd rfl z) fun z=>absurd rfl z
 | none=>
  refine core (fun b=>if b = a then some (.frz { cls:=.type "list",data:=.seq vs.toArray } (.lst (ns.map V.int))) else none) (fun b=>?_) (.inl (.inr ⟨{ cls:=.type "list",data:=.seq vs.toArray },if_pos rfl⟩)) (fun b u z=>?_) (fun b z=>?_) fun _=>hk
  ·by_cases hb:b = a
   ·exact .inr ⟨_,_,if_pos hb⟩
   ·exact .inl (if_neg hb)
  ·by_cases hb:b = a
   ·have z':=(if_pos hb).symm.trans z
    cases z'
    subst hb
    exact ⟨ha,by rw [length_map];exact hl,vs,_,rv,ha⟩
   ·have z':=(if_neg hb).symm.trans z
    cases z'
  ·by_cases hb:b = a
   ·exact hb
   ·exact absurd (if_neg hb) z
noncomputable abbrev KOf {K:Frag} {h:Heap} (_:K.In h):Frag:=K
variable {XP:(Str->Option Value)->Heap->Prop} {d:DefRec} {loose:List Str} {n:Nat} {q:Program} {l:PySem.W.OpenLaw} {YP:World->Heap->Prop}
theorem zfm {K:Params->Frag} {CX:World->CXT} {sp:World->Sp} 
 (hn:l.most = some n) (hn2:n<=sizeLine) (hdf:d.params.defaults = []) (hr:Room k callerA)
 (hY:∀ (w:World) (h:Heap),YP w h->(K w.params).In h)
 (F:∀ (w:World) (mg:Str->Option Value) (fa:Addr) (h:Heap),(K w.params).In h->h.Ns mainGlobals mg->mg d.name = some (.ref fa)->
 ∃ fd:FuncData,(∀ (s:Shared) (u:Value),BindsTo s fd ⟨[u],[]⟩ [(x,u)]) /\
 ∀ base:Heap,(K w.params).In base->base.Ns mainGlobals mg->FnOk l.prog w (K w.params) mg base (CX w) k fa fd [x] (sp w))
 (hsp:∀ (w:World) (H:Hp) (a:Addr) (ns:List Int),ns.length<=n->zdv H->SqL (K w.params) H a (ns.map V.int)->sp w [.ref a] H (fun v _=>v = .bl true) fun _ _ _=>False)
 (hCX:∀ (w:World) (H:Hp) (s:Shared) (e:Value) (s':Shared),CX w [] H s (fun _ _ _=>False) e s'->False) :
  PySem.W.WalkO q loose XP YP l.row.toRowW d [] (fun f vs=>PySem.call f vs):=by
 refine Att.zcu hn hdf fun w s₀ s₁ mg mb fa o pm cd doc a vs ns G Y ho hd hcd hmg hobj hints hlen hg=>?_
 have KX:=hY w _ Y
 obtain ⟨fd,hb,hF⟩:=F w mg fa _ KX G.T.g hmg
 exact zeH KX G.T.g G.T.b G.T.builtins G.T.nolimit hg hobj hints (Qg hlen hn2) hr hF hb (fun H hO hS=>hsp w H a ns hlen hO hS) fun H e s'=>hCX w H s₁ e s'
theorem zen {K:Params->Frag} {sp:Frag->Sp} 
 (hn:l.most = some n) (hn2:n<=sizeLine) (hdf:d.params.defaults = []) (hr:Room k callerA)
 (hY:∀ (w:World) (h:Heap),YP w h->(K w.params).In h)
 (F:∀ (w:World) (mg:Str->Option Value) (fa:Addr) (h:Heap),(K w.params).In h->h.Ns mainGlobals mg->mg d.name = some (.ref fa)->
 ∃ fd:FuncData,(∀ (s:Shared) (u:Value),BindsTo s fd ⟨[u],[]⟩ [(x,u)]) /\
 ∀ base:Heap,(K w.params).In base->base.Ns mainGlobals mg->FnOk l.prog w (K w.params) mg base CX k fa fd [x] (sp (K w.params)))
 (hsp:∀ (K:Frag) (H:Hp) (a:Addr) (ns:List Int),ns.length<=n->zdv H->SqL K H a (ns.map V.int)->sp K [.ref a] H (fun v _=>v = .bl true) fun _ _ _=>False)
 (hCX:∀ (H:Hp) (s:Shared) (e:Value) (s':Shared),CX [] H s (fun _ _ _=>False) e s'->False) :
  PySem.W.WalkO q loose XP YP l.row.toRowW d [] (fun f vs=>PySem.call f vs):=
 zfm (K:=K) (CX:=fun _=>CX) (sp:=fun w=>sp (K w.params)) hn hn2 hdf hr hY F (fun w H a ns h1 h2 h3=>hsp (K w.params) H a ns h1 h2 h3) fun _ H s e s'=>hCX H s e s'
noncomputable def inClass (s:Stmt) (j:Nat):Stmt:=match s with
 | .ClassDef _ _ _ body _ _ _ _ _ _ _=>body.getD j (.Pass ⟨0,0,0,0⟩)
 | _=>.Pass ⟨0,0,0,0⟩
noncomputable def qy (s:Stmt):Arguments:=match s with
 | .FunctionDef _ a _ _ _ _ _ _ _ _=>a
 | _=>{ posonlyargs:=[],args:=[],vararg:=none,kwonlyargs:=[],kw_defaults:=[],kwarg:=none,defaults:=[] }
noncomputable def qi (s:Stmt):List Stmt:=match s with
 | .FunctionDef _ _ b _ _ _ _ _ _ _=>b
 | _=>[]
noncomputable def qc (s:Stmt):Scope:=match s with
 | .FunctionDef _ _ _ _ _ _ sc _ _ _=>sc
 | _=>{ kind:=.function,names:=[],isGenerator:=false,isCoroutine:=false }
noncomputable abbrev CX0:CXT:=fun _ _ _ _ _ _=>False
noncomputable abbrev E0:XK:=fun _ _ _=>False
variable {X:Cx}
theorem zid:Passes CX0 X E0:=fun _ _ _ _ _ _ _ h=>h.elim
structure Fun (K:Frag) (x qual:Str) (st:Stmt) (f:Addr) (fd:FuncData):Prop where
 ex:∃ (oc:Value) (od:Option Addr) (kV doc pm:Value) (an:Option Addr) (cdv ct:Value) (osl:Array (Option Value)),
  fd = PySem.W.fnOf x qual (qy st) (qi st) (qc st) .none kV doc pm an cdv ct/\K.lookup f = some ⟨oc,od,.func fd,osl⟩/\PySem.W.codeIn K cdv qual = true
 kp:PySem.W.keepIn K (.ref f) = true
variable {f:Addr} {ps:List Str} {st:Stmt} {qual:Str}
section
variable {base:Heap}
theorem Fun.ok {N:List Str} (F:Fun K x qual st f fd) (S:FnScope N ps (qc st)) (len:∀ vs H Q E,sp vs H Q E->vs.length = ps.length)
 (hbody:∀ (cdv:Value) (A:Around) (outer:List Env) (s:Shared) (H:Hp) (vs:List V) (Q:VK) (E:XK),Room k (A.deeper (envOfC qual (qc st) s.heap.objs.size f cdv))->sp vs H Q E->
 ∃ t,PSs (qQ CX0 P w K mg base N qual (qc st) f cdv A outer s H E).nox (qi st) t/\t { nx:=fun _ H'=>Q .non H',rt:=Q } (start N vs) H):FnOk P w K mg base CX0 (k + 1) f fd ps sp:=by
 obtain ⟨oc,od,kV,doc,pm,an,cdv,ct,osl,rfl,lk,hcd⟩:=F.ex
 refine zix lk hcd S len fun A outer s H vs Q E hr hsp=>?_
 obtain ⟨t,h,q⟩:=hbody cdv A outer s H vs Q E hr hsp
 exact ⟨t,h.nox,q⟩
theorem Fun.binds (F:Fun K x qual st f fd)
 (h:∀ (kV doc pm:Value) (an:Option Addr) (cdv ct:Value) (us:List Value),us.length = ps.length->bindArgs (PySem.W.fnOf x qual (qy st) (qi st) (qc st) .none kV doc pm an cdv ct) ⟨us,[]⟩ = pure (ps.zip us)):Binds K fd ps []:=by
 obtain ⟨oc,od,kV,doc,pm,an,cdv,ct,osl,rfl,lk,hcd⟩:=F.ex
 exact .all (h kV doc pm an cdv ct)
theorem zb9 {oc:Value} {od an:Option Addr} {osl:Array (Option Value)} {kV doc pm cdv ct:Value} (l:K.lookup f = some ⟨oc,od,.func (PySem.W.fnOf x qual (qy st) (qi st) (qc st) .none kV doc pm an cdv ct),osl⟩)
 (c:PySem.W.codeIn K cdv qual = true) (k:PySem.W.keepIn K (.ref f) = true):Fun K x qual st f (PySem.W.fnOf x qual (qy st) (qi st) (qc st) .none kV doc pm an cdv ct):=⟨⟨oc,od,kV,doc,pm,an,cdv,ct,osl,rfl,l,c⟩,k⟩
end
section
theorem pv (i:Nat) {pos:Pos} (hN:X.N[i]? = some x:=by rfl) (hv:Vis X.env.scope x:=by first | exact Or.inl rfl | exact Or.inr (Or.inl rfl) | exact Or.inr (Or.inr rfl)) (hd:(x == ("__debug__":Str)) = false:=by decide)
 (hcd:(x == ("__classdict__":Str)) = false:=by decide):PE X (.Name x pos) (zc3 i):=zbT hN hv hd hcd
end
end L2
set_option maxHeartbeats 4000000
namespace L2
open PySem PySem.Spec PyProof.Rows
variable {y:V} {u:Value}
section
variable {κ:Type} [DecidableEq κ]
noncomputable def qN (kvs:List (κ × V)) (k:κ):Option V:=(kvs.find? fun kv=>decide (kv.1 = k)).map (·.2)
noncomputable def putK (kvs:List (κ × V)) (k:κ) (v:V):List (κ × V):=
 if (kvs.any fun kv=>decide (kv.1 = k)) = true then kvs.map (fun kv=>if kv.1 = k then (kv.1,v) else kv) else kvs ++ [(k,v)]
noncomputable def zjT (kvs:List (κ × V)) (k:κ):List (κ × V):=kvs.filter fun kv=>decide (kv.1 ≠ k)
theorem ziC {p:κ × V} {r:List (κ × V)} {k:κ} (e:p.1 = k):qN (p :: r) k = some p.2:=by simp [qN,find?_cons,e]
theorem ziD {p:κ × V} {r:List (κ × V)} {k:κ} (e:¬ p.1 = k):qN (p :: r) k = qN r k:=by simp [qN,find?_cons,e]
theorem KV.any {kvs:List (κ × V)} {vs:List (κ × Value)} (r:KV kvs vs) (k:κ):(kvs.any fun kv=>decide (kv.1 = k)) = vs.any fun kv=>decide (kv.1 = k):=by
 unfold KV at r
 induction r with
 | nil=>rfl
 | cons h t ih=>rw [any_cons,any_cons,ih,h.1]
theorem KV.repl {kvs:List (κ × V)} {vs:List (κ × Value)} (r:KV kvs vs) (k:κ) (ry:RelV y u) :
  KV (kvs.map fun kv=>if kv.1 = k then (kv.1,y) else kv) (vs.map fun kv=>if kv.1 = k then (kv.1,u) else kv):=by
 unfold KV at r ⊢
 induction r with
 | nil=>exact .nil
 | @cons p q ps qs h t ih=>
  rw [map_cons,map_cons]
  refine .cons ?_ ih
  obtain ⟨h1,h2⟩:=h
  by_cases e:p.1 = k
  ·rw [if_pos e,if_pos (h1.symm.trans e)];exact ⟨h1,ry⟩
  ·rw [if_neg e,if_neg (fun z=>e (h1.trans z))];exact ⟨h1,h2⟩
theorem KV.put {kvs:List (κ × V)} {vs:List (κ × Value)} (r:KV kvs vs) (k:κ) (ry:RelV y u):KV (putK kvs k y) (stored vs k u):=by
 unfold putK stored
 rw [r.any k]
 by_cases e:(vs.any fun kv=>decide (kv.1 = k)) = true
 ·rw [if_pos e,if_pos e];exact r.repl k ry
 ·rw [if_neg e,if_neg e];exact Paired.snoc r ⟨rfl,ry⟩
end
noncomputable def zdQ (kvs more:List (Key × V)):List (Key × V):=more.foldl (fun acc kv=>putK acc kv.1 kv.2) kvs
structure M1 (X:Cx) (o:Expr) (m:Str) (apos:Pos) (e:Expr) (cpos:Pos):Prop where
 base:attributeBase o m X.env (eval o X.env) = eval o X.env
 few:((backTo cpos (starEach [e] X.env)).all (fun x=>!x.1) && (backToKw cpos (keywordEach [] X.env)).all (fun x=>x.1.isSome)
  && decide (([e]:List Expr).length + ([]:List Keyword).length + (if ([]:List Keyword).isEmpty then 0 else 1) < 30)) = true
 line:(apos.endLine == cpos.line) = true
 trees:backTo cpos (starEach [e] X.env) = [(false,eval e X.env)]
structure M2 (X:Cx) (o:Expr) (m:Str) (apos:Pos) (e f:Expr) (cpos:Pos):Prop where
 base:attributeBase o m X.env (eval o X.env) = eval o X.env
 few:((backTo cpos (starEach [e,f] X.env)).all (fun x=>!x.1) && (backToKw cpos (keywordEach [] X.env)).all (fun x=>x.1.isSome)
  && decide (([e,f]:List Expr).length + ([]:List Keyword).length + (if ([]:List Keyword).isEmpty then 0 else 1) < 30)) = true
 line:(apos.endLine == cpos.line) = true
 trees:backTo cpos (starEach [e,f] X.env) = [(false,eval e X.env),(false,eval f X.env)]
def Bnd (n:Nat) (i:Int):Prop:=i.natAbs < 10 ^ n
instance (n:Nat) (i:Int):Decidable (Bnd n i):=inferInstanceAs (Decidable (i.natAbs < 10 ^ n))
variable {i j:Int} {n:Nat}
theorem Bnd.add (h:Bnd n i) (k:Bnd n j):Bnd (n + 1) (i + j):=by
 unfold Bnd at *
 have h1:=Int.natAbs_add_le i j
 rw [Nat.pow_succ]
 omega
theorem Bnd.neg (h:Bnd n i):Bnd n (-i):=by
 unfold Bnd at *
 rw [Int.natAbs_neg];exact h
theorem zcT (h:Bnd n i) (hn:n<=3000):Builtin.Int.intBits i<=2 ^ 20:=by
 unfold Builtin.Int.intBits
 split
 ·exact Nat.zero_le _
 ·rename_i h0
  have h1:i.natAbs ≠ 0:=by
   intro z
   have:i = 0:=Int.natAbs_eq_zero.mp z
   subst this
   exact h0 rfl
  have h2:i.natAbs < 2 ^ (4 * n):=by
   have e:(2:Nat) ^ (4 * n) = 16 ^ n:=by rw [Nat.pow_mul]
   rw [e]
   exact Q5 h (Nat.pow_le_pow_left (by decide) n)
  have h3:i.natAbs.log2 < 4 * n:=(Nat.log2_lt h1).mpr h2
  have:(2:Nat) ^ 20 = 1048576:=by decide
  omega
def CMulB (i j:Int):Prop:=(∃ m n,Bnd m i/\Bnd n j/\m<=3000/\n<=3000)\/CMul i j
theorem CMulB.ok (h:CMulB i j):IntMulOk i j:=by
 rcases h with ⟨m,n,h1,h2,h3,h4⟩ | h
 ·exact IntMulOk.of_bits (zcT h1 h3) (zcT h2 h4)
 ·exact h.ok
variable {X:Cx}
section
theorem zfN:OpR X (binaryOp .Mult) (rI CMulB fun i j=>.int (i * j)):=opI fun _ _ _ _ _ _ _ hc q=>mul_int q hc.ok
theorem zfK:OpR X (compareOp .IsNot) (fun x y H Q=>∃ a b,x = .bl a/\y = .bl b/\Q (.bl (a != b)) H):=by
 intro pins s σ H x y v u Q I rx ry h
 obtain ⟨a,b,rfl,rfl,q⟩:=h
 cases rx
 cases ry
 exact isnot_bool (zd3 I q rfl)
noncomputable def zh5 (K:Frag):R2:=fun x y H Q=>∃ l b xs zs,x = .ref l/\y = .ref b/\SqL K H l xs/\SqL K H b zs/\xs.length + zs.length<=sizeLine/\∀ p,H p = none->Q (.ref p) (upd H p (.lst (xs ++ zs)))
theorem zfQ:OpR X (binaryOp .Add) (zh5 X.K):=by
 intro pins s σ H x y v u Q I rx ry h
 obtain ⟨l,b,xs,zs,rfl,rfl,hH,hB,hz,q⟩:=h
 cases rx
 cases ry
 obtain ⟨its,r,pl,z⟩:=I.list hH
 obtain ⟨its2,r2,pl2,z2⟩:=I.list hB
 obtain ⟨⟨cls,dd,data,sl⟩,n,ho,hc,hdi,hd⟩:=pl
 obtain ⟨⟨cls2,dd2,data2,sl2⟩,n2,ho2,hc2,hdi2,hd2⟩:=pl2
 simp only at hc hd hc2 hd2
 subst hc hd hc2 hd2
 have e1:=r.length
 have e2:=r2.length
 refine concat_meets ⟨_,ho,rfl⟩ ⟨_,ho2,rfl⟩ noFill_list_add seq_list_add PySem.F.slot_list_add PySem.F.entry_list_add (PySem.F.args_list_add_2 _ _) (list_addW l b its.toArray its2.toArray n n2 dd dd2 sl sl2 (by rw [Qf,Qf];omega)) ⟨ho,ho2,?_⟩
 have ea:its.toArray ++ its2.toArray = (its ++ its2).toArray:=by simp
 rw [ea]
 exact ⟨.ref _,_,I.lnew (t':=s.toks) (r.append r2) (by rw [Qk];omega),rfl,q _ I.fresh⟩
end
structure Df (K:Frag) (mg:Str->Option Value) (x:Str) (st:Stmt) (ps:List Str):Prop where
 ex:∃ (f:Addr) (fd:FuncData),Fun K x x st f fd/\Binds K fd ps []/\mg x = some (.ref f)
structure Cal (P:Program) (w:World) (K:Frag) (mg:Str->Option Value) (base:Heap) (k:Nat) (x:Str) (ps:List Str) (sp:Sp):Prop where
 ex:∃ (f:Addr) (fd:FuncData),FnOk P w K mg base CX0 k f fd ps sp/\PySem.W.keepIn K (.ref f) = true/\Binds K fd ps []/\mg x = some (.ref f)
variable {f:Addr} {sl:Array (Option Value)} {K:Frag} {h:Heap} {ps:List Str} {k:Nat} {an od:Option Addr} {P:Program} {sp:Sp} {st:Stmt} {x:Str} {mg:Str->Option Value} {cd ct dc oc pm:Value} {w:World}
section
variable {base:Heap}
theorem Df.ok {N:List Str} (D:Df K mg x st ps) (S:FnScope N ps (qc st)) (len:∀ vs H Q E,sp vs H Q E->vs.length = ps.length)
 (hbody:∀ (f:Addr) (cdv:Value) (A:Around) (outer:List Env) (s:Shared) (H:Hp) (vs:List V) (Q:VK) (E:XK),Room k (A.deeper (envOfC x (qc st) s.heap.objs.size f cdv))->sp vs H Q E->
 ∃ t,PSs (qQ CX0 P w K mg base N x (qc st) f cdv A outer s H E).nox (qi st) t/\t { nx:=fun _ H'=>Q .non H',rt:=Q } (start N vs) H):Cal P w K mg base (k + 1) x ps sp:=by
 obtain ⟨f,fd,F,b,g⟩:=D.ex
 exact ⟨⟨f,fd,F.ok S len (hbody f),F.kp,b,g⟩⟩
theorem qE (X:K.In h) (G:h.Ns mainGlobals mg) {kV:Value}
 (a:PySem.W.nsIn K mainGlobals x = some (some (.ref f)))
 (l:K.lookup f = some ⟨oc,od,.func (PySem.W.fnOf x x (qy st) (qi st) (qc st) .none kV dc pm an cd ct),sl⟩) (c:PySem.W.codeIn K cd x = true) (k:PySem.W.keepIn K (.ref f) = true)
 (hb:∀ (kV doc pm:Value) (an:Option Addr) (cdv ct:Value) (us:List Value),us.length = ps.length->bindArgs (PySem.W.fnOf x x (qy st) (qi st) (qc st) .none kV doc pm an cdv ct) ⟨us,[]⟩ = pure (ps.zip us)):Df K mg x st ps:=by
 have F:=zb9 (st:=st) l c k
 exact ⟨⟨f,_,F,F.binds hb,PySem.W.mg_of X G a⟩⟩
end
section
theorem zhe (X:K.In h) (G:h.Ns mainGlobals mg) {kV:Value}
 (a:PySem.W.nsIn K mainGlobals "law" = some (some (.ref f)))
 (l:K.lookup f = some ⟨oc,od,.func (PySem.W.fnOf "law" "law" (qy st) (qi st) (qc st) .none kV dc pm an cd ct),sl⟩) (c:PySem.W.codeIn K cd "law" = true) (k:PySem.W.keepIn K (.ref f) = true)
 (hb:∀ (kV dc pm:Value) (an:Option Addr) (cd ct:Value) (s:Shared) (u:Value),BindsTo s (PySem.W.fnOf "law" "law" (qy st) (qi st) (qc st) .none kV dc pm an cd ct) ⟨[u],[]⟩ [("script",u)]) :
  ∃ (f:Addr) (fd:FuncData),Fun K "law" "law" st f fd/\mg "law" = some (.ref f)/\∀ (s:Shared) (u:Value),BindsTo s fd ⟨[u],[]⟩ [("script",u)]:=
 ⟨f,_,zb9 (st:=st) l c k,PySem.W.mg_of X G a,fun s u=>hb _ _ _ _ _ _ s u⟩
end
variable {pos:Pos}
section
variable {p:Pos} {e:Expr} {es:List Expr} {t:TA}
theorem zg2 (C:Cal X.prog X.w X.K X.mg X.base k x ps sp) (hr:Room k X.A) (hg:Gl X x) (ha:PA X (e :: es) t) (hdb:(x == ("__debug__":Str)) = false:=by decide)
  (he:starEach (e :: es) X.env = (false,eval e X.env) :: starEach es X.env:=by rfl) (hpl:(backTo pos (starEach es X.env)).any (·.1) = false:=by rfl) :
  PE X (.Call (.Name x p) (e :: es) [] pos) (zfb sp [] E0 t):=by
 obtain ⟨f,fd,F,kp,b,g⟩:=C.ex
 exact zfH F hr hg g kp b .nil zid ha hdb he hpl
end
theorem Bnd.of (h1:-(10 ^ n:Int) < i) (h2:i < 10 ^ n):Bnd n i:=by
 unfold Bnd
 have:((10 ^ n:Nat):Int) = (10:Int) ^ n:=by simp
 omega
theorem Bnd.hi (h:Bnd n i):i < 10 ^ n:=by
 unfold Bnd at h
 have:((10 ^ n:Nat):Int) = (10:Int) ^ n:=by simp
 omega
theorem Bnd.lo (h:Bnd n i):-(10 ^ n:Int) < i:=by
 unfold Bnd at h
 have:((10 ^ n:Nat):Int) = (10:Int) ^ n:=by simp
 omega
theorem Bnd.gcd {a b:Int} (h:0 < b) (k:Bnd n b):Bnd n ((Int.gcd a b:Nat):Int):=by
 unfold Bnd at *
 have h1:((Int.gcd a b:Nat):Int) ∣ b:=Int.gcd_dvd_right ..
 have h2:((Int.gcd a b:Nat):Int)<=b:=Int.le_of_dvd h h1
 omega
noncomputable abbrev zu:List Value:=[.type "ValueError",.type "Exception",.type "BaseException",.type "object"]
structure ExcAt (K:Frag) (mg:Str->Option Value) (x:Str) (C:Addr):Prop where
 bound:mg x = some (.ref C)
 obj:∀ h:Heap,K.In h->∃ bm N nm q bs hdct sn sub ab col dd k0 k1 k2 k3 k5 mN,h.get? C = some (excClassObj nm q C N bs bm hdct sn sub ab col dd k0 k1 k2 k3 k5 "ValueError.__new__")/\h.Ns N mN/\mN "__init__" = none/\OwnTail h zu bm
noncomputable def zz (es:Array DictEntry):Bool:=es.toList.all (fun e=>match e.key with | .str _ _=>true | _=>false)
theorem zcJ (X:K.In h) {N:Addr} {n:Str} {c:Value} {d:Option Addr} {es:Array DictEntry} {ep:Nat} (l:K.lookup N = some ⟨c,d,.dict es ep,sl⟩) (sk:zz es = true)
 (q:PySem.W.nsIn K N n = some none):∃ mN,h.Ns N mN/\mN n = none:=by
 have ho:=X _ _ l
 have hi:h.isNs N = true:=by
  unfold Heap.isNs
  rw [ho]
  unfold zz at sk
  rw [Array.all_toList] at sk
  exact sk
 refine ⟨h.nsMap N,Heap.Ns.of_isNs hi,?_⟩
 obtain ⟨o,es',ep',ho',hd',_,hf⟩:=Heap.Ns.of_isNs hi
 rw [← hf n]
 rw [ho] at ho'
 cases ho'
 cases hd'
 unfold PySem.W.nsIn at q
 rw [l] at q
 dsimp only at q
 unfold nsFind findBy
 cases e:es.toList.find? (·.key.isStr n) with
 | some e'=>rw [e] at q;cases q
 | none=>
  have:es.find? (fun e=>e.key.isStr n) = none:=by
   rw [← Array.find?_toList];exact e
  simp [this]
variable {H:Hp}
theorem ObjOk.there {a:Addr} {o:HO} (x:ObjOk P w H h a o):∃ u,h.get? a = some u:=by
 cases o with
 | lst xs=>obtain ⟨_,_,_,_,e⟩:=x;exact ⟨_,e⟩
 | tup xs=>obtain ⟨_,_,_,⟨ob,e,_⟩,_⟩:=x;exact ⟨_,e⟩
 | dK kvs=>obtain ⟨_,_,_,_,o,_,_,e,_⟩:=x;exact ⟨_,e⟩
 | dT kvs=>obtain ⟨_,_,_,_,o,_,_,e,_⟩:=x;exact ⟨_,e⟩
 | set S n=>obtain ⟨o,_,_,_,e,_⟩:=x;exact ⟨_,e⟩
 | ins C dx fs=>obtain ⟨_,_,_,e,_⟩:=x;exact ⟨_,e⟩
 | own y=>obtain ⟨_,e⟩:=x;exact ⟨_,e⟩
 | xd fs=>obtain ⟨_,⟨_,_,_,e,_⟩,_⟩:=x;exact ⟨_,e⟩
 | rng lo hi=>obtain ⟨_,_,_,e⟩:=x;exact ⟨_,e⟩
 | frz ob u=>obtain ⟨e,_⟩:=x;exact ⟨_,e⟩
 | tbl ps=>exact ⟨_,(show h.get? a = some _ from x)⟩
 | met f y=>exact ⟨_,(show h.get? a = some _ from x)⟩
 | ext φ=>obtain ⟨_,⟨_,e⟩,_⟩:=x;exact ⟨_,e⟩
noncomputable def CXC (P:Program) (w:World) (C:Addr):CXT:=fun l H s E ev s'=>∃ (e t:Addr) (B:Heap) (H':Hp),ev = .ref e/\Heap.FlyingW B l e (.ref C) (.ref t) s'.heap/\s'.os = s.os/\AllBare s'.gens /\
 Un (frs l) [] H H' s.heap s'.heap/\HOk P w H' s'.heap/\(∀ b o,s'.heap.get? b = some o->b ∉ frs l->(H' b ≠ none\/∃ o',s.heap.get? b = some o')->B.get? b = some o)/\(∀ b ∈ frs l,H' b = none)/\E (.ref C) none H'
noncomputable abbrev Cx.suite (X:Cx) (ev:Addr):Cx:={ X with A:=X.A.mark (some (.ref ev)),calm:=false,xe:=fun _ _=>False }
variable {s:Shared}
section
variable {pins:List (Addr × Obj)} {σ:St} {ev:Addr}
theorem Inv.unsuite (ok:X.Ok) (I:Inv (X.suite ev) pins σ H s):Inv X pins σ H s:=⟨ok,I.os,I.bare,I.base,I.loc,I.cell,I.free,I.freeC,I.pin,I.hok,I.len⟩
end
theorem zeX (x:V) (f:yx x = true):eqV x x = true:=by
 cases x with
 | non=>rfl
 | bl b=>simp [eqV]
 | int i=>simp [eqV]
 | str z=>simp [eqV]
 | _=>exact absurd (show false = true from f) Q4
section
def CDivS (_ j:Int):Prop:=j ≠ 0/\∃ n,Bnd n j/\n<=2000
theorem CDivS.ok (h:CDivS i j):Builtin.divisionGoesByPylong i j = false:=by
 obtain ⟨h0,n,h1,h2⟩:=h
 refine PyProof.noPylong_of_log2 ?_
 have hz:j.natAbs ≠ 0:=by omega
 have e:(2:Nat) ^ (4 * n) = 16 ^ n:=by rw [Nat.pow_mul]
 have h3:j.natAbs < 2 ^ (4 * n):=by
  rw [e]
  exact Q5 h1 (Nat.pow_le_pow_left (by decide) n)
 have h4:j.natAbs.log2 < 4 * n:=(Nat.log2_lt hz).mpr h3
 omega
theorem zeB:OpR X (binaryOp .FloorDiv) (rI CDivS fun i j=>.int (i.fdiv j)):=opI fun _ _ _ _ _ _ _ hc q=>floordiv_int hc.1 q (.inl hc.ok)
end
structure CalX (P:Program) (w:World) (K:Frag) (mg:Str->Option Value) (base:Heap) (C:Addr) (k:Nat) (x:Str) (ps:List Str) (sp:Sp):Prop where
 ex:∃ (f:Addr) (fd:FuncData),FnOk P w K mg base (CXC P w C) k f fd ps sp/\PySem.W.keepIn K (.ref f) = true/\Binds K fd ps []/\mg x = some (.ref f)
theorem zN {name:Str} {acc:List (Str × Addr)} {c:Addr} (e:((name,n) :: acc).lookup x = some c):(x = name/\c = n)\/acc.lookup x = some c:=by
 rw [lookup_cons] at e
 split at e
 ·rename_i h;cases e;exact .inl ⟨eq_of_beq h,rfl⟩
 ·exact .inr e
theorem zcg:∀ (names:List (Str × NameKind)) (n:Nat) (acc:List (Str × Addr)),(∀ x y c,acc.lookup x = some c->acc.lookup y = some c->x = y)->(∀ x c,acc.lookup x = some c->c < n)->∀ x y c,(cellsFrom n names acc).lookup x = some c->(cellsFrom n names acc).lookup y = some c->x = y
 | [],_,_,h,_,x,y,c,e1,e2=>h x y c e1 e2
 | (name,kind) :: r,n,acc,h,lt,x,y,c,e1,e2=>by
  unfold cellsFrom at e1 e2
  split at e1
  ·rename_i hk
   rw [if_pos hk] at e2
   refine zcg r (n + 1) ((name,n) :: acc) (fun x y c f1 f2=>?_) (fun x c f=>?_) x y c e1 e2
   ·rcases zN f1 with ⟨g1,g2⟩ | g1 <;> rcases zN f2 with ⟨g3,g4⟩ | g3
    ·rw [g1,g3]
    ·subst g2;exact absurd (lt _ _ g3) (Ql _)
    ·subst g4;exact absurd (lt _ _ g1) (Ql _)
    ·exact h x y c g1 g3
   ·rcases zN f with ⟨g1,g2⟩ | g1
    ·subst g2;exact Nat.lt_succ_self _
    ·exact Nat.lt_succ_of_lt (lt _ _ g1)
  ·rename_i hk
   rw [if_neg hk] at e2
   exact zcg r n acc h lt x y c e1 e2
theorem zdp {x:Str} {c:Addr}:∀ (names:List (Str × NameKind)) (n:Nat) (acc:List (Str × Addr)),(cellsFrom n names acc).lookup x = some c->acc.lookup x = some c\/n<=c
 | [],_,_,e=>.inl e
 | (name,kind) :: r,n,acc,e=>by
  unfold cellsFrom at e
  split at e
  ·rcases zdp r (n + 1) _ e with f | f
   ·rcases zN f with ⟨_,g⟩ | g
    ·exact .inr (Nat.le_of_eq g.symm)
    ·exact .inl g
   ·exact .inr (by omega)
  ·exact zdp r n acc e
theorem zdq {x:Str} {c:Addr} {lo:Nat}:∀ (names:List (Str × NameKind)) (n:Nat) (acc:List (Str × Addr)),lo<=n->(∀ c,acc.lookup x = some c->lo<=c)->(cellsFrom n names acc).lookup x = some c->lo<=c
 | [],_,_,_,h,e=>h _ e
 | (name,kind) :: r,n,acc,hn,h,e=>by
  unfold cellsFrom at e
  split at e
  ·refine zdq r (n + 1) _ (Nat.le_succ_of_le hn) (fun c f=>?_) e
   rcases zN f with ⟨_,g⟩ | g
   ·subst g;exact hn
   ·exact h _ g
  ·exact zdq r n acc hn h e
theorem zce {x:Str} {c:Addr}:∀ (names:List (Str × NameKind)) (n:Nat) (acc:List (Str × Addr)),names.lookup x = some .cell->(cellsFrom n names acc).lookup x = some c->n<=c
 | [],_,_,h,_=>by cases h
 | (name,kind) :: r,n,acc,h,e=>by
  unfold cellsFrom at e
  rw [lookup_cons] at h
  split at h
  ·rename_i hx
   cases h
   rw [if_pos (show (NameKind.cell == NameKind.cell) = true from rfl)] at e
   refine zdq r (n + 1) _ (Nat.le_succ _) (fun c f=>?_) e
   rw [lookup_cons,hx] at f
   cases f;exact Q3 _
  ·split at e
   ·exact Nat.le_of_succ_le (zce r (n + 1) _ h e)
   ·exact zce r n acc h e
theorem zcf {x:Str}:∀ (names:List (Str × NameKind)) (n:Nat) (acc:List (Str × Addr)),(∀ y ∈ names,y.2 = .cell->y.1 ≠ x)->(cellsFrom n names acc).lookup x = acc.lookup x
 | [],_,_,_=>rfl
 | (name,kind) :: r,n,acc,h=>by
  unfold cellsFrom
  split
  ·rename_i hk
   rw [zcf r (n + 1) _ fun y hy=>h y (mem_cons_of_mem _ hy),lookup_cons]
   have:(x == name) = false:=by
    cases q:x == name with
    | false=>rfl
    | true=>exact absurd (eq_of_beq q).symm (h (name,kind) mem_cons_self (eq_of_beq hk))
   rw [this]
  ·exact zcf r n acc fun y hy=>h y (mem_cons_of_mem _ hy)
theorem za9:∀ (names:List (Str × NameKind)) (h:Heap) (acc:List (Str × Addr)),(∀ x c,acc.lookup x = some c->∃ v,h.IsCell c v)->∀ x c,(cellsFrom h.objs.size names acc).lookup x = some c->∃ v,(pushCells h names).IsCell c v
 | [],_,_,k,x,c,e=>k x c e
 | (name,kind) :: r,h,acc,k,x,c,e=>by
  unfold cellsFrom at e
  unfold pushCells
  split at e
  ·rename_i hk
   rw [if_pos hk]
   refine za9 r (h.push { cls:=.type "cell",data:=.cell none }) ((name,h.objs.size) :: acc) (fun x c f=>?_) x c (by rw [Heap.size_push];exact e)
   rcases zN f with ⟨_,g⟩ | g
   ·subst g;exact ⟨none,_,Qi _ rfl,rfl⟩
   ·obtain ⟨v,q⟩:=k x c g
    exact ⟨v,q.keeps fun b o e=>Q2 _ e⟩
  ·rename_i hk
   rw [if_neg hk]
   exact za9 r h acc k x c e
variable {A:Around} {cl:List (Str × Addr)} {scope:Scope}
theorem zK {M:Model} {E:Value->Shared->Prop} {globals:Addr} {qual:Str} {env:Env} {builtins:Addr} {Q:Env->Shared->Prop}
 (hQ:∀ h',h'.Ns s.heap.objs.size (fun _=>none)->h' = pushCells (s.heap.push { cls:=.type "dict",data:=.dict #[] }) scope.names->
 Q (newEnv scope s.heap.objs.size globals (cellsFrom (s.heap.objs.size + 1) scope.names cl) qual none .none (some env) builtins) { s with heap:=h' }) :
  wpAny M A (newFunctionEnv scope globals cl [] qual none .none (some env) builtins) Q E s:=by
 simp only [newFunctionEnv,Option.isSome_some,if_true]
 refine Q1 (wpAny_alloc ?_)
 refine Q1 (wpAny_layCells _ (fun name kind cells=>by cases hkc:kind == NameKind.cell <;> simp [hkc]) _ _ _ _ ?_)
 rw [show ({ s with heap:=s.heap.push { cls:=.type "dict",data:=.dict #[] } }:Shared).heap.objs.size = s.heap.objs.size + 1 from Heap.size_push ..]
 refine Q1 ?_
 rw [List.forIn_nil]
 exact Qd (Qd (hQ _ ((Heap.Ns.new s.heap (.type "dict")).keeps (pushCells_keeps _ _)) rfl))
noncomputable def zcm (scope:Scope) (cl:List (Str × Addr)) (C:Addr) (env:Env):Env:={ compEnvC scope cl C env with cells:=cellsFrom (C + 1) scope.names cl }
noncomputable def Cx.block (X:Cx) (scope:Scope) (cl:List (Str × Addr)) (N:List Str) (ex:List Addr) (s0:Shared) (H0:Hp):Cx where
 prog:=X.prog
 w:=X.w
 K:=X.K
 mg:=X.mg
 base:=X.base
 A:=X.A
 N:=N
 s₀:=s0
 H₀:=H0
 env:=zcm scope cl s0.heap.objs.size X.env
 outer:=X.stack
 stack:=X.stack
 ex:=ex
 fn:=fun x=>scope.names.lookup x == some .cell
 calm:=X.calm
 pn:=[]
 xe:=fun _ _=>False
def PTs (X:Cx) (ifs:List Expr) (t:TT):Prop:=
 ∀ (pins:List (Addr × Obj)) (s:Shared) (σ:St) (H:Hp) (Q:Bool->Hp->Prop),Inv X pins σ H s->t σ H Q->
  wpAny (model X.prog X.w) X.A (forIn ifs true fun c r=>if r = true then do let ok ← isTrue c X.env (eval c X.env);pure (ForInStep.yield ok) else pure (ForInStep.yield r)) (TP X pins σ Q) X.xe s
noncomputable def zhW:TT:=fun _ H Q=>Q true H
theorem zfx:PTs X [] zhW:=fun _ _ _ H _ I h=>wpAny_tests_nil ⟨H,I,h⟩
theorem zfw {c:Expr} {t:TT} (h:PT X c t):PTs X [c] t:=fun pins s σ H Q I hq=>wpAny_tests_one (h pins s σ H Q I hq)
noncomputable def qU (tgs:List Str) (caps:List (Str × Nat)) (σ:St):St:=tgs.map (fun _=>none) ++ caps.map fun c=>(σ[c.2]?).join
noncomputable def zfa (wi:TI) (g:TG) (tc:TT) (te:TE) (σ0:St->St):TE:=fun σ H Q=>wi σ H fun J H1=>∀ D,H1 D = none->∃ W:Nat->Nat->St->Hp->Prop,(∃ m,W 0 m (σ0 σ) (upd H1 D (.lst [])))/\∀ i m σ' H',W i m σ' H'->
 (J.stop i H'/\Q (.ref D) H')\/(J.go i H'/\∃ N:St->Hp->Prop,(∀ σ'' H'',N σ'' H''->∃ m',m' < m/\W (i + 1) m' σ'' H'')/\∀ x H2,J.yld i H' x H2->g x σ' H2 fun σ2 H3=>tc σ2 H3 fun b H4=>
  if b = true then te σ2 H4 fun v H5=>∃ ys,H5 D = some (.lst ys)/\ys.length < sizeLine/\N σ2 (upd H5 D (.lst (ys ++ [v]))) else N σ2 H4)
variable {elt iter:Expr} {ifs:List Expr}
theorem y6 {prog:Program} {R:Result->Shared->Prop} {target:Expr} {it acc:Value} {env:Env} (I:Nat->Shared->Prop)
 (turn:∀ n s,I n s->wpAny (model prog w) A (pyNext it) (fun r s₁=>match r with
 | none=>R (.ok .next) s₁
 | some v=>wpAny (model prog w) A (letOwnedTupleGo target it v) (fun _ s₁'=>wpAny (model prog w) A (assign target env v) (fun _ s₂=>
 wpAny (model prog w) A (forIn ifs true fun c r=>if r = true then do let ok ← isTrue c env (eval c env);pure (ForInStep.yield ok) else pure (ForInStep.yield r)) (fun ok s₃=>
 if ok = true then wpAny (model prog w) A (eval elt env) (fun x s₄=>
 wpAny (model prog w) A (call (.builtin "list.append") [acc,x]) (fun _ s₅=>∃ m,m < n/\I m s₅) (notedBy (model prog w) A env fun e s'=>R (.error e) s') s₄) (notedBy (model prog w) A env fun e s'=>R (.error e) s') s₃
 else ∃ m,m < n/\I m s₃) (notedBy (model prog w) A env fun e s'=>R (.error e) s') s₂) (notedBy (model prog w) A env fun e s'=>R (.error e) s') s₁') (notedBy (model prog w) A env fun e s'=>R (.error e) s') s₁) (notedBy (model prog w) A env fun e s'=>R (.error e) s') s)
 (n:Nat) (h:I n s):codeAny (model prog w) A (.compLoop (.ListComp elt [⟨target,iter,ifs,0⟩] scope pos) 0 it acc env) R s:=by
 refine codeAny_loop rfl I (fun n s hI=>?_) n h
 show wpAny _ A ((compTurn (.ListComp elt [⟨target,iter,ifs,0⟩] scope pos) 0 it acc env).onRaise (fun x=>do noteFrame x env;theTreesLotGoes x)) _ _ s
 refine wpAny_noted ?_
 rw [compTurn_list]
 refine Q1 (wpAny_standAt (Q1 (Qe (turn n s hI) (fun r s₁ h₁=>?_) fun _ _ h'=>h')))
 cases r with
 | none=>exact Qd h₁
 | some v=>
  refine Q1 (Qe h₁ (fun _ s₁' h₁'=>?_) fun _ _ h'=>h')
  refine Q1 (Qe h₁' (fun _ s₂ h₂=>Q1 (Qe h₂ (fun ok s₃ h₃=>?_) fun _ _ h'=>h')) fun _ _ h'=>h')
  cases ok with
  | false=>exact Qd ⟨rfl,h₃⟩
  | true=>
   exact Q1 (Q1 (Qe h₃ (fun x s₄ h₄=>Q1 (Qe h₄ (fun _ s₅ h₅=>Qd (Qd ⟨rfl,h₅⟩)) fun _ _ h'=>h')) fun _ _ h'=>h'))
variable {tg:Expr} {wi:TI}
section
theorem zfF {tgs:List Str} {caps:List (Str × Nat)} {g:TG} {tc:TT} {te:TE}
 (hc:X.calm = true) (hi:PI X tg iter wi) (hclos:closureFor scope X.env = pure cl) (hcell:∀ y ∈ scope.names,y.2 = .cell->y.1 ∉ caps.map (·.1)) (hkind:scope.kind = .function)
 (hnames:∀ y ∈ scope.names,y.2 = .local->scope.names.lookup y.1 = some .local)
 (hcl:∀ y c,cl.lookup y = some c->X.env.cells.lookup y = some c)
 (hhas:∀ n y,((relabel scope X.env).names.lookup y = some .cell\/(relabel scope X.env).names.lookup y = some .free)->∃ c,(cellsFrom n scope.names cl).lookup y = some c)
 (hcap:∀ c ∈ caps,X.N[c.2]? = some c.1/\X.env.kindOf c.1 = some .cell/\((relabel scope X.env).names.lookup c.1 = some .cell\/(relabel scope X.env).names.lookup c.1 = some .free))
 (hg:∀ ex s0 H0,PG (X.block scope cl (tgs ++ caps.map (·.1)) ex s0 H0) tg g) (hif:∀ ex s0 H0,PTs (X.block scope cl (tgs ++ caps.map (·.1)) ex s0 H0) ifs tc) (hel:∀ ex s0 H0,PE (X.block scope cl (tgs ++ caps.map (·.1)) ex s0 H0) elt te)
 (hs:∀ x,foldedSetIterable iter X.env x = pure x:=by intro _;rfl) :
  PE X (.ListComp elt [⟨tg,iter,ifs,0⟩] scope pos) (zfa wi g tc te (qU tgs caps)):=by
 intro pins s σ H Q I h
 rw [eval_ListComp]
 refine wpAny_comprehension_free (use:=none) rfl hs hclos hkind hnames (thn (hi pins s σ H _ I h) fun v s1 h1=>thn h1 fun itv s2 h2=>?_)
 obtain ⟨it,fp,tn,J,H2,e,I2,T,st2,f2,hrest⟩:=h2
 subst e
 -- the new list
 have hD:H2 s2.heap.objs.size = none:=I2.fresh
 obtain ⟨W,⟨m0,w0⟩,turn⟩:=hrest _ hD
 refine wpAny_newObj_type ?_ (by show 0<=sizeLine;decide)
 have I3:Inv X pins σ (upd H2 s2.heap.objs.size (.lst [])) { s2 with heap:=s2.heap.push { cls:=.type "list",data:=.seq ([]:List Value).toArray } }:=I2.lnew (t':=s2.toks) (ys:=[]) (its:=[]) .nil (by show 0<=sizeLine;decide)
 generalize hs3:({ s2 with heap:=s2.heap.push { cls:=.type "list",data:=.seq ([]:List Value).toArray } }:Shared) = s3 at I3
 have lt2:∀ b o,s2.heap.get? b = some o->s3.heap.get? b = some o:=fun b o e=>by rw [← hs3];exact Q2 _ e
 have sz3:s2.heap.objs.size < s3.heap.objs.size:=by rw [← hs3];show _ < (s2.heap.push _).objs.size;rw [Heap.size_push];exact Nat.lt_succ_self _
 have st3:tn 0 s3.heap:=T.keep 0 _ _ st2 fun b _ o e=>lt2 b o e
 have fplt:∀ b ∈ fp,b < s2.heap.objs.size:=fun b hb=>by
  obtain ⟨o,e,_⟩:=T.obj 0 _ st2 b hb
  exact Qc e
 generalize hH3:upd H2 s2.heap.objs.size (.lst []) = H3 at I3 w0
 have fr3:∀ b ∈ fp,H3 b = none:=fun b hb=>by rw [← hH3,yc (Qh (fplt b hb))];exact (f2 b hb).1
 have nstk:∀ b ∈ fp,b ∉ frs X.stack:=fun b hb z=>by
  obtain ⟨_,n1,n2,_⟩:=f2 b hb
  rcases mem_cons.mp (I2.stkSub b z) with z | z
  ·exact n1 z
  ·exact n2 z
 refine zK fun h4 ns4 sb4=>?_
 have keep4:∀ b o,s3.heap.get? b = some o->h4.get? b = some o:=fun b o e=>by rw [sb4];exact pushCells_keeps _ _ b o (Q2 _ e)
 have clt:∀ x c,cl.lookup x = some c->c < s3.heap.objs.size:=fun x c e=>by
  obtain ⟨v,q⟩:=I3.cell x c (hcl x c e)
  exact q.lt
 have cor:∀ x c,(cellsFrom (s3.heap.objs.size + 1) scope.names cl).lookup x = some c->cl.lookup x = some c\/s3.heap.objs.size + 1<=c:=fun x c e=>zdp _ _ _ e
 have cne:∀ b ∈ fp,∀ x c,(cellsFrom (s3.heap.objs.size + 1) scope.names cl).lookup x = some c->c ≠ b:=fun b hb x c e=>by
  rcases cor x c e with e | e
  ·exact (f2 b hb).2.2.2.2.1 x c (hcl x c e)
  ·exact Nat.ne_of_gt (Q5 (Nat.lt_trans (fplt b hb) sz3) (Nat.le_of_succ_le e))
 have neC:∀ b ∈ fp,b ≠ s3.heap.objs.size:=fun b hb=>Qh (Nat.lt_trans (fplt b hb) sz3)
 have ok':(X.block scope cl (tgs ++ caps.map (·.1)) fp s3 H3).Ok:=
  ⟨I.ok.mod,hkind,I.ok.glob,I.ok.blt,Q3 _,zcg _ _ _ (fun x y c e1 e2=>I.ok.inj x y c (hcl x c e1) (hcl y c e2)) (fun x c e=>Nat.lt_succ_of_lt (clt x c e)),hhas _,(fun x c z e=>Nat.le_of_succ_le (zce _ _ _ (eq_of_beq z) e)),I.ok.hd,I.ok.frames,.inl rfl,
   fun b hb=>⟨neC b hb,cne b hb⟩,I3.bs,Qg I.ok.bsz I3.sz,fun b o e hb=>by
    rcases (f2 b hb).2.2.2.1 with z | z
    ·exact I.ok.noex b o e z
    ·exact absurd (Q5 (Qc e) (Qg I.ok.bsz z)) (Ql _),
   nstk,I3.stack,I3.stkFree⟩
 have I4:Inv (X.block scope cl (tgs ++ caps.map (·.1)) fp s3 H3) [] (qU tgs caps σ) H3 { s3 with heap:=h4 }:=by
  refine ⟨ok',rfl,I3.bare,Un.kept keep4,⟨_,ns4,fun i x v e1 e2 e3=>?_⟩,fun x c e=>?_,I3.hok.fresh (Q3 _),fun x c e=>(cor x c e).elim (fun e=>I3.freeC x c (hcl x c e)) (fun e=>I3.hok.fresh (Nat.le_of_succ_le e)),fun p hp=>by simp [Cx.block] at hp,I3.hok.kept keep4,by simp [qU,Cx.block]⟩
  ·-- a captured name
   have hlen:(tgs.map (fun _=>(none:Option V))).length = tgs.length:=by simp
   by_cases hi:i < tgs.length
   ·have:(qU tgs caps σ)[i]? = some none:=by
     unfold qU
     rw [Q6 (by simpa using hi)]
     simp [hi]
    rw [this] at e2
    cases e2
   ·have e1':(tgs ++ caps.map (·.1))[i]? = some x:=e1
    rw [Q7 (by omega),Qa] at e1'
    have e2':=e2
    unfold qU at e2'
    rw [Q7 (by simpa using hi),hlen,Qa] at e2'
    cases hcq:caps[i - tgs.length]? with
    | none=>rw [hcq] at e1';cases e1'
    | some cq=>
     rw [hcq] at e1' e2'
     have ex:cq.1 = x:=Qb e1'
     have ev:(σ[cq.2]?).join = some v:=Qb e2'
     obtain ⟨c1,c2,c3⟩:=hcap cq (Q9 hcq)
     have ev':σ[cq.2]? = some (some v):=by
      cases q:σ[cq.2]? with
      | none=>rw [q] at ev;cases ev
      | some o=>rw [q] at ev;cases o with
       | none=>cases ev
       | some v'=>rw [show v' = v from Qb ev]
     obtain ⟨m,hn,hl⟩:=I3.loc
     obtain ⟨u,r,lk⟩:=hl cq.2 cq.1 v c1 ev' (.inr (.inl c2))
     rcases lk with ⟨k1,_⟩ | ⟨_,c,ec,icl⟩
     ·rw [c2] at k1;cases k1
     ·obtain ⟨c',ec'⟩:=hhas (s3.heap.objs.size + 1) cq.1 c3
      have ec2:=ec'
      rw [zcf _ _ _ fun y hy hk hyx=>hcell y hy hk (by rw [hyx];exact List.mem_map_of_mem (Q9 hcq))] at ec2
      have:=hcl _ _ ec2
      rw [ec] at this
      cases this
      refine ⟨u,r,.inr ⟨?_,c,?_,?_⟩⟩
      ·rw [← ex];exact c3
      ·rw [← ex];exact ec'
      ·obtain ⟨o,ho,hd⟩:=icl
       exact ⟨o,keep4 _ _ ho,hd⟩
  ·show ∃ v,h4.IsCell c v
   rw [sb4]
   refine za9 scope.names _ cl (fun x c f=>?_) x c (by rw [Heap.size_push];exact e)
   obtain ⟨v,o,ho,hd⟩:=I3.cell x c (hcl x c f)
   exact ⟨v,o,Q2 _ ho,hd⟩
 have stat:∀ {H':Hp},(∀ b ∈ fp,H' b = none)->∀ b ∈ fp,zaD (X.block scope cl (tgs ++ caps.map (·.1)) fp s3 H3) [] H' b:=fun hn b hb=>
  ⟨hn b hb,neC b hb,nstk b hb,.inl hb,cne b hb,fun p hp=>by simp [Cx.block] at hp⟩
 have st4:tn 0 h4:=T.keep 0 _ _ st3 fun b _ o e=>keep4 b o e
 have loop:codeAny (model X.prog X.w) X.A (.compLoop (.ListComp elt [⟨tg,iter,ifs,0⟩] scope pos) 0 (.ref it) (.ref s2.heap.objs.size) (zcm scope cl s3.heap.objs.size X.env))
   (compPost (model X.prog X.w) X.A X.xe none (EP X pins σ Q) (.ref s2.heap.objs.size) s3.heap.objs.size) { s3 with heap:=h4 }:=by
  refine y6 (fun n s'=>∃ i σ' H',Inv (X.block scope cl (tgs ++ caps.map (·.1)) fp s3 H3) [] σ' H' s'/\tn i s'.heap/\(∀ b ∈ fp,H' b = none)/\W i n σ' H') ?_ m0 ⟨0,_,H3,I4,st4,fr3,w0⟩
  rintro n s5 ⟨i,σ5,H5,I5,st5,fr5,w5⟩
  rcases turn i n σ5 H5 w5 with ⟨stop,qn⟩ | ⟨go,N,hN,step⟩
  ·refine Qe (T.done (X.block scope cl (tgs ++ caps.map (·.1)) fp s3 H3) rfl rfl rfl hc i [] s5 σ5 H5 (fun _ _=>False) I5 (stat fr5) st5 stop) (fun r s6 ⟨hr,I6⟩=>?_) fun _ _ z=>False.elim z
   subst hr
   obtain ⟨m6,hn6,_⟩:=I6.loc
   refine ⟨m6,hn6,fun h' sb=>?_⟩
   have nb:∀ b o,s3.heap.get? b = some o->b ≠ s3.heap.objs.size:=fun b o e=>Qh (Qc e)
   have eqb:∀ b,b ≠ s3.heap.objs.size->h'.get? b = s6.heap.get? b:=fun b hb=>sb.2 b hb
   have uX:Un (frs X.stack) fp H3 H5 s3.heap h':=by
    have u:=I6.base
    refine ⟨fun b o e a1 a2 a3=>?_,fun b o e a1 a2 a3=>?_,u.free,fun b o e a3=>?_,u.tups,u.frzs,u.tbls⟩
    ·rw [eqb b (nb b o e)];exact u.keep b o e a1 a2 a3
    ·rw [eqb b (nb b o e)];exact u.slot b o e a1 a2 a3
    ·rw [eqb b (nb b o e)];exact u.there b o e a3
   have hokX:HOk X.prog X.w H5 h':=fun a o e=>(I6.hok a o e).stay (fun b u hb eu=>by
    have hbC:b ≠ s3.heap.objs.size:=fun z=>by
     have hfC:H5 s3.heap.objs.size = none:=I6.free
     rcases hb with rfl | hb
     ·rw [z,hfC] at e;cases e
     ·rw [z,hfC] at hb;cases hb
    rw [eqb b hbC];exact eu) (fun _ q=>q) fun _ _ q=>q
   have os6:s6.os = s3.os:=I6.os
   exact ⟨.ref s2.heap.objs.size,H5,I3.call' (s':={ s6 with heap:=h' }) (ch:=fp) os6 uX hokX I6.bare (fun b hb=>⟨(f2 b hb).2.2.2.1,(f2 b hb).2.1,(f2 b hb).2.2.2.2.1,(f2 b hb).2.2.2.2.2⟩),rfl,qn⟩
  ·refine Qe (T.item (X.block scope cl (tgs ++ caps.map (·.1)) fp s3 H3) rfl rfl rfl hc i [] s5 σ5 H5 (fun _ _=>False) I5 (stat fr5) st5 go) (fun r s6 ⟨u,hr,h6⟩=>?_) fun _ _ z=>False.elim z
   subst hr
   refine Qe h6 (fun _ s7 ⟨x,H7,I7,r7,y7,st7,fr7⟩=>?_) fun _ _ z=>False.elim z
   have I7':=I7.pinned (stat fr7) (T.obj _ _ st7)
   have again:∀ {s9:Shared} {σ9:St} {H9:Hp},Inv (X.block scope cl (tgs ++ caps.map (·.1)) fp s3 H3) ([] ++ zad fp s7.heap) σ9 H9 s9->N σ9 H9->
     ∃ m,m < n/\∃ i σ' H',Inv (X.block scope cl (tgs ++ caps.map (·.1)) fp s3 H3) [] σ' H' s9/\tn i s9.heap/\(∀ b ∈ fp,H' b = none)/\W i m σ' H':=fun {s9 σ9 H9} I9 n9=>by
    obtain ⟨m',hm,w9⟩:=hN σ9 H9 n9
    refine ⟨m',hm,i + 1,σ9,H9,I9.unpinned,T.keep _ _ _ st7 fun b hb o e=>(I9.pin (b,o) (Qj _ (Qj _ (zL hb e)))).1,fun b hb=>?_,w9⟩
    obtain ⟨o,e,d⟩:=T.obj _ _ st7 b hb
    exact (I9.pin (b,o) (Qj _ (Qj _ (zL hb e)))).2.1
   refine Qe (hg fp s3 H3 _ s7 σ5 H7 x u _ I7' r7 (step x H7 y7)) (fun _ s8 ⟨σ8,H8,I8,q8⟩=>?_) fun _ _ z=>False.elim z
   refine Qe (hif fp s3 H3 _ s8 σ8 H8 _ I8 q8) (fun b s9 ⟨H9,I9,q9⟩=>?_) fun _ _ z=>False.elim z
   cases b with
   | false=>
    rw [if_neg Q4] at q9
    rw [if_neg Q4]
    exact again I9 q9
   | true=>
    rw [if_pos rfl] at q9
    rw [if_pos rfl]
    refine Qe (hel fp s3 H3 _ s9 σ8 H9 _ I9 q9) (fun xv s10 ⟨v,H10,I10,rv,ys,hy,hl,q10⟩=>?_) fun _ _ z=>False.elim z
    refine Qe (zdP (X:=X.block scope cl (tgs ++ caps.map (·.1)) fp s3 H3) _ s10 σ8 H10 (.ref s2.heap.objs.size) [v] (.ref s2.heap.objs.size) [xv] (fun _ H11=>N σ8 H11) I10 rfl (.cons rv .nil) ⟨_,ys,v,rfl,rfl,hy,hl,q10⟩) (fun _ s11 ⟨_,H11,I11,_,q11⟩=>again I11 q11) fun _ _ z=>False.elim z
 exact codeAny_compStart_list loop (T.self _ 0 _ _ _ st4 loop)
end
noncomputable def Each {α:Type} (P:α->Prop):List α->Prop
 | []=>True
 | a :: l=>P a/\Each P l
theorem Each.of {α:Type} {P:α->Prop}:∀ {l:List α},Each P l->∀ a ∈ l,P a
 | _ :: _,⟨h,_⟩,_,.head _=>h
 | _ :: _,⟨_,h⟩,_,.tail _ m=>Each.of h _ m
variable {l:List (Str × NameKind)}
theorem lookup_mem {y:Str} {k:NameKind} (h:l.lookup y = some k):(y,k) ∈ l:=by
 induction l with
 | nil=>cases h
 | cons p l ih=>
  obtain ⟨n,k'⟩:=p
  rw [lookup_cons] at h
  cases e:y == n with
  | true=>
   rw [e] at h
   cases h
   rw [eq_of_beq e]
   exact .head _
  | false=>
   rw [e] at h
   exact .tail _ (ih h)
theorem zhq (h:Each (fun p=>(p.2 = .cell\/p.2 = .free)->∃ c,cl.lookup p.1 = some c) l) (y:Str) (q:l.lookup y = some .cell\/l.lookup y = some .free):∃ c,cl.lookup y = some c:=by
 rcases q with q | q
 ·exact h.of _ (lookup_mem q) (.inl rfl)
 ·exact h.of _ (lookup_mem q) (.inr rfl)
theorem PI.or {wi':TI} (h:PI X tg iter wi) (h':PI X tg iter wi'):PI X tg iter (fun σ H R=>wi σ H R\/wi' σ H R):=fun pins s σ H R I q=>q.elim (h pins s σ H R I) (h' pins s σ H R I)
theorem zgo {bs:List Bool} {its:List Value} (r:Vals (bs.map V.bl) its) {i:Nat} {v:Value} (e:its[i]? = some v):∃ b,bs[i]? = some b/\v = .bool b:=by
 have hl:=r.length
 rw [length_map] at hl
 have hi:i < its.length:=(List.getElem?_eq_some_iff.mp e).1
 have eb:bs[i]? = some bs[i]:=by simp [show i < bs.length by omega]
 have em:(bs.map V.bl)[i]? = some (V.bl bs[i]):=by rw [Qa,eb];rfl
 obtain ⟨u,e2,q⟩:=Vals.get r em
 rw [e] at e2
 cases e2
 exact ⟨_,eb,q⟩
theorem range_all (bs:List Bool):(List.range bs.length).all (fun i=>bs.getD i false) = bs.all id:=by
 rw [Bool.eq_iff_iff,all_eq_true,all_eq_true]
 constructor
 ·intro h b hb
  obtain ⟨i,hi,rfl⟩:=getElem_of_mem hb
  have:=h i (mem_range.mpr hi)
  simpa [List.getD,hi] using this
 ·intro h i hi
  have hi':=mem_range.mp hi
  have:=h bs[i] (List.getElem_mem hi')
  simpa [List.getD,hi'] using this
section
theorem zed (hc:X.calm = true):CallR X (.builtin "all") (fun xs H Q=>∃ (p:Addr) (bs:List Bool),xs = [.ref p]/\SqL X.K H p (bs.map V.bl)/\Q (.bl (bs.all id)) H):=by
 intro pins s σ H xs us Q I r h
 obtain ⟨p,bs,rfl,hq,q⟩:=h
 obtain ⟨u,rfl,rx⟩:=vals1 r
 cases rx
 obtain ⟨its,r',pl,hz⟩:=I.list hq
 have hlen:=r'.length
 rw [length_map] at hlen
 refine call_all_walk (wpAny_pyIter_list pl.isList ?_)
 have hlt:p < s.heap.objs.size:=by
  obtain ⟨o,n,ho,_⟩:=pl
  exact Qc ho
 refine ⟨s.heap.objs.size,_,_,_,_,_,fun i=>bs.getD i false,rfl,Walks.list (by exact I.ok.hd hc) _ p (Qh hlt) its.toArray,⟨⟨_,Qi _ rfl,rfl,rfl⟩,?_⟩,?_,fun h' tk hk=>?_⟩
 ·obtain ⟨o,ho,c⟩:=pl.isList
  exact ⟨o,Q2 _ ho,c⟩
 ·intro i v s' Q' E' e hq'
  obtain ⟨b,eb,rfl⟩:=zgo r' (show its[i]? = some v by simpa using e)
  have:bs.getD i false = b:=by simp [List.getD,eb]
  have hq2:Q' (bs.getD i false) s':=hq'
  rw [this] at hq2
  exact wpAny_truthy_bool hq2
 ·have e:(List.range its.toArray.size).all (fun i=>bs.getD i false) = bs.all id:=by
   rw [← range_all bs,show its.toArray.size = bs.length by simp [hlen]]
  rw [e]
  refine ⟨.bl (bs.all id),H,I.kept (t':=tk) (fun b o eb=>hk b o (fun z=>?_) (Q2 _ eb)),rfl,q⟩
  have z':b = s.heap.objs.size:=by simpa using z
  exact absurd (Qc eb) (by rw [z'];exact Ql _)
end
section
noncomputable def zh6 (K:Frag):R2:=fun x y H Q=>∃ a b xs ys,x = .ref a/\y = .ref b/\SqT K H a xs/\SqT K H b ys/\xs.length + ys.length<=sizeLine /\
 (xs = []->Q (.ref b) H)/\(xs ≠ []->ys = []->Q (.ref a) H)/\(xs ≠ []->ys ≠ []->∀ p,H p = none->Q (.ref p) (upd H p (.tup (xs ++ ys))))
theorem zfR:OpR X (binaryOp .Add) (zh6 X.K):=by
 intro pins s σ H x y v u Q I rx ry h
 obtain ⟨a,b,xs,ys,rfl,rfl,ha,hb,hz,q0,q1,q2⟩:=h
 by_cases hx:xs = []
 ·cases rx
  cases ry
  obtain ⟨its,r1,p1,_⟩:=I.tuple ha
  obtain ⟨its2,r2,p2,_⟩:=I.tuple hb
  obtain ⟨⟨cls,dd,data,sl⟩,ho,hc,n,hd⟩:=id p1
  obtain ⟨⟨cls2,dd2,data2,sl2⟩,ho2,hc2,n2,hd2⟩:=id p2
  simp only at hc hd hc2 hd2
  subst hc hd hc2 hd2
  have e:its = []:=r1.nil_iff.mpr hx
  exact concat_meets ⟨_,ho,rfl⟩ ⟨_,ho2,rfl⟩ noFill_tuple_add seq_tuple_add PySem.F.slot_tuple_add PySem.F.entry_tuple_add (PySem.F.args_tuple_add_2 _ _)
   (tuple_addW0 a b its.toArray its2.toArray n n2 dd dd2 sl sl2 (by simp [e])) ⟨ho,ho2,⟨.ref b,H,I,rfl,q0 hx⟩⟩
 ·exact zfP pins s σ H _ _ v u Q I rx ry ⟨a,b,xs,ys,rfl,rfl,ha,hb,hx,hz,q1 hx,q2 hx⟩
end
end L2
namespace HT
open PySem PySem.Spec PyProof.Rows
section
variable {prog:Program} {w:World} {A:Around} {E:Value->Shared->Prop} {s:Shared}
theorem z7 {t sl:Addr} {items:Array Value} {vl vu:Value} {lo hi:Option Int} {Q:Value->Shared->Prop} (ht:IsTup s.heap t items) (hs:s.heap.IsSliceOf sl vl vu .none) (pl:IsPart vl lo) (pu:IsPart vu hi)
  (hw:sIx items.size 0 lo = 0/\sIx items.size items.size hi = items.size) (h:Q (.ref t) s):wpAny (model prog w) A (getItem (.ref t) (.ref sl)) Q E s:=by
 obtain ⟨os,hos,hcs,hds⟩:=id hs
 have hTs:s.TypeIs (.ref sl) "slice":=⟨os,hos,hcs⟩
 unfold getItem
 try with_reducible refine wpAny_holding ?_
 first | refine Q1 (Qd ?_) | skip
 refine Q1 (wpAny_sequenceKey ht.typeIs (by decide) ?_)
 refine Q1 (wpAny_callSpecial?_slot (name:=Str.ofString "__getitem__") ht.typeIs PyProof.Rows.slot_tuple_getitem
  (wpAny_call_entry PyProof.Rows.slot_tuple_getitem ht.typeIs entry_tuple_getitem ?_ (args_tuple_getitem _ _)))
 show wpAny _ _ (Builtin.Tuple.tupleItemsOf (.ref t) >>= _) _ _ s
 refine Q1 (tupleItemsOf_ ht ?_)
 refine Q1 (wpAny_typeOf hTs ?_)
 rw [if_pos (by decide)]
 refine Q1 (zO hs pl pu ?_)
 have hyes:(((sIx items.size 0 lo:Nat):Int) == 0 && (1:Int) == 1 && (sIx items.size items.size hi - sIx items.size 0 lo) == items.size) = true:=by
  rw [hw.1,hw.2];simp
 show wpAny _ _ (if (((sIx items.size 0 lo:Nat):Int) == 0 && (1:Int) == 1 && (sIx items.size items.size hi - sIx items.size 0 lo) == items.size) = true then _ else _) _ _ s
 rw [if_pos hyes]
 refine Q1 ?_
 unfold Builtin.Tuple.tupleIsExact
 refine Q1 (wpAny_typeOf ht.typeIs (Qd ?_))
 rw [if_pos (by decide)]
 exact Q1 (wpAny_rule (Qd ⟨_,rfl,Qd h⟩))
end
end HT
namespace L2
open PySem PySem.Spec PyProof.Rows
section
variable {X:Cx}
noncomputable def ziV (K:Frag):V->Option Int->Option Int->Hp->VK->Prop:=fun x lo hi H Q=>∃ a xs,x = .ref a/\SqT K H a xs /\
 ((HT.sIx xs.length 0 lo = 0/\HT.sIx xs.length xs.length hi = xs.length)->Q (.ref a) H)/\(¬ (HT.sIx xs.length 0 lo = 0/\HT.sIx xs.length xs.length hi = xs.length)->∀ p,H p = none->Q (.ref p) (upd H p (.tup (cutV xs lo hi))))
theorem zfq:SlR X (ziV X.K):=by
 intro pins s σ H x v vl vu lo hi sl Q I rx hs pl pu h
 obtain ⟨a,xs,rfl,hx,q1,q2⟩:=h
 by_cases hw:HT.sIx xs.length 0 lo = 0/\HT.sIx xs.length xs.length hi = xs.length
 ·cases rx
  obtain ⟨its,r,ht,hz⟩:=I.tuple hx
  have hlen:its.toArray.size = xs.length:=by rw [Qf];exact r.length.symm
  refine ⟨"tuple",_,PyProof.Rows.slot_tuple_getitem.lookup,ht.typeIs,?_⟩
  refine HT.z7 ht hs pl pu (by rw [hlen];exact hw) ⟨.ref a,H,I,rfl,q1 hw⟩
 ·exact zgy pins s σ H _ v vl vu lo hi sl Q I rx hs pl pu ⟨a,xs,rfl,hx,hw,q2 hw⟩
theorem zaz:fillsNumberSlot (.type "tuple") "mul" = pure false:=
 PySem.fillsNumberSlot_seq (id:="tuple.__mul__") (r:=some (.builtin "tuple.__rmul__")) PySem.F.slot_tuple_mul.lookup (by decide +kernel) PySem.F.slot_tuple_rmul.lookup (by decide +kernel)
theorem zbS:seqRepeat? (.type "tuple") = pure (some (.builtin "tuple.__mul__")):=by
 unfold seqRepeat?
 rw [PySem.seqSlot_of (T:="tuple") (name:="__mul__") (id:="tuple.__mul__") PySem.F.slot_tuple_mul.lookup (by decide +kernel),PySem.seqSlot_of (T:="tuple") (name:="__rmul__") (id:="tuple.__rmul__") PySem.F.slot_tuple_rmul.lookup (by decide +kernel)]
 rfl
theorem za0 (a:Int) (t:Tok) (l:Addr) (items:Array Value) (n:Nat) (dd:Option Addr) (sl:Array (Option Value)) :
  Meets (Builtin.«int.__rmul__» ⟨[.int a t,.ref l],[]⟩) (fun _ R s=>s.heap.get? l = some { cls:=.type "tuple",dict:=dd,data:=.seq items n,slots:=sl }/\R (.ok (.ret Value.notImplemented)) s):=
 .of_wp fun prog w A R s h=>by obtain ⟨hp,g,d,tk,os⟩:=s;obtain ⟨hl,h⟩:=h;wp_walk;exact ⟨_,rfl,h⟩
theorem zc2 (l:Addr) (items:Array Value) (n:Nat) (x:Int) (u:Tok) (dd:Option Addr) (sl:Array (Option Value)) (h0:items.isEmpty = false) (h1:2<=x) (h2:x < 2 ^ 63) (h3:items.size * x.toNat<=sizeLine) :
  Meets (Builtin.«tuple.__mul__» ⟨[.ref l,.int x u],[]⟩) (fun _ R s=>s.heap.get? l = some { cls:=.type "tuple",dict:=dd,data:=.seq items n,slots:=sl }/\R (.ok (.ret (Value.ref s.heap.objs.size))) { s with heap:=s.heap.push { cls:=Value.type "tuple",data:=Data.seq (List.foldl (fun x1 x2=>x1 ++ x2) #[] (List.replicate x.toNat items)) },toks:=s.toks }):=
 .of_wp fun prog w A R s h=>by
  obtain ⟨hp,g,d,tk,os⟩:=s;obtain ⟨hl,h⟩:=h
  have f1:=AutoSeq1.idx_int
  have hA:¬(decide (x < -2 ^ 63) || decide (x ≥ 2 ^ 63)) = true:=by simp;omega
  have hB:¬(items.isEmpty || x == 1) = true:=by rw [h0];simp;omega
  have hC:¬(decide (x<=0) || items.isEmpty) = true:=by rw [h0];simp;omega
  have hm:((items.size:Nat):Int) * x = ((items.size * x.toNat:Nat):Int):=by
   rw [Int.natCast_mul,Int.toNat_of_nonneg (by omega)]
  have hs2:(sizeLine:Nat)<=(2 ^ 63 - 1) / 8:=by decide
  have hD:¬((items.size:Nat):Int) * x > (2 ^ 63 - 1) / 8:=by rw [hm];omega
  have hE:¬Builtin.Tuple.tupleTooMany (((items.size:Nat):Int) * x) = true:=by
   rw [hm]
   show ¬ decide (((items.size * x.toNat:Nat):Int) > ((sizeLine:Nat):Int)) = true
   rw [decide_eq_true_iff];omega
  have hT:IsTup hp l items:=⟨_,hl,rfl,n,rfl⟩
  wp_walk using wpAny_loadPart' hl
  rw [if_neg hA]
  refine Q1 (tupleItemsOf_ hT ?_)
  show wpAny _ _ (if (items.isEmpty || x == 1) = true then _ else _) _ _ _
  rw [if_neg hB]
  show wpAny _ _ (if (decide (x<=0) || items.isEmpty) = true then _ else _) _ _ _
  rw [if_neg hC]
  show wpAny _ _ (if ((items.size:Nat):Int) * x > (2 ^ 63 - 1) / 8 then _ else _) _ _ _
  rw [if_neg hD]
  show wpAny _ _ (if Builtin.Tuple.tupleTooMany (((items.size:Nat):Int) * x) = true then _ else _) _ _ _
  rw [if_neg hE]
  have hj:(List.foldl (fun x1 x2=>x1 ++ x2) #[] (List.replicate x.toNat items)).size<=sizeLine:=by
   have:=foldl_rep items.toList x.toNat []
   rw [nil_append,Array.toArray_toList] at this
   rw [this,Qf,len_rep,Nat.mul_comm,Array.length_toList]
   exact h3
  exact Q1 (m:=Builtin.Tuple.tupleExact _) (wpAny_newObj_type (Qd ⟨_,rfl,h⟩) hj)
noncomputable def zh3 (K:Frag):R2:=fun x y H Q=>∃ l k xs,x = .ref l/\y = .int k/\SqT K H l xs/\xs ≠ []/\2<=k/\k < 2 ^ 63/\xs.length * k.toNat<=sizeLine /\
 ∀ p,H p = none->Q (.ref p) (upd H p (.tup (List.replicate k.toNat xs).flatten))
theorem zfJ:OpR X (binaryOp .Mult) (zh3 X.K):=by
 intro pins s σ H x y v u Q I rx ry h
 obtain ⟨l,k,xs,rfl,rfl,hH,hx,h1,h2,hz,q⟩:=h
 cases rx
 obtain ⟨t,rfl⟩:=ry
 obtain ⟨its,r,pl,_⟩:=I.tuple hH
 have hl:=r.length
 obtain ⟨⟨cls,dd,data,sl⟩,ho,hc,n,hd⟩:=id pl
 simp only at hc hd
 subst hc hd
 have hlen:its.toArray.size * k.toNat<=sizeLine:=by rw [Qf,← hl];exact hz
 have hne:its.toArray.isEmpty = false:=by
  cases its with
  | nil=>exact absurd (r.nil_iff.mp rfl) hx
  | cons a b=>rfl
 have hnew:List.foldl (fun x1 x2=>x1 ++ x2) #[] (List.replicate k.toNat its.toArray) = (List.replicate k.toNat its).flatten.toArray:=by
  have:=foldl_rep its k.toNat []
  rw [nil_append] at this
  exact this
 refine wpAny_binaryOp_repeat_ref (T:="tuple") (U:="int") (by decide) ⟨_,ho,rfl⟩ (fun s'=>typeIs_int s' k t) zaz F.fills_int_mul F.slot_int_rmul zbS F.slot_int_index.lookup
  (call_meets F.slot_int_rmul (typeIs_int s k t) F.entry_int_rmul (F.args_int_rmul_2 _ _) (za0 k t l its.toArray n dd sl)
   ⟨ho,rfl,⟨_,ho,rfl⟩,call_meets F.slot_tuple_mul ⟨_,ho,rfl⟩ F.entry_tuple_mul (F.args_tuple_mul_2 _ _) (zc2 l its.toArray n k t dd sl hne h1 h2 hlen) ⟨ho,?_⟩⟩)
 rw [hnew]
 refine ⟨.ref s.heap.objs.size,_,I.laid (t':=s.toks) (o:=.tup (List.replicate k.toNat xs).flatten) (fun b ob q=>Q2 _ q) (Q3 _) ?_,rfl,q _ (I.hok.fresh (Q3 _))⟩
 exact ⟨by rw [len_rep,Nat.mul_comm];exact hz,_,r.rep k.toNat,IsTup.new _ _,NoDict.new⟩
end
end L2
namespace L2
open PySem PySem.Spec PyProof.Rows PySem.Builtin PySem.Builtin.ObjectAttr
inductive Tl (h:Heap) (bmB:List Value) (ns:List Str):List Value->Prop
 | base:Tl h bmB ns bmB
 | own {a:Addr} {c:Value} {dd:Option Addr} {cd:ClassData} {sl:Array (Option Value)} {mA:Str->Option Value} {tl:List Value} (e:h.get? a = some ⟨c,dd,.cls cd,sl⟩) (hn:h.Ns cd.ns mA) (no:∀ n ∈ ns,mA n = none) (t:Tl h bmB ns tl):Tl h bmB ns (.ref a :: tl)
variable {C N:Addr} {A:Around} {g:Array GenState} {ab hdct:Bool} {d:Drawn} {h:Heap} {ns sn:List Str} {bm:List Value} {M:Model} {t:Nat} {dd:Option Addr} {col:Option Bool} {k0 k1 k2 k3 k5 y:Option Value} {os:OsState} {n nm q:Str} {mN:Str->Option Value} {newId:String} {E:Value->Shared->Prop}
section
variable {h':Heap} {bmB tl:List Value}
theorem Tl.tail (T:Tl h bmB ns tl) (hi:("__init__":Str) ∈ ns):OwnTail h bmB tl:=by
 induction T with
 | base=>exact .base
 | own e hn no _ ih=>exact .own e hn (no _ hi) ih
theorem Tl.along {Q:Option Value->Shared->Prop} (T:Tl h bmB ns tl) (hm:n ∈ ns) (hB:lookupAlong bmB n = pure y) (hq:Q y ⟨h,g,d,t,os⟩):wpAny M A (lookupAlong tl n) Q E ⟨h,g,d,t,os⟩:=by
 induction T with
 | base=>rw [hB];exact Qd hq
 | own e hn no _ ih=>
  rw [lookupAlong_cons]
  exact Q1 (wpAny_classOwn_cls e hn (by rw [no _ hm];exact ih))
variable {bs:List Value} {sub:List Value} {B:String}
theorem qP {Q:Option Value->Shared->Prop} (hC:h.get? C = some (excClassObj nm q C N bs bm hdct sn sub ab col dd k0 k1 k2 k3 k5 newId)) (hn:h.Ns N mN) (T:Tl h bmB ns bm) (hm:n ∈ ns)
 (hbm:mroOf (.type B) = pure bmB) (hB:typeLookup (.type B) n = pure y) (hq:Q ((mN n).or y) ⟨h,g,d,t,os⟩):wpAny M A (typeLookup (.ref C) n) Q E ⟨h,g,d,t,os⟩:=by
 have hr:lookupAlong bmB n = pure y:=by rw [typeLookup_eq,hbm] at hB;exact hB
 rw [typeLookup_eq]
 refine Q1 (wpAny_mroOf_exc hC ?_)
 rw [lookupAlong_cons]
 refine Q1 (wpAny_classOwn_exc hC hn ?_)
 cases hv:mN n with
 | some v=>rw [hv] at hq;exact Qd hq
 | none=>rw [hv] at hq;exact T.along hm hr hq
end
variable {o:Obj} {prog:Program} {tk:Tok} {Q:Unit->Shared->Prop} {u v:Value} {w:World}
section
variable {name:Str} {x:Addr} {bs:List Value} {sub:List Value}
theorem zcW (hC:h.get? C = some (excClassObj nm q C N bs bm true sn sub ab col dd k0 k1 k2 k3 k5 newId)) (T:Tl h zu ns bm) (hi:("__init__":Str) ∈ ns) (hx:h.get? x = some o) (hc:o.cls = .ref C) (hq:Q () ⟨h,g,d,t,os⟩) :
  wpAny M A (checkBuiltinCall "object.__setattr__" ⟨[.ref x,u,v],[]⟩) Q E ⟨h,g,d,t,os⟩:=by
 have hb:(Value.ref C :: bm).contains (.type "object") = true:=by rw [List.contains_cons,(T.tail hi).hasType PySem.F.store_ValueError.hasOwner,Bool.or_true]
 simp only [checkBuiltinCall,PySem.F.store_ValueError.kind,PySem.F.store_ValueError.split]
 refine Q1 ?_
 unfold isInstance
 repeat (first | (with_reducible refine wpAny_loadPart_at hx ?_;rw [hc]) | (with_reducible refine wpAny_isSubtype_exc hC ?_;rw [hb]) | wp_step)
 exact hq
theorem zcV {Q:Fin->Shared->Prop} (hC:h.get? C = some (excClassObj nm q C N bs bm true sn sub ab col dd k0 k1 k2 k3 k5 newId)) (hn:h.Ns N mN) (T:Tl h zu ns bm) (m2:mN name = none) (hm:name ∈ ns)
 (hB:typeLookup (.type "ValueError") name = pure none) (hx:h.get? x = some o) (hc:o.cls = .ref C) (hnc:∀ c,o.data ≠ .cls c) (hd:o.dict = none)
 (hq:∀ h' tk' dx,h.get? dx = none->dx ≠ x->h'.get? x = some { o with dict:=some dx }->h'.Ns1 dx (fun y=>if y = name then some v else none)->(∀ b ob,b ≠ x->h.get? b = some ob->h'.get? b = some ob)->Q (.done (.ret .none)) ⟨h',g,d,tk',os⟩) :
  wpAny (model prog w) A (Builtin.«object.__setattr__» ⟨[.ref x,.str name tk,v],[]⟩) Q E ⟨h,g,d,t,os⟩:=by
 have hp:∀ l,Tl h zu ns l->refuseLoop (.ref x) "__setattr__" l = pure ():=by
  intro l T
  induction T with
  | base=>exact PySem.F.store_ValueError.passes (.ref x)
  | own _ _ _ _ ih=>rw [refuseLoop_ref];exact ih
 have hp:=hp bm T
 unfold Builtin.«object.__setattr__»
 repeat (first | rw [refuse_eq] | (rw [refuseLoop_ref,hp]) | (with_reducible refine wpAny_loadPart_at hx ?_;rw [hc]) | with_reducible refine wpAny_mroOf_exc hC ?_ | (with_reducible refine qP hC hn T hm PySem.F.store_ValueError.mro hB ?_;rw [m2]) | wp_step)
 rw [hd,if_neg (by simp [typeHasDict])]
 have e1:(h.push ⟨.type "dict",none,.dict #[] 0,#[]⟩).get? x = some o:=Q2 _ hx
 have ne:x ≠ h.objs.size:=Qh (Qc hx)
 have hfr:=(Heap.get?_some_iff.mp hx).2
 have key:wpAny (model prog w) A (do let d ← alloc ⟨.type "dict",none,.dict #[] 0,#[]⟩;update x fun o=>{ o with dict:=some d };dictMade (.ref C) x d) (fun a s'=>wpAny (model prog w) A (match a with | some d=>storeInDict d (Value.str name tk) name v | none=>noDictFor (Value.ref x) (Value.ref C) name (none.or none:Option Value).isSome) Q E s') E ⟨h,g,d,t,os⟩:=by
  refine Q1 (wpAny_alloc' (Q1 (wpAny_update' e1 (Qd ?_))))
  generalize hg2:(h.push ⟨.type "dict",none,.dict #[] 0,#[]⟩).update x (fun o=>{ o with dict:=some h.objs.size }) = h2
  have gd:h2.get? h.objs.size = some ⟨.type "dict",none,.dict #[] 0,#[]⟩:=by
   rw [← hg2];exact (Heap.get?_update_ne _ _ _ _ ne.symm).trans (Heap.get?_push_at rfl rfl)
  have gx:h2.get? x = some { o with dict:=some h.objs.size }:=by
   rw [← hg2]
   refine Heap.get?_update_self _ e1 ?_
   obtain ⟨oc,od,odt,osl⟩:=o
   cases odt <;> first | rfl | exact hfr
  have nd:h2.Ns h.objs.size (fun _=>none):=⟨_,#[],_,gd,rfl,fun e he=>absurd he (by simp),fun _=>rfl⟩
  show wpAny _ _ (storeInDict h.objs.size (.str name tk) name v) _ _ _
  unfold storeInDict newKeyGuard
  refine Q1 (Qd (Q1 (wpAny_nsSet1 (Heap.Ns1.of_empty nd) fun h' n1 hs=>?_)))
  obtain ⟨oD,esD,epD,a1,a2,a3⟩:=n1.count (Within.cons name v Within.nil)
  refine Q1 (wpAny_lookBehind a1 (by rw [a2];exact pastItsLine_dict (Qg a3 (by rw [Qm,length_nil,sizeLine_eq];omega))) ?_)
  wp_walk
  refine hq h' _ h.objs.size (Heap.get?_none_of_le (Q3 _)) ne.symm ((hs.2 x ne).trans gx) n1 fun b ob hb e=>(hs.2 b (Qh (Qc e))).trans ?_
  rw [← hg2]
  exact (Heap.get?_update_ne _ _ _ _ hb).trans (Q2 _ e)
 cases hdt:o.data with
 | cls c=>exact absurd hdt (hnc c)
 | _=>exact key
theorem ziz (hC:h.get? C = some (excClassObj nm q C N bs bm true sn sub ab col dd k0 k1 k2 k3 k5 newId)) (hn:h.Ns N mN) (T:Tl h zu ns bm) (hi:("__init__":Str) ∈ ns) (m1:mN "__setattr__" = none) (hs:("__setattr__":Str) ∈ ns) (m2:mN name = none) (hm:name ∈ ns)
 (hB:typeLookup (.type "ValueError") name = pure none) (hx:h.get? x = some o) (hc:o.cls = .ref C) (hnc:∀ c,o.data ≠ .cls c) (hd:o.dict = none)
 (hq:∀ h' tk' dx,h.get? dx = none->dx ≠ x->h'.get? x = some { o with dict:=some dx }->h'.Ns1 dx (fun y=>if y = name then some v else none)->(∀ b ob,b ≠ x->h.get? b = some ob->h'.get? b = some ob)->Q () ⟨h',g,d,tk',os⟩) :
  wpAny (model prog w) A (setAttr (.ref x) name v) Q E ⟨h,g,d,t,os⟩:=by
 have f3:=PySem.F.store_ValueError.slot.bind (.ref x)
 unfold setAttr callSpecial? specialOf
 repeat (any_goals (first | assumption | (with_reducible refine wpAny_loadPart_at hx ?_;rw [hc]) | (with_reducible refine qP hC hn T hs PySem.F.store_ValueError.mro PySem.F.store_ValueError.slot.lookup ?_;rw [m1]) | wp_step))
 refine codeAny_call_builtin PySem.F.store_ValueError.slot.plain PySem.F.store_ValueError.entry (zcW hC T hi hx hc (zcV hC hn T m2 hm hB hx hc hnc hd fun h' tk' dx a1 a2 a3 a4 a5=>?_))
 repeat (any_goals (first | assumption | wp_step))
 exact hq h' tk' dx a1 a2 a3 a4 a5
end
noncomputable abbrev qX (C:Addr) (t:Addr) (od:Option Addr):Obj:=⟨.ref C,od,.fields #[.ref t,.none,.none,.none,.bool false,.none],#[]⟩
section
variable {fI:Addr} {bs:List Value} {sub:List Value} {rest:List Value} {oI:Obj}
theorem zcX {Q:PySem.Fin->Shared->Prop} (hC:h.get? C = some (excClassObj nm q C N bs bm hdct sn sub ab col dd k0 k1 k2 k3 k5 "ValueError.__new__")) (hn:h.Ns N mN) (T:OwnTail h zu bm) (hi:mN "__init__" = some (.ref fI)) (hf:h.get? fI = some oI) (hc:oI.cls = .type "function")
  (hq:∀ h' e,Heap.MadeExcOf h h' e (.ref C) rest->wpAny (model prog w) A (call (.ref fI) (.ref e :: rest)) (fun r s'=>r = .none/\Q (.done (.ret (.ref e))) s') E ⟨h',g,d,t,os⟩) (hl:rest.length<=sizeLine) :
  wpAny (model prog w) A (Builtin.«type.__call__» ⟨.ref C :: rest,[]⟩) Q E ⟨h,g,d,t,os⟩:=by
 have F:=PySem.F.excBase_ValueError
 repeat (first | with_reducible refine wpAny_loadPart_at hC ?_ | with_reducible refine wpAny_madeBy_exc hC ?_ | wp_step)
 refine codeAny_call_builtin_code (Code.quiet_builtin _ F.quiet) (wpAny_check_new_subT F T hC ?_)
 refine codeAny_exc_new_subT F T hC ?_ hl
 show wpAny _ _ _ _ _ _
 have k2:∀ b o,h.get? b = some o->((h.push ⟨.type "tuple",none,.seq rest.toArray 0,#[]⟩).push (qX C h.objs.size none)).get? b = some o:=fun b o e=>Q2 _ (Q2 _ e)
 have ge:((h.push ⟨.type "tuple",none,.seq rest.toArray 0,#[]⟩).push (qX C h.objs.size none)).get? (h.objs.size + 1) = some (qX C h.objs.size none):=by heap_get
 have hC1:=k2 _ _ hC
 have hcC:(Value.ref C :: bm).contains (.ref C) = true:=by simp
 unfold isInstance
 repeat (first | with_reducible refine wpAny_loadPart_at ge ?_ | (with_reducible refine wpAny_isSubtype_exc hC1 ?_;rw [hcC]) | wp_step)
 show wpAny _ _ (typeLookup (.ref C) _) _ _ _
 refine wpAny_typeLookup_tail hC1 (hn.keeps k2) (T.keeps k2) F.mroIs F.init.lookup ?_
 rw [hi]
 refine wpAny_holding (Q1 ?_)
 unfold bindSpecial
 refine Q1 (wpAny_typeOf (T:="function") ⟨_,k2 _ _ hf,hc⟩ ?_)
 rw [if_pos (by decide)]
 refine Qd (Q1 (Qe (hq _ (h.objs.size + 1) ⟨k2,Heap.get?_none_of_le (Nat.le_succ _),h.objs.size,ge,Heap.get?_none_of_le (Q3 _),?_⟩) (fun r s' hr=>?_) fun _ _ x=>x))
 ·exact Q2 _ (Heap.get?_push_at rfl rfl)
 ·obtain ⟨rfl,hQ⟩:=hr
  wp_walk
  exact hQ
theorem zhU {Q:Value->Shared->Prop} (hC:h.get? C = some (excClassObj nm q C N bs bm hdct sn sub ab col dd k0 k1 k2 k3 k5 "ValueError.__new__")) (hn:h.Ns N mN) (T:OwnTail h zu bm) (hi:mN "__init__" = some (.ref fI)) (hf:h.get? fI = some oI) (hc:oI.cls = .type "function")
  (hq:∀ h' e,Heap.MadeExcOf h h' e (.ref C) rest->wpAny (model prog w) (A.under (.builtin "type.__call__" ⟨.ref C :: rest,[]⟩)) (call (.ref fI) (.ref e :: rest)) (fun r s'=>r = .none/\Q (.ref e) s') E ⟨h',g,d,t,os⟩) (hl:rest.length<=sizeLine) :
  wpAny (model prog w) A (call (.ref C) rest) Q E ⟨h,g,d,t,os⟩:=by
 have f1:=tc_lookup
 have f2:=tc_bind (.ref C)
 have hT:(⟨h,g,d,t,os⟩:Shared).TypeIs (.ref C) "type":=⟨_,hC,rfl⟩
 refine wpAny_call (codeAny_of_tree ?_)
 show wpAny _ _ (callAny (.ref C) _) _ _ _
 repeat (any_goals (first | assumption | with_reducible refine wpAny_loadPart_at hC ?_ | wp_step))
 refine ⟨rfl,codeAny_call_builtin_at (Code.quiet_builtin _ (by decide +kernel)) entry_typeCall (wpAny_check_type_call_sub hC (zcX (hl:=hl) hC hn T hi hf hc fun h' e hm=>?_))⟩
 exact hq h' e hm
end
noncomputable def ExO (e C:Addr) (od:Option Addr):Heap->Prop:=fun h=>∃ ob,h.get? e = some ob/\ob.cls = .ref C/\ob.dict = od/\∀ c,ob.data ≠ .cls c
noncomputable def ExN (e C t:Addr) (od:Option Addr):Heap->Prop:=fun h=>h.get? e = some (qX C t od)
variable {e:Addr} {H:Hp} {od:Option Addr} {P:Program}
theorem zd4 (x:ExO e C od h):ObjOk P w H h e (.ext (ExO e C od)):=
 ⟨x,let ⟨ob,q,_⟩:=x;⟨ob,q⟩,fun _ _ ⟨ob,q,c⟩ k=>⟨ob,k _ q,c⟩⟩
theorem zd5 {t:Addr} (x:ExN e C t od h):ObjOk P w H h e (.ext (ExN e C t od)):=
 ⟨x,⟨_,x⟩,fun _ _ q k=>k _ q⟩
noncomputable def zaW (H:Hp) (e:Addr):Hp:=fun b=>if b = e then none else H b
theorem yG {b:Addr} (h:b ≠ e):zaW H e b = H b:=if_neg h
theorem zbg:zaW H e e = none:=if_pos rfl
variable {X:Cx} {pins:List (Addr × Obj)} {s:Shared} {σ:St}
section
theorem Inv.take {o:HO} (I:Inv X pins σ H s) (h0:X.s₀.heap.get? e = none) (hn:H e = none) (hl:e ≠ X.env.locals) (hc:∀ x c,X.env.cells.lookup x = some c->c ≠ e) (hp:∀ p ∈ X.pn ++ pins,p.1 ≠ e) (new:ObjOk X.prog X.w (upd H e o) s.heap e o):Inv X pins σ (upd H e o) s:=by
 have ne:∀ b ob,X.s₀.heap.get? b = some ob->b ≠ e:=fun b ob q z=>by rw [z,h0] at q;cases q
 have nh:∀ b u,H b = some u->b ≠ e:=fun b u q z=>by rw [z,hn] at q;cases q
 refine ⟨I.ok,I.os,I.bare,⟨I.base.keep,I.base.slot,fun b ob q n x=>by rw [yc (ne b ob q)];exact I.base.free b ob q n x,I.base.there,fun b xs q=>?_,fun b u xs q=>?_,fun b ps q=>?_⟩,I.loc,I.cell,by rw [yc hl.symm];exact I.free,fun x c q=>by rw [yc (hc x c q)];exact I.freeC x c q,fun p q=>?_,?_,I.len⟩
 ·have:=I.base.tups b xs q;rw [yc (nh b _ this)];exact this
 ·have:=I.base.frzs b u xs q;rw [yc (nh b _ this)];exact this
 ·obtain ⟨m,this⟩:=I.base.tbls b ps q;exact ⟨m,by rw [yc (nh b _ this)];exact this⟩
 ·obtain ⟨a,b,c⟩:=I.pin p q
  exact ⟨a,by rw [yc (hp p q)];exact b,c⟩
 ·intro b u q
  by_cases hb:b = e
  ·subst hb;rw [zh] at q;cases q;exact new
  ·rw [yc hb] at q
   exact (I.hok b u q).stay (fun _ _ _ z=>z) (fun c z=>by rw [yc (nh c _ z)];exact z) fun c xs z=>by rw [yc (nh c _ z)];exact z
theorem Inv.let {φ:Heap->Prop} (I:Inv X pins σ H s) (he:H e = some (.ext φ)):Inv X pins σ (zaW H e) s:=by
 have nh:∀ b u,H b = some u->(∀ ψ,u ≠ .ext ψ)->b ≠ e:=fun b u q n z=>by rw [z,he] at q;cases q;exact n φ rfl
 have nn:∀ b,H b = none->zaW H e b = none:=fun b q=>by
  unfold zaW
  split
  ·rfl
  ·exact q
 refine ⟨I.ok,I.os,I.bare,⟨I.base.keep,I.base.slot,fun b ob q n x=>nn b (I.base.free b ob q n x),I.base.there,fun b xs q=>?_,fun b u xs q=>?_,fun b ps q=>?_⟩,I.loc,I.cell,nn _ I.free,fun x c q=>nn _ (I.freeC x c q),fun p q=>?_,?_,I.len⟩
 ·have:=I.base.tups b xs q;rw [yG (nh b _ this (fun _ z=>by cases z))];exact this
 ·have:=I.base.frzs b u xs q;rw [yG (nh b _ this (fun _ z=>by cases z))];exact this
 ·obtain ⟨m,this⟩:=I.base.tbls b ps q;exact ⟨m,by rw [yG (nh b _ this (fun _ z=>by cases z))];exact this⟩
 ·obtain ⟨a,b,c⟩:=I.pin p q
  exact ⟨a,nn _ b,c⟩
 ·intro b u q
  by_cases hb:b = e
  ·subst hb;rw [zbg] at q;cases q
  ·rw [yG hb] at q
   exact (I.hok b u q).stay (fun _ _ _ z=>z) (fun c z=>by rw [yG (nh c _ z (fun _ y=>by cases y))];exact z) fun c xs z=>by rw [yG (nh c _ z (fun _ y=>by cases y))];exact z
end
noncomputable def CXX (P:Program) (w:World):CXT:=fun l H s E ev s'=>∃ (e t C:Addr) (oe:Obj) (B:Heap) (H':Hp),ev = .ref e/\Heap.FlyingW B l e (.ref C) (.ref t) s'.heap/\s'.heap.get? e = some oe/\s'.os = s.os/\AllBare s'.gens /\
 Un (frs l) [] H H' s.heap s'.heap/\HOk P w H' s'.heap/\(∀ b o,s'.heap.get? b = some o->b ∉ frs l->(H' b ≠ none\/∃ o',s.heap.get? b = some o')->B.get? b = some o)/\(∀ b ∈ frs l,H' b = none)/\E (.ref C) oe.dict H'
noncomputable abbrev xns:List Str:=["__setattr__","at","__getattribute__","__getattr__"]
structure XcAt (K:Frag) (mg:Str->Option Value) (x:Str) (C fI:Addr):Prop where
 bound:mg x = some (.ref C)
 obj:∀ h:Heap,K.In h->∃ bm N nm q bs sn sub ab col dd k0 k1 k2 k3 k5 mN,h.get? C = some (excClassObj nm q C N bs bm true sn sub ab col dd k0 k1 k2 k3 k5 "ValueError.__new__")/\h.Ns N mN/\mN "__init__" = some (.ref fI)/\(∀ n ∈ xns,mN n = none)/\Tl h zu ("__init__" :: xns) bm
 fn:∃ oI,K.lookup fI = some oI/\oI.cls = .type "function"
theorem zcO:typeLookup (.type "ValueError") "at" = pure none:=by rw [typeLookup_type,builtinLookup_eq_fast];kernel_rfl
variable {pos:Pos}
section
variable {E:XK} {o value:Expr} {ta tv:TE} {pos':Pos}
theorem Inv.new0 (I:Inv X pins σ H s) (hex:X.ex = []) (he:s.heap.get? e = none):X.s₀.heap.get? e = none/\H e = none/\e ≠ X.env.locals/\(∀ x c,X.env.cells.lookup x = some c->c ≠ e)/\∀ p ∈ X.pn ++ pins,p.1 ≠ e:=by
 refine ⟨?_,?_,fun z=>?_,fun x c q z=>?_,fun p q z=>?_⟩
 ·cases q:X.s₀.heap.get? e with
  | none=>rfl
  | some u=>
   obtain ⟨o',e'⟩:=I.base.there e u q (by rw [hex];simp)
   rw [he] at e';cases e'
 ·cases q:H e with
  | none=>rfl
  | some u=>
   obtain ⟨o',e'⟩:=(I.hok e u q).there
   rw [he] at e';cases e'
 ·obtain ⟨m,⟨ob,_,_,e',_⟩,_⟩:=I.loc
  rw [← z,he] at e';cases e'
 ·obtain ⟨v,ob,e',_⟩:=I.cell x c q
  rw [z,he] at e';cases e'
 ·have:=(I.pin p q).1
  rw [z,he] at this;cases this
theorem zgM (hex:X.ex = []) (ha:PE X o ta) (hv:PE X value tv) (hs:swapsWith value (some (.Attribute o "at" pos')) pos.line X.env = pure false:=by rfl):PS X (.Assign [.Attribute o "at" pos'] value pos)
  (fun D σ H=>tv σ H fun y H1=>ta σ H1 fun x H2=>∃ e C fI t nm,x = .ref e/\XcAt X.K X.mg nm C fI/\H2 e = some (.ext (ExN e C t none))/\∀ d,H2 d = none->d ≠ e->D.nx σ (upd (upd H2 e (.ext (ExN e C t (some d)))) d (.xd [("at",y)]))):=by
 intro pins s σ H D I h
 refine plainObj_wpAny_Assign_Attribute (thn (hv pins s σ H _ I h) fun u s1 ⟨y,H1,I1,ry,q⟩=>thn (ha pins s1 σ H1 _ I1 q) fun ov s2 ⟨x,H2,I2,rx,e,C,fI,t,nm,ex,O,ee,q2⟩=>?_) hs
 subst ex
 obtain rfl:ov = Value.ref e:=rx
 obtain ⟨bm,N,nm,q,bs,sn,sub,ab,col,dd,k0,k1,k2,k3,k5,mN,hC,hN,hi,hno,T⟩:=O.obj s2.heap I2.kIn
 obtain ⟨g0,_,_⟩:=I2.hok e _ ee
 have g0:s2.heap.get? e = some (qX C t none):=g0
 obtain ⟨h2,ge,dr,tk,os⟩:=s2
 refine ziz hC hN T (by decide) (hno _ (by decide)) (by decide) (hno _ (by decide)) (by decide) zcO g0 rfl (fun c z=>by cases z) rfl fun h' tk' dx a1 a2 a3 a4 a5=>?_
 have I3:Inv X pins σ (upd H2 e (.ext (ExN e C t (some dx)))) ⟨h',ge,dr,tk',os⟩:=I2.write (t':=tk') (by rw [ee];trivial) (.inl rfl) (fun b u nb e'=>a5 b u nb e') ⟨_,a3⟩ (zd5 a3)
 obtain ⟨b1,b2,b3,b4,b5⟩:=I2.new0 hex a1
 have I4:Inv X pins σ (upd (upd H2 e (.ext (ExN e C t (some dx)))) dx (.xd [("at",y)])) ⟨h',ge,dr,tk',os⟩:=I3.take b1 (by rw [yc a2];exact b2) b3 b4 b5 ⟨_,a4,fun f=>by
  by_cases hf:f = "at"
  ·subst hf;exact ry
  ·rw [if_neg hf]
   show ze7 (List.lookup f [("at",y)]) none
   rw [lookup_cons]
   simp only [beq_eq_false_iff_ne.mpr hf,List.lookup_nil]
   trivial⟩
 exact ⟨σ,_,I4,q2 dx b2 a2⟩
end
theorem zf4 {K:Frag} {mg:Str->Option Value} {base:Heap} {x qual:Str} {st:Stmt} {f:Addr} {fd:FuncData} {p1 p2 p3 p4:Pos} (O:XcAt K mg x C f) (F:Fun K "__init__" qual st f fd) (S:FnScope ["self","at"] ["self","at"] (qc st))
 (hb:qi st = [.Assign [.Attribute (.Name "self" p1) "at" p2] (.Name "at" p3) p4]) (l1:(qc st).names.lookup ("self":Str) = some NameKind.local) (l2:(qc st).names.lookup ("at":Str) = some NameKind.local) :
  FnOk P w K mg base CX0 1 f fd ["self","at"] (fun vs H Q E=>(∃ e t v,vs = [.ref e,v]/\H e = some (.ext (ExN e C t none))/\∀ d,H d = none->d ≠ e->Q .non (upd (upd H e (.ext (ExN e C t (some d)))) d (.xd [("at",v)])))):=by
 refine F.ok S (fun vs H Q E ⟨e,t,v,h,_⟩=>by rw [h];rfl) fun cdv A outer s H vs Q E hr ⟨e,t,v,h1,h2,h3⟩=>?_
 subst h1
 rw [hb]
 refine ⟨_,zcF (zgM rfl (zbT (i:=0) rfl (.inl l1)) (zbT (i:=1) rfl (.inl l2))),?_⟩
 exact ⟨v,rfl,.ref e,rfl,e,C,f,t,x,rfl,O,h2,h3⟩
structure Sup (K:Frag) (mg:Str->Option Value) (y:Str) (C C':Addr):Prop where
 bound:mg y = some (.ref C)
 obj:∀ h:Heap,K.In h->(∃ bm N nm q bs hdct sn sub ab col dd k0 k1 k2 k3 k5,h.get? C = some (excClassObj nm q C N bs bm hdct sn sub ab col dd k0 k1 k2 k3 k5 "ValueError.__new__")/\bm.contains (.type "BaseException") = true) /\
  ∃ bm N nm q bs hdct sn sub ab col dd k0 k1 k2 k3 k5,h.get? C' = some (excClassObj nm q C' N bs bm hdct sn sub ab col dd k0 k1 k2 k3 k5 "ValueError.__new__")/\(Value.ref C' :: bm).contains (.ref C) = true
theorem zii:typeLookup (.type "ValueError") "__getattribute__" = pure (some (.builtin "BaseException.__getattribute__")):=by rw [typeLookup_type,builtinLookup_eq_fast];kernel_rfl
theorem zha:typeLookup (.type "ValueError") "__getattr__" = pure none:=by rw [typeLookup_type,builtinLookup_eq_fast];kernel_rfl
section
variable {a dx:Addr}
 {nm q name:Str} {C N:Addr} {bs bm:List Value} {sn ns:List Str} {sub:List Value} {ab:Bool} {col:Option Bool} {dd:Option Addr} {k0 k1 k2 k3 k5:Option Value} {newId:String} {mN mA:Str->Option Value} {v:Value}
theorem zcZ (hC:h.get? C = some (excClassObj nm q C N bs bm true sn sub ab col dd k0 k1 k2 k3 k5 newId)) (T:Tl h zu ns bm) (hi:("__init__":Str) ∈ ns) (hx:h.get? a = some o) (hc:o.cls = .ref C) (hq:Q () ⟨h,g,d,t,os⟩) :
  wpAny M A (checkBuiltinCall "BaseException.__getattribute__" ⟨[.ref a,u],[]⟩) Q E ⟨h,g,d,t,os⟩:=by
 have hk:builtinKind "BaseException.__getattribute__" = some .slot:=by decide +kernel
 have hs:splitId "BaseException.__getattribute__" = some ("BaseException","__getattribute__"):=by decide +kernel
 have hb:(Value.ref C :: bm).contains (.type "BaseException") = true:=by rw [List.contains_cons,(T.tail hi).hasType PySem.F.excBase_ValueError.hasBase];rfl
 have ha:=PySem.F.args_bexc_ga (.ref a) u
 simp only [checkBuiltinCall,hk,hs]
 refine Q1 ?_
 unfold isInstance
 repeat (first | (with_reducible refine wpAny_loadPart_at hx ?_;rw [hc]) | (with_reducible refine wpAny_isSubtype_exc hC ?_;rw [hb]) | wp_step)
 exact hq
theorem zcY {Q:PySem.Fin->Shared->Prop} (hC:h.get? C = some (excClassObj nm q C N bs bm true sn sub ab col dd k0 k1 k2 k3 k5 newId)) (hn:h.Ns N mN) (T:Tl h zu ns bm) (m2:mN name = none) (hm:name ∈ ns) (hB:typeLookup (.type "ValueError") name = pure none)
 (hx:h.get? a = some o) (hc:o.cls = .ref C) (hnc:∀ c,o.data ≠ .cls c) (hd:o.dict = some dx) (hD:h.Ns dx mA) (hv:mA name = some v) (hq:Q (.done (.ret v)) ⟨h,g,d,t,os⟩) :
  wpAny (model prog w) A (Builtin.«object.__getattribute__» ⟨[.ref a,.str name tk],[]⟩) Q E ⟨h,g,d,t,os⟩:=by
 unfold Builtin.«object.__getattribute__»
 repeat (first | (with_reducible refine wpAny_loadPart_at hx ?_;rw [hc]) | (with_reducible refine qP hC hn T hm PySem.F.store_ValueError.mro hB ?_;rw [m2]) | wp_step)
 split
 ·rename_i c hcd
  exact absurd hcd (hnc c)
 unfold instanceDict
 repeat (first | (with_reducible refine wpAny_loadPart_at hx ?_;rw [hc]) | with_reducible refine wpAny_loadPart_at hC ?_ | wp_step)
 rw [hd]
 repeat (first | (with_reducible refine wpAny_nsGet hD ?_;rw [hv]) | wp_step)
 exact hq
theorem ziA {expr:Bool} {Q:Value->Shared->Prop} (hC:h.get? C = some (excClassObj nm q C N bs bm true sn sub ab col dd k0 k1 k2 k3 k5 newId)) (hn:h.Ns N mN) (T:Tl h zu ns bm) (hi:("__init__":Str) ∈ ns) (m2:mN name = none) (hm:name ∈ ns) (m3:mN "__getattribute__" = none) (h3:("__getattribute__":Str) ∈ ns) (m4:mN "__getattr__" = none) (h4:("__getattr__":Str) ∈ ns)
  (hB:typeLookup (.type "ValueError") name = pure none) (hx:h.get? a = some o) (hc:o.cls = .ref C) (hnc:∀ c,o.data ≠ .cls c) (hd:o.dict = some dx) (hD:h.Ns dx mA) (hv:mA name = some v) (hh:handedOut v = pure v) (hq:Q v ⟨h,g,d,t + 1,os⟩) :
  wpAny (model prog w) A (getAttr (.ref a) name expr) Q E ⟨h,g,d,t,os⟩:=by
 have f3:=PySem.F.excAttr_ValueError.ga.bind (.ref a)
 have hx0:(expr && onTheHeap (Value.builtin "BaseException.__getattribute__")) = false:=by cases expr <;> rfl
 have hx2:(Value.builtin "BaseException.__getattribute__" == Value.builtin "object.__getattribute__") = false:=by decide +kernel
 have hx1:(onTheHeap (Value.ref C) && Value.builtin "BaseException.__getattribute__" == Value.builtin "object.__getattribute__") = false:=by rw [hx2];rfl
 unfold getAttr
 repeat (any_goals (first | assumption | (with_reducible refine wpAny_loadPart_at hx ?_;rw [hc]) | (with_reducible refine qP hC hn T h3 PySem.F.store_ValueError.mro zii ?_;rw [m3]) | (with_reducible refine qP hC hn T h4 PySem.F.store_ValueError.mro zha ?_;rw [m4]) | wp_step))
 refine codeAny_call_builtin PySem.F.excAttr_ValueError.ga.plain PySem.F.entry_bexc_ga (zcZ hC T hi hx hc (zcY hC hn T m2 hm hB hx hc hnc hd hD hv ?_))
 show wpAny _ _ (handedOut v) _ _ _
 rw [hh]
 exact Qd hq
end
theorem handed {x:V} (r:RelV x v):handedOut v = pure v:=by
 cases x with
 | non=>cases r;rfl
 | bl b=>cases r;rfl
 | int i=>obtain ⟨_,rfl⟩:=r;rfl
 | str i=>obtain ⟨_,rfl⟩:=r;rfl
 | byt i=>obtain ⟨_,rfl⟩:=r;rfl
 | flt i=>obtain ⟨_,rfl⟩:=r;rfl
 | ref a=>cases r;rfl
 | ty n=>cases r;rfl
section
variable {e:Expr} {te:TE}
theorem zgU (he:PE X e te) (hb:attributeBase e "at" X.env (eval e X.env) = eval e X.env):PE X (.Attribute e "at" pos) (fun σ H Q=>te σ H fun x H1=>∃ a C d us v nm fI,x = .ref a/\H1 a = some (.ext (ExO a C (some d)))/\H1 d = some (.xd us)/\XcAt X.K X.mg nm C fI/\us.lookup ("at":Str) = some v/\Q v H1):=by
 intro pins s σ H Q I h
 refine zgq hb (thn (he pins s σ H _ I h) fun u s1 ⟨x,H1,I1,rx,a,C,d,us,v,nm,fI,ex,ea,ed,O,l,q⟩=>?_)
 subst ex
 obtain rfl:u = Value.ref a:=rx
 obtain ⟨bm,N,nm,qq,bs,sn,sub,ab,col,dd,k0,k1,k2,k3,k5,mN,hC,hN,hi,hno,T⟩:=O.obj s1.heap I1.kIn
 obtain ⟨⟨ob,g1,g2,g3,g4⟩,_,_⟩:=I1.hok a _ ea
 obtain ⟨mA,n1,rel⟩:=(show ObjOk X.prog X.w H1 s1.heap d (.xd us) from I1.hok d _ ed)
 have rl:=rel "at"
 rw [l] at rl
 cases hm:mA "at" with
 | none=>rw [hm] at rl;exact rl.elim
 | some w=>
  rw [hm] at rl
  obtain ⟨h2,ge,dr,tk,os⟩:=s1
  refine ziA hC hN T (by decide) (hno _ (by decide)) (by decide) (hno _ (by decide)) (by decide) (hno _ (by decide)) (by decide) zcO g1 g2 g4 g3 n1.ns hm (handed rl) ⟨v,H1,I1.tok _,rl,q⟩
end
def PX (X:Cx) (sts:List Stmt) (t:XK->TS):Prop:=
 ∀ (E:XK) (pins:List (Addr × Obj)) (s:Shared) (σ:St) (H:Hp) (D:Ends),Inv X pins σ H s->t E D σ H->
  wpAny (model X.prog X.w) X.A (execs sts X.env) (SP X pins D) (fun ev s'=>∃ H1 s1,Inv X pins σ H1 s1/\CXX X.prog X.w X.stack H1 s1 E ev s') s
end L2
namespace FT
open PySem PySem.Spec PyProof.Rows L2
noncomputable def noStar:Expr->Bool
 | .Starred _ _=>false
 | _=>true
variable {e:Expr} {es:List Expr}
theorem yD {env:PySem.Env} (h:noStar e = true):starEach (e :: es) env = (false,eval e env) :: starEach es env:=by
 cases e <;> first | rfl | cases h
variable {pos:Pos}
theorem zbJ {env:PySem.Env} :∀ {es:List Expr},es.all noStar = true->(backTo pos (starEach es env)).any (·.1) = false:=by
 intro es h
 have h1:(starEach es env).any (·.1) = false:=by
  induction es with
  | nil=>rfl
  | cons e es ih=>
   rw [all_cons,Qn] at h
   rw [yD h.1,any_cons,ih h.2]
   rfl
 have h2:∀ l:List (Bool × Sem Value),l.any (·.1) = false->(backTo pos l).any (·.1) = false:=by
  intro l hl
  unfold backTo
  rw [List.any_map]
  exact hl
 exact h2 _ h1
inductive T where
 | non | bl (b:Bool) | int (i:Int) | str (x:Str) | ty (n:String) | tup (xs:List T) | lst (xs:List T) | ref (a:Nat) | dct (kvs:List (Key × T)) | exc (C:Addr) (fs:List (Str × T))
inductive Cell where
 | lst (xs:List T) | dic (kvs:List (Key × T)) | ins (C:Addr) (fs:List (Str × T))
noncomputable abbrev Mem:=List Cell
noncomputable abbrev Ev:=List (Option T)
inductive Out (β:Type) where
 | ok (b:β) (M:Mem) | exn (C:Addr) (fs:List (Str × T)) (M:Mem) | bad
noncomputable def Out.bind {β γ:Type} (o:Out β) (k:β->Mem->Out γ):Out γ:=match o with
 | .ok b M=>k b M
 | .exn C fs M=>.exn C fs M
 | .bad=>.bad
theorem zjw {β γ:Type} (b:β) (M:Mem) (k:β->Mem->Out γ):(Out.ok b M).bind k = k b M:=rfl
theorem zji {β γ:Type} (k:β->Mem->Out γ):(Out.bad:Out β).bind k = .bad:=rfl
structure Sit where
 α:Nat->Addr
 M:Mem
 H:Hp
 hid:List Addr
def Sit.off (S:Sit) (p:Addr):Prop:=(∀ a,a < S.M.length->S.α a ≠ p)/\p ∉ S.hid
def KL (K:Frag) (a:Addr) (xs:List V):Prop:=
 ∃ (o:Obj) (its:Array Value) (n:Nat),K.lookup a = some o/\o.cls = .type "list"/\o.dict = none/\o.data = .seq its n/\its.size<=sizeLine/\Vals xs its.toList
inductive Rep (K:Frag) (S:Sit):T->V->Prop where
 | non:Rep K S .non .non
 | bl (b:Bool):Rep K S (.bl b) (.bl b)
 | int (i:Int):Rep K S (.int i) (.int i)
 | str (x:Str):Rep K S (.str x) (.str x)
 | ty (x:String):Rep K S (.ty x) (.ty x)
 | tup {ts:List T} {p:Addr} {vs:List V} (h:SqT K S.H p vs) (l:ts.length = vs.length) (r:∀ (i:Nat) t v,ts[i]? = some t->vs[i]? = some v->Rep K S t v):Rep K S (.tup ts) (.ref p)
 | lst {ts:List T} {p:Addr} {vs:List V} (h:(Rd S.H p (.lst vs)/\S.off p)\/KL K p vs) (l:ts.length = vs.length) (r:∀ (i:Nat) t v,ts[i]? = some t->vs[i]? = some v->Rep K S t v):Rep K S (.lst ts) (.ref p)
 | ref {a:Nat} (h:a < S.M.length):Rep K S (.ref a) (.ref (S.α a))
 | dct {kvs:List (Key × T)} {us:List (Key × V)} {p:Addr} {o:Obj} (h:S.H p = some (.frz o (.dK us))) (l:kvs.map (·.1) = us.map (·.1)) (r:∀ (i:Nat) t v,(kvs.map (·.2))[i]? = some t->(us.map (·.2))[i]? = some v->Rep K S t v):Rep K S (.dct kvs) (.ref p)
 | exc {C:Addr} {fs:List (Str × T)} {us:List (Str × V)} {p:Addr} {od:Option Addr} (h:S.H p = some (.ext (ExO p C od))) (hd:(od = none/\us = [])\/∃ d,od = some d/\S.H d = some (.xd us)) (l:fs.map (·.1) = us.map (·.1)) (r:∀ (i:Nat) t v,(fs.map (·.2))[i]? = some t->(us.map (·.2))[i]? = some v->Rep K S t v):Rep K S (.exc C fs) (.ref p)
def Reps (K:Frag) (S:Sit) (ts:List T) (vs:List V):Prop:=ts.length = vs.length/\∀ (i:Nat) t v,ts[i]? = some t->vs[i]? = some v->Rep K S t v
def RepF (K:Frag) (S:Sit) (fs:List (Str × T)) (us:List (Str × V)):Prop:=fs.map (·.1) = us.map (·.1)/\Reps K S (fs.map (·.2)) (us.map (·.2))
def RepK (K:Frag) (S:Sit) (fs:List (Key × T)) (us:List (Key × V)):Prop:=fs.map (·.1) = us.map (·.1)/\Reps K S (fs.map (·.2)) (us.map (·.2))
noncomputable def CellOk (K:Frag) (S:Sit) (p:Addr):Cell->Prop
 | .lst ts=>∃ vs,S.H p = some (.lst vs)/\Reps K S ts vs
 | .dic kvs=>∃ us,S.H p = some (.dK us)/\RepK K S kvs us
 | .ins C fs=>∃ dx us,S.H p = some (.ins C dx us)/\RepF K S fs us
structure MemOk (K:Frag) (S:Sit):Prop where
 cell:∀ a c,S.M[a]? = some c->CellOk K S (S.α a) c
 inj:∀ a b,a < S.M.length->b < S.M.length->S.α a = S.α b->a = b
 hd:∀ p ∈ S.hid,(∀ a,a < S.M.length->S.α a ≠ p)/\∃ vs,S.H p = some (.lst vs)
structure Grow (S S':Sit):Prop where
 le:S.M.length<=S'.M.length
 al:∀ a,a < S.M.length->S'.α a = S.α a
 fr:∀ a,S.M.length<=a->a < S'.M.length->S.H (S'.α a) = none
 kp:∀ b o,S.H b = some o->S.off b->S'.H b = some o
 hk:∀ p ∈ S.hid,p ∈ S'.hid/\S'.H p = S.H p
 hf:∀ p ∈ S'.hid,p ∈ S.hid\/S.H p = none
structure Stp (K:Frag) (S S':Sit):Prop extends Grow S S' where
 mok:MemOk K S'
variable {p:Addr} {c:Cell} {K:Frag} {ts:List T} {vs:List V} {S':Sit} {t:T} {v:V}
section
variable {S S'':Sit}
theorem MemOk.some (m:MemOk K S) {a:Nat} (h:a < S.M.length):∃ o,S.H (S.α a) = Option.some o/\Mut (Option.some o):=by
 have e:S.M[a]? = Option.some S.M[a]:=by simp [h]
 have c:=m.cell a _ e
 cases q:S.M[a] with
 | lst ts=>rw [q] at c;obtain ⟨vs,e,_⟩:=c;exact ⟨_,e,trivial⟩
 | dic ts=>rw [q] at c;obtain ⟨vs,e,_⟩:=c;exact ⟨_,e,trivial⟩
 | ins C fs=>rw [q] at c;obtain ⟨dx,vs,e,_⟩:=c;exact ⟨_,e,trivial⟩
theorem MemOk.off_of (m:MemOk K S) {o:Option HO} (e:S.H p = o) (h:¬ Mut o):S.off p:=by
 refine ⟨fun a ha z=>?_,fun z=>?_⟩
 ·obtain ⟨o',e',mu⟩:=m.some ha
  rw [z,e] at e'
  rw [e'] at h
  exact h mu
 ·obtain ⟨_,vs,q⟩:=m.hd p z
  rw [e] at q
  rw [q] at h
  exact h trivial
theorem MemOk.off_ext (m:MemOk K S) {φ:Heap->Prop} (e:S.H p = Option.some (.ext φ)):S.off p:=by
 refine ⟨fun a ha z=>?_,fun z=>?_⟩
 ·have ea:S.M[a]? = Option.some S.M[a]:=by simp [ha]
  have c:=m.cell a _ ea
  cases q:S.M[a] with
  | lst ts=>rw [q] at c;obtain ⟨vs,e',_⟩:=c;rw [z,e] at e';cases e'
  | dic ts=>rw [q] at c;obtain ⟨vs,e',_⟩:=c;rw [z,e] at e';cases e'
  | ins C fs=>rw [q] at c;obtain ⟨dx,vs,e',_⟩:=c;rw [z,e] at e';cases e'
 ·obtain ⟨_,vs,q⟩:=m.hd p z
  rw [e] at q;cases q
theorem MemOk.off_none (m:MemOk K S) (e:S.H p = none):S.off p:=m.off_of e (fun z=>z)
theorem Grow.tup (g:Grow S S') (m:MemOk K S) (h:SqT K S.H p vs):SqT K S'.H p vs:=by
 rcases h with (h | ⟨o,h⟩) | h
 ·exact .inl (.inl (g.kp _ _ h (m.off_of h (fun z=>z))))
 ·exact .inl (.inr ⟨o,g.kp _ _ h (m.off_of h (fun z=>z))⟩)
 ·exact .inr h
theorem Grow.off (g:Grow S S') {o:HO} (h:S.H p = some o) (f:S.off p):S'.off p:=by
 refine ⟨fun a ha z=>?_,fun z=>?_⟩
 ·by_cases hl:a < S.M.length
  ·rw [g.al a hl] at z;exact f.1 a hl z
  ·have:=g.fr a (Nat.le_of_not_lt hl) ha
   rw [z,h] at this
   cases this
 ·rcases g.hf p z with q | q
  ·exact f.2 q
  ·rw [h] at q;cases q
theorem Grow.rd (g:Grow S S') {u:HO} (h:Rd S.H p u) (f:S.off p):Rd S'.H p u/\S'.off p:=by
 rcases h with h | ⟨o,h⟩
 ·exact ⟨.inl (g.kp _ _ h f),g.off h f⟩
 ·exact ⟨.inr ⟨o,g.kp _ _ h f⟩,g.off h f⟩
theorem Rep.grow (m:MemOk K S) (g:Grow S S') (r:Rep K S t v):Rep K S' t v:=by
 induction r with
 | non=>exact .non
 | bl b=>exact .bl b
 | int b=>exact .int b
 | str b=>exact .str b
 | ty b=>exact .ty b
 | tup h l _ ih=>exact .tup (g.tup m h) l ih
 | lst h l _ ih=>
  refine .lst ?_ l ih
  rcases h with ⟨h,f⟩ | h
  ·exact .inl (g.rd h f)
  ·exact .inr h
 | ref h=>rw [← g.al _ h];exact .ref (Q5 h g.le)
 | dct h l _ ih=>exact .dct (g.kp _ _ h (m.off_of h (fun z=>z))) l ih
 | exc h hd l _ ih=>exact .exc (g.kp _ _ h (m.off_ext h)) (hd.imp (fun z=>z) fun ⟨d,a,b⟩=>⟨d,a,g.kp _ _ b (m.off_of b (fun z=>z))⟩) l ih
theorem Reps.grow (m:MemOk K S) (g:Grow S S') (r:Reps K S ts vs):Reps K S' ts vs:=⟨r.1,fun i t v e1 e2=>(r.2 i t v e1 e2).grow m g⟩
theorem RepF.grow (m:MemOk K S) (g:Grow S S') {ts:List (Str × T)} {vs:List (Str × V)} (r:RepF K S ts vs):RepF K S' ts vs:=⟨r.1,r.2.grow m g⟩
theorem RepK.grow (m:MemOk K S) (g:Grow S S') {ts:List (Key × T)} {vs:List (Key × V)} (r:RepK K S ts vs):RepK K S' ts vs:=⟨r.1,r.2.grow m g⟩
theorem Reps.nil:Reps K S [] []:=⟨rfl,fun _ _ _ e _=>by simp at e⟩
theorem Reps.cons (r:Rep K S t v) (rs:Reps K S ts vs):Reps K S (t :: ts) (v :: vs):=by
 refine ⟨by simp [rs.1],fun i a b e1 e2=>?_⟩
 cases i with
 | zero=>simp at e1 e2;subst e1;subst e2;exact r
 | succ i=>exact rs.2 i a b (by simpa using e1) (by simpa using e2)
theorem Reps.nil_inv (r:Reps K S ts []):ts = []:=List.length_eq_zero_iff.mp (by rw [r.1];rfl)
theorem Reps.consT (r:Reps K S (t :: ts) vs):∃ v vs',vs = v :: vs'/\Rep K S t v/\Reps K S ts vs':=by
 cases vs with
 | nil=>have:=r.1;simp at this
 | cons v vs'=>exact ⟨v,vs',rfl,r.2 0 t v rfl rfl,by have:=r.1;simpa using this,fun i a b e1 e2=>r.2 (i + 1) a b (by simpa using e1) (by simpa using e2)⟩
theorem Reps.nilT (r:Reps K S [] vs):vs = []:=List.length_eq_zero_iff.mp (by rw [← r.1];rfl)
theorem Reps.app {ts':List T} {vs':List V} (r:Reps K S ts vs) (r':Reps K S ts' vs'):Reps K S (ts ++ ts') (vs ++ vs'):=by
 induction ts generalizing vs with
 | nil=>rw [r.nilT];exact r'
 | cons t ts ih=>
  obtain ⟨v,vs1,rfl,r1,r2⟩:=r.consT
  exact (ih r2).cons r1
theorem Reps.get (r:Reps K S ts vs) {i:Nat} (e:ts[i]? = some t):∃ v,vs[i]? = some v/\Rep K S t v:=by
 have hi:i < vs.length:=by rw [← r.1];exact (List.getElem?_eq_some_iff.mp e).1
 have e2:vs[i]? = some vs[i]:=by simp [hi]
 exact ⟨_,e2,r.2 i t _ e e2⟩
theorem Reps.set (r:Reps K S ts vs) (q:Rep K S t v) (j:Nat):Reps K S (ts.set j t) (vs.set j v):=by
 refine ⟨by simp [r.1],fun i a b e1 e2=>?_⟩
 rw [getElem?_set] at e1 e2
 by_cases h:j = i
 ·subst h
  by_cases hl:j < ts.length
  ·rw [if_pos rfl,if_pos hl] at e1
   rw [if_pos rfl,if_pos (by rw [← r.1];exact hl)] at e2
   cases e1;cases e2;exact q
  ·rw [if_pos rfl,if_neg hl] at e1;cases e1
 ·rw [if_neg h] at e1 e2
  exact r.2 i a b e1 e2
theorem Reps.sub (r:Reps K S ts vs) (a b:Nat):Reps K S ((ts.drop a).take b) ((vs.drop a).take b):=by
 refine ⟨by simp [r.1],fun i x y e1 e2=>?_⟩
 rw [List.getElem?_take] at e1 e2
 split at e1
 ·rename_i h
  rw [if_pos h] at e2
  rw [List.getElem?_drop] at e1 e2
  exact r.2 _ x y e1 e2
 ·cases e1
theorem CellOk.grow (m:MemOk K S) (g:Grow S S') (e:S'.H p = S.H p) (h:CellOk K S p c):CellOk K S' p c:=by
 cases c with
 | lst ts=>obtain ⟨vs,q,r⟩:=h;exact ⟨vs,by rw [e];exact q,r.grow m g⟩
 | dic ts=>obtain ⟨vs,q,r⟩:=h;exact ⟨vs,by rw [e];exact q,r.grow m g⟩
 | ins C ts=>obtain ⟨dx,vs,q,r⟩:=h;exact ⟨dx,vs,by rw [e];exact q,r.grow m g⟩
theorem Stp.refl (m:MemOk K S):Stp K S S:=⟨⟨Q3 _,fun _ _=>rfl,fun a h1 h2=>absurd (Q5 h2 h1) (Ql _),fun _ _ e _=>e,fun _ h=>⟨h,rfl⟩,fun _ h=>.inl h⟩,m⟩
theorem Stp.trans (a:Stp K S S') (b:Stp K S' S''):Stp K S S'':=by
 have nn:∀ p,S'.H p = none->S.H p = none:=fun p hn=>by
  cases q:S.H p with
  | none=>rfl
  | some o=>
   by_cases f:S.off p
   ·rw [a.kp _ _ q f] at hn;cases hn
   ·exfalso
    apply f
    refine ⟨fun c hc z=>?_,fun z=>?_⟩
    ·have h3:c < S'.M.length:=Q5 hc a.le
     obtain ⟨o',e',_⟩:=a.mok.some h3
     rw [a.al c hc,z,hn] at e'
     cases e'
    ·rw [(a.hk p z).2,q] at hn;cases hn
 refine ⟨⟨Qg a.le b.le,fun i hi=>(b.al i (Q5 hi a.le)).trans (a.al i hi),fun i h1 h2=>?_,fun p o e f=>b.kp _ _ (a.kp _ _ e f) (a.off e f),fun p h=>⟨(b.hk p (a.hk p h).1).1,(b.hk p (a.hk p h).1).2.trans (a.hk p h).2⟩,fun p h=>?_⟩,b.mok⟩
 ·by_cases hl:i < S'.M.length
  ·rw [b.al i hl];exact a.fr i h1 hl
  ·exact nn _ (b.fr i (Nat.le_of_not_lt hl) h2)
 ·rcases b.hf p h with q | q
  ·exact a.hf p q
  ·exact .inr (nn p q)
theorem Stp.new (m:MemOk K S) (hp:S.H p = none) (o:HO):Stp K S ⟨S.α,S.M,upd S.H p o,S.hid⟩:=by
 have g:Grow S ⟨S.α,S.M,upd S.H p o,S.hid⟩:=⟨Q3 _,fun _ _=>rfl,fun a h1 h2=>absurd (Q5 h2 h1) (Ql _),fun b u e _=>by show upd S.H p o b = _;rw [yc (zg e hp)];exact e,fun q h=>⟨h,by obtain ⟨_,vs,e⟩:=m.hd q h;exact yc (zg e hp)⟩,fun q h=>.inl h⟩
 refine ⟨g,⟨fun a c e=>?_,m.inj,fun q h=>?_⟩⟩
 rotate_left
 ·obtain ⟨h1,vs,e⟩:=m.hd q h
  exact ⟨h1,vs,(yc (zg e hp)).trans e⟩
 refine (m.cell a c e).grow m g ?_
 have ha:a < S.M.length:=(List.getElem?_eq_some_iff.mp e).1
 exact yc ((m.off_none hp).1 a ha)
noncomputable def Sit.more (S:Sit) (p:Addr) (o:HO) (c:Cell):Sit:=⟨fun a=>if a = S.M.length then p else S.α a,S.M ++ [c],upd S.H p o,S.hid⟩
theorem Grow.more (m:MemOk K S) (hp:S.H p = none) (o:HO) (c:Cell):Grow S (S.more p o c):=by
 refine ⟨by show _<=(S.M ++ [c]).length;simp,fun a h=>if_neg (Qh h),fun a h1 h2=>?_,fun b u e _=>?_,fun q h=>⟨h,by obtain ⟨_,vs,e⟩:=m.hd q h;exact yc (zg e hp)⟩,fun q h=>.inl h⟩
 ·have h3:a < (S.M ++ [c]).length:=h2
  have:a = S.M.length:=by simp at h3;omega
  show S.H (if a = S.M.length then p else S.α a) = none
  rw [if_pos this];exact hp
 ·show upd S.H p o b = _;rw [yc (zg e hp)];exact e
theorem Stp.more (m:MemOk K S) (hp:S.H p = none) (o:HO) (c:Cell) (hc:CellOk K (S.more p o c) p c):Stp K S (S.more p o c):=by
 have g:=Grow.more m hp o c
 refine ⟨g,⟨fun a d e=>?_,fun a b h1 h2 e=>?_,fun q h=>?_⟩⟩
 rotate_right
 ·obtain ⟨h1,vs,e⟩:=m.hd q h
  refine ⟨fun a ha z=>?_,vs,(yc (zg e hp)).trans e⟩
  have z':(if a = S.M.length then p else S.α a) = q:=z
  by_cases hl:a = S.M.length
  ·rw [if_pos hl] at z';rw [← z',hp] at e;cases e
  ·rw [if_neg hl] at z'
   have h3:a < (S.M ++ [c]).length:=ha
   exact h1 a (by simp at h3;omega) z'
 ·have e':(S.M ++ [c])[a]? = some d:=e
  by_cases ha:a < S.M.length
  ·rw [Q6 ha] at e'
   show CellOk K _ (if a = S.M.length then p else S.α a) d
   rw [if_neg (Qh ha)]
   exact (m.cell a d e').grow m g (yc ((m.off_none hp).1 a ha))
  ·rw [Q7 (Nat.le_of_not_lt ha)] at e'
   have h3:a - S.M.length = 0:=by
    cases q:a - S.M.length with
    | zero=>rfl
    | succ k=>rw [q] at e';simp at e'
   rw [h3] at e'
   cases e'
   show CellOk K _ (if a = S.M.length then p else S.α a) c
   rw [if_pos (by omega)]
   exact hc
 ·have h1':a < (S.M ++ [c]).length:=h1
  have h2':b < (S.M ++ [c]).length:=h2
  have e':(if a = S.M.length then p else S.α a) = (if b = S.M.length then p else S.α b):=e
  simp at h1' h2'
  by_cases ha:a = S.M.length
  ·by_cases hb:b = S.M.length
   ·omega
   ·rw [if_pos ha,if_neg hb] at e'
    exact absurd e'.symm ((m.off_none hp).1 b (by omega))
  ·by_cases hb:b = S.M.length
   ·rw [if_neg ha,if_pos hb] at e'
    exact absurd e' ((m.off_none hp).1 a (by omega))
   ·rw [if_neg ha,if_neg hb] at e'
    exact m.inj a b (by omega) (by omega) e'
noncomputable def Sit.put (S:Sit) (a:Nat) (o:HO) (c:Cell):Sit:=⟨S.α,S.M.set a c,upd S.H (S.α a) o,S.hid⟩
theorem Grow.put (m:MemOk K S) {a:Nat} (ha:a < S.M.length) (o:HO) (c:Cell):Grow S (S.put a o c):=by
 refine ⟨by show _<=(S.M.set a c).length;simp,fun _ _=>rfl,fun b h1 h2=>?_,fun b u e f=>?_,fun q h=>⟨h,yc (Ne.symm ((m.hd q h).1 a ha))⟩,fun q h=>.inl h⟩
 ·have h3:b < (S.M.set a c).length:=h2
  simp at h3
  exact absurd (Q5 h3 h1) (Ql _)
 ·show upd S.H (S.α a) o b = _
  rw [yc (Ne.symm (f.1 a ha))];exact e
theorem Stp.put (m:MemOk K S) {a:Nat} (ha:a < S.M.length) (o:HO) (c:Cell) (hc:CellOk K (S.put a o c) (S.α a) c):Stp K S (S.put a o c):=by
 have g:=Grow.put m ha o c
 refine ⟨g,⟨fun b d e=>?_,fun i j h1 h2 e=>?_,fun q h=>?_⟩⟩
 rotate_right
 ·obtain ⟨h1,vs,e⟩:=m.hd q h
  refine ⟨fun b hb z=>?_,vs,(yc (Ne.symm (h1 a ha))).trans e⟩
  have h3:b < (S.M.set a c).length:=hb
  simp at h3
  exact h1 b h3 z
 ·have e':(S.M.set a c)[b]? = some d:=e
  rw [getElem?_set] at e'
  by_cases h:a = b
  ·subst h
   rw [if_pos rfl,if_pos ha] at e'
   cases e'
   exact hc
  ·rw [if_neg h] at e'
   refine (m.cell b d e').grow m g (yc fun z=>h ?_)
   exact (m.inj b a (List.getElem?_eq_some_iff.mp e').1 ha z).symm
 ·have h1':i < (S.M.set a c).length:=h1
  have h2':j < (S.M.set a c).length:=h2
  simp at h1' h2'
  exact m.inj i j h1' h2' e
end
def EvR (K:Frag) (S:Sit) (στ:Ev) (σ:L2.St):Prop:=στ.length = σ.length/\∀ (i:Nat) t,στ[i]? = some (some t)->∃ v,σ[i]? = some (some v)/\Rep K S t v
class Mo (K:Frag) {β γ:Type} (R:Sit->β->γ->Prop):Prop where
 mo:∀ {S S' b c},MemOk K S->Stp K S S'->R S b c->R S' b c
noncomputable def UnR:Sit->Unit->Unit->Prop:=fun _ _ _=>True
noncomputable def EqR {β:Type}:Sit->β->β->Prop:=fun _ b c=>b = c
noncomputable def PrR {A AV B BV:Type} (RA:Sit->A->AV->Prop) (RB:Sit->B->BV->Prop):Sit->A × B->AV × BV->Prop:=fun S a v=>RA S a.1 v.1/\RB S a.2 v.2
instance (K):Mo K (Rep K):=⟨fun m s r=>r.grow m s.toGrow⟩
instance (K):Mo K (Reps K):=⟨fun m s r=>r.grow m s.toGrow⟩
instance (K):Mo K (EvR K):=⟨fun m s r=>⟨r.1,fun i t e=>let ⟨v,e',q⟩:=r.2 i t e;⟨v,e',q.grow m s.toGrow⟩⟩⟩
instance (K):Mo K UnR:=⟨fun _ _ r=>r⟩
instance (K) {β:Type}:Mo K (EqR (β:=β)):=⟨fun _ _ r=>r⟩
instance (K) {A AV B BV:Type} (RA:Sit->A->AV->Prop) (RB:Sit->B->BV->Prop) [Mo K RA] [Mo K RB]:Mo K (PrR RA RB):=⟨fun m s r=>⟨Mo.mo m s r.1,Mo.mo m s r.2⟩⟩
def zhS (K:Frag) (S:Sit) (fs:List (Str × T)) (od:Option Addr):Prop:=(fs = []/\od = none)\/∃ d us,od = some d/\S.H d = some (.xd us)/\RepF K S fs us
def Fin {β γ:Type} (XE:XK) (R:Sit->β->γ->Prop) (K:Frag) (S:Sit) (o:Out β) (Q:γ->Hp->Prop):Prop:=match o with
 | .ok b M'=>∀ S' c,S'.M = M'->Stp K S S'->R S' b c->Q c S'.H
 | .exn C fs M'=>∀ S' od,S'.M = M'->Stp K S S'->zhS K S' fs od->XE (.ref C) od S'.H
 | .bad=>False
variable {S1:Sit} {XE:XK}
theorem Fin.later {β γ:Type} {R:Sit->β->γ->Prop} {S:Sit} {o:Out β} {Q:γ->Hp->Prop} (s:Stp K S S1) (h:Fin XE R K S o Q):Fin XE R K S1 o Q:=by
 cases o with
 | ok b M'=>exact fun S' c e s' r=>h S' c e (s.trans s') r
 | exn C fs M'=>exact fun S' c e s' r=>h S' c e (s.trans s') r
 | bad=>exact h
theorem Fin.mono {β γ:Type} {R:Sit->β->γ->Prop} {S:Sit} {o:Out β} {Q Q':γ->Hp->Prop} (i:∀ c H,Q c H->Q' c H) (h:Fin XE R K S o Q):Fin XE R K S o Q':=by
 cases o with
 | ok b M'=>exact fun S' c e s' r=>i _ _ (h S' c e s' r)
 | exn C fs M'=>exact h
 | bad=>exact h
def LN {A AV β γ:Type} (XE:XK) (R:Sit->β->γ->Prop) (K:Frag) (RA:Sit->A->AV->Prop) (k:A->Ev->Mem->Out β) (av:AV) (σ:L2.St) (H:Hp) (Q:γ->Hp->Prop):Prop:=
 ∃ (S:Sit) (στ:Ev) (a:A),S.H = H/\MemOk K S/\EvR K S στ σ/\RA S a av/\Fin XE R K S (k a στ S.M) Q
def L0 {A AV β γ:Type} (XE:XK) (R:Sit->β->γ->Prop) (K:Frag) (RA:Sit->A->AV->Prop) (k:A->Mem->Out β) (av:AV) (H:Hp) (Q:γ->Hp->Prop):Prop:=
 ∃ (S:Sit) (a:A),S.H = H/\MemOk K S/\RA S a av/\Fin XE R K S (k a S.M) Q
variable {H:Hp} {σ:L2.St}
section
theorem LN.bind {A AV B BV β γ:Type} {R:Sit->β->γ->Prop} {RA:Sit->A->AV->Prop} {RB:Sit->B->BV->Prop} [Mo K RA] {f:A->Ev->Mem->Out B} {k:A->B->Ev->Mem->Out β} {av:AV} {Q:γ->Hp->Prop}
 (h:LN XE R K RA (fun a σ M=>(f a σ M).bind fun b M1=>k a b σ M1) av σ H Q) :
  LN XE RB K RA f av σ H (fun bv H1=>LN XE R K (PrR RA RB) (fun ab=>k ab.1 ab.2) (av,bv) σ H1 Q):=by
 obtain ⟨S,στ,a,e,m,ev,ra,fin⟩:=h
 refine ⟨S,στ,a,e,m,ev,ra,?_⟩
 replace fin:Fin XE R K S ((f a στ S.M).bind fun b M1=>k a b στ M1) Q:=fin
 cases q:f a στ S.M with
 | bad=>rw [q] at fin;exact fin
 | exn C fs M'=>rw [q] at fin;exact fin
 | ok b M1=>
  rw [q] at fin
  intro S1 c e1 s1 r1
  refine ⟨S1,στ,(a,b),rfl,s1.mok,Mo.mo m s1 ev,⟨Mo.mo m s1 ra,r1⟩,?_⟩
  rw [e1]
  exact fin.later s1
theorem LN.l0 {A AV β γ:Type} {R:Sit->β->γ->Prop} {RA:Sit->A->AV->Prop} {k:A->Mem->Out β} {av:AV} {Q:γ->Hp->Prop} (h:LN XE R K RA (fun a _ M=>k a M) av σ H Q):L0 XE R K RA k av H Q:=by
 obtain ⟨S,στ,a,e,m,ev,ra,fin⟩:=h
 exact ⟨S,a,e,m,ra,fin⟩
theorem LN.mono {A AV β γ:Type} {R:Sit->β->γ->Prop} {RA:Sit->A->AV->Prop} {k:A->Ev->Mem->Out β} {av:AV} {Q Q':γ->Hp->Prop} (h:LN XE R K RA k av σ H Q) (i:∀ c H,Q c H->Q' c H):LN XE R K RA k av σ H Q':=by
 obtain ⟨S,στ,a,e,m,ev,ra,fin⟩:=h
 exact ⟨S,στ,a,e,m,ev,ra,fin.mono i⟩
theorem LN.env {A AV β γ:Type} {R:Sit->β->γ->Prop} {RA:Sit->A->AV->Prop} {f:Ev->Mem->Out β} {av:AV} {Q:γ->Hp->Prop} (h:LN XE R K RA (fun _ σ M=>f σ M) av σ H Q):LN XE R K UnR (fun _ σ M=>f σ M) () σ H Q:=by
 obtain ⟨S,στ,a,e,m,ev,ra,fin⟩:=h
 exact ⟨S,στ,(),e,m,ev,trivial,fin⟩
end
noncomputable def lE (XE:XK) (K:Frag) (f:Ev->Mem->Out T):TE:=fun σ H Q=>LN XE (Rep K) K UnR (fun _ σ M=>f σ M) () σ H Q
noncomputable def lT (XE:XK) (K:Frag) (f:Ev->Mem->Out Bool):TT:=fun σ H Q=>LN XE EqR K UnR (fun _ σ M=>f σ M) () σ H Q
noncomputable def lA (XE:XK) (K:Frag) (f:Ev->Mem->Out (List T)):TA:=fun σ H Q=>LN XE (Reps K) K UnR (fun _ σ M=>f σ M) () σ H Q
def GE (X:Cx) (XE:XK) (e:Expr) (f:Ev->Mem->Out T):Prop:=PE X e (lE XE X.K f)
def GT (X:Cx) (XE:XK) (e:Expr) (f:Ev->Mem->Out Bool):Prop:=PT X e (lT XE X.K f)
def GW (X:Cx) (XE:XK) (e:Expr) (f:Ev->Mem->Out Bool):Prop:=PW X e (lT XE X.K f)
def GA (X:Cx) (XE:XK) (es:List Expr) (f:Ev->Mem->Out (List T)):Prop:=PA X es (lA XE X.K f)
variable {X:Cx}
theorem PE.imp {t t':TE} (h:PE X e t) (i:∀ σ H Q,t' σ H Q->t σ H Q):PE X e t':=fun pins s σ H Q I q=>h pins s σ H Q I (i σ H Q q)
variable {t':TT}
theorem PT.imp {t:TT} (h:PT X e t) (i:∀ σ H Q,t' σ H Q->t σ H Q):PT X e t':=fun pins s σ H Q I q=>h pins s σ H Q I (i σ H Q q)
theorem PW.imp {t:TT} (h:PW X e t) (i:∀ σ H Q,t' σ H Q->t σ H Q):PW X e t':=fun whole pins s σ H Q I q=>h whole pins s σ H Q I (i σ H Q q)
theorem PA.imp {e:List Expr} {t t':TA} (h:PA X e t) (i:∀ σ H Q,t' σ H Q->t σ H Q):PA X e t':=fun pos pins s σ H Q I q=>h pos pins s σ H Q I (i σ H Q q)
theorem PS.imp {e:Stmt} {t t':TS} (h:PS X e t) (i:∀ D σ H,t' D σ H->t D σ H):PS X e t':=fun pins s σ H D I q=>h pins s σ H D I (i D σ H q)
theorem PSs.imp {e:List Stmt} {t t':TS} (h:PSs X e t) (i:∀ D σ H,t' D σ H->t D σ H):PSs X e t':=fun pins s σ H D I q=>h pins s σ H D I (i D σ H q)
noncomputable def zc (i:Nat):Ev->Mem->Out T:=fun σ M=>match σ[i]? with
 | some (some t)=>.ok t M
 | _=>.bad
noncomputable def eC (t:T):Ev->Mem->Out T:=fun _ M=>.ok t M
noncomputable def eOp (o:T->T->Mem->Out T) (f g:Ev->Mem->Out T):Ev->Mem->Out T:=fun σ M=>(f σ M).bind fun x M1=>(g σ M1).bind fun y M2=>o x y M2
noncomputable def eUn (o:T->Mem->Out T) (f:Ev->Mem->Out T):Ev->Mem->Out T:=fun σ M=>(f σ M).bind fun x M1=>o x M1
noncomputable def blT {β:Type} (t:T) (M:Mem) (k:Bool->Mem->Out β):Out β:=match t with
 | .bl b=>k b M
 | _=>.bad
noncomputable def zm (f:Ev->Mem->Out T):Ev->Mem->Out Bool:=fun σ M=>(f σ M).bind fun x M1=>blT x M1 fun b M2=>.ok b M2
noncomputable def zc4 (f g:Ev->Mem->Out Bool):Ev->Mem->Out Bool:=fun σ M=>(f σ M).bind fun c M1=>if c = true then g σ M1 else .ok false M1
noncomputable def z8 (f g:Ev->Mem->Out Bool):Ev->Mem->Out Bool:=fun σ M=>(f σ M).bind fun c M1=>if c = true then .ok true M1 else g σ M1
noncomputable def zI (f:Ev->Mem->Out Bool):Ev->Mem->Out Bool:=fun σ M=>(f σ M).bind fun c M1=>.ok (!c) M1
noncomputable def zcd (f g:Ev->Mem->Out T):Ev->Mem->Out T:=fun σ M=>(f σ M).bind fun x M1=>blT x M1 fun b M2=>if b = true then g σ M2 else .ok (.bl false) M2
noncomputable def eOr (f g:Ev->Mem->Out T):Ev->Mem->Out T:=fun σ M=>(f σ M).bind fun x M1=>blT x M1 fun b M2=>if b = true then .ok (.bl true) M2 else g σ M2
noncomputable def zdl (f:Ev->Mem->Out T):Ev->Mem->Out T:=fun σ M=>(f σ M).bind fun x M1=>blT x M1 fun b M2=>.ok (.bl (!b)) M2
noncomputable def eIf (c:Ev->Mem->Out Bool) (f g:Ev->Mem->Out T):Ev->Mem->Out T:=fun σ M=>(c σ M).bind fun b M1=>if b = true then f σ M1 else g σ M1
noncomputable def zd:Ev->Mem->Out (List T):=fun _ M=>.ok [] M
noncomputable def qa (f:Ev->Mem->Out T) (g:Ev->Mem->Out (List T)):Ev->Mem->Out (List T):=fun σ M=>(f σ M).bind fun x M1=>(g σ M1).bind fun xs M2=>.ok (x :: xs) M2
noncomputable def zcb (g:Ev->Mem->Out (List T)):Ev->Mem->Out T:=fun σ M=>(g σ M).bind fun xs M1=>if xs.length<=sizeLine then .ok (.tup xs) M1 else .bad
noncomputable def qr (g:Ev->Mem->Out (List T)):Ev->Mem->Out (List T):=fun σ M=>(g σ M).bind fun xs M1=>if xs.length<=sizeLine then .ok xs M1 else .bad
noncomputable def eFz (g:Ev->Mem->Out (List T)):Ev->Mem->Out T:=fun σ M=>(g σ M).bind fun xs M1=>.ok (.lst xs) M1
noncomputable def eTk (g:Ev->Mem->Out (List T)):Ev->Mem->Out T:=fun σ M=>(g σ M).bind fun xs M1=>.ok (.ref M1.length) (M1 ++ [.lst xs])
noncomputable def ze (f:List T->Mem->Out T) (g:Ev->Mem->Out (List T)):Ev->Mem->Out T:=fun σ M=>(g σ M).bind fun ts M1=>f ts M1
noncomputable def yA (o o':T->T->Mem->Out T) (f g h:Ev->Mem->Out T):Ev->Mem->Out T:=fun σ M=>(f σ M).bind fun x M1=>(g σ M1).bind fun y M2=>(o x y M2).bind fun z M3=>blT z M3 fun b M4=>if b = true then (h σ M4).bind fun w M5=>o' y w M5 else .ok (.bl false) M4
noncomputable def lR2 (XE:XK) (K:Frag) (o:T->T->Mem->Out T):R2:=fun x y H Q=>L0 XE (Rep K) K (PrR (Rep K) (Rep K)) (fun a M=>o a.1 a.2 M) (x,y) H Q
noncomputable def lRN (XE:XK) (K:Frag) (o:List T->Mem->Out T):List V->Hp->VK->Prop:=fun xs H Q=>L0 XE (Rep K) K (Reps K) o xs H Q
def FinL (XE:XK) (K:Frag) (S:Sit) (o:Out (List T)) (Q:VK):Prop:=match o with
 | .ok xs M'=>∀ S' p vs,S'.M = M'->Stp K S S'->S.H p = none->p ∈ S'.hid->S'.H p = some (.lst vs)->Reps K S' xs vs->Q (.ref p) S'.H
 | .exn C fs M'=>∀ S' od,S'.M = M'->Stp K S S'->zhS K S' fs od->XE (.ref C) od S'.H
 | .bad=>False
variable {Q:VK}
theorem FinL.later {S:Sit} {o:Out (List T)} (s:Stp K S S1) (h:FinL XE K S o Q):FinL XE K S1 o Q:=by
 have nn:∀ p,S1.H p = none->S.H p = none:=fun p hn=>by
  cases q:S.H p with
  | none=>rfl
  | some o=>
   by_cases f:S.off p
   ·rw [s.kp _ _ q f] at hn;cases hn
   ·exfalso
    apply f
    refine ⟨fun c hc z=>?_,fun z=>?_⟩
    ·have h3:c < S1.M.length:=Q5 hc s.le
     obtain ⟨o',e',_⟩:=s.mok.some h3
     rw [s.al c hc,z,hn] at e'
     cases e'
    ·rw [(s.hk p z).2,q] at hn;cases hn
 cases o with
 | ok b M'=>exact fun S' p vs e s' f=>h S' p vs e (s.trans s') (nn p f)
 | exn C fs M'=>exact fun S' c e s' r=>h S' c e (s.trans s') r
 | bad=>exact h
noncomputable def lL (XE:XK) (K:Frag) (f:Ev->Mem->Out (List T)):TE:=fun σ H Q=>∃ (S:Sit) (στ:Ev),S.H = H/\MemOk K S/\EvR K S στ σ/\FinL XE K S (f στ S.M) Q
def GL (X:Cx) (XE:XK) (e:Expr) (f:Ev->Mem->Out (List T)):Prop:=PE X e (lL XE X.K f)
variable {q:Addr} {h hh:List Addr} {xs:List T}
section
variable {S:Sit}
noncomputable def Sit.show (S':Sit) (h:List Addr):Sit:=⟨S'.α,S'.M,S'.H,h⟩
theorem Rep.show (sub:∀ p ∈ h,p ∈ S'.hid) (r:Rep K S' t v):Rep K (S'.show h) t v:=by
 induction r with
 | non=>exact .non
 | bl b=>exact .bl b
 | int b=>exact .int b
 | str b=>exact .str b
 | ty b=>exact .ty b
 | tup h l _ ih=>exact .tup h l ih
 | lst h l _ ih=>
  refine .lst ?_ l ih
  rcases h with ⟨h,f⟩ | h
  ·exact .inl ⟨h,f.1,fun z=>f.2 (sub _ z)⟩
  ·exact .inr h
 | ref h=>exact .ref (S:=S'.show _) h
 | dct h l _ ih=>exact .dct h l ih
 | exc h hd l _ ih=>exact .exc h hd l ih
theorem Reps.show (sub:∀ p ∈ h,p ∈ S'.hid) (r:Reps K S' ts vs):Reps K (S'.show h) ts vs:=⟨r.1,fun i t v e1 e2=>(r.2 i t v e1 e2).show sub⟩
theorem CellOk.show (sub:∀ p ∈ h,p ∈ S'.hid) (q:CellOk K S' p c):CellOk K (S'.show h) p c:=by
 cases c with
 | lst ts=>obtain ⟨vs,q,r⟩:=q;exact ⟨vs,q,r.show sub⟩
 | dic ts=>obtain ⟨vs,q,r⟩:=q;exact ⟨vs,q,r.1,r.2.show sub⟩
 | ins C ts=>obtain ⟨dx,vs,q,r⟩:=q;exact ⟨dx,vs,q,r.1,r.2.show sub⟩
theorem Stp.show (s:Stp K S S'):Stp K S (S'.show S.hid):=by
 have sub:∀ p ∈ S.hid,p ∈ S'.hid:=fun p h=>(s.hk p h).1
 exact ⟨⟨s.le,s.al,s.fr,s.kp,fun p h=>⟨h,(s.hk p h).2⟩,fun p h=>.inl h⟩,⟨fun a c e=>(s.mok.cell a c e).show sub,s.mok.inj,fun p h=>s.mok.hd p (sub p h)⟩⟩
theorem zf5 (s:Stp K S S') (hn:S.H p = none) (m:MemOk K S) (hp:p ∈ S'.hid) (e:S'.H p = some (.lst vs)) (r:Reps K S' xs vs):Rep K (S'.show S.hid) (.lst xs) (.ref p):=by
 have sub:∀ p ∈ S.hid,p ∈ S'.hid:=fun p h=>(s.hk p h).1
 refine .lst (.inl ⟨.inl e,(s.mok.hd p hp).1,fun z=>?_⟩) r.1 (r.show sub).2
 obtain ⟨_,us,q⟩:=m.hd p z
 rw [hn] at q
 cases q
noncomputable def Sit.track (S':Sit) (p:Addr) (xs:List T) (h:List Addr):Sit:=⟨fun a=>if a = S'.M.length then p else S'.α a,S'.M ++ [.lst xs],S'.H,h⟩
theorem Rep.track (hp:p ∈ S'.hid) (sub:∀ p ∈ hh,p ∈ S'.hid) (r:Rep K S' t v):Rep K (S'.track p xs hh) t v:=by
 induction r with
 | non=>exact .non
 | bl b=>exact .bl b
 | int b=>exact .int b
 | str b=>exact .str b
 | ty b=>exact .ty b
 | tup h l _ ih=>exact .tup h l ih
 | lst h l _ ih=>
  refine .lst ?_ l ih
  rcases h with ⟨h,f⟩ | h
  ·refine .inl ⟨h,fun a ha z=>?_,fun z=>f.2 (sub _ z)⟩
   have z':(if a = S'.M.length then p else S'.α a) = _:=z
   by_cases hl:a = S'.M.length
   ·rw [if_pos hl] at z';rw [← z'] at f;exact f.2 hp
   ·rw [if_neg hl] at z'
    have h3:a < (S'.M ++ [Cell.lst xs]).length:=ha
    exact f.1 a (by simp at h3;omega) z'
  ·exact .inr h
 | @ref a h=>
  have:S'.α a = (S'.track p xs hh).α a:=(if_neg (Qh h)).symm
  rw [this]
  exact .ref (by show a < (S'.M ++ [Cell.lst xs]).length;simp;omega)
 | dct h l _ ih=>exact .dct h l ih
 | exc h hd l _ ih=>exact .exc h hd l ih
theorem Reps.track (hp:p ∈ S'.hid) (sub:∀ p ∈ h,p ∈ S'.hid) (r:Reps K S' ts vs):Reps K (S'.track p xs h) ts vs:=⟨r.1,fun i t v e1 e2=>(r.2 i t v e1 e2).track hp sub⟩
theorem CellOk.track (hp:p ∈ S'.hid) (sub:∀ p ∈ h,p ∈ S'.hid) (o:CellOk K S' q c):CellOk K (S'.track p xs h) q c:=by
 cases c with
 | lst ts=>obtain ⟨vs,q,r⟩:=o;exact ⟨vs,q,r.track hp sub⟩
 | dic ts=>obtain ⟨vs,q,r⟩:=o;exact ⟨vs,q,r.1,r.2.track hp sub⟩
 | ins C ts=>obtain ⟨dx,vs,q,r⟩:=o;exact ⟨dx,vs,q,r.1,r.2.track hp sub⟩
theorem Stp.track (s:Stp K S S') (m:MemOk K S) (hn:S.H p = none) (hp:p ∈ S'.hid) (e:S'.H p = some (.lst vs)) (r:Reps K S' xs vs):Stp K S (S'.track p xs S.hid):=by
 have sub:∀ p ∈ S.hid,p ∈ S'.hid:=fun p h=>(s.hk p h).1
 have lt:∀ a,a < S'.M.length->(S'.track p xs S.hid).α a = S'.α a:=fun a h=>if_neg (Qh h)
 refine ⟨⟨Qg s.le (by show _<=(S'.M ++ [Cell.lst xs]).length;simp),fun a h=>(lt a (Q5 h s.le)).trans (s.al a h),fun a h1 h2=>?_,s.kp,fun p h=>⟨h,(s.hk p h).2⟩,fun p h=>.inl h⟩,⟨fun a c e2=>?_,fun a b h1 h2 e2=>?_,fun q h=>?_⟩⟩
 ·by_cases hl:a < S'.M.length
  ·rw [lt a hl];exact s.fr a h1 hl
  ·have h3:a < (S'.M ++ [Cell.lst xs]).length:=h2
   have:a = S'.M.length:=by simp at h3;omega
   show S.H (if a = S'.M.length then p else S'.α a) = none
   rw [if_pos this];exact hn
 ·have e':(S'.M ++ [Cell.lst xs])[a]? = some c:=e2
  by_cases ha:a < S'.M.length
  ·rw [Q6 ha] at e'
   rw [lt a ha]
   exact (s.mok.cell a c e').track hp sub
  ·rw [Q7 (Nat.le_of_not_lt ha)] at e'
   have h3:a - S'.M.length = 0:=by
    cases q:a - S'.M.length with
    | zero=>rfl
    | succ k=>rw [q] at e';simp at e'
   rw [h3] at e'
   cases e'
   show CellOk K _ (if a = S'.M.length then p else S'.α a) _
   rw [if_pos (by omega)]
   exact ⟨vs,e,r.track hp sub⟩
 ·have h1':a < (S'.M ++ [Cell.lst xs]).length:=h1
  have h2':b < (S'.M ++ [Cell.lst xs]).length:=h2
  have e':(if a = S'.M.length then p else S'.α a) = (if b = S'.M.length then p else S'.α b):=e2
  simp at h1' h2'
  by_cases ha:a = S'.M.length
  ·by_cases hb:b = S'.M.length
   ·omega
   ·rw [if_pos ha,if_neg hb] at e'
    exact absurd e'.symm ((s.mok.hd p hp).1 b (by omega))
  ·by_cases hb:b = S'.M.length
   ·rw [if_neg ha,if_pos hb] at e'
    exact absurd e' ((s.mok.hd p hp).1 a (by omega))
   ·rw [if_neg ha,if_neg hb] at e'
    exact s.mok.inj a b (by omega) (by omega) e'
 ·obtain ⟨h1,us,q1⟩:=s.mok.hd q (sub q h)
  refine ⟨fun a ha z=>?_,us,q1⟩
  have z':(if a = S'.M.length then p else S'.α a) = q:=z
  have h3:a < (S'.M ++ [Cell.lst xs]).length:=ha
  by_cases hl:a = S'.M.length
  ·rw [if_pos hl] at z'
   obtain ⟨_,us2,q2⟩:=m.hd q h
   rw [← z',hn] at q2
   cases q2
  ·rw [if_neg hl] at z'
   exact h1 a (by simp at h3;omega) z'
noncomputable def Sit.hide (S:Sit) (p:Addr) (vs:List V):Sit:=⟨S.α,S.M,upd S.H p (.lst vs),p :: S.hid⟩
theorem Stp.hide (m:MemOk K S) (hp:S.H p = none) (vs:List V):Stp K S (S.hide p vs):=by
 have g:Grow S (S.hide p vs):=⟨Q3 _,fun _ _=>rfl,fun a h1 h2=>absurd (Q5 h2 h1) (Ql _),fun b u e _=>by show upd S.H p _ b = _;rw [yc (zg e hp)];exact e,fun q h=>⟨.tail _ h,by obtain ⟨_,vs,e⟩:=m.hd q h;exact yc (zg e hp)⟩,fun q h=>by
  cases h with
  | head=>exact .inr hp
  | tail _ h=>exact .inl h⟩
 refine ⟨g,⟨fun a c e=>?_,m.inj,fun q h=>?_⟩⟩
 ·have ha:a < S.M.length:=(List.getElem?_eq_some_iff.mp e).1
  exact (m.cell a c e).grow m g (yc ((m.off_none hp).1 a ha))
 ·cases h with
  | head=>exact ⟨(m.off_none hp).1,vs,zh⟩
  | tail _ h=>
   obtain ⟨h1,us,e⟩:=m.hd q h
   exact ⟨h1,us,(yc (zg e hp)).trans e⟩
end
variable {op op':CmpOp} {ga:Ev->Mem->Out (List T)} {tf:Ev->Mem->Out Bool} {f:Ev->Mem->Out T} {i:Int} {M:Mem} {x:Str} {o o':T->T->Mem->Out T}
section
variable {a b c:Expr} {g h:Ev->Mem->Out T}
theorem qH (h:PE X e (tC v)) (r:∀ S,Rep X.K S t v):GE X XE e (eC t):=PE.imp h fun σ H Q h9=>by
 obtain ⟨S,στ,_,e,m,ev,_,fin⟩:=h9
 show Q v H
 rw [← e];exact fin S v rfl (.refl m) (r S)
theorem zbA (h:lE XE K (eOp o f g) σ H Q):lE XE K f σ H fun x H1=>lE XE K g σ H1 fun y H2=>lR2 XE K o x y H2 Q:=
 LN.mono (LN.bind (f:=fun _ σ M=>f σ M) (k:=fun _ x σ M1=>(g σ M1).bind fun y M2=>o x y M2) (RB:=Rep K) h) fun v H1 h1=>
  LN.mono (LN.env (f:=g) (LN.bind (f:=fun _ σ M=>g σ M) (k:=fun (ax:Unit × T) y σ M2=>o ax.2 y M2) (RB:=Rep K) h1)) fun w H2 h2=>by
   obtain ⟨S,στ,a,e,m,ev,ra,fin⟩:=h2
   exact ⟨S,(a.1.2,a.2),e,m,⟨ra.1.2,ra.2⟩,fin⟩
theorem zaP {β γ:Type} {R:Sit->β->γ->Prop} {S:Sit} {k:Bool->Mem->Out β} {Q:γ->Hp->Prop} (r:Rep K S t v) (h:Fin XE R K S (blT t M k) Q):∃ b,v = .bl b/\t = .bl b/\Fin XE R K S (k b M) Q:=by
 cases r with
 | bl b=>exact ⟨b,rfl,rfl,h⟩
 | _=>exact h.elim
theorem tif {tg:Ev->Mem->Out Bool} {Q:Bool->Hp->Prop} {p:Bool->Ev->Mem->Out Bool} (h:LN XE EqR K UnR (fun _ σ M=>(tf σ M).bind fun c M1=>p c σ M1) () σ H Q):lT XE K tf σ H fun c H1=>lT XE K (fun σ M=>p c σ M) σ H1 Q:=
 LN.mono (LN.bind (f:=fun _ σ M=>tf σ M) (k:=fun _ c σ M1=>p c σ M1) (RB:=EqR) h) fun c H1 h2=>by
  obtain ⟨S,στ,a,e,m,ev,ra,fin⟩:=h2
  have:a.2 = c:=ra.2
  subst this
  exact ⟨S,στ,(),e,m,ev,trivial,fin⟩
theorem zbx {Q:Bool->Hp->Prop} {d:Bool} (h:lT XE K (fun _ M=>.ok d M) σ H Q):Q d H:=by
 obtain ⟨S,στ,a,e,m,ev,ra,fin⟩:=h
 rw [← e];exact fin S d rfl (.refl m) rfl
theorem zfd {d:T} (h:lE XE K (fun _ M=>.ok d M) σ H Q) (r:∀ S,Rep K S d v):Q v H:=by
 obtain ⟨S,στ,a,e,m,ev,ra,fin⟩:=h
 rw [← e];exact fin S v rfl (.refl m) (r S)
variable {tg:Ev->Mem->Out Bool} {rest:List Expr}
theorem GW.gt (h:GW X XE e tf):GT X XE e tf:=PW.pt h
theorem eif {p:Bool->Ev->Mem->Out T} (h:LN XE (Rep K) K UnR (fun _ σ M=>(f σ M).bind fun x M1=>blT x M1 fun b M2=>p b σ M2) () σ H Q):lE XE K f σ H fun x H1=>∃ c,x = .bl c/\lE XE K (fun σ M=>p c σ M) σ H1 Q:=
 LN.mono (LN.bind (f:=fun _ σ M=>f σ M) (k:=fun _ x σ M1=>blT x M1 fun b M2=>p b σ M2) (RB:=Rep K) h) fun c H1 h2=>by
  obtain ⟨S,στ,a,e,m,ev,ra,fin⟩:=h2
  obtain ⟨b,e1,e2,fin⟩:=zaP ra.2 fin
  exact ⟨b,e1,S,στ,(),e,m,ev,trivial,fin⟩
theorem chain (hh:lE XE K (yA o o' f g h) σ H Q):zbF (lR2 XE K o) (lR2 XE K o') (lE XE K f) (lE XE K g) (lE XE K h) σ H Q:=
 LN.mono (LN.bind (f:=fun _ σ M=>f σ M) (k:=fun _ x σ M1=>(g σ M1).bind fun y M2=>(o x y M2).bind fun z M3=>blT z M3 fun b M4=>if b = true then (h σ M4).bind fun w M5=>o' y w M5 else .ok (.bl false) M4) (RB:=Rep K) hh) fun x H1 h1=>
  LN.mono (LN.env (f:=g) (LN.bind (f:=fun _ σ M=>g σ M) (k:=fun (ax:Unit × T) y σ M2=>(o ax.2 y M2).bind fun z M3=>blT z M3 fun b M4=>if b = true then (h σ M4).bind fun w M5=>o' y w M5 else .ok (.bl false) M4) (RB:=Rep K) h1)) fun y H2 h2=>by
   have h3:=LN.bind (f:=fun (a:(Unit × T) × T) _ M=>o a.1.2 a.2 M) (k:=fun a z σ M3=>blT z M3 fun b M4=>if b = true then (h σ M4).bind fun w M5=>o' a.2 w M5 else .ok (.bl false) M4) (RB:=Rep K) h2
   obtain ⟨S,a,e,m,ra,fin⟩:=LN.l0 (k:=fun (a:(Unit × T) × T) M=>o a.1.2 a.2 M) h3
   refine ⟨S,(a.1.2,a.2),e,m,⟨ra.1.2,ra.2⟩,fin.mono fun z H3 h4=>?_⟩
   obtain ⟨S3,στ,a3,e3,m3,ev3,ra3,fin3⟩:=h4
   obtain ⟨b,e1,_,fin3⟩:=zaP ra3.2 fin3
   refine ⟨b,e1,?_⟩
   cases b with
   | false=>exact (if_neg Q4).mpr (by rw [← e3];exact fin3 S3 _ rfl (.refl m3) (.bl _))
   | true=>
    refine (if_pos rfl).mpr ?_
    have h5:LN XE (Rep K) K (Rep K) (fun y σ M4=>(h σ M4).bind fun w M5=>o' y w M5) y σ H3 Q:=⟨S3,στ,a3.1.2,e3,m3,ev3,ra3.1.2,fin3⟩
    refine LN.mono (LN.env (f:=h) (LN.bind (f:=fun _ σ M=>h σ M) (k:=fun y w σ M5=>o' y w M5) (RB:=Rep K) h5)) fun w H4 h6=>?_
    exact LN.l0 (k:=fun (a:T × T) M=>o' a.1 a.2 M) h6
end
inductive Fl where
 | nx (σ:Ev) | rt (t:T) | bk (σ:Ev) | ct (σ:Ev)
inductive FlV where
 | nx (σ:L2.St) | rt (v:V) | bk (σ:L2.St) | ct (σ:L2.St)
inductive FlR (K:Frag) (S:Sit):Fl->FlV->Prop where
 | nx {a b}:EvR K S a b->FlR K S (.nx a) (.nx b)
 | rt {a b}:Rep K S a b->FlR K S (.rt a) (.rt b)
 | bk {a b}:EvR K S a b->FlR K S (.bk a) (.bk b)
 | ct {a b}:EvR K S a b->FlR K S (.ct a) (.ct b)
noncomputable def qL (D:Ends):FlV->Hp->Prop
 | .nx σ,H=>D.nx σ H
 | .rt v,H=>D.rt v H
 | .bk σ,H=>D.bk σ H
 | .ct σ,H=>D.ct σ H
noncomputable def lS (XE:XK) (K:Frag) (g:Ev->Mem->Out Fl):TS:=fun D σ H=>LN XE (FlR K) K UnR (fun _ σ M=>g σ M) () σ H (qL D)
def GS (X:Cx) (XE:XK) (st:Stmt) (g:Ev->Mem->Out Fl):Prop:=PS X st (lS XE X.K g)
def GSs (X:Cx) (XE:XK) (st:List Stmt) (g:Ev->Mem->Out Fl):Prop:=PSs X st (lS XE X.K g)
variable {στ:Ev}
theorem EvR.set {S:Sit} (r:EvR K S στ σ) (q:Rep K S t v) (i:Nat):EvR K S (στ.set i (some t)) (σ.set i (some v)):=by
 refine ⟨by simp [r.1],fun j u e=>?_⟩
 rw [getElem?_set] at e ⊢
 by_cases h:i = j
 ·subst h
  by_cases hl:i < στ.length
  ·rw [if_pos rfl,if_pos hl] at e
   cases e
   exact ⟨v,by rw [if_pos rfl,if_pos (by rw [← r.1];exact hl)],q⟩
  ·rw [if_pos rfl,if_neg hl] at e;cases e
 ·rw [if_neg h] at e
  obtain ⟨w,e2,q2⟩:=r.2 j u e
  exact ⟨w,by rw [if_neg h];exact e2,q2⟩
noncomputable def qC:Ev->Mem->Out Fl:=fun σ M=>.ok (.nx σ) M
noncomputable def zjz:Ev->Mem->Out Fl:=fun σ M=>.ok (.bk σ) M
noncomputable def zjN:Ev->Mem->Out Fl:=fun σ M=>.ok (.ct σ) M
noncomputable def zS (k:Ev->Mem->Out Fl) (fl:Fl) (M:Mem):Out Fl:=match fl with
 | .nx σ=>k σ M
 | .rt t=>.ok (.rt t) M
 | .bk σ=>.ok (.bk σ) M
 | .ct σ=>.ok (.ct σ) M
noncomputable def zi (g h:Ev->Mem->Out Fl):Ev->Mem->Out Fl:=fun σ M=>(g σ M).bind (zS h)
noncomputable def zo (f:Ev->Mem->Out T):Ev->Mem->Out Fl:=fun σ M=>(f σ M).bind fun t M1=>.ok (.rt t) M1
noncomputable def zj0 (f:Ev->Mem->Out T):Ev->Mem->Out Fl:=fun σ M=>(f σ M).bind fun _ M1=>.ok (.nx σ) M1
noncomputable def sIf (c:Ev->Mem->Out Bool) (g h:Ev->Mem->Out Fl):Ev->Mem->Out Fl:=fun σ M=>(c σ M).bind fun b M1=>if b = true then g σ M1 else h σ M1
noncomputable def zx (i:Nat) (f:Ev->Mem->Out T):Ev->Mem->Out Fl:=fun σ M=>(f σ M).bind fun t M1=>.ok (.nx (σ.set i (some t))) M1
noncomputable def lG (XE:XK) (K:Frag) (bd:T->Ev->Mem->Out Ev):TG:=fun v σ H Q=>LN XE (EvR K) K (Rep K) bd v σ H Q
noncomputable def lGs (XE:XK) (K:Frag) (bd:List T->Ev->Mem->Out Ev):TGs:=fun v σ H Q=>LN XE (EvR K) K (Reps K) bd v σ H Q
def GG (X:Cx) (XE:XK) (tg:Expr) (bd:T->Ev->Mem->Out Ev):Prop:=PG X tg (lG XE X.K bd)
def GGs (X:Cx) (XE:XK) (tg:List Expr) (bd:List T->Ev->Mem->Out Ev):Prop:=PGs X tg (lGs XE X.K bd)
noncomputable def zC (i:Nat):T->Ev->Mem->Out Ev:=fun t σ M=>.ok (σ.set i (some t)) M
noncomputable def zj3:List T->Ev->Mem->Out Ev:=fun ts σ M=>match ts with
 | []=>.ok σ M
 | _=>.bad
noncomputable def zjU (b:T->Ev->Mem->Out Ev) (bs:List T->Ev->Mem->Out Ev):List T->Ev->Mem->Out Ev:=fun ts σ M=>match ts with
 | t :: r=>(b t σ M).bind fun σ1 M1=>bs r σ1 M1
 | _=>.bad
noncomputable def zj2 (n:Nat) (bs:List T->Ev->Mem->Out Ev):T->Ev->Mem->Out Ev:=fun t σ M=>match t with
 | .tup xs=>if xs.length = n then bs xs σ M else .bad
 | _=>.bad
noncomputable def zc8 (f:Ev->Mem->Out T) (b:T->Ev->Mem->Out Ev):Ev->Mem->Out Fl:=fun σ M=>(f σ M).bind fun t M1=>(b t σ M1).bind fun σ1 M2=>.ok (.nx σ1) M2
def zV (K:Frag) (S:Sit) (items:List T) (J:It):Prop:=∀ S',Stp K S S'->
 (∀ (i:Nat) t,items[i]? = some t->J.go i S'.H/\∀ x H',J.yld i S'.H x H'->∃ S'',S''.H = H'/\S''.M = S'.M/\Stp K S' S''/\Rep K S'' t x)/\∀ i,items.length<=i->J.stop i S'.H
instance (K):Mo K (zV K):=⟨fun _ s r=>fun S' s'=>r S' (s.trans s')⟩
noncomputable def lI (XE:XK) (K:Frag) (f:Ev->Mem->Out (List T)):TI:=fun σ H R=>LN XE (zV K) K UnR (fun _ σ M=>f σ M) () σ H R
def GI (X:Cx) (XE:XK) (tg iter:Expr) (f:Ev->Mem->Out (List T)):Prop:=PI X tg iter (lI XE X.K f)
noncomputable def yu (k:Ev->Mem->Out Fl) (fl:Fl) (M:Mem):Out Fl:=match fl with
 | .nx σ=>k σ M
 | .ct σ=>k σ M
 | .bk σ=>.ok (.nx σ) M
 | .rt t=>.ok (.rt t) M
noncomputable def forL (bd:T->Ev->Mem->Out Ev) (body:Ev->Mem->Out Fl):List T->Ev->Mem->Out Fl
 | [],σ,M=>.ok (.nx σ) M
 | x :: xs,σ,M=>(bd x σ M).bind fun σ1 M1=>(body σ1 M1).bind (yu (forL bd body xs))
noncomputable def zbQ (it:Ev->Mem->Out (List T)) (bd:T->Ev->Mem->Out Ev) (body:Ev->Mem->Out Fl):Ev->Mem->Out Fl:=fun σ M=>(it σ M).bind fun xs M1=>forL bd body xs σ M1
noncomputable def whileN (c:Ev->Mem->Out Bool) (body:Ev->Mem->Out Fl):Nat->Ev->Mem->Out Fl
 | 0,_,_=>.bad
 | n + 1,σ,M=>(c σ M).bind fun b M1=>if b = true then (body σ M1).bind (yu (whileN c body n)) else .ok (.nx σ) M1
open Classical in
noncomputable def zbP (c:Ev->Mem->Out Bool) (body:Ev->Mem->Out Fl):Ev->Mem->Out Fl:=fun σ M=>if h:∃ n,whileN c body n σ M ≠ .bad then whileN c body h.choose σ M else .bad
theorem yT {c:Ev->Mem->Out Bool} {body:Ev->Mem->Out Fl}:∀ {n:Nat} {σ:Ev} {M:Mem} {r:Out Fl},whileN c body n σ M = r->r ≠ .bad->whileN c body (n + 1) σ M = r
 | 0,_,_,_,e,h=>absurd e.symm h
 | n + 1,σ,M,r,e,h=>by
  unfold whileN at e ⊢
  cases q:c σ M with
  | bad=>rw [q] at e;exact absurd e.symm h
  | exn C fs M'=>rw [q] at e;exact e
  | ok b M1=>
   rw [q] at e
   replace e:(if b = true then (body σ M1).bind (yu (whileN c body n)) else Out.ok (.nx σ) M1) = r:=e
   show (if b = true then (body σ M1).bind (yu (whileN c body (n + 1))) else Out.ok (.nx σ) M1) = r
   cases b with
   | false=>exact e
   | true=>
    rw [if_pos rfl] at e ⊢
    cases q2:body σ M1 with
    | bad=>rw [q2] at e;exact absurd e.symm h
    | exn C fs M'=>rw [q2] at e;exact e
    | ok fl M2=>
     rw [q2] at e
     cases fl with
     | nx σ2=>exact yT (n:=n) e h
     | ct σ2=>exact yT (n:=n) e h
     | bk σ2=>exact e
     | rt t=>exact e
variable {body:Ev->Mem->Out Fl} {n:Nat} {r:Out Fl}
theorem zbd {c:Ev->Mem->Out Bool} {k:Nat} {σ:Ev} (e:whileN c body n σ M = r) (h:r ≠ .bad):whileN c body (n + k) σ M = r:=by
 induction k with
 | zero=>exact e
 | succ k ih=>exact yT ih h
theorem zdF {c:Ev->Mem->Out Bool} {σ:Ev} (n:Nat) (e:whileN c body n σ M = r) (h:r ≠ .bad):zbP c body σ M = r:=by
 have ex:∃ n,whileN c body n σ M ≠ .bad:=⟨n,by rw [e];exact h⟩
 unfold zbP
 rw [dif_pos ex]
 have h2:=ex.choose_spec
 have e1:=zbd (k:=ex.choose) e h
 have e2:=zbd (k:=n) rfl h2
 rw [Nat.add_comm] at e2
 rw [← e2,e1]
noncomputable def zeI (XE:XK) (K:Frag) (st:T->T->T->Mem->Out Unit):zdu:=fun o i v H Q=>L0 XE UnR K (PrR (PrR (Rep K) (Rep K)) (Rep K)) (fun a M=>st a.1.1 a.1.2 a.2 M) ((o,i),v) H (fun _ H'=>Q H')
noncomputable def zdr (st:T->T->T->Mem->Out Unit) (f g:Ev->Mem->Out T):T->Ev->Mem->Out Ev:=fun t σ M=>(f σ M).bind fun o M1=>(g σ M1).bind fun i M2=>(st o i t M2).bind fun _ M3=>.ok σ M3
variable {D:Ends} {iter tg:Expr} {st:Stmt} {bd:T->Ev->Mem->Out Ev}
section
variable {a b c:Expr} {g h:Ev->Mem->Out T} {sts rest:List Stmt} {p q r:Ev->Mem->Out Fl}
theorem zhf (hh:lS XE K (zi p q) D σ H):lS XE K p { D with nx:=lS XE K q D } σ H:=by
 obtain ⟨S,στ,_,e,m,ev,_,fin⟩:=hh
 refine ⟨S,στ,(),e,m,ev,trivial,?_⟩
 show Fin XE (FlR K) K S (p στ S.M) _
 replace fin:Fin XE (FlR K) K S ((p στ S.M).bind (zS q)) (qL D):=fin
 cases o:p στ S.M with
 | bad=>rw [o] at fin;exact fin
 | exn C fs M'=>rw [o] at fin;exact fin
 | ok fl M1=>
  rw [o] at fin
  intro S1 cc e1 s1 r1
  cases r1 with
  | nx r1=>exact ⟨S1,_,(),rfl,s1.mok,r1,trivial,by rw [e1];exact Fin.later s1 fin⟩
  | rt r1=>exact fin S1 _ e1 s1 (.rt r1)
  | bk r1=>exact fin S1 _ e1 s1 (.bk r1)
  | ct r1=>exact fin S1 _ e1 s1 (.ct r1)
theorem PG.imp {t t':TG} (h:PG X tg t) (i:∀ v σ H Q,t' v σ H Q->t v σ H Q):PG X tg t':=fun pins s σ H v u Q I r q=>h pins s σ H v u Q I r (i v σ H Q q)
theorem zij (hh:LN XE (FlR K) K (Rep K) (fun t σ M=>(bd t σ M).bind fun σ1 M2=>.ok (Fl.nx σ1) M2) v σ H (qL D)):lG XE K bd v σ H D.nx:=by
 obtain ⟨S,στ,t,e,m,ev,ra,fin⟩:=hh
 refine ⟨S,στ,t,e,m,ev,ra,?_⟩
 replace fin:Fin XE (FlR K) K S ((bd t στ S.M).bind fun σ1 M2=>.ok (Fl.nx σ1) M2) (qL D):=fin
 cases o:bd t στ S.M with
 | bad=>rw [o] at fin;exact fin
 | exn C fs M'=>rw [o] at fin;exact fin
 | ok σ1 M1=>
  rw [o] at fin
  intro S1 cc e1 s1 ev1
  exact fin S1 (.nx cc) e1 s1 (.nx ev1)
theorem PI.imp {t t':TI} (h:PI X tg iter t) (i:∀ σ H R,t' σ H R->t σ H R):PI X tg iter t':=fun pins s σ H R I q=>h pins s σ H R I (i σ H R q)
end
noncomputable def startT (n:Nat) (ts:List T):Ev:=ts.map some ++ List.replicate (n - ts.length) none
noncomputable def qg (p n:Nat) (g:Ev->Mem->Out Fl):List T->Mem->Out T:=fun ts M=>if ts.length = p then match g (startT n ts) M with
 | .ok (.rt t) M'=>.ok t M'
 | .ok (.nx _) M'=>.ok .non M'
 | _=>.bad else .bad
noncomputable def spT (K:Frag) (f:List T->Mem->Out T):Sp:=fun vs H Q E=>L0 E (Rep K) K (Reps K) f vs H Q
structure CalT (P:Program) (w:World) (K:Frag) (mg:Str->Option Value) (base:Heap) (k:Nat) (x:Str) (ps:List Str) (f:List T->Mem->Out T):Prop where
 cal:Cal P w K mg base k x ps (spT K f)
 nox:∀ ts M C fs M',f ts M ≠ .exn C fs M'
theorem zc9 (p n:Nat) (g:Ev->Mem->Out Fl):∀ ts M C fs M',qg p n g ts M ≠ .exn C fs M':=by
 intro ts M C fs M' z
 unfold qg at z
 split at z
 ·split at z <;> cases z
 ·cases z
variable {N:List Str}
theorem EvR.start {S:Sit} (r:Reps K S ts vs) (hn:N.length = n):EvR K S (startT n ts) (L2.start N vs):=by
 subst hn
 refine ⟨by simp [startT,L2.start,r.1],fun i t e=>?_⟩
 unfold startT at e
 unfold L2.start
 by_cases hi:i < ts.length
 ·rw [Q6 (by simpa using hi)] at e
  rw [Q6 (by simpa [← r.1] using hi)]
  rw [Qa] at e ⊢
  cases q:ts[i]? with
  | none=>rw [q] at e;cases e
  | some t'=>
   rw [q] at e
   have:t' = t:=Qb (Qb e)
   subst this
   obtain ⟨v,e2,r2⟩:=r.get q
   exact ⟨v,by rw [e2];rfl,r2⟩
 ·rw [Q7 (by simpa using hi)] at e
  rw [List.getElem?_replicate] at e
  split at e <;> cases e
variable {g:Ev->Mem->Out Fl} {base:Heap} {ps:List Str} {P:Program} {mg:Str->Option Value} {w:World}
section
theorem zcl {st:List Stmt} {p:Nat} (hn:N.length = n) {E:XK} (hX:X.K = K) (h:spT K (qg p n g) vs H Q E) (hb:GSs X E0 st g) :
  ∃ t,PSs X st t/\t { nx:=fun _ H'=>Q .non H',rt:=Q } (start N vs) H:=by
 subst hX
 refine ⟨_,hb,?_⟩
 obtain ⟨S,ts,e,m,r,fin⟩:=h
 refine ⟨S,startT n ts,(),e,m,EvR.start r hn,trivial,?_⟩
 show Fin E0 (FlR X.K) X.K S (g (startT n ts) S.M) _
 unfold qg at fin
 by_cases hp:ts.length = p
 ·rw [if_pos hp] at fin
  cases o:g (startT n ts) S.M with
  | bad=>rw [o] at fin;exact fin
  | exn C fs M'=>rw [o] at fin;exact fin.elim
  | ok fl M1=>
   rw [o] at fin
   cases fl with
   | nx σ1=>
    intro S1 c e1 s1 r1
    cases r1 with
    | nx r1=>exact fin S1 .non e1 s1 .non
   | rt t=>
    intro S1 c e1 s1 r1
    cases r1 with
    | rt r1=>exact fin S1 _ e1 s1 r1
   | bk σ1=>exact fin.elim
   | ct σ1=>exact fin.elim
 ·rw [if_neg hp] at fin;exact fin.elim
theorem zdB {p:Nat} (hp:ps.length = p):∀ vs H Q E,spT K (qg p n g) vs H Q E->vs.length = ps.length:=by
 intro vs H Q E ⟨S,ts,e,m,r,fin⟩
 rw [← r.1,hp]
 unfold qg at fin
 by_cases h:ts.length = p
 ·exact h
 ·rw [if_neg h] at fin;exact fin.elim
theorem zef {k p:Nat} (D:Df K mg x st ps) (Sc:FnScope N ps (qc st)) (hp:ps.length = p) (hn:N.length = n)
 (hb:∀ (f:Addr) (cdv:Value) (A:Around) (outer:List PySem.Env) (s:Shared) (H:Hp) (E:XK),Room k (A.deeper (envOfC x (qc st) s.heap.objs.size f cdv))->GSs (qQ CX0 P w K mg base N x (qc st) f cdv A outer s H E).nox E0 (qi st) g) :
  CalT P w K mg base (k + 1) x ps (qg p n g):=
 ⟨D.ok Sc (zdB hp) fun f cdv A outer s H vs Q E hr h=>zcl hn rfl h (hb f cdv A outer s H E hr),zc9 _ _ _⟩
theorem zhd {qual:Str} {f:Addr} {fd:FuncData} {k p:Nat} (F:Fun K x qual st f fd) (Sc:FnScope N ps (qc st)) (hp:ps.length = p) (hn:N.length = n)
 (hb:∀ (cdv:Value) (A:Around) (outer:List PySem.Env) (s:Shared) (H:Hp) (E:XK),Room k (A.deeper (envOfC qual (qc st) s.heap.objs.size f cdv))->GSs (qQ CX0 P w K mg base N qual (qc st) f cdv A outer s H E).nox E0 (qi st) g) :
  FnOk P w K mg base CX0 (k + 1) f fd ps (spT K (qg p n g)):=
 F.ok Sc (zdB hp) fun cdv A outer s H vs Q E hr h=>zcl hn rfl h (hb cdv A outer s H E hr)
theorem zcP {f:List T->Mem->Out T} {a:Addr} {ns:List Int} {M':Mem} (hS:SqL K H a (ns.map V.int)) (h:f [.lst (ns.map .int)] [] = .ok (.bl true) M'):spT K f [.ref a] H (fun v _=>v = .bl true) fun _ _ _=>False:=by
 refine ⟨⟨fun _=>0,[],H,[]⟩,[.lst (ns.map .int)],rfl,⟨fun a c e=>by simp at e,fun a b h=>absurd h (Nat.not_lt_zero _),fun p h=>by simp at h⟩,.cons (.lst (vs:=ns.map V.int) ?_ (by simp) ?_) .nil,?_⟩
 ·rcases hS with h | h
  ·exact .inl ⟨h,fun a h=>absurd h (Nat.not_lt_zero _),fun z=>by simp at z⟩
  ·exact .inr h
 ·intro i t v e1 e2
  rw [Qa] at e1 e2
  cases q:ns[i]? with
  | none=>rw [q] at e1;cases e1
  | some z=>rw [q] at e1 e2;cases e1;cases e2;exact .int z
 ·show Fin _ _ K _ (f [.lst (ns.map .int)] []) _
  rw [h]
  intro S' c e s r
  cases r
  rfl
end
section
variable {k:Nat} {p:Pos} {F:List T->Mem->Out T}
end
inductive T.lt (n:Nat):T->Prop where
 | non:T.lt n .non
 | bl (b:Bool):T.lt n (.bl b)
 | int (i:Int):T.lt n (.int i)
 | str (x:Str):T.lt n (.str x)
 | ty (x:String):T.lt n (.ty x)
 | tup {ts:List T} (h:∀ t ∈ ts,T.lt n t):T.lt n (.tup ts)
 | lst {ts:List T} (h:∀ t ∈ ts,T.lt n t):T.lt n (.lst ts)
 | ref {a:Nat} (h:a < n):T.lt n (.ref a)
 | dct {kvs:List (Key × T)} (h:∀ t ∈ kvs.map (·.2),T.lt n t):T.lt n (.dct kvs)
 | exc {C:Addr} {fs:List (Str × T)} (h:∀ t ∈ fs.map (·.2),T.lt n t):T.lt n (.exc C fs)
noncomputable def Cell.lt (n:Nat):Cell->Prop
 | .lst ts=>∀ t ∈ ts,T.lt n t
 | .dic kvs=>∀ k ∈ kvs,T.lt n k.2
 | .ins _ fs=>∀ k ∈ fs,T.lt n k.2
inductive Fz (M':Mem) (n:Nat):T->T->Prop where
 | same {t:T} (h:T.lt n t):Fz M' n t t
 | tup {ts us:List T} (l:ts.length = us.length) (h:∀ (i:Nat) t u,ts[i]? = some t->us[i]? = some u->Fz M' n t u):Fz M' n (.tup ts) (.tup us)
 | lst {ts us:List T} (l:ts.length = us.length) (h:∀ (i:Nat) t u,ts[i]? = some t->us[i]? = some u->Fz M' n t u):Fz M' n (.lst ts) (.lst us)
 | ref {a:Nat} {ts us:List T} (e:M'[a]? = some (.lst ts)) (g:n<=a) (l:ts.length = us.length) (h:∀ (i:Nat) t u,ts[i]? = some t->us[i]? = some u->Fz M' n t u):Fz M' n (.ref a) (.lst us)
theorem Rep.lt {S:Sit} (r:Rep K S t v):T.lt S.M.length t:=by
 induction r with
 | non=>exact .non
 | bl b=>exact .bl b
 | int b=>exact .int b
 | str b=>exact .str b
 | ty b=>exact .ty b
 | @tup ts p vs h l _ ih=>
  refine .tup fun t ht=>?_
  obtain ⟨i,hi,rfl⟩:=getElem_of_mem ht
  exact ih i _ vs[i] (by simp [hi]) (by simp [← l,hi])
 | @lst ts p vs h l _ ih=>
  refine .lst fun t ht=>?_
  obtain ⟨i,hi,rfl⟩:=getElem_of_mem ht
  exact ih i _ vs[i] (by simp [hi]) (by simp [← l,hi])
 | ref h=>exact .ref h
 | @dct kvs us p o h l _ ih=>
  refine .dct fun t ht=>?_
  obtain ⟨i,hi,rfl⟩:=getElem_of_mem ht
  have hl:i < us.length:=by have:=congrArg List.length l;simp at this hi;omega
  exact ih i _ (us[i]'hl).2 (Q0 hi) (by simp [hl])
 | @exc C fs us p od h hd l _ ih=>
  refine .exc fun t ht=>?_
  obtain ⟨i,hi,rfl⟩:=getElem_of_mem ht
  have hl:i < us.length:=by have:=congrArg List.length l;simp at this hi;omega
  exact ih i _ (us[i]'hl).2 (Q0 hi) (by simp [hl])
theorem Reps.lt {S:Sit} (r:Reps K S ts vs):∀ t ∈ ts,T.lt S.M.length t:=fun t ht=>by
 obtain ⟨i,hi,rfl⟩:=getElem_of_mem ht
 have hv:i < vs.length:=by rw [← r.1];exact hi
 exact (r.2 i _ vs[i] (by simp [hi]) (by simp [hv])).lt
theorem zcN {κ:Type} {fs:List (κ × T)} (h:∀ t ∈ fs.map (·.2),T.lt n t):∀ k ∈ fs,T.lt n k.2:=fun k hk=>h _ (List.mem_map_of_mem (f:=(·.2)) hk)
theorem CellOk.lt {S:Sit} (h:CellOk K S p c):Cell.lt S.M.length c:=by
 cases c with
 | lst ts=>obtain ⟨vs,_,r⟩:=h;exact r.lt
 | dic ts=>obtain ⟨vs,_,r⟩:=h;exact zcN r.2.lt
 | ins C ts=>obtain ⟨dx,vs,_,r⟩:=h;exact zcN r.2.lt
variable {m:Nat}
theorem T.lt.mono (h:n<=m) (r:T.lt n t):T.lt m t:=by
 induction r with
 | non=>exact .non
 | bl b=>exact .bl b
 | int b=>exact .int b
 | str b=>exact .str b
 | ty b=>exact .ty b
 | tup _ ih=>exact .tup ih
 | lst _ ih=>exact .lst ih
 | ref g=>exact .ref (Q5 g h)
 | dct _ ih=>exact .dct ih
 | exc _ ih=>exact .exc ih
noncomputable def Sit.cut (S:Sit) (n:Nat) (h:List Addr):Sit:=⟨S.α,S.M.take n,S.H,h⟩
variable {u:T}
section
variable {S:Sit}
theorem Rep.cut (hn:n<=S'.M.length) (sub:∀ p ∈ hh,p ∈ S'.hid) (r:Rep K S' t v) (l:T.lt n t):Rep K (S'.cut n hh) t v:=by
 have ln:(S'.cut n hh).M.length = n:=by show (S'.M.take n).length = n;simp;omega
 induction r with
 | non=>exact .non
 | bl b=>exact .bl b
 | int b=>exact .int b
 | str b=>exact .str b
 | ty b=>exact .ty b
 | @tup ts p vs h l2 _ ih=>
  cases l with
  | tup hl=>exact .tup h l2 fun i t v e1 e2=>ih i t v e1 e2 (hl t (Q9 e1))
 | @lst ts p vs h l2 _ ih=>
  cases l with
  | lst hl=>
   refine .lst ?_ l2 fun i t v e1 e2=>ih i t v e1 e2 (hl t (Q9 e1))
   rcases h with ⟨h,f⟩ | h
   ·exact .inl ⟨h,fun a ha z=>f.1 a (by rw [ln] at ha;omega) z,fun z=>f.2 (sub _ z)⟩
   ·exact .inr h
 | @ref a h=>
  cases l with
  | ref hl=>exact .ref (S:=S'.cut n hh) (by rw [ln];exact hl)
 | dct h l2 _ ih=>
  cases l with
  | dct hl=>exact .dct (S:=S'.cut n hh) h l2 fun i t v e1 e2=>ih i t v e1 e2 (hl t (Q9 e1))
 | exc h hd l2 _ ih=>
  cases l with
  | exc hl=>exact .exc (S:=S'.cut n hh) h hd l2 fun i t v e1 e2=>ih i t v e1 e2 (hl t (Q9 e1))
theorem Reps.cut (hn:n<=S'.M.length) (sub:∀ p ∈ hh,p ∈ S'.hid) {t:List T} {v:List V} (r:Reps K S' t v) (l:∀ x ∈ t,T.lt n x):Reps K (S'.cut n hh) t v:=⟨r.1,fun i t v e1 e2=>(r.2 i t v e1 e2).cut hn sub (l t (Q9 e1))⟩
theorem CellOk.cut (hn:n<=S'.M.length) (sub:∀ p ∈ hh,p ∈ S'.hid) (r:CellOk K S' p c) (l:Cell.lt n c):CellOk K (S'.cut n hh) p c:=by
 have ms:∀ {κ:Type} {fs:List (κ × T)},(∀ k ∈ fs,T.lt n k.2)->∀ t ∈ fs.map (·.2),T.lt n t:=fun h t ht=>by
  obtain ⟨k,hk,rfl⟩:=mem_map.mp ht
  exact h k hk
 cases c with
 | lst ts=>obtain ⟨vs,q,r⟩:=r;exact ⟨vs,q,r.cut hn sub l⟩
 | dic ts=>obtain ⟨vs,q,r⟩:=r;exact ⟨vs,q,r.1,r.2.cut hn sub (ms l)⟩
 | ins C ts=>obtain ⟨dx,vs,q,r⟩:=r;exact ⟨dx,vs,q,r.1,r.2.cut hn sub (ms l)⟩
theorem Stp.cut (s:Stp K S S') (h1:S.M.length<=n) (h2:n<=S'.M.length) (hl:∀ (i:Nat) c,i < n->S'.M[i]? = some c->Cell.lt n c):Stp K S (S'.cut n S.hid):=by
 have sub:∀ p ∈ S.hid,p ∈ S'.hid:=fun p h=>(s.hk p h).1
 have ln:(S'.cut n S.hid).M.length = n:=by show (S'.M.take n).length = n;simp;omega
 refine ⟨⟨by rw [ln];exact h1,s.al,fun a g1 g2=>s.fr a g1 (by rw [ln] at g2;omega),s.kp,fun p h=>⟨h,(s.hk p h).2⟩,fun p h=>.inl h⟩,⟨fun a c e=>?_,fun a b g1 g2 e=>s.mok.inj a b (by rw [ln] at g1;omega) (by rw [ln] at g2;omega) e,fun p h=>?_⟩⟩
 ·have e':(S'.M.take n)[a]? = some c:=e
  rw [List.getElem?_take] at e'
  split at e'
  ·rename_i hi
   exact (s.mok.cell a c e').cut h2 sub (hl a c hi e')
  ·cases e'
 ·obtain ⟨g1,vs,g2⟩:=s.mok.hd p (sub p h)
  exact ⟨fun a ha z=>g1 a (by rw [ln] at ha;omega) z,vs,g2⟩
theorem Rep.fz (m:MemOk K S') (hn:n<=S'.M.length) (sub:∀ p ∈ hh,p ∈ S'.hid) (z:Fz S'.M n t u):∀ {v:V},Rep K S' t v->Rep K (S'.cut n hh) u v:=by
 have ln:(S'.cut n hh).M.length = n:=by show (S'.M.take n).length = n;simp;omega
 induction z with
 | same h=>exact fun r=>r.cut hn sub h
 | @tup ts us l _ ih=>
  intro v r
  cases r with
  | @tup _ p vs h l2 rr=>
   refine .tup h (by rw [← l];exact l2) fun i t v e1 e2=>?_
   have hi:i < ts.length:=by rw [l];exact (List.getElem?_eq_some_iff.mp e1).1
   exact ih i ts[i] t (by simp [hi]) e1 (rr i _ v (by simp [hi]) e2)
 | @lst ts us l _ ih=>
  intro v r
  cases r with
  | @lst _ p vs h l2 rr=>
   refine .lst ?_ (by rw [← l];exact l2) fun i t v e1 e2=>?_
   ·rcases h with ⟨h,f⟩ | h
    ·exact .inl ⟨h,fun a ha z=>f.1 a (by rw [ln] at ha;omega) z,fun z=>f.2 (sub _ z)⟩
    ·exact .inr h
   ·have hi:i < ts.length:=by rw [l];exact (List.getElem?_eq_some_iff.mp e1).1
    exact ih i ts[i] t (by simp [hi]) e1 (rr i _ v (by simp [hi]) e2)
 | @ref a ts us e g l _ ih=>
  intro v r
  cases r with
  | ref ha=>
   obtain ⟨vs,q,rr⟩:=m.cell a _ e
   refine .lst (vs:=vs) (.inl ⟨.inl q,fun b hb z=>?_,fun z=>?_⟩) (by rw [← l];exact rr.1) fun i t v e1 e2=>?_
   ·rw [ln] at hb
    have:=m.inj b a (by omega) ha z
    omega
   ·exact (m.hd _ (sub _ z)).1 a ha rfl
   ·have hi:i < ts.length:=by rw [l];exact (List.getElem?_eq_some_iff.mp e1).1
    exact ih i ts[i] t (by simp [hi]) e1 (rr.2 i _ v (by simp [hi]) e2)
end
def Refines (f g:List T->Mem->Out T):Prop:=∀ ts M t' M1,(∀ c ∈ M,Cell.lt M.length c)->f ts M = .ok t' M1->∃ t M',g ts M = .ok t M'/\M.length<=M1.length/\M1.length<=M'.length/\M1 = M'.take M1.length/\(∀ (i:Nat) c,M1[i]? = some c->M[i]? = some c\/Cell.lt M1.length c)/\Fz M' M1.length t t'
theorem Cell.lt.mono (h:n<=m) (r:Cell.lt n c):Cell.lt m c:=by
 cases c with
 | lst ts=>exact fun t ht=>(r t ht).mono h
 | dic ts=>exact fun t ht=>(r t ht).mono h
 | ins C ts=>exact fun t ht=>(r t ht).mono h
theorem CalT.refine {k:Nat} {f g:List T->Mem->Out T} (C:CalT P w K mg base k x ps g) (h:Refines f g) (nox:∀ ts M C fs M',f ts M ≠ .exn C fs M'):CalT P w K mg base k x ps f:=by
 refine ⟨?_,nox⟩
 obtain ⟨⟨fa,fd,F,kp,b,gg⟩⟩:=C.cal
 have key:∀ vs H Q E,spT K f vs H Q E->spT K g vs H Q E:=by
  rintro vs H Q E ⟨S,ts,e,m,r,fin⟩
  refine ⟨S,ts,e,m,r,?_⟩
  have wf:∀ c ∈ S.M,Cell.lt S.M.length c:=fun c hc=>by
   obtain ⟨i,hi,rfl⟩:=getElem_of_mem hc
   exact (m.cell i _ (by simp [hi])).lt
  cases o:f ts S.M with
  | bad=>rw [o] at fin;exact fin.elim
  | exn C' fs M'=>exact absurd o (nox _ _ _ _ _)
  | ok t' M1=>
   rw [o] at fin
   obtain ⟨t,M',eg,l1,l2,eM,hc,z⟩:=h ts S.M t' M1 wf o
   rw [eg]
   intro S' v e1 s r1
   have hl:∀ (i:Nat) c,i < M1.length->S'.M[i]? = some c->Cell.lt M1.length c:=fun i c hi ec=>by
    have e2:M1[i]? = some c:=by
     rw [eM,List.getElem?_take,if_pos hi,← e1];exact ec
    rcases hc i c e2 with q | q
    ·exact (wf c (Q9 q)).mono l1
    ·exact q
   have sc:=s.cut l1 (by rw [e1];exact l2) hl
   refine fin (S'.cut M1.length S.hid) v ?_ sc ?_
   ·show S'.M.take M1.length = M1
    rw [e1];exact eM.symm
   ·exact Rep.fz s.mok (by rw [e1];exact l2) (fun p h=>(s.hk p h).1) (by rw [e1];exact z) r1
 refine ⟨⟨fa,fd,⟨fun vs H Q E q=>F.len vs H Q E (key _ _ _ _ q),?_⟩,kp,b,gg⟩⟩
 intro A outer s H args us vs Q E hr h0 hb hv hq
 exact F.run A outer s H args us vs Q E hr h0 hb hv (key _ _ _ _ hq)
noncomputable def yB (t:T) (M:Mem):Option (List T):=match t with
 | .lst xs=>some xs
 | .ref a=>match M[a]? with
  | some (.lst xs)=>some xs
  | _=>none
 | _=>none
noncomputable def zbN (t:T):Option (List T):=match t with
 | .lst xs=>some xs
 | .tup xs=>some xs
 | _=>none
noncomputable def zbt (t:T) (M:Mem):Option (List T):=match t with
 | .tup xs=>some xs
 | t=>yB t M
section
variable {S:Sit}
theorem zaI (h:(Rd S.H p (.lst vs)/\S.off p)\/KL K p vs):SqL K S.H p vs:=by
 rcases h with ⟨h,_⟩ | h
 ·exact .inl h
 ·exact .inr h
theorem yj (m:MemOk K S) (r:Rep K S t v) (e:yB t S.M = some xs):∃ p vs,v = .ref p/\SqL K S.H p vs/\Reps K S xs vs:=by
 cases r with
 | @lst ts p vs h l r=>cases e;exact ⟨p,vs,rfl,zaI h,l,r⟩
 | @ref a h=>
  unfold yB at e
  dsimp only at e
  split at e
  ·rename_i ys q
   cases e
   obtain ⟨vs,q2,r2⟩:=m.cell a _ q
   exact ⟨_,vs,rfl,.inl (.inl q2),r2⟩
  ·cases e
 | _=>cases e
theorem zbh (m:MemOk K S) (r:Rep K S t v) (e:zbt t S.M = some xs):∃ p vs,v = .ref p/\(SqL K S.H p vs\/SqT K S.H p vs)/\Reps K S xs vs:=by
 cases t with
 | tup ts=>
  cases e
  cases r with
  | @tup _ p vs h l r=>exact ⟨p,vs,rfl,.inr h,l,r⟩
 | lst ts=>obtain ⟨p,vs,e1,h,r2⟩:=yj m r e;exact ⟨p,vs,e1,.inl h,r2⟩
 | ref a=>obtain ⟨p,vs,e1,h,r2⟩:=yj m r e;exact ⟨p,vs,e1,.inl h,r2⟩
 | _=>cases e
end
noncomputable def zdi (f:Ev->Mem->Out T):Ev->Mem->Out (List T):=fun σ M=>(f σ M).bind fun t M1=>match zbN t with
 | some xs=>.ok xs M1
 | none=>.bad
noncomputable def zac (lo:Int) (n:Nat):List T:=(List.range n).map fun (k:Nat)=>T.int (lo + (k:Int))
noncomputable def zaZ (ts:List T) (M1:Mem):Out (List T):=match ts with
 | [.int j]=>@ite _ (-(2 ^ 62)<=j/\j < 2 ^ 62) (Classical.propDecidable _) (.ok (zac 0 j.toNat) M1) .bad
 | _=>.bad
noncomputable def ziS (ts:List T) (M1:Mem):Out (List T):=match ts with
 | [.int i,.int j]=>@ite _ ((-(2 ^ 62)<=i/\i < 2 ^ 62)/\(-(2 ^ 62)<=j/\j < 2 ^ 62)) (Classical.propDecidable _) (.ok (zac i (j - i).toNat) M1) .bad
 | _=>.bad
noncomputable def yX (f:Ev->Mem->Out (List T)):Ev->Mem->Out (List T):=fun σ M=>(f σ M).bind fun ts M1=>zaZ ts M1
noncomputable def zjt (f:Ev->Mem->Out (List T)):Ev->Mem->Out (List T):=fun σ M=>(f σ M).bind fun ts M1=>ziS ts M1
theorem zeL (K:Frag) (S:Sit) (lo:Int) (n:Nat):zV K S (zac lo n) (Itr lo n):=fun S' s=>by
 refine ⟨fun i t e=>?_,fun i h=>?_⟩
 ·unfold zac at e
  rw [Qa] at e
  cases q:(List.range n)[i]? with
  | none=>rw [q] at e;cases e
  | some k=>
   rw [q] at e
   cases e
   have hi:i < n:=by have:=(List.getElem?_eq_some_iff.mp q).1;simpa using this
   have hk:k = i:=by rw [List.getElem?_range hi] at q;exact (Qb q).symm
   subst hk
   refine ⟨hi,fun x H' hy=>?_⟩
   obtain ⟨e1,e2⟩:=hy
   exact ⟨S',e1.symm,rfl,.refl s.mok,by rw [e2];exact .int _⟩
 ·show n<=i
  simpa [zac] using h
section
variable {a b c:Expr} {g h:Ev->Mem->Out T} {p:Pos}
theorem zhB (he:GE X XE e f):GI X XE tg e (zdi f):=PI.imp (PI.or (zfC he) (zgS he)) fun σ H R h9=>by
 obtain ⟨S,στ,_,e,m,ev,_,fin⟩:=h9
 replace fin:Fin XE (zV X.K) X.K S ((f στ S.M).bind fun t M1=>match zbN t with | some xs=>.ok xs M1 | none=>.bad) R:=fin
 cases o:f στ S.M with
 | bad=>rw [o] at fin;exact fin.elim
 | exn C fs M'=>
  rw [o] at fin
  refine .inl ⟨S,στ,(),e,m,ev,trivial,?_⟩
  show Fin XE (Rep X.K) X.K S (f στ S.M) _
  rw [o];exact fin
 | ok t M1=>
  rw [o] at fin
  cases t with
  | lst ts=>
   refine .inl ⟨S,στ,(),e,m,ev,trivial,?_⟩
   show Fin XE (Rep X.K) X.K S (f στ S.M) _
   rw [o]
   intro S1 v e1 s1 r1
   cases r1 with
   | @lst _ p vs h l r=>
    have r1:Reps X.K S1 ts vs:=⟨l,r⟩
    refine ⟨p,rfl,⟨vs,zaI h⟩,fin S1 _ e1 s1 fun S3 s3=>?_⟩
    have g3:SqL X.K S3.H p vs:=by
     rcases h with ⟨h2,f2⟩ | h2
     ·exact .inl (s3.toGrow.rd h2 f2).1
     ·exact .inr h2
    refine ⟨fun i t et=>?_,fun i hi=>⟨vs,g3,by rw [← l];exact hi⟩⟩
    obtain ⟨v2,ev3,r3⟩:=r1.get et
    refine ⟨⟨vs,v2,g3,ev3⟩,fun x H' hy=>?_⟩
    obtain ⟨ey,hy⟩:=hy
    have:=hy vs g3
    rw [ev3] at this
    cases this
    exact ⟨S3,ey.symm,rfl,.refl s3.mok,r3.grow s1.mok s3.toGrow⟩
  | tup ts=>
   refine .inr ⟨S,στ,(),e,m,ev,trivial,?_⟩
   show Fin XE (Rep X.K) X.K S (f στ S.M) _
   rw [o]
   intro S1 v e1 s1 r1
   cases r1 with
   | @tup _ p vs h l r=>
    have r1:Reps X.K S1 ts vs:=⟨l,r⟩
    refine ⟨p,rfl,⟨vs,h⟩,fin S1 _ e1 s1 fun S3 s3=>?_⟩
    have g3:SqT X.K S3.H p vs:=s3.toGrow.tup s1.mok h
    refine ⟨fun i t et=>?_,fun i hi=>⟨vs,g3,by rw [← l];exact hi⟩⟩
    obtain ⟨v2,ev3,r3⟩:=r1.get et
    refine ⟨⟨vs,v2,g3,ev3⟩,fun x H' hy=>?_⟩
    obtain ⟨ey,hy⟩:=hy
    have:=hy vs g3
    rw [ev3] at this
    cases this
    exact ⟨S3,ey.symm,rfl,.refl s3.mok,r3.grow s1.mok s3.toGrow⟩
  | _=>exact fin.elim
end
noncomputable def qh (bd:T->Ev->Mem->Out Ev) (cond:Ev->Mem->Out Bool) (el:Ev->Mem->Out T):List T->Ev->Mem->List T->Out (List T)
 | [],_,M,acc=>.ok acc M
 | x :: xs,σ,M,acc=>(bd x σ M).bind fun σ1 M1=>(cond σ1 M1).bind fun b M2=>if b = true then (el σ1 M2).bind fun t M3=>if acc.length < sizeLine then qh bd cond el xs σ1 M3 (acc ++ [t]) else .bad else qh bd cond el xs σ1 M2 acc
noncomputable def zag (tgs:List Str) (caps:List (Str × Nat)) (σ:Ev):Ev:=tgs.map (fun _=>none) ++ caps.map fun c=>(σ[c.2]?).join
noncomputable def z4 (it:Ev->Mem->Out (List T)) (bd:T->Ev->Mem->Out Ev) (cond:Ev->Mem->Out Bool) (el:Ev->Mem->Out T) (tgs:List Str) (caps:List (Str × Nat)):Ev->Mem->Out (List T):=fun σ M=>(it σ M).bind fun xs M1=>qh bd cond el xs (zag tgs caps σ) M1 []
noncomputable def zZ:Ev->Mem->Out Bool:=fun _ M=>.ok true M
theorem EvR.cap {S:Sit} (r:EvR K S στ σ) (tgs:List Str) (caps:List (Str × Nat)):EvR K S (zag tgs caps στ) (qU tgs caps σ):=by
 refine ⟨by simp [zag,qU],fun i t e=>?_⟩
 unfold zag at e
 unfold qU
 by_cases hi:i < tgs.length
 ·rw [Q6 (by simpa using hi)] at e
  rw [Qa] at e
  cases q:tgs[i]? with
  | none=>rw [q] at e;cases e
  | some x=>rw [q] at e;cases e
 ·rw [Q7 (by simpa using hi),Qa] at e
  rw [Q7 (by simpa using hi),Qa]
  simp only [length_map] at e ⊢
  cases q:caps[i - tgs.length]? with
  | none=>rw [q] at e;cases e
  | some cq=>
   rw [q] at e
   have e2:(στ[cq.2]?).join = some t:=Qb e
   have e3:στ[cq.2]? = some (some t):=by
    cases q2:στ[cq.2]? with
    | none=>rw [q2] at e2;cases e2
    | some o=>rw [q2] at e2;cases o with
     | none=>cases e2
     | some v'=>rw [show v' = t from Qb e2]
   obtain ⟨v,e4,r4⟩:=r.2 _ _ e3
   exact ⟨v,by show some ((σ[cq.2]?).join) = _;rw [e4];rfl,r4⟩
noncomputable def Sit.hput (S:Sit) (p:Addr) (vs:List V):Sit:=⟨S.α,S.M,upd S.H p (.lst vs),S.hid⟩
section
variable {S S0:Sit} {us:List V}
theorem Rep.hput (m:MemOk K S) (hp:p ∈ S.hid) (r:Rep K S t v):Rep K (S.hput p us) t v:=by
 obtain ⟨_,ws,ew⟩:=m.hd p hp
 induction r with
 | non=>exact .non
 | bl b=>exact .bl b
 | int b=>exact .int b
 | str b=>exact .str b
 | ty b=>exact .ty b
 | @tup ts q vs h l _ ih=>
  refine .tup ?_ l ih
  rcases h with (h | ⟨o,h⟩) | h
  ·exact .inl (.inl ((yc (zaH h ew (by intro z;cases z))).trans h))
  ·exact .inl (.inr ⟨o,(yc (zaH h ew (by intro z;cases z))).trans h⟩)
  ·exact .inr h
 | @lst ts q vs h l _ ih=>
  refine .lst ?_ l ih
  rcases h with ⟨h,f⟩ | h
  ·have hne:q ≠ p:=fun z=>f.2 (by rw [z];exact hp)
   refine .inl ⟨?_,f⟩
   rcases h with h | ⟨o,h⟩
   ·exact .inl ((yc hne).trans h)
   ·exact .inr ⟨o,(yc hne).trans h⟩
  ·exact .inr h
 | ref h=>exact .ref (S:=S.hput p us) h
 | dct h l _ ih=>exact .dct (S:=S.hput p us) ((yc (zaH h ew (by intro z;cases z))).trans h) l ih
 | exc h hd l _ ih=>exact .exc (S:=S.hput p us) ((yc (zaH h ew (by intro z;cases z))).trans h) (hd.imp (fun z=>z) fun ⟨d,a,b⟩=>⟨d,a,(yc (zaH b ew (by intro z;cases z))).trans b⟩) l ih
theorem Reps.hput (m:MemOk K S) (hp:p ∈ S.hid) {t:List T} {v:List V} (r:Reps K S t v):Reps K (S.hput p us) t v:=⟨r.1,fun i a b e1 e2=>(r.2 i a b e1 e2).hput m hp⟩
theorem CellOk.hput (m:MemOk K S) (hp:p ∈ S.hid) (hq:q ≠ p) (r:CellOk K S q c):CellOk K (S.hput p us) q c:=by
 cases c with
 | lst ts=>obtain ⟨vs,q,r⟩:=r;exact ⟨vs,(yc hq).trans q,r.hput m hp⟩
 | dic ts=>obtain ⟨vs,q,r⟩:=r;exact ⟨vs,(yc hq).trans q,r.1,r.2.hput m hp⟩
 | ins C ts=>obtain ⟨dx,vs,q,r⟩:=r;exact ⟨dx,vs,(yc hq).trans q,r.1,r.2.hput m hp⟩
theorem Stp.hput (s:Stp K S0 S) (hp:p ∈ S.hid) (hn:S0.H p = none) (m0:MemOk K S0):Stp K S0 (S.hput p us):=by
 refine ⟨⟨s.le,s.al,s.fr,fun b o e f=>(yc (zg e hn)).trans (s.kp b o e f),fun q h=>⟨(s.hk q h).1,?_⟩,s.hf⟩,⟨fun a c e=>?_,s.mok.inj,fun q h=>?_⟩⟩
 ·obtain ⟨_,vs,e⟩:=m0.hd q h
  exact (yc (zg e hn)).trans (s.hk q h).2
 ·exact (s.mok.cell a c e).hput s.mok hp ((s.mok.hd p hp).1 a (List.getElem?_eq_some_iff.mp e).1)
 ·obtain ⟨h1,vs,e⟩:=s.mok.hd q h
  refine ⟨h1,?_⟩
  by_cases z:q = p
  ·exact ⟨us,by show upd S.H p _ q = _;rw [z];exact zh⟩
  ·exact ⟨vs,(yc z).trans e⟩
end
structure CB (X:Cx) (scope:Scope) (cl:List (Str × Addr)) (caps:List (Str × Nat)):Prop where
 hc:X.calm = true
 hclos:closureFor scope X.env = pure cl
 hcell:∀ y ∈ scope.names,y.2 = .cell->y.1 ∉ caps.map (·.1)
 hkind:scope.kind = .function
 hnames:∀ y ∈ scope.names,y.2 = .local->scope.names.lookup y.1 = some .local
 hcl:∀ y c,cl.lookup y = some c->X.env.cells.lookup y = some c
 hhas:∀ n y,((relabel scope X.env).names.lookup y = some .cell\/(relabel scope X.env).names.lookup y = some .free)->∃ c,(cellsFrom n scope.names cl).lookup y = some c
 hcap:∀ c ∈ caps,X.N[c.2]? = some c.1/\X.env.kindOf c.1 = some .cell/\((relabel scope X.env).names.lookup c.1 = some .cell\/(relabel scope X.env).names.lookup c.1 = some .free)
variable {cond:Ev->Mem->Out Bool} {caps:List (Str × Nat)} {tgs:List Str}
section
theorem zeZ (hh:lL XE X.K (z4 ga bd cond f tgs caps) σ H Q) :
  zfa (lI XE X.K ga) (lG XE X.K bd) (lT XE X.K cond) (lE XE X.K f) (qU tgs caps) σ H Q:=by
 obtain ⟨S,στ,e,m,ev,fin⟩:=hh
 replace fin:FinL XE X.K S ((ga στ S.M).bind fun xs M1=>qh bd cond f xs (zag tgs caps στ) M1 []) Q:=fin
 refine ⟨S,στ,(),e,m,ev,trivial,?_⟩
 show Fin XE (zV X.K) X.K S (ga στ S.M) _
 cases o:ga στ S.M with
 | bad=>rw [o] at fin;exact fin
 | exn C fs M'=>rw [o] at fin;exact fin
 | ok items M1=>
  rw [o] at fin
  replace fin:FinL XE X.K S (qh bd cond f items (zag tgs caps στ) M1 []) Q:=fin
  intro S0 J e0 s0 it0 D hD
  have m0:=s0.mok
  have fin0:=fin.later s0
  have s1:=Stp.hide (K:=X.K) m0 hD []
  refine ⟨fun i n σ' H'=>∃ S στ acc vs,S.H = H'/\EvR X.K S στ σ'/\n = items.length - i/\i<=items.length/\D ∈ S.hid/\S.H D = some (.lst vs)/\Reps X.K S acc vs/\Stp X.K S0 S/\FinL XE X.K S0 (qh bd cond f (items.drop i) στ S.M acc) Q,
   ⟨items.length - 0,S0.hide D [],zag tgs caps στ,[],[],rfl,(Mo.mo (K:=X.K) m0 s1 (Mo.mo (K:=X.K) m s0 ev)).cap tgs caps,rfl,Nat.zero_le _,.head _,zh,.nil,s1,by show FinL XE X.K S0 (qh bd cond f items (zag tgs caps στ) S0.M []) Q;rw [e0];exact fin0⟩,?_⟩
  rintro i n σ1 H1 ⟨S2,στ2,acc,vs,e2,ev2,en,hi2,hid2,hD2,racc,s2,fin2⟩
  subst e2
  have m2:=s2.mok
  obtain ⟨itg,its⟩:=it0 S2 s2
  by_cases hl:i < items.length
  ·have eq:items.drop i = items[i] :: items.drop (i + 1):=List.drop_eq_getElem_cons hl
   rw [eq] at fin2
   obtain ⟨go,yl⟩:=itg i items[i] (by simp [hl])
   refine .inr ⟨go,fun σ' H'=>∃ S στ acc vs,S.H = H'/\EvR X.K S στ σ'/\D ∈ S.hid/\S.H D = some (.lst vs)/\Reps X.K S acc vs/\Stp X.K S0 S/\FinL XE X.K S0 (qh bd cond f (items.drop (i + 1)) στ S.M acc) Q,?_,fun x H' hy=>?_⟩
   ·rintro σ' H' ⟨S,στ,acc,vs,a1,a2,a3,a4,a5,a6,a7⟩
    exact ⟨items.length - (i + 1),by omega,S,στ,acc,vs,a1,a2,rfl,hl,a3,a4,a5,a6,a7⟩
   ·obtain ⟨S3,e3,eM,s3,r3⟩:=yl x H' hy
    replace fin2:FinL XE X.K S0 ((bd items[i] στ2 S2.M).bind fun σ1 M1=>(cond σ1 M1).bind fun b M2=>if b = true then (f σ1 M2).bind fun t M3=>if acc.length < sizeLine then qh bd cond f (items.drop (i + 1)) σ1 M3 (acc ++ [t]) else .bad else qh bd cond f (items.drop (i + 1)) σ1 M2 acc) Q:=fin2
    refine ⟨S3,στ2,items[i],e3,s3.mok,Mo.mo m2 s3 ev2,r3,?_⟩
    show Fin XE (EvR X.K) X.K S3 (bd items[i] στ2 S3.M) _
    rw [eM]
    cases o1:bd items[i] στ2 S2.M with
    | bad=>rw [o1] at fin2;exact fin2
    | exn C fs M'=>rw [o1] at fin2;exact fun S' od a1 a2 a3=>fin2 S' od a1 ((s2.trans s3).trans a2) a3
    | ok σ4 M4=>
     rw [o1] at fin2
     intro S4 σ4v e4 s4 ev4
     have t4:=s3.trans s4
     replace fin2:FinL XE X.K S0 ((cond σ4 M4).bind fun b M2=>if b = true then (f σ4 M2).bind fun t M3=>if acc.length < sizeLine then qh bd cond f (items.drop (i + 1)) σ4 M3 (acc ++ [t]) else .bad else qh bd cond f (items.drop (i + 1)) σ4 M2 acc) Q:=fin2
     refine ⟨S4,σ4,(),rfl,s4.mok,ev4,trivial,?_⟩
     show Fin XE EqR X.K S4 (cond σ4 S4.M) _
     rw [e4]
     cases o2:cond σ4 M4 with
     | bad=>rw [o2] at fin2;exact fin2
     | exn C fs M'=>rw [o2] at fin2;exact fun S' od a1 a2 a3=>fin2 S' od a1 ((s2.trans t4).trans a2) a3
     | ok b M5=>
      rw [o2] at fin2
      intro S5 b5 e5 s5 eb
      have eb':b = b5:=eb
      subst eb'
      have t5:=t4.trans s5
      replace fin2:FinL XE X.K S0 (if b = true then (f σ4 M5).bind fun t M3=>if acc.length < sizeLine then qh bd cond f (items.drop (i + 1)) σ4 M3 (acc ++ [t]) else .bad else qh bd cond f (items.drop (i + 1)) σ4 M5 acc) Q:=fin2
      cases b with
      | false=>
       rw [if_neg Q4] at fin2
       refine (if_neg Q4).mpr ⟨S5,σ4,acc,vs,rfl,Mo.mo s4.mok s5 ev4,(t5.hk D hid2).1,by rw [(t5.hk D hid2).2];exact hD2,racc.grow m2 t5.toGrow,s2.trans t5,by rw [e5];exact fin2⟩
      | true=>
       rw [if_pos rfl] at fin2
       refine (if_pos rfl).mpr ⟨S5,σ4,(),rfl,s5.mok,Mo.mo s4.mok s5 ev4,trivial,?_⟩
       show Fin XE (Rep X.K) X.K S5 (f σ4 S5.M) _
       rw [e5]
       cases o3:f σ4 M5 with
       | bad=>rw [o3] at fin2;exact fin2
       | exn C fs M'=>rw [o3] at fin2;exact fun S' od a1 a2 a3=>fin2 S' od a1 ((s2.trans t5).trans a2) a3
       | ok t M6=>
        rw [o3] at fin2
        replace fin2:FinL XE X.K S0 (if acc.length < sizeLine then qh bd cond f (items.drop (i + 1)) σ4 M6 (acc ++ [t]) else .bad) Q:=fin2
        intro S6 v6 e6 s6 r6
        have t6:=t5.trans s6
        have hz:acc.length < sizeLine:=by
         by_cases hz:acc.length < sizeLine
         ·exact hz
         ·rw [if_neg hz] at fin2;exact fin2.elim
        rw [if_pos hz] at fin2
        have hid6:=(t6.hk D hid2).1
        have hD6:S6.H D = some (.lst vs):=by rw [(t6.hk D hid2).2];exact hD2
        refine ⟨vs,hD6,by rw [← racc.1];exact hz,S6.hput D (vs ++ [v6]),σ4,acc ++ [t],vs ++ [v6],rfl,?_,hid6,zh,?_,(s2.trans t6).hput hid6 hD m0,by show FinL XE X.K S0 (qh bd cond f (items.drop (i + 1)) σ4 S6.M (acc ++ [t])) Q;rw [e6];exact fin2⟩
        ·have ev6:EvR X.K S6 σ4 σ4v:=Mo.mo s4.mok (s5.trans s6) ev4
         exact ⟨ev6.1,fun i t e=>let ⟨v,e',q⟩:=ev6.2 i t e;⟨v,e',q.hput s6.mok hid6⟩⟩
        ·exact ((racc.grow m2 t6.toGrow).app (.cons r6 .nil)).hput s6.mok hid6
  ·rw [List.drop_eq_nil_of_le (by omega)] at fin2
   refine .inl ⟨its i (by omega),?_⟩
   exact fin2 S2 D vs rfl s2 hD hid2 hD2 racc
theorem zf8:PTs X [] (lT XE X.K zZ):=fun pins s σ H Q I h=>zfx pins s σ H Q I (zbx h)
theorem zf7 {c:Expr} (h:GT X XE c tf):PTs X [c] (lT XE X.K tf):=zfw h
end
noncomputable def lOp (o:T->T->Mem->Out (List T)) (f g:Ev->Mem->Out T):Ev->Mem->Out (List T):=fun σ M=>(f σ M).bind fun x M1=>(g σ M1).bind fun y M2=>o x y M2
noncomputable def zjO (F:List T->Mem->Out (List T)) (g:Ev->Mem->Out (List T)):Ev->Mem->Out (List T):=fun σ M=>(g σ M).bind fun ts M1=>F ts M1
noncomputable def yH (k:Int->Int->Mem->Out T) (x y:T) (M:Mem):Out T:=match x,y with
 | .int i,.int j=>k i j M
 | _,_=>.bad
def Mo64 (i j:Int):Prop:=(i.natAbs < 10 ^ 3000/\j.natAbs < 10 ^ 3000)\/(-(2 ^ 64) < i/\i < 2 ^ 64)\/(-(2 ^ 64) < j/\j < 2 ^ 64)
instance (i j:Int):Decidable (Mo64 i j):=inferInstanceAs (Decidable (_\/_))
variable {j:Int}
theorem Mo64.ok (h:Mo64 i j):CMulB i j:=by
 rcases h with h | h
 ·exact .inl ⟨3000,3000,h.1,h.2,Q3 _,Q3 _⟩
 ·exact .inr h
noncomputable def y8:T->T->Mem->Out T:=yH fun i j M=>.ok (.int (i - j)) M
noncomputable def za7:T->T->Mem->Out T:=yH fun i j M=>if j ≠ 0/\j.natAbs < 10 ^ 2000 then .ok (.int (i.fdiv j)) M else .bad
noncomputable def z3:T->T->Mem->Out T:=yH fun i j M=>if j ≠ 0 then .ok (.int (i.fmod j)) M else .bad
noncomputable def za1:T->T->Mem->Out T:=yH fun i j M=>if 0<=j/\j<=1000000/\i.natAbs < 2 ^ 64 then .ok (.int (i ^ j.toNat)) M else .bad
noncomputable def ltI:T->T->Mem->Out T:=yH fun i j M=>.ok (.bl (decide (i < j))) M
noncomputable def leI:T->T->Mem->Out T:=yH fun i j M=>.ok (.bl (decide (i<=j))) M
noncomputable def gtI:T->T->Mem->Out T:=yH fun i j M=>.ok (.bl (decide (j < i))) M
noncomputable def geI:T->T->Mem->Out T:=yH fun i j M=>.ok (.bl (decide (j<=i))) M
noncomputable def ziY:T->Mem->Out T:=fun x M=>match x with
 | .int i=>.ok (.int (-i)) M
 | _=>.bad
variable {y:V} {F:Value}
section
theorem zcE {S:Sit} (r:Rep K S (.int i) v):v = .int i:=by cases r;rfl
theorem qM {fn:Value->Value->Sem Value} {r:R2} {k:Int->Int->Mem->Out T} (ho:OpR X fn r)
  (h:∀ i j S Q,MemOk X.K S->Fin XE (Rep X.K) X.K S (k i j S.M) Q->r (.int i) (.int j) S.H Q):OpR X fn (lR2 XE X.K (yH k)):=by
 intro pins s σ H x y v u Q I rx ry ⟨S,⟨tx,ty⟩,e,m,⟨r1,r2⟩,fin⟩
 replace fin:Fin XE (Rep X.K) X.K S (yH k tx ty S.M) Q:=fin
 unfold yH at fin
 split at fin
 ·have e1:=zcE r1
  have e2:=zcE r2
  dsimp only at e1 e2
  subst e1;subst e2;subst e
  exact ho pins s σ S.H _ _ v u Q I rx ry (h _ _ S Q m fin)
 ·exact fin.elim
theorem zM:OpR X (binaryOp .Sub) (lR2 XE X.K y8):=qM zg4 fun i j S Q m fin=>⟨i,j,rfl,rfl,fin S _ rfl (.refl m) (.int _)⟩
theorem zcI:OpR X (binaryOp .FloorDiv) (lR2 XE X.K za7):=qM zeB fun i j S Q m fin=>by
 by_cases h:j ≠ 0/\j.natAbs < 10 ^ 2000
 ·rw [if_pos h] at fin
  exact ⟨i,j,rfl,rfl,⟨h.1,2000,h.2,Q3 _⟩,fin S _ rfl (.refl m) (.int _)⟩
 ·rw [if_neg h] at fin;exact fin.elim
theorem yM:OpR X (binaryOp .Mod) (lR2 XE X.K z3):=qM zfO fun i j S Q m fin=>by
 by_cases h:j ≠ 0
 ·rw [if_pos h] at fin
  exact ⟨i,j,rfl,rfl,h,fin S _ rfl (.refl m) (.int _)⟩
 ·rw [if_neg h] at fin;exact fin.elim
theorem zak:OpR X (binaryOp .Pow) (lR2 XE X.K za1):=qM zg5 fun i j S Q m fin=>by
 by_cases h:0<=j/\j<=1000000/\i.natAbs < 2 ^ 64
 ·rw [if_pos h] at fin
  exact ⟨i,j,rfl,rfl,h,fin S _ rfl (.refl m) (.int _)⟩
 ·rw [if_neg h] at fin;exact fin.elim
theorem zbY:OpR X (compareOp .Lt) (lR2 XE X.K ltI):=qM zie fun i j S Q m fin=>⟨i,j,rfl,rfl,fin S _ rfl (.refl m) (.bl _)⟩
theorem zg6:OpR X (compareOp .Gt) (lR2 XE X.K gtI):=qM zig fun i j S Q m fin=>⟨i,j,rfl,rfl,fin S _ rfl (.refl m) (.bl _)⟩
noncomputable def isB:T->T->Mem->Out T:=fun x y M=>match x,y with
 | .bl a,.bl b=>.ok (.bl (a == b)) M
 | _,_=>.bad
noncomputable def zT:T->T->Mem->Out T:=fun x y M=>match x,y with
 | .bl a,.bl b=>.ok (.bl (a != b)) M
 | _,_=>.bad
noncomputable def ziW:T->Bool
 | .non=>true
 | _=>false
noncomputable def isN:T->T->Mem->Out T:=fun x y M=>match y with
 | .non=>.ok (.bl (ziW x)) M
 | _=>.bad
theorem qS:OpR X (compareOp .IsNot) (lR2 XE X.K zT):=by
 intro pins s σ H x y v u Q I rx ry ⟨S,⟨tx,ty⟩,e,m,⟨r1,r2⟩,fin⟩
 replace fin:Fin XE (Rep X.K) X.K S (zT tx ty S.M) Q:=fin
 unfold zT at fin
 split at fin
 ·cases r1;cases r2;subst e
  exact zfK pins s σ S.H _ _ v u Q I rx ry ⟨_,_,rfl,rfl,fin S _ rfl (.refl m) (.bl _)⟩
 ·exact fin.elim
noncomputable def zdj (M:Mem):T->T->Option T
 | .tup xs,.int i=>atI xs i
 | .lst xs,.int i=>atI xs i
 | .ref a,.int i=>match M[a]? with
  | some (.lst xs)=>atI xs i
  | _=>none
 | _,_=>none
noncomputable def zbV (o:Option T) (M:Mem):Out T:=match o with
 | some t=>.ok t M
 | none=>.bad
noncomputable def ixT:T->T->Mem->Out T:=fun x y M=>zbV (zdj M x y) M
theorem Reps.atI {S:Sit} (r:Reps K S ts vs) (e:L2.atI ts i = some t):∃ v,L2.atI vs i = some v/\Rep K S t v:=by
 unfold L2.atI at e ⊢
 rw [← r.1]
 cases q:ixN ts.length i with
 | none=>rw [q] at e;cases e
 | some j=>
  rw [q] at e
  obtain ⟨v,e2,r2⟩:=r.get (show ts[j]? = some t from e)
  exact ⟨v,e2,r2⟩
theorem zgg {S:Sit} {tx ty:T} {x:V} (m:MemOk K S) (r1:Rep K S tx x) (r2:Rep K S ty y) (e:zdj S.M tx ty = some t) :
  ∃ p vs i v,x = .ref p/\y = .int i/\(SqL K S.H p vs\/SqT K S.H p vs)/\L2.atI vs i = some v/\Rep K S t v:=by
 unfold zdj at e
 split at e
 ·cases r2
  cases r1 with
  | @tup _ p vs h l r=>
   obtain ⟨v,e2,r3⟩:=Reps.atI ⟨l,r⟩ e
   exact ⟨p,vs,_,v,rfl,rfl,.inr h,e2,r3⟩
 ·cases r2
  cases r1 with
  | @lst _ p vs h l r=>
   obtain ⟨v,e2,r3⟩:=Reps.atI ⟨l,r⟩ e
   exact ⟨p,vs,_,v,rfl,rfl,.inl (zaI h),e2,r3⟩
 ·split at e
  ·rename_i q
   cases r2
   cases r1 with
   | ref h=>
    obtain ⟨vs,q2,r⟩:=m.cell _ _ q
    obtain ⟨v,e2,r3⟩:=Reps.atI r e
    exact ⟨_,vs,_,v,rfl,rfl,.inl (.inl (.inl q2)),e2,r3⟩
  ·cases e
 ·cases e
theorem zfI {S:Sit} {o:Option T} (fin:Fin XE (Rep K) K S (zbV o S.M) Q):∃ t,o = some t/\Fin XE (Rep K) K S (.ok t S.M) Q:=by
 unfold zbV at fin
 split at fin
 ·exact ⟨_,rfl,fin⟩
 ·exact fin.elim
theorem qK:IxR X (lR2 XE X.K ixT):=by
 intro va sl pins s σ H x y v u Q I rx ry ⟨S,⟨tx,ty⟩,e,m,⟨r1,r2⟩,fin⟩ hs
 obtain ⟨t,et,fin⟩:=zfI (show Fin XE (Rep X.K) X.K S (zbV (zdj S.M tx ty) S.M) Q from fin)
 obtain ⟨p,vs,i,w,e1,e2,hq,ea,r3⟩:=zgg m r1 r2 et
 dsimp only at e1 e2
 subst e1;subst e2;subst e
 refine zho va sl pins s σ S.H _ _ v u Q I rx ry ?_ hs
 rcases hq with hq | hq
 ·exact .inl ⟨p,vs,i,w,rfl,rfl,hq,ea,fin S w rfl (.refl m) r3⟩
 ·exact .inr (.inl ⟨p,vs,i,w,rfl,rfl,hq,ea,fin S w rfl (.refl m) r3⟩)
noncomputable def qB (k:T->Mem->Out T) (ts:List T) (M:Mem):Out T:=match ts with
 | [t]=>k t M
 | _=>.bad
noncomputable def call2 (k:T->T->Mem->Out T) (ts:List T) (M:Mem):Out T:=match ts with
 | [t,u]=>k t u M
 | _=>.bad
theorem zaB {k:T->Mem->Out T} (h:∀ (pins:List (Addr × Obj)) (s:Shared) (σ:L2.St) (S:Sit) (t:T) (x:V) (v:Value) (Q:VK),Inv X pins σ S.H s->RelV x v->MemOk X.K S->Rep X.K S t x->Fin XE (Rep X.K) X.K S (k t S.M) Q->wpAny (model X.prog X.w) X.A (call F [v]) (EP X pins σ Q) X.xe s):CallR X F (lRN XE X.K (qB k)):=by
 intro pins s σ H xs us Q I r ⟨S,ts,e,m,rs,fin⟩
 subst e
 replace fin:Fin XE (Rep X.K) X.K S (qB k ts S.M) Q:=fin
 unfold qB at fin
 split at fin
 ·obtain ⟨v,vs,rfl,r1,r2⟩:=rs.consT
  rw [r2.nilT] at r
  obtain ⟨u,rfl,rx⟩:=vals1 r
  exact h pins s σ S _ v u Q I rx m r1 fin
 ·exact fin.elim
theorem zck {k:T->T->Mem->Out T} (h:∀ (pins:List (Addr × Obj)) (s:Shared) (σ:L2.St) (S:Sit) (t1 t2:T) (x1 x2:V) (v1 v2:Value) (Q:VK),Inv X pins σ S.H s->RelV x1 v1->RelV x2 v2->MemOk X.K S->Rep X.K S t1 x1->Rep X.K S t2 x2->Fin XE (Rep X.K) X.K S (k t1 t2 S.M) Q->wpAny (model X.prog X.w) X.A (call F [v1,v2]) (EP X pins σ Q) X.xe s):CallR X F (lRN XE X.K (call2 k)):=by
 intro pins s σ H xs us Q I r ⟨S,ts,e,m,rs,fin⟩
 subst e
 replace fin:Fin XE (Rep X.K) X.K S (call2 k ts S.M) Q:=fin
 unfold call2 at fin
 split at fin
 ·obtain ⟨v,vs,rfl,r1,r2⟩:=rs.consT
  obtain ⟨v2,vs2,rfl,r3,r4⟩:=r2.consT
  rw [r4.nilT] at r
  obtain ⟨u,w,rfl,rx,ry⟩:=vals2 r
  exact h pins s σ S _ _ v v2 u w Q I rx ry m r1 r3 fin
 ·exact fin.elim
noncomputable def y3:T->Mem->Out T:=fun t M=>match t with
 | .str z=>if z.length<=sizeLine then .ok (.int z.length) M else .bad
 | t=>match zbt t M with
  | some xs=>.ok (.int xs.length) M
  | none=>.bad
theorem zah:CallR X (.builtin "len") (lRN XE X.K (qB y3)):=zaB fun pins s σ S t x v Q I rx m r fin=>by
 unfold y3 at fin
 split at fin
 ·cases r
  split at fin
  ·rename_i hz
   exact zci pins s σ S.H _ _ Q I (.cons rx .nil) ⟨_,rfl,hz,fin S _ rfl (.refl m) (.int _)⟩
  ·exact fin.elim
 ·split at fin
  ·rename_i xs q
   obtain ⟨p,vs,rfl,hq,rs⟩:=zbh m r q
   exact zcj pins s σ S.H _ _ Q I (.cons rx .nil) ⟨p,vs,rfl,hq,by rw [← rs.1];exact fin S _ rfl (.refl m) (.int _)⟩
  ·exact fin.elim
noncomputable def zdt:T->Mem->Out T:=fun t M=>match t with
 | .int i=>.ok (.int (if i < 0 then -i else i)) M
 | _=>.bad
theorem zee:CallR X (.builtin "abs") (lRN XE X.K (qB zdt)):=zaB fun pins s σ S t x v Q I rx m r fin=>by
 unfold zdt at fin
 split at fin
 ·cases r
  exact ze1 pins s σ S.H _ _ Q I (.cons rx .nil) ⟨_,rfl,fin S _ rfl (.refl m) (.int _)⟩
 ·exact fin.elim
noncomputable def zdd:T->T->Mem->Out T:=yH fun i j M=>.ok (.int (if j > i then j else i)) M
theorem zea (hc:X.calm = true):CallR X (.builtin "max") (lRN XE X.K (call2 zdd)):=zck fun pins s σ S t1 t2 x1 x2 v1 v2 Q I rx ry m r1 r2 fin=>by
 unfold zdd yH at fin
 split at fin
 ·cases r1;cases r2
  exact zeb hc pins s σ S.H _ _ Q I (.cons rx (.cons ry .nil)) ⟨_,_,rfl,fin S _ rfl (.refl m) (.int _)⟩
 ·exact fin.elim
noncomputable def zaC:List T->Option (List Bool)
 | []=>some []
 | .bl b :: r=>(zaC r).map (b :: ·)
 | _=>none
theorem zcn {K:Frag} {S:Sit}:∀ {ts:List T} {vs:List V} {bs:List Bool},zaC ts = some bs->Reps K S ts vs->vs = bs.map V.bl
 | [],vs,bs,e,r=>by cases e;exact r.nilT
 | .bl b :: ts,vs,bs,e,r=>by
  unfold zaC at e
  obtain ⟨v,vs',rfl,r1,r2⟩:=r.consT
  cases q:zaC ts with
  | none=>rw [q] at e;cases e
  | some bs'=>
   rw [q] at e
   cases e
   cases r1
   rw [zcn q r2];rfl
 | .non :: _,_,_,e,_=>by cases e
 | .int _ :: _,_,_,e,_=>by cases e
 | .str _ :: _,_,_,e,_=>by cases e
 | .ty _ :: _,_,_,e,_=>by cases e
 | .tup _ :: _,_,_,e,_=>by cases e
 | .lst _ :: _,_,_,e,_=>by cases e
 | .ref _ :: _,_,_,e,_=>by cases e
noncomputable def zcq:T->Mem->Out T:=fun t M=>match yB t M with
 | some xs=>match zaC xs with
  | some bs=>.ok (.bl (bs.all id)) M
  | none=>.bad
 | none=>.bad
theorem zec (hc:X.calm = true):CallR X (.builtin "all") (lRN XE X.K (qB zcq)):=zaB fun pins s σ S t x v Q I rx m r fin=>by
 unfold zcq at fin
 split at fin
 ·rename_i xs q
  split at fin
  ·rename_i bs q2
   obtain ⟨p,vs,rfl,hq,rs⟩:=yj m r q
   rw [zcn q2 rs] at hq
   exact zed hc pins s σ S.H _ _ Q I (.cons rx .nil) ⟨p,bs,rfl,hq,fin S _ rfl (.refl m) (.bl _)⟩
  ·exact fin.elim
 ·exact fin.elim
noncomputable def zj4 (x:T) (ts:List T) (M:Mem):Out T:=match x,ts with
 | .ref a,[t]=>match M[a]? with
  | some (.lst xs)=>if xs.length < sizeLine then .ok .non (M.set a (.lst (xs ++ [t]))) else .bad
  | _=>.bad
 | _,_=>.bad
noncomputable def zbM (o i t:T) (M:Mem):Out Unit:=match o,i with
 | .ref a,.int k=>match M[a]? with
  | some (.lst xs)=>match ixN xs.length k with
   | some j=>.ok () (M.set a (.lst (xs.set j t)))
   | none=>.bad
  | _=>.bad
 | _,_=>.bad
theorem zfv {S:Sit} (m:MemOk K S) {a:Nat} (e:S.M[a]? = some c) (r:Reps K S ts vs):Stp K S (S.put a (.lst vs) (.lst ts)):=by
 have ha:a < S.M.length:=(List.getElem?_eq_some_iff.mp e).1
 exact Stp.put m ha _ _ ⟨vs,zh,r.grow m (Grow.put m ha _ _)⟩
theorem zfc:zcr X (zeI XE X.K zbM):=by
 intro pins s σ H o i v ov iv u Q I ro ri rv ⟨S,⟨⟨to,ti⟩,tv⟩,e,m,⟨⟨r1,r2⟩,r3⟩,fin⟩
 subst e
 replace fin:Fin XE UnR X.K S (zbM to ti tv S.M) (fun _ H'=>Q H'):=fin
 unfold zbM at fin
 split at fin
 ·split at fin
  ·rename_i a k _ xs q
   split at fin
   ·rename_i j qj
    cases r1
    cases r2
    obtain ⟨vs,q2,rs⟩:=m.cell _ _ q
    refine set_list pins s σ S.H _ _ v ov iv u Q I ro ri rv ⟨S.α a,vs,k,j,rfl,rfl,q2,by rw [← rs.1];exact qj,?_⟩
    exact fin (S.put a (.lst (vs.set j v)) (.lst (xs.set j tv))) () rfl (zfv m q (rs.set r3 j)) trivial
   ·exact fin.elim
  ·exact fin.elim
 ·exact fin.elim
noncomputable def zjS (F:T->List T->Mem->Out T) (f:Ev->Mem->Out T) (g:Ev->Mem->Out (List T)):Ev->Mem->Out T:=fun σ M=>(f σ M).bind fun x M1=>(g σ M1).bind fun ts M2=>F x ts M2
end
noncomputable def za8 (xs:List T) (lo hi:Option Int):List T:=(xs.drop (HT.sIx xs.length 0 lo)).take (HT.sIx xs.length xs.length hi - HT.sIx xs.length 0 lo)
theorem Reps.cutV {S:Sit} (r:Reps K S ts vs) (lo hi:Option Int):Reps K S (za8 ts lo hi) (L2.cutV vs lo hi):=by
 unfold za8 L2.cutV
 rw [← r.1]
 exact r.sub _ _
theorem zdn {lo hi:Option Int} (h:HT.sIx xs.length 0 lo = 0/\HT.sIx xs.length xs.length hi = xs.length):za8 xs lo hi = xs:=by
 unfold za8
 rw [h.1,h.2]
 simp
theorem za4 {S:Sit} (m:MemOk K S) (fin:Fin XE (Rep K) K S (.ok (.tup xs) S.M) Q) (r:Reps K S xs vs):∀ p,S.H p = none->Q (.ref p) (upd S.H p (.tup vs)):=fun p hp=>by
 have s2:=Stp.new m hp (.tup vs)
 exact fin ⟨S.α,S.M,upd S.H p (.tup vs),S.hid⟩ (.ref p) rfl s2 (.tup (.inl (.inl zh)) r.1 (r.grow m s2.toGrow).2)
theorem zcK {S:Sit} (m:MemOk K S) (fin:Fin XE (Rep K) K S (.ok (.lst xs) S.M) Q) (r:Reps K S xs vs):∀ p,S.H p = none->Q (.ref p) (upd S.H p (.lst vs)):=fun p hp=>by
 have s2:=Stp.new m hp (.lst vs)
 exact fin ⟨S.α,S.M,upd S.H p (.lst vs),S.hid⟩ (.ref p) rfl s2 (.lst (.inl ⟨.inl zh,m.off_none hp⟩) r.1 (r.grow m s2.toGrow).2)
noncomputable def yw:T->T->Mem->Out T:=fun x y M=>match x,y with
 | .int i,.int j=>.ok (.int (i + j)) M
 | .str a,.str b=>if a.length + b.length<=sizeLine then .ok (.str (a ++ b)) M else .bad
 | .tup xs,.tup ys=>if xs.length + ys.length<=sizeLine then .ok (.tup (xs ++ ys)) M else .bad
 | x,y=>match yB x M,yB y M with
  | some xs,some ys=>if xs.length + ys.length<=sizeLine then .ok (.lst (xs ++ ys)) M else .bad
  | _,_=>.bad
noncomputable def zP:T->T->Mem->Out T:=fun x y M=>match x,y with
 | .int i,.int j=>if Mo64 i j then .ok (.int (i * j)) M else .bad
 | .tup xs,.int k=>if xs ≠ []/\2<=k/\k < 2 ^ 63/\xs.length * k.toNat<=sizeLine then .ok (.tup (List.replicate k.toNat xs).flatten) M else .bad
 | _,_=>.bad
variable {pins:List (Addr × Obj)} {s:Shared}
section
theorem yy:OpR X (binaryOp .Add) (lR2 XE X.K yw):=by
 intro pins s σ H x y v u Q I rx ry ⟨S,⟨tx,ty⟩,e,m,⟨r1,r2⟩,fin⟩
 subst e
 replace fin:Fin XE (Rep X.K) X.K S (yw tx ty S.M) Q:=fin
 unfold yw at fin
 split at fin
 ·cases r1;cases r2
  exact zg7 pins s σ S.H _ _ v u Q I rx ry ⟨_,_,rfl,rfl,fin S _ rfl (.refl m) (.int _)⟩
 ·cases r1;cases r2
  split at fin
  ·rename_i hz
   exact zdc pins s σ S.H _ _ v u Q I rx ry ⟨_,_,rfl,rfl,hz,fin S _ rfl (.refl m) (.str _)⟩
  ·exact fin.elim
 ·split at fin
  ·rename_i hz
   cases r1 with
   | @tup _ p vs h l r=>
   cases r2 with
   | @tup _ p2 vs2 h2 l2 rr2=>
   have r1:Reps X.K S _ vs:=⟨l,r⟩
   have r2:Reps X.K S _ vs2:=⟨l2,rr2⟩
   refine zfR pins s σ S.H _ _ v u Q I rx ry ⟨p,p2,vs,vs2,rfl,rfl,h,h2,by rw [← l,← l2];exact hz,fun e=>?_,fun e1 e2=>?_,fun e1 e2=>za4 m fin (r1.app r2)⟩
   ·subst e
    rw [r1.nil_inv,nil_append] at fin
    exact fin S _ rfl (.refl m) (.tup h2 l2 rr2)
   ·subst e2
    rw [r2.nil_inv,append_nil] at fin
    exact fin S _ rfl (.refl m) (.tup h l r)
  ·exact fin.elim
 ·split at fin
  ·rename_i xs ys q1 q2
   split at fin
   ·rename_i hz
    obtain ⟨p,vs,e1,h1,s1⟩:=yj m r1 q1
    obtain ⟨p2,vs2,e2,h2,s2⟩:=yj m r2 q2
    dsimp only at e1 e2
    subst e1;subst e2
    exact zfQ pins s σ S.H _ _ v u Q I rx ry ⟨p,p2,vs,vs2,rfl,rfl,h1,h2,by rw [← s1.1,← s2.1];exact hz,zcK m fin (s1.app s2)⟩
   ·exact fin.elim
  ·exact fin.elim
theorem Reps.rep {S:Sit} (r:Reps K S ts vs) (n:Nat):Reps K S (List.replicate n ts).flatten (List.replicate n vs).flatten:=by
 induction n with
 | zero=>exact .nil
 | succ n ih=>rw [replicate_succ,replicate_succ,flatten_cons,flatten_cons];exact r.app ih
theorem za3:OpR X (binaryOp .Mult) (lR2 XE X.K zP):=by
 intro pins s σ H x y v u Q I rx ry ⟨S,⟨tx,ty⟩,e,m,⟨r1,r2⟩,fin⟩
 subst e
 replace fin:Fin XE (Rep X.K) X.K S (zP tx ty S.M) Q:=fin
 unfold zP at fin
 split at fin
 ·cases r1;cases r2
  split at fin
  ·rename_i h
   exact zfN pins s σ S.H _ _ v u Q I rx ry ⟨_,_,rfl,rfl,h.ok,fin S _ rfl (.refl m) (.int _)⟩
  ·exact fin.elim
 ·split at fin
  ·rename_i h
   cases r2
   cases r1 with
   | @tup _ p vs hq l r=>
   have r1:Reps X.K S _ vs:=⟨l,r⟩
   exact zfJ pins s σ S.H _ _ v u Q I rx ry ⟨p,_,vs,rfl,rfl,hq,fun z=>h.1 (by subst z;exact r1.nil_inv),h.2.1,h.2.2.1,by rw [← l];exact h.2.2.2,za4 m fin (r1.rep _)⟩
  ·exact fin.elim
 ·exact fin.elim
noncomputable def lO (XE:XK) (K:Frag) (f:Ev->Mem->Out (Option Int)):TO:=fun σ H Q=>LN XE EqR K UnR (fun _ σ M=>f σ M) () σ H Q
def GO (X:Cx) (XE:XK) (e:Option Expr) (f:Ev->Mem->Out (Option Int)):Prop:=PO X e (lO XE X.K f)
noncomputable def zbv:Ev->Mem->Out (Option Int):=fun _ M=>.ok none M
noncomputable def zeN (x:T) (M:Mem):Out (Option Int):=match x with
 | .int i=>.ok (some i) M
 | _=>.bad
noncomputable def zbu (f:Ev->Mem->Out T):Ev->Mem->Out (Option Int):=fun σ M=>(f σ M).bind zeN
theorem PO.imp {e:Option Expr} {t t':TO} (h:PO X e t) (i:∀ σ H Q,t' σ H Q->t σ H Q):PO X e t':=fun pins s σ H Q I q=>h pins s σ H Q I (i σ H Q q)
noncomputable def zdo (x:T) (lo hi:Option Int) (M:Mem):Out T:=match x with
 | .tup xs=>.ok (.tup (za8 xs lo hi)) M
 | x=>match yB x M with
  | some xs=>.ok (.lst (za8 xs lo hi)) M
  | none=>.bad
noncomputable def eSl (f:Ev->Mem->Out T) (p q:Ev->Mem->Out (Option Int)):Ev->Mem->Out T:=fun σ M=>(f σ M).bind fun x M1=>(p σ M1).bind fun lo M2=>(q σ M2).bind fun hi M3=>zdo x lo hi M3
noncomputable def zi7 (XE:XK) (K:Frag):V->Option Int->Option Int->Hp->VK->Prop:=fun x lo hi H Q=>∃ S t,S.H = H/\MemOk K S/\Rep K S t x/\Fin XE (Rep K) K S (zdo t lo hi S.M) Q
theorem ziR:SlR X (zi7 XE X.K):=by
 intro pins s σ H x v vl vu lo hi sl Q I rx hs pl pu ⟨S,t,e,m,r,fin⟩
 subst e
 unfold zdo at fin
 split at fin
 ·cases r with
  | @tup _ p vs h l r=>
  have r1:Reps X.K S _ vs:=⟨l,r⟩
  refine zfq pins s σ S.H _ v vl vu lo hi sl Q I rx hs pl pu ⟨p,vs,rfl,h,fun w=>?_,fun w=>za4 m fin (r1.cutV lo hi)⟩
  rw [zdn (by rw [l];exact w)] at fin
  exact fin S _ rfl (.refl m) (.tup h l r)
 ·split at fin
  ·rename_i xs q
   obtain ⟨p,vs,e1,h1,s1⟩:=yj m r q
   subst e1
   exact zfr pins s σ S.H _ v vl vu lo hi sl Q I rx hs pl pu ⟨p,vs,rfl,h1,zcK m fin (s1.cutV lo hi)⟩
  ·exact fin.elim
noncomputable def zhi (T U:String):Option Bool:=if (Value.type T == Value.type U) = true then some true else if PySem.W.kitMeta U = true then (PySem.fastBuiltinMro T).map (·.contains (.type U)) else none
noncomputable def tyN (t:T) (M:Mem):Option String:=match t with
 | .non=>some "NoneType" | .bl _=>some "bool" | .int _=>some "int" | .str _=>some "str" | .tup _=>some "tuple" | .lst _=>some "list"
 | .ref a=>match M[a]? with
  | some (.lst _)=>some "list"
  | some (.dic _)=>some "dict"
  | _=>none
 | _=>none
noncomputable def zff (n U:String):Bool:=n == U || (n == "bool" && U == "int")
noncomputable def zbs:List String:=["NoneType","bool","int","str","tuple","list","dict"]
theorem zfZ:∀ n ∈ zbs,∀ U ∈ zbs,U ≠ "NoneType"->zhi n U = some (zff n U):=by decide +kernel
noncomputable def qp:T->T->Mem->Out T:=fun t u M=>match u with
 | .ty U=>match tyN t M with
  | some n=>if U ∈ zbs/\U ≠ "NoneType" then .ok (.bl (zff n U)) M else .bad
  | none=>.bad
 | _=>.bad
theorem zfn {n:String} (h:tyN t M = some n):n ∈ zbs:=by
 unfold tyN at h
 split at h <;> first | (cases h;decide) | (split at h <;> first | (cases h;decide) | (cases h)) | cases h
theorem zeM {S:Sit} {x:V} {u:Value} {U n:String} {b:Bool} {Q:Value->Shared->Prop} {E:Value->Shared->Prop} (I:L2.Inv X pins σ S.H s) (m:MemOk X.K S) (rx:RelV x u) (r:Rep X.K S t x) (hn:tyN t S.M = some n) (e:zhi n U = some b) (h:∀ tk,Q (.bool b) { s with toks:=tk }) :
  wpAny (model X.prog X.w) X.A (call (.builtin "isinstance") [u,.type U]) Q E s:=by
 have e':PySem.W.kitOne X.K (.type n) (.type U) = some b:=e
 cases r with
 | non=>cases hn;cases (show u = Value.none from rx);exact PySem.W.kia_one PySem.W.kitx_none I.kIn True.intro e' (fun z=>nomatch z) h
 | bl y=>cases hn;cases (show u = Value.bool y from rx);exact PySem.W.kia_one PySem.W.kitx_bool I.kIn True.intro e' (fun z=>nomatch z) h
 | int i=>cases hn;obtain ⟨t,q⟩:=(show ∃ t,u = Value.int i t from rx);cases q;exact PySem.W.kia_one PySem.W.kitx_int I.kIn True.intro e' (fun z=>nomatch z) h
 | str y=>cases hn;obtain ⟨t,q⟩:=(show ∃ t,u = Value.str y t from rx);cases q;exact PySem.W.kia_one PySem.W.kitx_str I.kIn True.intro e' (fun z=>nomatch z) h
 | ty y=>cases hn
 | @tup ts p vs hq l r=>
  cases hn
  cases (show u = Value.ref p from rx)
  obtain ⟨its,_,pl,_⟩:=I.tuple hq
  obtain ⟨o,h1,h2,_⟩:=pl
  exact PySem.W.kia_one PySem.W.kitx_tuple I.kIn ⟨o,h1,h2⟩ e' (fun z=>nomatch z) h
 | @lst ts p vs hq l r=>
  cases hn
  cases (show u = Value.ref p from rx)
  obtain ⟨its,_,pl,_⟩:=I.list (zaI hq)
  obtain ⟨o,h1,h2⟩:=pl.isList
  exact PySem.W.kia_one PySem.W.kitx_list I.kIn ⟨o,h1,h2.1⟩ e' (fun z=>nomatch z) h
 | @ref a ha=>
  cases (show u = Value.ref _ from rx)
  unfold tyN at hn
  dsimp only at hn
  split at hn
  ·rename_i ts q
   cases hn
   obtain ⟨vs,q2,_⟩:=m.cell a _ q
   obtain ⟨_,_,n,_,h1⟩:=(show ObjOk X.prog X.w S.H s.heap (S.α a) (.lst vs) from I.hok _ _ q2)
   exact PySem.W.kia_one PySem.W.kitx_list I.kIn ⟨_,h1,rfl⟩ e' (fun z=>nomatch z) h
  ·rename_i ts q
   cases hn
   obtain ⟨vs,q2,_⟩:=m.cell a _ q
   obtain ⟨_,_,vs2,_,p⟩:=(show ObjOk X.prog X.w S.H s.heap (S.α a) (.dK vs) from I.hok _ _ q2)
   obtain ⟨o,es,ep,h1,h2,_⟩:=p
   exact PySem.W.kia_one PySem.W.kitx_dict I.kIn ⟨o,h1,h2.1⟩ e' (fun z=>nomatch z) h
  ·cases hn
 | dct h l r=>cases hn
 | exc h hd l r=>cases hn
theorem zw:CallR X (.builtin "isinstance") (lRN XE X.K (call2 qp)):=zck fun pins s σ S t1 t2 x1 x2 v1 v2 Q I rx ry m r1 r2 fin=>by
 unfold qp at fin
 split at fin
 ·rename_i U
  split at fin
  ·rename_i n hn
   split at fin
   ·rename_i hU
    cases r2
    cases ry
    exact zeM I m rx r1 hn (zfZ n (zfn hn) U hU.1 hU.2) fun tk=>⟨.bl _,S.H,I.tok tk,rfl,fin S _ rfl (.refl m) (.bl _)⟩
   ·exact fin.elim
  ·exact fin.elim
 ·exact fin.elim
end
noncomputable def qG:T->Bool
 | .non=>true
 | .bl _=>true
 | .int _=>true
 | .str _=>true
 | _=>false
noncomputable def eqS:T->T->Bool
 | .non,.non=>true
 | .bl a,.bl b=>a == b
 | .bl a,.int b=>(if a then 1 else 0) == b
 | .int a,.bl b=>a == (if b then 1 else 0)
 | .int a,.int b=>a == b
 | .str a,.str b=>a == b
 | _,_=>false
noncomputable def eqL (f:T->T->Option Bool):List T->List T->Option Bool
 | [],[]=>some true
 | [],_ :: _=>some false
 | _ :: _,[]=>some false
 | x :: xs,y :: ys=>match f x y,eqL f xs ys with
  | some a,some b=>some (a && b)
  | _,_=>none
noncomputable def eqD (M:Mem):Nat->T->T->Option Bool
 | d,.tup xs,.tup ys=>match d with
  | 0=>none
  | d + 1=>eqL (eqD M d) xs ys
 | d,x,y=>if (qG x && qG y) = true then some (eqS x y) else match d,yB x M,yB y M with
  | d + 1,some xs,some ys=>if xs.length = ys.length then eqL (eqD M d) xs ys else some false
  | _,_,_=>none
noncomputable def eqA:T->T->Mem->Out T:=fun x y M=>match eqD M 20 x y with
 | some b=>.ok (.bl b) M
 | none=>.bad
noncomputable def neA:T->T->Mem->Out T:=fun x y M=>match eqD M 20 x y with
 | some b=>.ok (.bl (!b)) M
 | none=>.bad
theorem z6 {f:T->T->Option Bool}:∀ {xs ys:List T} {b:Bool},eqL f xs ys = some b->
  ∃ e:Nat->Bool,(∀ j x y,xs[j]? = some x->ys[j]? = some y->f x y = some (e j))/\b = ((List.range (min xs.length ys.length)).all e && xs.length == ys.length)
 | [],[],b,h=>by cases h;exact ⟨fun _=>true,fun j x y e1=>by simp at e1,by simp⟩
 | [],_ :: _,b,h=>by cases h;exact ⟨fun _=>true,fun j x y e1=>by simp at e1,by simp⟩
 | _ :: _,[],b,h=>by cases h;exact ⟨fun _=>true,fun j x y _ e1=>by simp at e1,by simp⟩
 | x :: xs,y :: ys,b,h=>by
  unfold eqL at h
  cases q1:f x y with
  | none=>rw [q1] at h;cases h
  | some a=>
   cases q2:eqL f xs ys with
   | none=>rw [q1,q2] at h;cases h
   | some c=>
    rw [q1,q2] at h
    cases h
    obtain ⟨e,h1,h2⟩:=z6 q2
    refine ⟨fun j=>match j with | 0=>a | j + 1=>e j,fun j u v e1 e2=>?_,?_⟩
    ·cases j with
     | zero=>simp at e1 e2;subst e1;subst e2;exact q1
     | succ j=>exact h1 j u v (by simpa using e1) (by simpa using e2)
    ·rw [h2]
     have:min (x :: xs).length (y :: ys).length = min xs.length ys.length + 1:=by simp only [Qm];omega
     rw [this,List.range_succ_eq_map,all_cons,List.all_map]
     simp [Bool.and_assoc,Function.comp_def]
variable {A:Around}
section
variable {S:Sit}
theorem yr (r:Rep K S t v) (h:qG t = true):yx v = true:=by
 cases r <;> first | rfl | (exact absurd (show false = true from h) Q4)
theorem zaN {w:V} (r:Rep K S t v) (q:Rep K S u w) (h:qG t = true) (h2:qG u = true):eqS t u = eqV v w:=by
 cases r <;> first | (exact absurd (show false = true from h) Q4) | (cases q <;> first | rfl | (exact absurd (show false = true from h2) Q4))
theorem zcD (r:Rep K S t v) (q:Rep K S u v) (h:qG t = true) (h2:qG u = true):eqS t u = true:=by
 rw [zaN r q h h2]
 exact zeX v (yr r h)
theorem zeY (I:L2.Inv X pins σ S.H s) (m:MemOk X.K S):∀ (d:Nat) {t u:T} {v:V} {b:Bool},Rep X.K S t v->Rep X.K S u v->eqD S.M d t u = some b->b = true:=by
 intro d
 induction d with
 | zero=>
  intro t u v b r q h
  unfold eqD at h
  split at h
  ·cases h
  ·split at h
   ·rename_i hs
    rw [Qn] at hs
    cases h
    exact zcD r q hs.1 hs.2
   ·cases h
 | succ d ih=>
  have key:∀ {xs ys:List T} {vs:List V} {b:Bool},Reps X.K S xs vs->Reps X.K S ys vs->eqL (eqD S.M d) xs ys = some b->b = true:=by
   intro xs ys vs b r q h
   obtain ⟨e,h1,h2⟩:=z6 h
   rw [h2,r.1,q.1]
   simp only [Nat.min_self,beq_self_eq_true,Bool.and_true,all_eq_true,mem_range]
   intro j hj
   have hx:j < xs.length:=by rw [r.1];exact hj
   have hy:j < ys.length:=by rw [q.1];exact hj
   have ex:xs[j]? = some xs[j]:=by simp [hx]
   have ey:ys[j]? = some ys[j]:=by simp [hy]
   have ev:vs[j]? = some vs[j]:=by simp [hj]
   exact ih (r.2 j _ _ ex ev) (q.2 j _ _ ey ev) (h1 j _ _ ex ey)
  intro t u v b r q h
  unfold eqD at h
  split at h
  ·cases r with
   | @tup _ p vs h1 l1 r1=>
   cases q with
   | @tup _ _ vs2 h2 l2 r2=>
   have:=I.tuple_inj h1 h2
   subst this
   exact key ⟨l1,r1⟩ ⟨l2,r2⟩ h
  ·split at h
   ·rename_i hs
    rw [Qn] at hs
    cases h
    exact zcD r q hs.1 hs.2
   ·split at h
    ·rename_i d' xs ys hd q1 q2
     cases hd
     obtain ⟨p,vs,e1,hq1,s1⟩:=yj m r q1
     obtain ⟨p2,vs2,e2,hq2,s2⟩:=yj m q q2
     rw [e1] at e2
     cases e2
     have:=I.list_inj hq1 hq2
     subst this
     rw [if_pos (by rw [s1.1,s2.1])] at h
     exact key s1 s2 h
    ·cases h
theorem zhQ (I:L2.Inv X pins σ S.H s) (m:MemOk X.K S):∀ (d:Nat) {A:Around} {t u:T} {v w:V} {x y:Value} {b:Bool},A.units + d < cLine->RelV v x->RelV w y->Rep X.K S t v->Rep X.K S u w->eqD S.M d t u = some b->SeqAt.EqAt A s x y b:=by
 intro d
 induction d with
 | zero=>
  intro A t u v w x y b hu rx ry r q h
  unfold eqD at h
  split at h
  ·cases h
  ·split at h
   ·rename_i hs
    rw [Qn] at hs
    cases h
    rw [zaN r q hs.1 hs.2]
    exact zca rx ry (yr r hs.1) (yr q hs.2)
   ·cases h
 | succ d ih=>
  have key:∀ {A:Around} {xs ys:List T} {vs ws:List V} {us zs:List Value} {b:Bool},A.units + d < cLine->Reps X.K S xs vs->Reps X.K S ys ws->Vals vs us->Vals ws zs->eqL (eqD S.M d) xs ys = some b->
    ∃ e:Nat->Bool,(∀ j (h1:j < us.toArray.size) (h2:j < zs.toArray.size),SeqAt.EqAt A s us.toArray[j] zs.toArray[j] (e j))/\b = ((List.range (min us.toArray.size zs.toArray.size)).all e && us.toArray.size == zs.toArray.size):=by
   intro A xs ys vs ws us zs b hu r q hv hw h
   obtain ⟨e,h1,h2⟩:=z6 h
   have l1:us.length = xs.length:=by rw [← hv.length,r.1]
   have l2:zs.length = ys.length:=by rw [← hw.length,q.1]
   refine ⟨e,fun j g1 g2=>?_,by rw [h2,Qf,Qf,l1,l2]⟩
   have g1':j < us.length:=by simpa using g1
   have g2':j < zs.length:=by simpa using g2
   have ex:xs[j]? = some (xs[j]'(by omega)):=Q0 (by omega)
   have ey:ys[j]? = some (ys[j]'(by omega)):=Q0 (by omega)
   obtain ⟨v,ev,rv⟩:=r.get ex
   obtain ⟨w,ew,rw'⟩:=q.get ey
   obtain ⟨a,ea,ra⟩:=Vals.get hv ev
   obtain ⟨c,ec,rc⟩:=Vals.get hw ew
   have:us.toArray[j] = a:=by
    rw [getElem_toArray];rw [Q0 g1'] at ea;exact Qb ea
   rw [this]
   have:zs.toArray[j] = c:=by
    rw [getElem_toArray];rw [Q0 g2'] at ec;exact Qb ec
   rw [this]
   exact ih hu ra rc rv rw' (h1 j _ _ ex ey)
  intro A t u v w x y b hu rx ry r q h
  have hsame:v = w->b = true:=fun z=>by subst z;exact zeY I m (d + 1) r q h
  unfold eqD at h
  split at h
  ·cases r with
   | @tup _ p vs h1 l1 r1=>
   cases q with
   | @tup _ p2 vs2 h2 l2 r2=>
   cases rx
   cases ry
   by_cases hp:p = p2
   ·subst hp
    rw [hsame rfl]
    exact SeqAt.EqAt.same _
   ·obtain ⟨its,ri,pl,_⟩:=I.tuple h1
    obtain ⟨its2,ri2,pl2,_⟩:=I.tuple h2
    obtain ⟨e,he,eb⟩:=key (A:=A.in1) (by show A.units + 1 + d < cLine;omega) ⟨l1,r1⟩ ⟨l2,r2⟩ ri ri2 h
    rw [eb]
    exact SeqAt.EqAt.of_refs hp (SeqAt.RcAt.tuples pl pl2 (by omega) he)
  ·split at h
   ·rename_i hs
    rw [Qn] at hs
    cases h
    rw [zaN r q hs.1 hs.2]
    exact zca rx ry (yr r hs.1) (yr q hs.2)
   ·split at h
    ·rename_i d' xs ys hd q1 q2
     cases hd
     obtain ⟨p,vs,e1,hq1,s1⟩:=yj m r q1
     obtain ⟨p2,vs2,e2,hq2,s2⟩:=yj m q q2
     subst e1
     subst e2
     cases rx
     cases ry
     by_cases hp:p = p2
     ·subst hp
      rw [hsame rfl]
      exact SeqAt.EqAt.same _
     ·obtain ⟨its,ri,pl,_⟩:=I.list hq1
      obtain ⟨its2,ri2,pl2,_⟩:=I.list hq2
      have lz:its.length = xs.length:=by rw [← ri.length,s1.1]
      have lz2:its2.length = ys.length:=by rw [← ri2.length,s2.1]
      by_cases hl:xs.length = ys.length
      ·rw [if_pos hl] at h
       obtain ⟨e,he,eb⟩:=key (A:=A.in1) (by show A.units + 1 + d < cLine;omega) s1 s2 ri ri2 h
       have hsz:its.toArray.size = its2.toArray.size:=by simp [lz,lz2,hl]
       rw [eb,hsz,Nat.min_self,beq_self_eq_true,Bool.and_true,← hsz]
       exact SeqAt.EqAt.of_refs hp (SeqAt.RcAt.lists pl.isList pl2.isList hsz (by omega) he)
      ·rw [if_neg hl] at h
       cases h
       exact SeqAt.EqAt.of_refs hp (SeqAt.RcAt.lists_lengths pl.isList pl2.isList (by simp [lz,lz2,hl]) (by omega))
    ·cases h
theorem zgE {x:V} {u v:Value} (ry:RelV y u) (rx:RelV x v) (fy:yx y = true) (fx:yx x = true):SeqAt.RcAt A s u v (eqV y x):=by
 cases y with
 | non=>
  cases ry
  cases x with
  | non=>cases rx;exact SeqAt.RcAt.none_none
  | bl b=>cases rx;exact SeqAt.RcAt.none_bool b
  | int b=>obtain ⟨t,rfl⟩:=rx;exact SeqAt.RcAt.none_int b t
  | str b=>obtain ⟨t,rfl⟩:=rx;exact SeqAt.RcAt.none_str b t
  | _=>exact absurd (show false = true from fx) Q4
 | bl a=>
  cases ry
  cases x with
  | non=>cases rx;exact SeqAt.RcAt.bool_none a
  | bl b=>cases rx;exact SeqAt.RcAt.bool_bool a b
  | int b=>obtain ⟨t,rfl⟩:=rx;exact SeqAt.RcAt.bool_int a b t
  | str b=>obtain ⟨t,rfl⟩:=rx;exact SeqAt.RcAt.bool_str a b t
  | _=>exact absurd (show false = true from fx) Q4
 | int a=>
  obtain ⟨t',rfl⟩:=ry
  cases x with
  | non=>cases rx;exact SeqAt.RcAt.int_none a t'
  | bl b=>cases rx;exact SeqAt.RcAt.int_bool a t' b
  | int b=>obtain ⟨t,rfl⟩:=rx;exact SeqAt.RcAt.int_int a t' b t
  | str b=>obtain ⟨t,rfl⟩:=rx;exact SeqAt.RcAt.int_str a t' b t
  | _=>exact absurd (show false = true from fx) Q4
 | str a=>
  obtain ⟨t',rfl⟩:=ry
  cases x with
  | non=>cases rx;exact SeqAt.RcAt.str_none a t'
  | bl b=>cases rx;exact SeqAt.RcAt.str_bool a t' b
  | int b=>obtain ⟨t,rfl⟩:=rx;exact SeqAt.RcAt.str_int a t' b t
  | str b=>obtain ⟨t,rfl⟩:=rx;exact SeqAt.RcAt.str_str a t' b t
  | _=>exact absurd (show false = true from fx) Q4
 | _=>exact absurd (show false = true from fy) Q4
theorem zes {x:V} {u v:Value} (ry:RelV y u) (rx:RelV x v) (fy:yx y = true) (fx:yx x = true):SeqAt.RcNeAt A s u v (!eqV y x):=by
 cases y with
 | non=>
  cases ry
  cases x with
  | non=>cases rx;exact SeqAt.RcNeAt.none_none
  | bl b=>cases rx;exact SeqAt.RcNeAt.none_bool b
  | int b=>obtain ⟨t,rfl⟩:=rx;exact SeqAt.RcNeAt.none_int b t
  | str b=>obtain ⟨t,rfl⟩:=rx;exact SeqAt.RcNeAt.none_str b t
  | _=>exact absurd (show false = true from fx) Q4
 | bl a=>
  cases ry
  cases x with
  | non=>cases rx;exact SeqAt.RcNeAt.bool_none a
  | bl b=>cases rx;exact SeqAt.RcNeAt.bool_bool a b
  | int b=>obtain ⟨t,rfl⟩:=rx;exact SeqAt.RcNeAt.bool_int a b t
  | str b=>obtain ⟨t,rfl⟩:=rx;exact SeqAt.RcNeAt.bool_str a b t
  | _=>exact absurd (show false = true from fx) Q4
 | int a=>
  obtain ⟨t',rfl⟩:=ry
  cases x with
  | non=>cases rx;exact SeqAt.RcNeAt.int_none a t'
  | bl b=>cases rx;exact SeqAt.RcNeAt.int_bool a t' b
  | int b=>obtain ⟨t,rfl⟩:=rx;exact SeqAt.RcNeAt.int_int a t' b t
  | str b=>obtain ⟨t,rfl⟩:=rx;exact SeqAt.RcNeAt.int_str a t' b t
  | _=>exact absurd (show false = true from fx) Q4
 | str a=>
  obtain ⟨t',rfl⟩:=ry
  cases x with
  | non=>cases rx;exact SeqAt.RcNeAt.str_none a t'
  | bl b=>cases rx;exact SeqAt.RcNeAt.str_bool a t' b
  | int b=>obtain ⟨t,rfl⟩:=rx;exact SeqAt.RcNeAt.str_int a t' b t
  | str b=>obtain ⟨t,rfl⟩:=rx;exact SeqAt.RcNeAt.str_str a t' b t
  | _=>exact absurd (show false = true from fx) Q4
 | _=>exact absurd (show false = true from fy) Q4
theorem zd8 (I:L2.Inv X pins σ S.H s) (m:MemOk X.K S) (d:Nat) {w:V} {x y:Value} {b:Bool} (hu:A.units + d < cLine) (rx:RelV v x) (ry:RelV w y) (r:Rep X.K S t v) (q:Rep X.K S u w) (h:eqD S.M d t u = some b):SeqAt.RcAt A s x y b/\SeqAt.RcNeAt A s x y (!b):=by
 have at_:∀ {A:Around} {d:Nat} {xs ys:List T} {vs ws:List V} {us zs:List Value} {b:Bool},A.units + d < cLine->Reps X.K S xs vs->Reps X.K S ys ws->Vals vs us->Vals ws zs->eqL (eqD S.M d) xs ys = some b->
    ∃ e:Nat->Bool,(∀ j (h1:j < us.toArray.size) (h2:j < zs.toArray.size),SeqAt.EqAt A s us.toArray[j] zs.toArray[j] (e j))/\b = ((List.range (min us.toArray.size zs.toArray.size)).all e && us.toArray.size == zs.toArray.size):=by
  intro A d xs ys vs ws us zs b hu r q hv hw h
  obtain ⟨e,h1,h2⟩:=z6 h
  have l1:us.length = xs.length:=by rw [← hv.length,r.1]
  have l2:zs.length = ys.length:=by rw [← hw.length,q.1]
  refine ⟨e,fun j g1 g2=>?_,by rw [h2,Qf,Qf,l1,l2]⟩
  have g1':j < us.length:=by simpa using g1
  have g2':j < zs.length:=by simpa using g2
  have ex:xs[j]? = some (xs[j]'(by omega)):=Q0 (by omega)
  have ey:ys[j]? = some (ys[j]'(by omega)):=Q0 (by omega)
  obtain ⟨v,ev,rv⟩:=r.get ex
  obtain ⟨w,ew,rw'⟩:=q.get ey
  obtain ⟨a,ea,ra⟩:=Vals.get hv ev
  obtain ⟨c,ec,rc⟩:=Vals.get hw ew
  have:us.toArray[j] = a:=by
   rw [getElem_toArray];rw [Q0 g1'] at ea;exact Qb ea
  rw [this]
  have:zs.toArray[j] = c:=by
   rw [getElem_toArray];rw [Q0 g2'] at ec;exact Qb ec
  rw [this]
  exact zhQ I m d hu ra rc rv rw' (h1 j _ _ ex ey)
 unfold eqD at h
 split at h
 ·split at h
  ·cases h
  ·rename_i d
   cases r with
   | @tup _ p vs h1 l1 r1=>
   cases q with
   | @tup _ p2 vs2 h2 l2 r2=>
   cases rx
   cases ry
   obtain ⟨its,ri,pl,_⟩:=I.tuple h1
   obtain ⟨its2,ri2,pl2,_⟩:=I.tuple h2
   obtain ⟨e,he,eb⟩:=at_ (A:=A.in1) (by show A.units + 1 + d < cLine;omega) ⟨l1,r1⟩ ⟨l2,r2⟩ ri ri2 h
   rw [eb]
   exact ⟨SeqAt.RcAt.tuples pl pl2 (by omega) he,SeqAt.RcNeAt.tuples pl pl2 (by omega) he⟩
 ·split at h
  ·rename_i hs
   rw [Qn] at hs
   cases h
   rw [zaN r q hs.1 hs.2]
   exact ⟨zgE rx ry (yr r hs.1) (yr q hs.2),zes rx ry (yr r hs.1) (yr q hs.2)⟩
  ·split at h
   ·rename_i d' xs ys q1 q2
    obtain ⟨p,vs,e1,hq1,s1⟩:=yj m r q1
    obtain ⟨p2,vs2,e2,hq2,s2⟩:=yj m q q2
    subst e1
    subst e2
    cases rx
    cases ry
    obtain ⟨its,ri,pl,_⟩:=I.list hq1
    obtain ⟨its2,ri2,pl2,_⟩:=I.list hq2
    have lz:its.length = xs.length:=by rw [← ri.length,s1.1]
    have lz2:its2.length = ys.length:=by rw [← ri2.length,s2.1]
    by_cases hl:xs.length = ys.length
    ·rw [if_pos hl] at h
     obtain ⟨e,he,eb⟩:=at_ (A:=A.in1) (by show A.units + 1 + d' < cLine;omega) s1 s2 ri ri2 h
     have hsz:its.toArray.size = its2.toArray.size:=by simp [lz,lz2,hl]
     rw [eb,hsz,Nat.min_self,beq_self_eq_true,Bool.and_true,← hsz]
     exact ⟨SeqAt.RcAt.lists pl.isList pl2.isList hsz (by omega) he,SeqAt.RcNeAt.lists pl.isList pl2.isList hsz (by omega) he⟩
    ·rw [if_neg hl] at h
     cases h
     exact ⟨SeqAt.RcAt.lists_lengths pl.isList pl2.isList (by simp [lz,lz2,hl]) (by omega),SeqAt.RcNeAt.lists_lengths pl.isList pl2.isList (by simp [lz,lz2,hl]) (by omega)⟩
   ·cases h
theorem qW (hu:X.A.units + 64 < cLine):OpR X (compareOp .Eq) (lR2 XE X.K eqA):=by
 intro pins s σ H x y v u Q I rx ry ⟨S,⟨tx,ty⟩,e,m,⟨r1,r2⟩,fin⟩
 subst e
 replace fin:Fin XE (Rep X.K) X.K S (eqA tx ty S.M) Q:=fin
 unfold eqA at fin
 split at fin
 ·rename_i b q
  exact (zd8 I m 20 (A:=X.A) (by omega) rx ry r1 r2 q).1 _ _ _ _ ⟨.bl b,S.H,I,rfl,fin S _ rfl (.refl m) (.bl _)⟩
 ·exact fin.elim
theorem zbX (hu:X.A.units + 64 < cLine):OpR X (compareOp .NotEq) (lR2 XE X.K neA):=by
 intro pins s σ H x y v u Q I rx ry ⟨S,⟨tx,ty⟩,e,m,⟨r1,r2⟩,fin⟩
 subst e
 replace fin:Fin XE (Rep X.K) X.K S (neA tx ty S.M) Q:=fin
 unfold neA at fin
 split at fin
 ·rename_i b q
  exact (zd8 I m 20 (A:=X.A) (by omega) rx ry r1 r2 q).2 _ _ _ _ ⟨.bl (!b),S.H,I,rfl,fin S _ rfl (.refl m) (.bl _)⟩
 ·exact fin.elim
noncomputable def inA:T->T->Mem->Out T:=fun x y M=>match zbt y M with
 | some ys=>if (qG x && ys.all qG) = true then .ok (.bl (ys.any fun y=>eqS y x)) M else .bad
 | none=>.bad
noncomputable def zb0:T->T->Mem->Out T:=fun x y M=>match zbt y M with
 | some ys=>if (qG x && ys.all qG) = true then .ok (.bl (!ys.any fun y=>eqS y x)) M else .bad
 | none=>.bad
theorem zfh {K:Frag} {x:T} {v:V} (rx:Rep K S x v) (hx:qG x = true):∀ {ys:List T} {vs:List V},Reps K S ys vs->ys.all qG = true->vs.all yx = true/\inV v vs = ys.any fun y=>eqS y x
 | [],vs,r,_=>by rw [r.nilT];exact ⟨rfl,rfl⟩
 | y :: ys,vs,r,h=>by
  obtain ⟨w,ws,rfl,r1,r2⟩:=r.consT
  rw [all_cons,Qn] at h
  obtain ⟨h1,h2⟩:=zfh rx hx r2 h.2
  refine ⟨by rw [all_cons,yr r1 h.1,h1];rfl,?_⟩
  unfold inV at h2 ⊢
  rw [any_cons,any_cons,h2,zaN r1 rx h.1 hx]
theorem zfL:OpR X (compareOp .NotIn) (lR2 XE X.K zb0):=by
 intro pins s σ H x y v u Q I rx ry ⟨S,⟨tx,ty⟩,e,m,⟨r1,r2⟩,fin⟩
 subst e
 replace fin:Fin XE (Rep X.K) X.K S (zb0 tx ty S.M) Q:=fin
 unfold zb0 at fin
 split at fin
 ·rename_i ys q
  split at fin
  ·rename_i hs
   rw [Qn] at hs
   obtain ⟨p,vs,e1,hq,rs⟩:=zbh m r2 q
   dsimp only at e1
   subst e1
   obtain ⟨a1,a2⟩:=zfh r1 hs.1 rs hs.2
   exact zbW pins s σ S.H _ _ v u Q I rx ry ⟨p,vs,rfl,hq,yr r1 hs.1,a1,by rw [if_pos rfl,a2];exact fin S _ rfl (.refl m) (.bl _)⟩
  ·exact fin.elim
 ·exact fin.elim
end
noncomputable def zer (o:Out Fl):Out T:=match o with
 | .ok (.rt t) M'=>.ok t M'
 | .ok (.nx _) M'=>.ok .non M'
 | _=>.bad
theorem zdG {p:Nat} (h:ts.length = p):qg p n g ts M = zer (g (startT n ts) M):=by
 unfold qg
 rw [if_pos h]
 rfl
theorem zjp:zer (.ok (.rt t) M) = .ok t M:=rfl
theorem zjq {σ:Ev} :zer (.ok (.nx σ) M) = .ok .non M:=rfl
theorem zjK {β:Type} {b:Bool} {k:Bool->Mem->Out β}:blT (.bl b) M k = k b M:=rfl
variable {k:Ev->Mem->Out Fl}
theorem qm {σ:Ev} :zS k (.nx σ) M = k σ M:=rfl
theorem ziE:zS k (.rt t) M = .ok (.rt t) M:=rfl
theorem ziG {σ:Ev} :zS k (.bk σ) M = .ok (.bk σ) M:=rfl
theorem ziF {σ:Ev} :zS k (.ct σ) M = .ok (.ct σ) M:=rfl
theorem zi1 {σ:Ev} :yu k (.nx σ) M = k σ M:=rfl
theorem zi0:yu k (.rt t) M = .ok (.rt t) M:=rfl
theorem zi3 {σ:Ev} :yu k (.bk σ) M = .ok (.nx σ) M:=rfl
theorem zi2 {σ:Ev} :yu k (.ct σ) M = k σ M:=rfl
theorem zd1 {x:T} {σ:Ev} :forL bd body (x :: xs) σ M = (bd x σ M).bind fun σ1 M1=>(body σ1 M1).bind (yu (forL bd body xs)):=rfl
theorem zjv {k:T->Mem->Out T} :qB k [t] M = k t M:=rfl
theorem zju {k:T->T->Mem->Out T} :call2 k [t,u] M = k t u M:=rfl
theorem zjy:yw (.int i) (.int j) M = .ok (.int (i + j)) M:=rfl
theorem zjm:y8 (.int i) (.int j) M = .ok (.int (i - j)) M:=rfl
theorem zfT (h:Mo64 i j):zP (.int i) (.int j) M = .ok (.int (i * j)) M:=if_pos h
theorem zcR (h:j ≠ 0/\j.natAbs < 10 ^ 2000):za7 (.int i) (.int j) M = .ok (.int (i.fdiv j)) M:=if_pos h
theorem zfV (h:j ≠ 0):z3 (.int i) (.int j) M = .ok (.int (i.fmod j)) M:=if_pos h
theorem zjr (h:0<=j/\j<=1000000/\i.natAbs < 2 ^ 64):za1 (.int i) (.int j) M = .ok (.int (i ^ j.toNat)) M:=if_pos h
theorem zjD:ltI (.int i) (.int j) M = .ok (.bl (decide (i < j))) M:=rfl
theorem zjE:leI (.int i) (.int j) M = .ok (.bl (decide (i<=j))) M:=rfl
theorem zjG:gtI (.int i) (.int j) M = .ok (.bl (decide (j < i))) M:=rfl
theorem zjH:geI (.int i) (.int j) M = .ok (.bl (decide (j<=i))) M:=rfl
theorem zjB:ziY (.int i) M = .ok (.int (-i)) M:=rfl
theorem zjs:zdd (.int i) (.int j) M = .ok (.int (if j > i then j else i)) M:=rfl
theorem zjI:eqA (.int i) (.int j) M = .ok (.bl (i == j)) M:=rfl
theorem zjC:neA (.int i) (.int j) M = .ok (.bl (!(i == j))) M:=rfl
theorem zjF {a b:Bool} :isB (.bl a) (.bl b) M = .ok (.bl (a == b)) M:=rfl
theorem zja {a b:Bool} :zT (.bl a) (.bl b) M = .ok (.bl (a != b)) M:=rfl
theorem yN {α:Type} {xs:List α} :atI xs (n:Int) = xs[n]?:=by
 unfold atI ixN
 by_cases h:n < xs.length
 ·simp [h]
 ·simp [h]
theorem zjY {α:Type} {x:α} {l:List α}:atI (x :: l) 0 = some x:=by have:=yN (xs:=x :: l) (n:=0);exact this
theorem zjX {α:Type} {x y:α} {l:List α}:atI (x :: y :: l) 1 = some y:=by have:=yN (xs:=x :: y :: l) (n:=1);exact this
theorem zjW {α:Type} {x y z:α} {l:List α}:atI (x :: y :: z :: l) 2 = some z:=by have:=yN (xs:=x :: y :: z :: l) (n:=2);exact this
theorem zjV {α:Type} {x y z w:α} {l:List α}:atI (x :: y :: z :: w :: l) 3 = some w:=by have:=yN (xs:=x :: y :: z :: w :: l) (n:=3);exact this
theorem zjR:ixN (n + 1) 0 = some 0:=by unfold ixN;simp
theorem zjQ:ixN (n + 2) 1 = some 1:=by unfold ixN;simp;omega
theorem zjP:ixN (n + 3) 2 = some 2:=by unfold ixN;simp;omega
theorem zgD (h:-(2 ^ 62)<=j/\j < 2 ^ 62):zaZ [.int j] M = .ok (zac 0 j.toNat) M:=if_pos h
theorem zjJ:za7 (.int i) (.int 8) M = .ok (.int (i.fdiv 8)) M:=zcR ⟨by decide,Q5 (show (8:Int).natAbs < 10 ^ 1 by decide) (Nat.pow_le_pow_right (by decide) (by decide))⟩
theorem zb1 (h:-(2 ^ 64) < i/\i < 2 ^ 64):zP (.int i) (.int j) M = .ok (.int (i * j)) M:=zfT (.inr (.inl h))
theorem ziy (n:Nat) (hn:n<=2000) (h0:j ≠ 0) (h:j.natAbs < 10 ^ n):j ≠ 0/\j.natAbs < 10 ^ 2000:=⟨h0,Q5 h (Nat.pow_le_pow_right (by decide) hn)⟩
structure Po where
 a:Int
 b:Int
 c:Int
noncomputable def Po.cell (p:Po):Cell:=.lst [.int p.a,.int p.b,.int p.c]
noncomputable def Po.dig (p:Po) (base:Int):Int:=if 0 < p.a then p.a % base else
 let mixed:=(p.b + 7919 * (p.c + 1)) % 1000000007
 let stir:=(mixed + 11) * (mixed + 48271) % 998244353
 (stir * stir % 2147483647 / 8) % base
noncomputable def Po.nxt (p:Po) (base:Int):Po:=if 0 < p.a then ⟨p.a / base,p.b,p.c⟩ else ⟨p.a,p.b,p.c + 1⟩
noncomputable def Po.new (cell:Int):Po:=⟨if cell - 10 ^ 18 > 0 then cell - 10 ^ 18 else 0,cell % 10 ^ 18,0⟩
theorem Po.dig_lo (p:Po) {base:Int} (h:0 < base):0<=p.dig base:=by
 unfold Po.dig
 split
 ·exact Int.emod_nonneg _ (by omega)
 ·exact Int.emod_nonneg _ (by omega)
theorem Po.dig_hi (p:Po) {base:Int} (h:0 < base):p.dig base < base:=by
 unfold Po.dig
 split
 ·exact Int.emod_lt_of_pos _ h
 ·exact Int.emod_lt_of_pos _ h
theorem zco {α:Type} (f:α->Bool):∀ xs:List α,zaC (xs.map fun x=>T.bl (f x)) = some (xs.map f)
 | []=>rfl
 | x :: xs=>by
  show (zaC (xs.map fun x=>T.bl (f x))).map (f x :: ·) = _
  rw [zco f xs]
  rfl
theorem ze5 {α:Type} (f:α->Bool) (xs:List α) (M:Mem):zcq (.lst (xs.map fun x=>T.bl (f x))) M = .ok (.bl (xs.all f)) M:=by
 unfold zcq yB
 simp only [zco]
 rw [List.all_map]
 rfl
theorem zi4:y3 (.tup xs) M = .ok (.int xs.length) M:=rfl
theorem zi5:y3 (.lst xs) M = .ok (.int xs.length) M:=rfl
theorem zaR {α:Type} {xs:List α} (h0:0<=i) (h1:i < xs.length):∃ x,atI xs i = some x/\x ∈ xs:=by
 obtain ⟨n,rfl⟩:∃ n:Nat,i = n:=⟨i.toNat,by omega⟩
 have hn:n < xs.length:=by omega
 exact ⟨xs[n],by rw [yN];simp [hn],List.getElem_mem hn⟩
variable {ys:List T}
theorem zjx (h:xs.length + ys.length<=sizeLine):yw (.tup xs) (.tup ys) M = .ok (.tup (xs ++ ys)) M:=if_pos h
theorem zcU (h:xs.length + ys.length<=sizeLine):yw (.lst xs) (.lst ys) M = .ok (.lst (xs ++ ys)) M:=if_pos h
noncomputable def zao (kvs:List (Key × T)) (k:Key):Option T:=(kvs.find? fun kv=>decide (kv.1 = k)).map (·.2)
noncomputable def zdm (kvs:List (Key × T)) (k:Key) (t:T):List (Key × T):=
 if (kvs.any fun kv=>decide (kv.1 = k)) = true then kvs.map (fun kv=>if kv.1 = k then (kv.1,t) else kv) else kvs ++ [(k,t)]
variable {kvs:List (Key × T)} {us:List (Key × V)}
section
variable {S:Sit}
theorem RepK.nilT (r:RepK K S [] us):us = []:=by
 have:=r.1
 simpa using this.symm
theorem RepK.nil:RepK K S [] []:=⟨rfl,.nil⟩
theorem RepK.consT {p:Key × T} (r:RepK K S (p :: kvs) us):∃ u us',us = (p.1,u) :: us'/\Rep K S p.2 u/\RepK K S kvs us':=by
 cases us with
 | nil=>have:=r.1;simp at this
 | cons q us=>
  obtain ⟨h1,h2⟩:=r
  rw [map_cons,map_cons] at h1 h2
  injection h1 with e1 e2
  obtain ⟨v,vs,e3,r1,r2⟩:=h2.consT
  injection e3 with e3 e4
  refine ⟨q.2,us,?_,?_,e2,?_⟩
  ·rw [e1]
  ·rw [e3];exact r1
  ·rw [e4];exact r2
theorem RepK.cons {k:Key} {u:V} (q:Rep K S t u) (r:RepK K S kvs us):RepK K S ((k,t) :: kvs) ((k,u) :: us):=
 ⟨by rw [map_cons,map_cons,r.1],by rw [map_cons,map_cons];exact r.2.cons q⟩
theorem RepK.look (k:Key):∀ {kvs:List (Key × T)} {us:List (Key × V)},RepK K S kvs us->(zao kvs k = none/\qN us k = none)\/∃ t v,zao kvs k = some t/\qN us k = some v/\Rep K S t v
 | [],us,r=>by rw [r.nilT];exact .inl ⟨rfl,rfl⟩
 | p :: kvs,us,r=>by
  obtain ⟨u,us',rfl,r1,r2⟩:=r.consT
  by_cases h:p.1 = k
  ·refine .inr ⟨p.2,u,?_,?_,r1⟩
   ·simp [zao,find?_cons,h]
   ·simp [qN,find?_cons,h]
  ·have e1:zao (p :: kvs) k = zao kvs k:=by simp [zao,find?_cons,h]
   have e2:qN ((p.1,u) :: us') k = qN us' k:=by simp [qN,find?_cons,h]
   rw [e1,e2]
   exact RepK.look k r2
theorem RepK.any (k:Key):∀ {kvs:List (Key × T)} {us:List (Key × V)},RepK K S kvs us->(kvs.any fun kv=>decide (kv.1 = k)) = us.any fun kv=>decide (kv.1 = k)
 | [],us,r=>by rw [r.nilT];rfl
 | p :: kvs,us,r=>by
  obtain ⟨u,us',rfl,r1,r2⟩:=r.consT
  rw [any_cons,any_cons,RepK.any k r2]
theorem RepK.repl (k:Key) {t:T} {v:V} (q:Rep K S t v):∀ {kvs:List (Key × T)} {us:List (Key × V)},RepK K S kvs us->RepK K S (kvs.map (fun kv=>if kv.1 = k then (kv.1,t) else kv)) (us.map (fun kv=>if kv.1 = k then (kv.1,v) else kv))
 | [],us,r=>by rw [r.nilT];exact .nil
 | p :: kvs,us,r=>by
  obtain ⟨u,us',rfl,r1,r2⟩:=r.consT
  rw [map_cons,map_cons]
  by_cases h:p.1 = k
  ·rw [if_pos h,if_pos h]
   exact (RepK.repl k q r2).cons q
  ·rw [if_neg h,if_neg h]
   exact (RepK.repl k q r2).cons r1
theorem RepK.snoc (k:Key) {t:T} {v:V} (q:Rep K S t v):∀ {kvs:List (Key × T)} {us:List (Key × V)},RepK K S kvs us->RepK K S (kvs ++ [(k,t)]) (us ++ [(k,v)])
 | [],us,r=>by rw [r.nilT];exact RepK.nil.cons q
 | p :: kvs,us,r=>by
  obtain ⟨u,us',rfl,r1,r2⟩:=r.consT
  exact (RepK.snoc k q r2).cons r1
theorem RepK.put (k:Key) (q:Rep K S t v) (r:RepK K S kvs us):RepK K S (zdm kvs k t) (putK us k v):=by
 unfold zdm putK
 rw [r.any k]
 split
 ·exact r.repl k q
 ·exact r.snoc k q
end
section
noncomputable def lMt (XE:XK) (K:Frag) (F:T->List T->Mem->Out T):V->List V->Hp->VK->Prop:=fun x xs H Q=>L0 XE (Rep K) K (PrR (Rep K) (Reps K)) (fun a M=>F a.1 a.2 M) (x,xs) H Q
noncomputable def zaO (chk:T->Mem->Bool) (F:T->List T->Mem->Out T) (f:Ev->Mem->Out T) (g:Ev->Mem->Out (List T)):Ev->Mem->Out T:=fun σ M=>(f σ M).bind fun x M1=>if chk x M1 = true then (g σ M1).bind fun ts M2=>F x ts M2 else .bad
end
noncomputable def insI (x:Int):List Int->List Int
 | []=>[x]
 | y :: ys=>if x<=y then x :: y :: ys else y :: insI x ys
theorem insI_perm (x:Int):∀ ys,(insI x ys).Perm (x :: ys)
 | []=>.refl _
 | y :: ys=>by
  unfold insI
  split
  ·exact .refl _
  ·exact ((insI_perm x ys).cons y).trans (.swap x y ys)
theorem Reps.ints {K:Frag} {S:Sit}:∀ ns:List Int,Reps K S (ns.map T.int) (ns.map V.int)
 | []=>.nil
 | n :: ns=>(Reps.ints ns).cons (.int n)
noncomputable def tK:Key->T
 | .inl i=>.int i
 | .inr x=>.str x
theorem zgv {S:Sit} (k:Key):Rep K S (tK k) (kV k):=by
 cases k with
 | inl i=>exact .int i
 | inr x=>exact .str x
theorem Reps.keys {K:Frag} {S:Sit}:∀ ks:List Key,Reps K S (ks.map tK) (ks.map kV)
 | []=>.nil
 | k :: ks=>(Reps.keys ks).cons (zgv k)
noncomputable def SubL (m:List (Str × Addr)):List (Str × Addr)->Prop
 | []=>True
 | c :: l=>m.lookup c.1 = some c.2/\SubL m l
theorem zb2:∀ {l m:List (Str × Addr)},SubL m l->∀ x a,l.lookup x = some a->m.lookup x = some a
 | [],_,_,_,_,h=>by cases h
 | (y,b) :: l,m,g,x,a,h=>by
  rw [lookup_cons] at h
  split at h
  ·rename_i e
   cases h
   rw [eq_of_beq e]
   exact g.1
  ·exact zb2 g.2 x a h
noncomputable def zd9 (kvs prs:List (Key × T)):List (Key × T):=prs.foldl (fun acc kv=>zdm acc kv.1 kv.2) kvs
theorem RepK.merge {K:Frag} {S:Sit}:∀ {prs:List (Key × T)} {us:List (Key × V)} {kvs:List (Key × T)} {ws:List (Key × V)},RepK K S prs us->RepK K S kvs ws->RepK K S (zd9 kvs prs) (zdQ ws us)
 | [],us,kvs,ws,r,q=>by rw [r.nilT];exact q
 | p :: prs,us,kvs,ws,r,q=>by
  obtain ⟨u,us',rfl,r1,r2⟩:=r.consT
  show RepK K S (zd9 (zdm kvs p.1 p.2) prs) (zdQ (putK ws p.1 u) us')
  exact RepK.merge r2 (q.put p.1 r1)
noncomputable def forR (bd:T->Ev->Mem->Out Ev) (body:Ev->Mem->Out Fl) (a:Nat):Nat->Nat->Ev->Mem->Out Fl
 | 0,i,σ,M=>match M[a]? with
  | some (.lst xs)=>if xs.length<=i then .ok (.nx σ) M else .bad
  | _=>.bad
 | n + 1,i,σ,M=>match M[a]? with
  | some (.lst xs)=>match xs[i]? with
   | some x=>(bd x σ M).bind fun σ1 M1=>(body σ1 M1).bind (yu (forR bd body a n (i + 1)))
   | none=>.ok (.nx σ) M
  | _=>.bad
noncomputable def zjL (bd:T->Ev->Mem->Out Ev) (body:Ev->Mem->Out Fl) (t:T) (σ:Ev) (M:Mem):Out Fl:=match t with
 | .ref a=>match M[a]? with
  | some (.lst xs)=>forR bd body a xs.length 0 σ M
  | _=>.bad
 | _=>.bad
theorem zeV {bd:T->Ev->Mem->Out Ev} {body:Ev->Mem->Out Fl} {a:Nat} {xs:List T} (P:Nat->Ev->Mem->Prop) (hP:∀ k σ M,P k σ M->M[a]? = some (.lst xs))
  (t:∀ k x σ M,xs[k]? = some x->P k σ M->∃ σ' M',((bd x σ M).bind fun σ1 M1=>body σ1 M1) = .ok (.nx σ') M'/\P (k + 1) σ' M'):∀ n i,i + n = xs.length->∀ σ M,P i σ M->∃ σ' M',forR bd body a n i σ M = .ok (.nx σ') M'/\P xs.length σ' M'
 | 0,i,hi,σ,M,h=>by
  have hM:=hP i σ M h
  refine ⟨σ,M,?_,by rw [← hi];exact h⟩
  unfold forR
  rw [hM]
  exact if_pos (by omega)
 | n + 1,i,hi,σ,M,h=>by
  have hM:=hP i σ M h
  have hx:xs[i]? = some xs[i]:=by simp [show i < xs.length by omega]
  obtain ⟨σ1,M1,e1,h1⟩:=t i _ σ M hx h
  obtain ⟨σ2,M2,e2,h2⟩:=zeV P hP t n (i + 1) (by omega) σ1 M1 h1
  refine ⟨σ2,M2,?_,h2⟩
  unfold forR
  rw [hM]
  simp only [hx]
  cases q:bd xs[i] σ M with
  | bad=>rw [q] at e1;cases e1
  | exn C fs M'=>rw [q] at e1;cases e1
  | ok σ3 M3=>
   rw [q] at e1
   replace e1:body σ3 M3 = .ok (.nx σ1) M1:=e1
   show (body σ3 M3).bind (yu (forR bd body a n (i + 1))) = _
   rw [e1]
   exact e2
end FT
namespace L2
open PySem PySem.Spec PySem.W PyProof.Rows
theorem KV.get_val {κ:Type}:∀ {kvs:List (κ × V)} {vs:List (κ × Value)} {i:Nat} {k:κ} {v:Value},KV kvs vs->vs[i]? = some (k,v)->∃ u,(kvs.map (·.2))[i]? = some u/\RelV u v
 | _,_,_,_,_,.nil,e=>by simp at e
 | _,_,0,_,_,.cons r _,e=>by simp at e;subst e;exact ⟨_,rfl,r.2⟩
 | _,_,i + 1,k,v,.cons _ t,e=>by
  obtain ⟨u,h1,h2⟩:=KV.get_val (i:=i) (k:=k) (v:=v) t (by simpa using e)
  exact ⟨u,by simpa using h1,h2⟩
variable {X:Cx}
section
variable {pins:List (Addr × Obj)} {σ:St} {H:Hp} {s:Shared} {l:Addr} {us:List (Key × V)}
theorem Inv.freeze (I:Inv X pins σ H s) (e:H l = some (.dK us)):∃ ob,Inv X pins σ (upd H l (.frz ob (.dK us))) s:=by
 obtain ⟨z,hs,vs,rel,o,es,ep,ho,r⟩:=(show ObjOk X.prog X.w H s.heap l (.dK us) from I.hok l _ e)
 exact ⟨o,I.write (x:=l) (e:=l) (o:=.frz o (.dK us)) (h':=s.heap) (t':=s.toks) (by rw [e];trivial) (.inl rfl) (fun b u _ q=>q) ⟨o,ho⟩ ⟨ho,z,hs,vs,rel,o,es,ep,ho,r⟩⟩
end
noncomputable def zjf (Q:VK):VK:=fun v H'=>∃ l us,v = .ref l/\H' l = some (.dK us)/\∀ ob,Q v (upd H' l (.frz ob (.dK us)))
theorem CallR.frz {f:Value} {r:List V->Hp->VK->Prop} (h:CallR X f r):CallR X f (fun xs H Q=>r xs H (zjf Q)):=by
 intro pins s σ H xs us Q I rv hr
 refine Qe (h pins s σ H xs us _ I rv hr) (fun v s' ⟨x,H',I',r',l,us',ex,e,q⟩=>?_) fun _ _ z=>z
 obtain ⟨ob,I2⟩:=I'.freeze e
 exact ⟨x,_,I2,r',q ob⟩
end L2
namespace FT
open PySem PySem.Spec PyProof.Rows L2
noncomputable def zeu (f:Str) (v:T):List (Str × T)->List (Str × T)
 | []=>[(f,v)]
 | (g,x) :: r=>if g = f then (g,v) :: r else (g,x) :: zeu f v r
variable {K:Frag} {us:List (Str × V)}
section
variable {S:Sit}
theorem RepF.nil:RepF K S [] []:=⟨rfl,.nil⟩
theorem RepF.nilT (r:RepF K S [] us):us = []:=by
 have:=r.1
 simpa using this.symm
theorem RepF.consT {p:Str × T} {fs:List (Str × T)} (r:RepF K S (p :: fs) us):∃ u us',us = (p.1,u) :: us'/\Rep K S p.2 u/\RepF K S fs us':=by
 cases us with
 | nil=>have:=r.1;simp at this
 | cons q us'=>
  have h1:=r.1
  simp only [map_cons,List.cons.injEq] at h1
  obtain ⟨v,vs,e,r1,r2⟩:=(show Reps K S (p.2 :: fs.map (·.2)) (q.2 :: us'.map (·.2)) from r.2).consT
  cases e
  exact ⟨q.2,us',by rw [h1.1],r1,h1.2,r2⟩
theorem RepF.cons {g:Str} {t:T} {u:V} {fs:List (Str × T)} (q:Rep K S t u) (r:RepF K S fs us):RepF K S ((g,t) :: fs) ((g,u) :: us):=⟨by simp [r.1],r.2.cons q⟩
theorem RepF.look (f:Str):∀ {fs:List (Str × T)} {us:List (Str × V)},RepF K S fs us->∀ {t:T},fs.lookup f = some t->∃ v,us.lookup f = some v/\Rep K S t v
 | [],us,r,t,e=>by cases e
 | (g,x) :: fs,us,r,t,e=>by
  obtain ⟨u,us',rfl,r1,r2⟩:=r.consT
  rw [lookup_cons] at e ⊢
  cases h:f == g with
  | true=>rw [h] at e;cases e;exact ⟨u,rfl,r1⟩
  | false=>rw [h] at e;exact RepF.look f r2 e
theorem RepF.put (f:Str) {t:T} {v:V} (q:Rep K S t v):∀ {fs:List (Str × T)} {us:List (Str × V)},RepF K S fs us->RepF K S (zeu f t fs) (zev f v us)
 | [],us,r=>by rw [r.nilT];exact RepF.cons q .nil
 | (g,x) :: fs,us,r=>by
  obtain ⟨u,us',rfl,r1,r2⟩:=r.consT
  unfold zeu zev
  by_cases h:g = f
  ·rw [if_pos h,if_pos h];exact RepF.cons q r2
  ·rw [if_neg h,if_neg h];exact RepF.cons r1 (RepF.put f q r2)
end
noncomputable def zj1 (Cs:List Addr) (f:Str) (x:T) (M:Mem):Out T:=match x with
 | .ref a=>match M[a]? with
  | some (.ins C fs)=>if C ∈ Cs then zbV (fs.lookup f) M else .bad
  | _=>.bad
 | _=>.bad
structure MakT (P:Program) (w:World) (K:Frag) (mg:Str->Option Value) (base:Heap) (k:Nat) (x:Str) (C:Addr) (ps:List Str) (f:List T->Mem->Out T):Prop where
 ex:∃ (fI:Addr) (fd:FuncData),Mk K C fI/\FnOk P w K mg base CX0 k fI fd ps (spT K f)/\Binds K fd ps []/\mg x = some (.ref C)
 nox:∀ ts M C fs M',f ts M ≠ .exn C fs M'
structure Di (K:Frag) (mg:Str->Option Value) (x qual:Str) (C:Addr) (st:Stmt) (ps:List Str):Prop where
 ex:∃ (fI:Addr) (fd:FuncData),Mk K C fI/\Fun K "__init__" qual st fI fd/\Binds K fd ps []/\mg x = some (.ref C)
variable {P:Addr->Prop}
theorem zeW:∀ C ∈ ([]:List Addr),P C:=fun C h=>by simp at h
theorem zp {a:Addr} {l:List Addr} (h:P a) (r:∀ C ∈ l,P C):∀ C ∈ a :: l,P C:=fun C hc=>by
 rcases mem_cons.mp hc with rfl | hc
 ·exact h
 ·exact r C hc
noncomputable def zb (K:Frag) (x:Str):Addr:=match PySem.W.nsIn K mainGlobals x with
 | some (some (.ref a))=>a
 | _=>0
theorem zk {x:Str} {C:Addr} (a:PySem.W.nsIn K mainGlobals x = some (some (.ref C))):zb K x = C:=by
 unfold zb
 rw [a]
noncomputable abbrev Gd:=List (Nat × List T)
def zdk (G:Gd) (M:Mem):Prop:=∀ g ∈ G,M[g.1]? = some (.lst g.2)
noncomputable def gdK {β:Type} (G:Gd) (M:Mem) (o:Out β):Out β:=@ite _ (zdk G M) (Classical.propDecidable _) o .bad
theorem zd0 {β:Type} {G:Gd} {M:Mem} {o:Out β} (h:zdk G M):gdK G M o = o:=if_pos h
def ItG (K:Frag) (S:Sit) (items:List T × Gd) (J:It):Prop:=∀ S',Stp K S S'->zdk items.2 S'.M->
 (∀ (i:Nat) t,items.1[i]? = some t->J.go i S'.H/\∀ x H',J.yld i S'.H x H'->∃ S'',S''.H = H'/\S''.M = S'.M/\Stp K S' S''/\Rep K S'' t x)/\∀ i,items.1.length<=i->J.stop i S'.H
instance (K):Mo K (ItG K):=⟨fun _ s r=>fun S' s'=>r S' (s.trans s')⟩
noncomputable def lIG (XE:XK) (K:Frag) (f:Ev->Mem->Out (List T × Gd)):TI:=fun σ H R=>LN XE (ItG K) K UnR (fun _ σ M=>f σ M) () σ H R
def GIG (X:Cx) (XE:XK) (tg iter:Expr) (f:Ev->Mem->Out (List T × Gd)):Prop:=PI X tg iter (lIG XE X.K f)
noncomputable def za6 (G:Gd) (bd:T->Ev->Mem->Out Ev) (body:Ev->Mem->Out Fl):List T->Ev->Mem->Out Fl
 | [],σ,M=>gdK G M (.ok (.nx σ) M)
 | x :: xs,σ,M=>gdK G M ((bd x σ M).bind fun σ1 M1=>(body σ1 M1).bind (yu (za6 G bd body xs)))
end FT
namespace L2
open PySem PySem.Spec PySem.W PyProof.Rows
def SI (b:Bool) (h:Heap) (q t:Addr) (k:Nat):Prop:=match b with
 | true=>h.IsTupleIter q t k
 | false=>h.IsListIter q t k
def SS (b:Bool) (h:Heap) (t:Addr) (xs:Array Value):Prop:=match b with
 | true=>h.IsTuple t xs
 | false=>h.IsList t xs
def SqX (K:Frag) (H:Hp) (b:Bool) (a:Addr) (xs:List V):Prop:=match b with
 | true=>SqT K H a xs
 | false=>SqL K H a xs
noncomputable abbrev TSl:=V->Option Int->Option Int->V->Hp->(Hp->Prop)->Prop
end L2
namespace FT
open PySem PySem.Spec PyProof.Rows L2
structure CalX (P:Program) (w:World) (K:Frag) (mg:Str->Option Value) (base:Heap) (k:Nat) (x:Str) (ps:List Str) (f:List T->Mem->Out T):Prop where
 ex:∃ (fa:Addr) (fd:FuncData),FnOk P w K mg base (CXX P w) k fa fd ps (spT K f)/\PySem.W.keepIn K (.ref fa) = true/\Binds K fd ps []/\mg x = some (.ref fa)
variable {C:Addr} {K:Frag} {base:Heap} {P:Program} {nm x:Str} {mg:Str->Option Value} {w:World}
section
variable {X:Cx} {XE:XK} {k i j:Nat} {ps:List Str} {y v:Str} {p pos pos2 np hp tp vp cpos:Pos} {e:Expr} {es:List Expr} {ga:Ev->Mem->Out (List T)} {F:List T->Mem->Out T} {b0:Stmt} {suite sts:List Stmt} {g gs:Ev->Mem->Out Fl}
structure XcF (P:Program) (w:World) (K:Frag) (mg:Str->Option Value) (base:Heap) (x:Str) (C:Addr):Prop where
 ex:∃ f fd,XcAt K mg x C f/\FnOk P w K mg base CX0 1 f fd ["self","at"] (fun vs H Q E=>(∃ e t v,vs = [.ref e,v]/\H e = some (.ext (ExN e C t none))/\∀ d,H d = none->d ≠ e->Q .non (upd (upd H e (.ext (ExN e C t (some d)))) d (.xd [("at",v)]))))/\Binds K fd ["self","at"] []
theorem XcF.at (O:XcF P w K mg base x C):∃ nm fI,XcAt K mg nm C fI:=let ⟨f,_,h,_⟩:=O.ex;⟨x,f,h⟩
def GX (X:Cx) (sts:List Stmt) (g:Ev->Mem->Out Fl):Prop:=PX X sts fun E=>lS E X.K g
noncomputable def noX (o:Out Fl):Out Fl:=match o with
 | .exn _ _ _=>.bad
 | o=>o
noncomputable def zjZ (cs:List Addr) (g gs:Ev->Mem->Out Fl):Ev->Mem->Out Fl:=fun σ M=>match g σ M with
 | .exn C _ M'=>if cs.contains C = true then noX (gs σ M') else .bad
 | o=>o
noncomputable def clr (j:Nat) (fl:Fl) (M:Mem):Out Fl:=match fl with
 | .nx σ=>.ok (.nx (σ.set j none)) M
 | .rt t=>.ok (.rt t) M
 | .bk σ=>.ok (.bk (σ.set j none)) M
 | .ct σ=>.ok (.ct (σ.set j none)) M
noncomputable def zjM (j:Nat) (cs:List Addr) (g gs:Ev->Mem->Out Fl):Ev->Mem->Out Fl:=fun σ M=>match g σ M with
 | .exn C fs M'=>if cs.contains C = true then (noX (gs (σ.set j (some (.exc C fs))) M')).bind (clr j) else .bad
 | o=>o
noncomputable def xat (cs:List Addr) (t:T) (M:Mem):Out T:=match t with
 | .exc C fs=>if cs.contains C = true then match fs.lookup ("at":Str) with
  | some v=>.ok v M
  | none=>.bad else .bad
 | _=>.bad
theorem zbi {K:Frag} {S:Sit} {f:Str} {t:T}:∀ {fs:List (Str × T)} {us:List (Str × V)},fs.map (·.1) = us.map (·.1)->(∀ (i:Nat) t v,(fs.map (·.2))[i]? = some t->(us.map (·.2))[i]? = some v->Rep K S t v)->fs.lookup f = some t->∃ v,us.lookup f = some v/\Rep K S t v
 | [],_,_,_,h=>by simp at h
 | (a,x) :: fs,[],l,_,_=>by simp at l
 | (a,x) :: fs,(b,y) :: us,l,r,h=>by
  simp only [map_cons,List.cons.injEq] at l
  obtain ⟨rfl,l⟩:=l
  rw [lookup_cons] at h ⊢
  by_cases hf:(f == a) = true
  ·rw [hf] at h ⊢
   cases h
   exact ⟨y,rfl,r 0 _ _ rfl rfl⟩
  ·have hf:(f == a) = false:=by simpa using hf
   rw [hf] at h ⊢
   exact zbi l (fun i t v e1 e2=>r (i + 1) t v (by simpa using e1) (by simpa using e2)) h
end
variable {N:Addr} {sl:Array (Option Value)} {es:Array DictEntry} {h:Heap} {ep:Nat}
theorem zdN (X:K.In h) {c:Value} {d:Option Addr} (l:K.lookup N = some ⟨c,d,.dict es ep,sl⟩) (sk:zz es = true) :
  h.Ns N (h.nsMap N)/\∀ (n:Str) r,PySem.W.nsIn K N n = some r->h.nsMap N n = r:=by
 have ho:=X _ _ l
 have hi:h.isNs N = true:=by
  unfold Heap.isNs
  rw [ho]
  unfold zz at sk
  rw [Array.all_toList] at sk
  exact sk
 refine ⟨Heap.Ns.of_isNs hi,fun n r q=>?_⟩
 obtain ⟨o,es',ep',ho',hd',_,hf⟩:=Heap.Ns.of_isNs hi
 rw [← hf n]
 rw [ho] at ho'
 cases ho'
 cases hd'
 unfold PySem.W.nsIn at q
 rw [l] at q
 dsimp only at q
 unfold nsFind findBy
 cases e:es.toList.find? (·.key.isStr n) with
 | some e'=>
  rw [e] at q
  have:es.find? (fun e=>e.key.isStr n) = some e':=by rw [← Array.find?_toList];exact e
  rw [this]
  exact Qb q
 | none=>
  rw [e] at q
  have:es.find? (fun e=>e.key.isStr n) = none:=by rw [← Array.find?_toList];exact e
  rw [this]
  dsimp only at q
  split at q
  ·cases q
  ·exact Qb q
noncomputable def qO (K:Frag) (N:Addr) (ns:List Str):Bool:=ns.all fun n=>PySem.W.nsIn K N n == some none
variable {ns:List Str}
theorem zaF (v:∀ (n:Str) r,PySem.W.nsIn K N n = some r->h.nsMap N n = r) (e:qO K N ns = true):∀ n ∈ ns,h.nsMap N n = none:=fun n hn=>v n none (eq_of_beq (all_eq_true.mp e n hn))
theorem y2:qO K N [] = true:=rfl
theorem qf {n:Str} (a:PySem.W.nsIn K N n = some none) (b:qO K N ns = true):qO K N (n :: ns) = true:=by unfold qO at *;rw [all_cons,b,a];rfl
theorem ze8 (X:K.In h) (G:h.Ns mainGlobals mg) {qual q:Str} {st:Stmt} {W fI:Addr} {bs:List Value} {sn:List Str} {sub:List Value} {ab:Bool} {col:Option Bool} {dd od an:Option Addr} {k0 k1 k2 k3 k5:Option Value}
 {c1 c2 c3 kV dc pm cd ct:Value} {d1 d2 d3:Option Addr} {es':Array DictEntry} {ep':Nat} {s1 s2 s3:Array (Option Value)} {cdw:ClassData} {p1 p2 p3 p4:Pos}
 (a:PySem.W.nsIn K mainGlobals x = some (some (.ref C)))
 (l:K.lookup C = some (excClassObj nm q C N bs (.ref W :: zu) true sn sub ab col dd k0 k1 k2 k3 k5 "ValueError.__new__"))
 (ln:K.lookup N = some ⟨c1,d1,.dict es ep,s1⟩) (sk:zz es = true) (q0:PySem.W.nsIn K N "__init__" = some (some (.ref fI))) (n0:qO K N xns = true)
 (lw:K.lookup W = some ⟨c2,d2,.cls cdw,s2⟩) (lwn:K.lookup cdw.ns = some ⟨c3,d3,.dict es' ep',s3⟩) (sk':zz es' = true) (n1:qO K cdw.ns ("__init__" :: xns) = true)
 (lf:K.lookup fI = some ⟨.type "function",od,.func (PySem.W.fnOf "__init__" qual (qy st) (qi st) (qc st) .none kV dc pm an cd ct),sl⟩) (cc:PySem.W.codeIn K cd qual = true) (kk:PySem.W.keepIn K (.ref fI) = true)
 (Sc:FnScope ["self","at"] ["self","at"] (qc st)) (hb:qi st = [.Assign [.Attribute (.Name "self" p1) "at" p2] (.Name "at" p3) p4]) (l1:(qc st).names.lookup ("self":Str) = some NameKind.local) (l2:(qc st).names.lookup ("at":Str) = some NameKind.local)
 (bd:∀ (kV doc pm:Value) (an:Option Addr) (cdv ct:Value) (us:List Value),us.length = 2->bindArgs (PySem.W.fnOf "__init__" qual (qy st) (qi st) (qc st) .none kV doc pm an cdv ct) ⟨us,[]⟩ = pure ((["self","at"]:List Str).zip us)) :
  XcF P w K mg base x (zb K x):=by
 rw [zk a]
 have F:=zb9 (st:=st) lf cc kk
 have O:XcAt K mg x C fI:=by
  refine ⟨PySem.W.mg_of X G a,fun h' X'=>?_,_,lf,rfl⟩
  obtain ⟨hN,v1⟩:=zdN X' ln sk
  obtain ⟨hW,v2⟩:=zdN X' lwn sk'
  exact ⟨_,N,nm,q,bs,sn,sub,ab,col,dd,k0,k1,k2,k3,k5,_,X' _ _ l,hN,v1 _ _ q0,zaF v1 n0,.own (X' _ _ lw) hW (zaF v2 n1) .base⟩
 exact ⟨fI,_,O,zf4 O F Sc hb l1 l2,F.binds bd⟩
theorem zeo {f:Addr} (O:XcAt K mg x C f):Sup K mg x C C:=⟨O.bound,fun h X=>by
 obtain ⟨bm,N,nm,q,bs,sn,sub,ab,col,dd,k0,k1,k2,k3,k5,mN,hC,_,_,_,T⟩:=O.obj h X
 exact ⟨⟨bm,N,nm,q,bs,true,sn,sub,ab,col,dd,k0,k1,k2,k3,k5,hC,(T.tail (by decide)).hasType PySem.F.excBase_ValueError.hasBase⟩,bm,N,nm,q,bs,true,sn,sub,ab,col,dd,k0,k1,k2,k3,k5,hC,by simp⟩⟩
theorem XcF.sup (O:XcF P w K mg base x C):Sup K mg x C C:=let ⟨_,_,h,_⟩:=O.ex;zeo h
end FT
namespace L2
open PySem
noncomputable def subs:Nat->List (List Nat)
 | 0=>[[]]
 | n + 1=>subs n ++ (subs n).map (· ++ [n])
theorem zcC:∀ (n:Nat) (ks:List Nat),ks ∈ subs n->ks.Pairwise (· < ·)/\∀ k ∈ ks,k < n
 | 0,ks,h=>by rw [show ks = [] from mem_singleton.mp h];exact ⟨.nil,fun _ h=>by cases h⟩
 | n + 1,ks,h=>by
  unfold subs at h
  rcases mem_append.mp h with h | h
  ·have:=zcC n ks h
   exact ⟨this.1,fun k hk=>Nat.lt_succ_of_lt (this.2 k hk)⟩
  ·obtain ⟨l,hl,rfl⟩:=mem_map.mp h
   have:=zcC n l hl
   refine ⟨List.pairwise_append.mpr ⟨this.1,List.pairwise_singleton _ _,fun a ha b hb=>by rw [mem_singleton.mp hb];exact this.2 a ha⟩,fun k hk=>?_⟩
   rcases mem_append.mp hk with hk | hk
   ·exact Nat.lt_succ_of_lt (this.2 k hk)
   ·rw [mem_singleton.mp hk];exact Nat.lt_succ_self _
noncomputable def zjj:Bool:=(subs 6).all fun ks=>(List.range 7).all fun h=>SetTable.below ks.toArray h == (ks.filter (· < h)).length
theorem zgp:zjj = true:=by decide +kernel
variable {ks:List Nat}
theorem zcp (hk:ks ∈ subs 6) {h:Nat} (hh:h < 7):SetTable.below ks.toArray h = (ks.filter (· < h)).length:=by
 have:=all_eq_true.mp (all_eq_true.mp zgp ks hk) h (mem_range.mpr hh)
 exact eq_of_beq this
noncomputable def zhc (mask:Nat) (hashes:Array Int):Option (List Nat × List Nat):=(SetTable.layClean mask hashes).map fun owner=>
 let live:=(List.range (mask + 1)).filterMap fun j=>(owner.getD j none).map (j,·)
 (live.map (·.1),live.map (·.2))
noncomputable def hsh (ks:List Nat):List Int:=ks.map fun k:Nat=>(k:Int)
noncomputable def layB:Bool:=(subs 6).all fun ks=>[7,15,31].all fun m=>zhc m (hsh ks).toArray == some (ks,List.range ks.length)
theorem zfX:layB = true:=by decide +kernel
theorem zfY (hk:ks ∈ subs 6) {m:Nat} (hm:m ∈ [7,15,31]) (f mv:Nat) (l p:Bool) :
  SetTable.laid m f mv l p (hsh ks).toArray = some ({ mask:=m,place:=ks.toArray,dummies:=#[],finger:=f,led:=l,moves:=mv,plain:=p },(List.range ks.length).toArray):=by
 have:=eq_of_beq (all_eq_true.mp (all_eq_true.mp zfX ks hk) m hm)
 unfold zhc at this
 unfold SetTable.laid
 cases q:SetTable.layClean m (hsh ks).toArray with
 | none=>rw [q] at this;cases this
 | some owner=>
  rw [q] at this
  have h:=Prod.mk.inj (Qb this)
  show some _ = some _
  rw [h.1,h.2]
end L2
namespace L2
open PySem PySem.Spec
noncomputable def zhT (w:World):Bool:=w.params.followText "set-order"
structure DTab (w:World) (es:Array (Int × Value)) (t:SetTable) (ks:List Nat) (m:Nat):Prop where
 keys:es.toList.map (·.1) = hsh ks
 vals:∀ e ∈ es.toList,∃ tk,e.2 = .int e.1 tk
 mask:t.mask = m
 place:t.place = ks.toArray
 dumm:t.dummies = #[]
 plain:t.plain = true
 led:zhT w = true\/t.led = true
 sub:ks ∈ subs 6
 ms:m ∈ [7,15,31]
variable {es:Array (Int × Value)} {ks:List Nat} {m:Nat} {t:SetTable} {w:World}
theorem DTab.size (d:DTab w es t ks m):es.size = ks.length:=by
 have:=congrArg List.length d.keys
 unfold hsh at this
 simpa using this
theorem zbG (h:ks ∈ subs 6):ks.length<=6:=by
 have:((subs 6).all fun ks=>ks.length<=6) = true:=by decide +kernel
 simpa using all_eq_true.mp this ks h
theorem DTab.fits (d:DTab w es t ks m):t.fits es.size = true:=by
 have:=zbG d.sub
 have hm:=d.ms
 unfold SetTable.fits SetTable.fill
 rw [d.size,d.place,d.dumm,d.mask]
 simp at hm ⊢
 omega
variable {k:Nat}
theorem zgs (h:k < 6):hashInt (k:Int) = k:=by
 have:((List.range 6).all fun k:Nat=>hashInt (k:Int) == (k:Int)) = true:=by decide +kernel
 exact eq_of_beq (all_eq_true.mp this k (mem_range.mpr h))
variable {tk:Tok}
section
variable {prog:Program} {A:Around} {E:Value->Shared->Prop} {s:Shared} {a:Addr}
noncomputable def zdh (k:Nat) (ks:List Nat):List Nat:=if k ∈ ks then ks else ks.take (ks.filter (· < k)).length ++ k :: ks.drop (ks.filter (· < k)).length
theorem zeO (hk:k < 6) (h:ks ∈ subs 6):zdh k ks ∈ subs 6:=by
 have:((List.range 6).all fun k=>(subs 6).all fun ks=>(subs 6).contains (zdh k ks)) = true:=by decide +kernel
 have:=all_eq_true.mp (all_eq_true.mp this k (mem_range.mpr hk)) ks h
 simpa using this
theorem zct (hp:t.place = ks.toArray) (hd:t.dummies = #[]) (hm:k<=t.mask) (hs:k < 2 ^ 64) (hn:k ∉ ks):t.freeSlot (k:Int) = some (k,false):=by
 have hb:SetTable.bits (k:Int) = k:=by
  unfold SetTable.bits
  rw [Int.emod_eq_of_lt (by omega) (by omega)]
  rfl
 have hsl:t.slot k = .empty:=by
  unfold SetTable.slot SetTable.has
  rw [hp,hd]
  dsimp only
  rw [if_neg (by
   intro e
   have e:=eq_of_beq e
   rw [List.getElem?_toArray] at e
   exact hn (Q9 e)),if_neg (by simp)]
 have hj:(t.probeStart (k:Int)).j = k/\(t.probeStart (k:Int)).dummy = none:=by
  unfold SetTable.probeStart
  rw [hb]
  exact ⟨Nat.mod_eq_of_lt (by omega),rfl⟩
 unfold SetTable.freeSlot SetTable.probe
 rw [show 10 * SetTable.turns t.mask = (10 * t.mask + 149) + 1 by unfold SetTable.turns;omega]
 unfold SetTable.probe.go
 rw [hj.1,hsl,hj.2]
 rfl
theorem DTab.ins (d:DTab w es t ks m) (hk:k < 6) (hn:k ∉ ks):DTab w (SetTable.insertAt es (t.put k).2 ((k:Int),.int (k:Int) tk)) (t.put k).1 (zdh k ks) m:=by
 have hp:(t.put k).2 = (ks.filter (· < k)).length:=by
  unfold SetTable.put
  rw [d.place]
  exact zcp d.sub (by omega)
 have hi:zdh k ks = ks.take (ks.filter (· < k)).length ++ k :: ks.drop (ks.filter (· < k)).length:=if_neg hn
 refine ⟨?_,?_,d.mask,?_,?_,d.plain,d.led,zeO hk d.sub,d.ms⟩
 ·rw [hp,SetTable.toList_insertAt,hi]
  unfold hsh
  rw [List.map_append,map_cons,List.map_append,map_cons,List.map_take,List.map_take,List.map_drop,List.map_drop]
  have:=d.keys
  unfold hsh at this
  rw [this]
 ·intro e he
  rw [SetTable.toList_insertAt] at he
  rcases mem_append.mp he with he | he
  ·exact d.vals e (List.mem_of_mem_take he)
  ·rcases mem_cons.mp he with rfl | he
   ·exact ⟨tk,rfl⟩
   ·exact d.vals e (List.mem_of_mem_drop he)
 ·show SetTable.insertAt t.place (SetTable.below t.place k) k = _
  rw [d.place,zcp d.sub (by omega),hi]
  apply Array.toList_inj.mp
  rw [SetTable.toList_insertAt]
 ·show (if SetTable.has t.dummies k then _ else t.dummies) = #[]
  rw [d.dumm]
  rfl
theorem DTab.lay (d:DTab w es t ks m) (hk:k < 6) (hn:k ∉ ks):layNew t es (k:Int) (.int (k:Int) tk) = (SetTable.insertAt es (t.put k).2 ((k:Int),.int (k:Int) tk),(t.put k).1,false,false):=by
 have hm:=d.ms
 have hf:=(d.ins (tk:=tk) hk hn).fits
 unfold layNew
 rw [zct d.place d.dumm (by rw [d.mask];simp at hm;omega) (by omega) hn]
 dsimp only
 unfold SetTable.orStandIn
 rw [if_pos hf,hf]
 rfl
theorem DTab.full (d:DTab w es t ks m):∃ t' m',relayAll t es (SetTable.grown es.size) = (es,t',false)/\DTab w es t' ks m':=by
 have h6:=zbG d.sub
 have hw:∀ n,n<=6->SetTable.sizeAbove (SetTable.grown n) - 1 ∈ [7,15,31]:=by decide +kernel
 have hms:=hw _ h6
 have e1:es.map (·.1) = (hsh ks).toArray:=by
  rw [← d.keys]
  apply Array.toList_inj.mp
  rw [Array.toList_map]
 have e3:Array.filterMap (fun x=>es[x]?) (List.range ks.length).toArray = es:=by
  apply Array.toList_inj.mp
  rw [← d.size]
  simpa using filterMap_getElem?_range es
 have hc:∀ n,n<=6->coversAll (List.range n).toArray n = true:=by decide +kernel
 have d':DTab w es { mask:=SetTable.sizeAbove (SetTable.grown es.size) - 1,place:=ks.toArray,dummies:=#[],finger:=t.finger,led:=t.led,moves:=t.movedTo (SetTable.sizeAbove (SetTable.grown es.size) - 1),plain:=t.plain } ks (SetTable.sizeAbove (SetTable.grown es.size) - 1):=⟨d.keys,d.vals,rfl,rfl,rfl,d.plain,d.led,d.sub,by rw [d.size];exact hms⟩
 refine ⟨_,_,?_,d'⟩
 unfold relayAll SetTable.relaid
 rw [e1,zfY d.sub (by rw [d.size];exact hms)]
 dsimp only
 rw [e3,d'.fits,d.size,hc _ h6]
 rfl
end
end L2
namespace L2
open PySem PySem.Spec PyProof.Rows
section
variable {prog:Program} {w:World} {A:Around} {E:Value->Shared->Prop} {s:Shared} {a:Addr} {ks:List Nat} {m:Nat}
structure DictN (prog:Program) (w:World) (h:Heap) (d:Addr) (ns:List Nat) (od:Obj) (es:Array DictEntry) (ep:Nat):Prop where
 at_:h.get? d = some od
 exact_:od.ExactDict
 data:od.data = .dict es ep
 size:es.size = ns.length
 keys:∀ (i:Nat) n,ns[i]? = some n->∃ e tk,es[i]? = some e/\e.key = .int (n:Int) tk/\e.hash = (n:Int)
 small:∀ n ∈ ns,n < 6
end
end L2
namespace FT
open PySem PySem.Spec PyProof.Rows L2
variable {K:Frag} {base:Heap} {N ps:List Str} {k:Nat} {P:Program} {st:Stmt} {x:Str} {mg:Str->Option Value} {w:World}
section
theorem Refines.bad (g:List T->Mem->Out T):Refines (fun _ _=>.bad) g:=fun _ _ _ _ _ e=>by cases e
theorem CalT.bad (D:Df K mg x st ps) (Sc:FnScope N ps (qc st)):CalT P w K mg base (k + 1) x ps (fun _ _=>.bad):=
 CalT.refine (g:=qg ps.length N.length (fun _ _=>.bad)) (zef D Sc rfl rfl fun f cdv A outer s H E hr=>fun _ _ _ _ _ _ ⟨_,_,_,_,_,_,_,fin⟩=>fin.elim) (Refines.bad _) (fun _ _ _ _ _ z=>by cases z)
end
structure WE (X:Cx) (XE:XK) (e:Expr) (f:Ev->Mem->Out T):Prop where
 pe:GE X XE e f
structure WT (X:Cx) (XE:XK) (e:Expr) (f:Ev->Mem->Out Bool):Prop where
 pe:GT X XE e f
structure WW (X:Cx) (XE:XK) (e:Expr) (f:Ev->Mem->Out Bool):Prop where
 pe:GW X XE e f
structure WA (X:Cx) (XE:XK) (e:List Expr) (f:Ev->Mem->Out (List T)):Prop where
 pe:GA X XE e f
structure WSs (X:Cx) (XE:XK) (e:List Stmt) (f:Ev->Mem->Out Fl):Prop where
 pe:GSs X XE e f
structure WS (X:Cx) (XE:XK) (e:Stmt) (f:Ev->Mem->Out Fl):Prop where
 pe:GS X XE e f
structure WL (X:Cx) (XE:XK) (e:Expr) (f:Ev->Mem->Out (List T)):Prop where
 pe:GL X XE e f
structure WGs (X:Cx) (XE:XK) (e:List Expr) (f:List T->Ev->Mem->Out Ev):Prop where
 pe:GGs X XE e f
structure WG (X:Cx) (XE:XK) (e:Expr) (f:T->Ev->Mem->Out Ev):Prop where
 pe:GG X XE e f
structure WO (X:Cx) (XE:XK) (e:Option Expr) (f:Ev->Mem->Out (Option Int)):Prop where
 pe:GO X XE e f
structure WI (X:Cx) (XE:XK) (tg iter:Expr) (f:Ev->Mem->Out (List T)):Prop where
 pe:GI X XE tg iter f
structure WX (X:Cx) (e:List Stmt) (f:Ev->Mem->Out Fl):Prop where
 pe:GX X e f
structure WIG (X:Cx) (XE:XK) (tg iter:Expr) (f:Ev->Mem->Out (List T × Gd)):Prop where
 pe:GIG X XE tg iter f
variable {op op':CmpOp} {X:Cx} {ga:Ev->Mem->Out (List T)} {tf:Ev->Mem->Out Bool} {f g h:Ev->Mem->Out T} {c e:Expr} {es:List Expr} {i:Nat} {pos:Pos} {o o':T->T->Mem->Out T} {XE:XK}
section
variable {a b:Expr}
theorem ya (h:PE X e (zc3 i)):WE X XE e (zc i):=⟨PE.imp h fun σ H Q h9=>by
 obtain ⟨S,στ,_,e,m,ev,_,fin⟩:=h9
 replace fin:Fin XE (Rep X.K) X.K S (zc i στ S.M) Q:=fin
 unfold zc at fin
 cases q:στ[i]? with
 | none=>rw [q] at fin;exact fin.elim
 | some o=>
  cases o with
  | none=>rw [q] at fin;exact fin.elim
  | some t=>
   rw [q] at fin
   obtain ⟨v,e2,r⟩:=ev.2 i t q
   exact ⟨v,e2,by rw [← e];exact fin S v rfl (.refl m) r⟩⟩
theorem qb {i j}:WE X XE (.Constant (.int i) j pos) (eC (.int i)):=⟨qH zg1 fun _=>.int _⟩
theorem yt {i j}:WE X XE (.Constant (.bool i) j pos) (eC (.bl i)):=⟨qH zic fun _=>.bl _⟩
theorem zfl {j}:WE X XE (.Constant .none j pos) (eC .non):=⟨qH zgZ fun _=>.non⟩
theorem zf {i j}:WE X XE (.Constant (.str i) j pos) (eC (.str i)):=⟨qH zgW fun _=>.str _⟩
theorem zG {n:String} (hg:Gl X x) (hm:X.mg x = none) (hv:bootBuiltins x = some (.type n)) (hn:x ≠ "__name__":=by decide) (hd:(x == ("__debug__":Str)) = false:=by decide):WE X XE (.Name x pos) (eC (.ty n)):=⟨qH (zcH (v:=.ty n) hg hm hv rfl hn hd) fun _=>.ty _⟩
theorem zdx {i:Int} (hg:Gl X x) (hm:∃ t,X.mg x = some (.int i t)) (hd:(x == ("__debug__":Str)) = false:=by decide):WE X XE (.Name x pos) (eC (.int i)):=by
 refine ⟨?_⟩
 obtain ⟨t,hm⟩:=hm
 exact qH (zcG (v:=.int i) hg hm ⟨_,rfl⟩ hd) fun _=>.int _
theorem ye {op:Operator} (ho:OpR X (binaryOp op) (lR2 XE X.K o)) (ha:WE X XE a f) (hb:WE X XE b g):WE X XE (.BinOp a op b pos) (eOp o f g):=by
 have ha:=ha.pe
 have hb:=hb.pe
 exact ⟨PE.imp (zh9 ho ha hb) fun _ _ _ h=>zbA h⟩
theorem zai (ho:OpR X (compareOp op) (lR2 XE X.K o)) (ha:WE X XE a f) (hb:WE X XE b g) (hm:behindInMarks op b = false):WE X XE (.Compare a [op] [b] pos) (eOp o f g):=by
 have ha:=ha.pe
 have hb:=hb.pe
 exact ⟨PE.imp (zfG ho ha hb hm) fun _ _ _ h=>zbA h⟩
theorem yv (ho:IxR X (lR2 XE X.K o)) (ha:WE X XE a f) (hb:WE X XE b g) (hs:zbc b):WE X XE (.Subscript a b pos) (eOp o f g):=by
 have ha:=ha.pe
 have hb:=hb.pe
 exact ⟨PE.imp (zia ho ha hb hs) fun _ _ _ h=>zbA h⟩
theorem zW (ha:WE X XE e f) (he:∀ whole,isTrue e X.env whole = (do let v ← whole;standAt e.pos;holding [v] (truthy v)):=by intro _;rfl):WT X XE e (zm f):=by
 have ha:=ha.pe
 exact ⟨PT.imp (zgK ha he) fun σ H Q h=>
  LN.mono (LN.bind (f:=fun _ σ M=>f σ M) (k:=fun _ x σ M1=>blT x M1 fun b M2=>.ok b M2) (RB:=Rep X.K) h) fun v H1 h2=>by
   obtain ⟨S,στ,a,e,m,ev,ra,fin⟩:=h2
   obtain ⟨b,e1,_,fin⟩:=zaP ra.2 fin
   exact ⟨b,e1,by rw [← e];exact fin S b rfl (.refl m) rfl⟩⟩
theorem yp (ho:OpR X (compareOp op) (lR2 XE X.K o)) (ha:WE X XE a f) (hb:WE X XE b g) (hm:behindInMarks op b = false):WT X XE (.Compare a [op] [b] pos) (zm (eOp o f g)):=by
 have ha:=ha.pe
 have hb:=hb.pe
 exact ⟨PT.imp (zfy ho ha hb hm) fun σ H Q h=>by
  have h1:=LN.bind (f:=fun _ σ M=>eOp o f g σ M) (k:=fun _ x σ M1=>blT x M1 fun b M2=>.ok b M2) (RB:=Rep X.K) h
  refine zbA (LN.mono h1 fun v H1 h2=>?_)
  obtain ⟨S,στ,a,e,m,ev,ra,fin⟩:=h2
  obtain ⟨b,e1,_,fin⟩:=zaP ra.2 fin
  exact ⟨b,e1,by rw [← e];exact fin S b rfl (.refl m) rfl⟩⟩
variable {tg:Ev->Mem->Out Bool} {rest:List Expr}
theorem zek (ha:WT X XE a tf):WW X XE (.BoolOp .And [a] pos) tf:=by
 have ha:=ha.pe
 exact ⟨zfu ha⟩
theorem yV (ha:WT X XE a tf):WW X XE (.BoolOp .Or [a] pos) tf:=by
 have ha:=ha.pe
 exact ⟨zgI ha⟩
theorem zfk (ha:WT X XE a tf) (hb:WW X XE (.BoolOp .And (b :: rest) pos) tg):WW X XE (.BoolOp .And (a :: b :: rest) pos) (zc4 tf tg):=by
 have ha:=ha.pe
 have hb:=hb.pe
 exact ⟨PW.imp (zgJ ha hb) fun σ H Q h=>
  LN.mono (tif (tf:=tf) (tg:=tg) (p:=fun c σ M1=>if c = true then tg σ M1 else .ok false M1) h) fun c H1 h1=>by
   cases c with
   | true=>exact (if_pos rfl).mpr h1
   | false=>exact (if_neg Q4).mpr (zbx h1)⟩
theorem qV (ha:WT X XE a tf) (hb:WW X XE (.BoolOp .Or (b :: rest) pos) tg):WW X XE (.BoolOp .Or (a :: b :: rest) pos) (z8 tf tg):=by
 have ha:=ha.pe
 have hb:=hb.pe
 exact ⟨PW.imp (zh7 ha hb) fun σ H Q h=>
  LN.mono (tif (tf:=tf) (tg:=tg) (p:=fun c σ M1=>if c = true then .ok true M1 else tg σ M1) h) fun c H1 h1=>by
   cases c with
   | true=>exact (if_pos rfl).mpr (zbx h1)
   | false=>exact (if_neg Q4).mpr h1⟩
theorem WW.gt (h:WW X XE e tf):WT X XE e tf:=⟨GW.gt h.pe⟩
theorem qF (ha:WT X XE a tf):WT X XE (.UnaryOp .Not a pos) (zI tf):=by
 have ha:=ha.pe
 exact ⟨PT.imp (zgL ha) fun σ H Q h=>
  LN.mono (tif (tf:=tf) (tg:=tf) (p:=fun c σ M1=>.ok (!c) M1) h) fun c H1 h1=>zbx h1⟩
theorem zaU {op} (h:WE X XE a f):WE X XE (.BoolOp op [a] pos) f:=by
 have h:=h.pe
 exact ⟨zgX h⟩
theorem zaV (ha:WE X XE a f) (hb:WE X XE (.BoolOp .And (b :: rest) pos) g):WE X XE (.BoolOp .And (a :: b :: rest) pos) (zcd f g):=by
 have ha:=ha.pe
 have hb:=hb.pe
 exact ⟨PE.imp (zg3 ha hb) fun σ H Q h=>
  LN.mono (eif (f:=f) (p:=fun b σ M2=>if b = true then g σ M2 else .ok (.bl false) M2) h) fun x H1 ⟨c,e,h1⟩=>⟨c,e,by
   cases c with
   | true=>exact (if_pos rfl).mpr h1
   | false=>exact (if_neg Q4).mpr (zfd h1 fun _=>.bl _)⟩⟩
theorem zcB (ha:WE X XE a f):WE X XE (.UnaryOp .Not a pos) (zdl f):=by
 have ha:=ha.pe
 exact ⟨PE.imp (zgY ha) fun σ H Q h=>
  LN.mono (eif (f:=f) (p:=fun b σ M2=>.ok (.bl (!b)) M2) h) fun x H1 ⟨c,e,h1⟩=>⟨c,e,zfd h1 fun _=>.bl _⟩⟩
theorem yb :WA X XE [] zd:=⟨PA.imp zdJ fun σ H Q h9=>by
 obtain ⟨S,στ,_,e,m,ev,_,fin⟩:=h9
 show Q [] H
 rw [← e];exact fin S [] rfl (.refl m) .nil⟩
theorem za (ha:WE X XE e f) (hr:WA X XE es ga) (hs:noStar e = true:=by rfl):WA X XE (e :: es) (qa f ga):=by
 have ha:=ha.pe
 have hr:=hr.pe
 exact ⟨PA.imp (za2 ha hr (yD hs)) fun σ H Q h=>
  LN.mono (LN.bind (f:=fun _ σ M=>f σ M) (k:=fun _ x σ M1=>(ga σ M1).bind fun xs M2=>.ok (x :: xs) M2) (RB:=Rep X.K) h) fun v H1 h1=>
   LN.mono (LN.env (f:=ga) (LN.bind (f:=fun _ σ M=>ga σ M) (k:=fun (ax:Unit × T) ys σ M2=>.ok (ax.2 :: ys) M2) (RB:=Reps X.K) h1)) fun w H2 h2=>by
    obtain ⟨S,στ,a,e,m,ev,ra,fin⟩:=h2
    show Q (v :: w) H2
    rw [← e]
    exact fin S _ rfl (.refl m) (Reps.cons ra.1.2 ra.2)⟩
theorem zaT {x1} (h:WA X XE es ga):WE X XE (.Tuple es x1 pos) (zcb ga):=by
 have h:=h.pe
 exact ⟨PE.imp (zgV h) fun σ H Q h=>
  LN.mono (LN.bind (f:=fun _ σ M=>ga σ M) (k:=fun _ xs σ M1=>if xs.length<=sizeLine then .ok (T.tup xs) M1 else .bad) (RB:=Reps X.K) h) fun v H1 h2=>by
   obtain ⟨S,στ,a,e,m,ev,ra,fin⟩:=h2
   by_cases hl:a.2.length<=sizeLine
   ·replace fin:Fin XE (Rep X.K) X.K S (if a.2.length<=sizeLine then .ok (.tup a.2) S.M else .bad) Q:=fin
    rw [if_pos hl] at fin
    refine ⟨by rw [← ra.2.1];exact hl,fun p hp=>?_⟩
    subst e
    have s:=Stp.new m hp (.tup v)
    exact fin ⟨S.α,S.M,upd S.H p (.tup v),S.hid⟩ (.ref p) rfl s (.tup (.inl (.inl zh)) ra.2.1 (ra.2.grow m s.toGrow).2)
   ·replace fin:Fin XE (Rep X.K) X.K S (if a.2.length<=sizeLine then .ok (.tup a.2) S.M else .bad) Q:=fin
    rw [if_neg hl] at fin
    exact fin.elim⟩
theorem yi (h:WA X XE es ga):WL X XE (.List es pos) (qr ga):=by
 have h:=h.pe
 exact ⟨PE.imp (zg0 h) fun σ H Q h9=>by
  obtain ⟨S,στ,e,m,ev,fin⟩:=h9
  replace fin:FinL XE X.K S ((ga στ S.M).bind fun xs M1=>if xs.length<=sizeLine then .ok xs M1 else .bad) Q:=fin
  refine ⟨S,στ,(),e,m,ev,trivial,?_⟩
  show Fin XE (Reps X.K) X.K S (ga στ S.M) _
  cases q:ga στ S.M with
  | bad=>rw [q] at fin;exact fin
  | exn C fs M'=>rw [q] at fin;exact fin
  | ok xs M1=>
   rw [q] at fin
   intro S1 vs e1 s1 r1
   by_cases hl:xs.length<=sizeLine
   ·replace fin:FinL XE X.K S (if xs.length<=sizeLine then .ok xs M1 else .bad) Q:=fin
    rw [if_pos hl] at fin
    refine ⟨by rw [← r1.1];exact hl,fun p hp=>?_⟩
    have s2:=Stp.hide s1.mok hp vs
    exact (fin.later s1) (S1.hide p vs) p vs e1 s2 hp (.head _) zh (r1.grow s1.mok s2.toGrow)
   ·replace fin:FinL XE X.K S (if xs.length<=sizeLine then .ok xs M1 else .bad) Q:=fin
    rw [if_neg hl] at fin
    exact fin.elim⟩
theorem yk (h:WL X XE e ga):WE X XE e (eFz ga):=by
 have h:=h.pe
 exact ⟨PE.imp h fun σ H Q ⟨S,στ,_,e,m,ev,_,fin⟩=>⟨S,στ,e,m,ev,by
  show FinL XE X.K S (ga στ S.M) Q
  replace fin:Fin XE (Rep X.K) X.K S ((ga στ S.M).bind fun xs M1=>.ok (.lst xs) M1) Q:=fin
  cases q:ga στ S.M with
  | bad=>rw [q] at fin;exact fin
  | exn C fs M'=>rw [q] at fin;exact fin
  | ok xs M1=>
   rw [q] at fin
   intro S1 p vs e1 s1 hn hp hv r
   exact fin (S1.show S.hid) (.ref p) e1 s1.show (zf5 s1 hn m hp hv r)⟩⟩
theorem zgt (h:WL X XE e ga):WE X XE e (eTk ga):=by
 have h:=h.pe
 exact ⟨PE.imp h fun σ H Q ⟨S,στ,_,e,m,ev,_,fin⟩=>⟨S,στ,e,m,ev,by
  show FinL XE X.K S (ga στ S.M) Q
  replace fin:Fin XE (Rep X.K) X.K S ((ga στ S.M).bind fun xs M1=>.ok (.ref M1.length) (M1 ++ [.lst xs])) Q:=fin
  cases q:ga στ S.M with
  | bad=>rw [q] at fin;exact fin
  | exn C fs M'=>rw [q] at fin;exact fin
  | ok xs M1=>
   rw [q] at fin
   intro S1 p vs e1 s1 hn hp hv r
   refine fin (S1.track p xs S.hid) (.ref p) (by show S1.M ++ _ = _;rw [e1]) (s1.track m hn hp hv r) ?_
   have this:(S1.track p xs S.hid).α S1.M.length = p:=if_pos rfl
   rw [← e1]
   have hl:S1.M.length < (S1.track p xs S.hid).M.length:=by show _ < (S1.M ++ [Cell.lst xs]).length;simp
   have r2:Rep X.K (S1.track p xs S.hid) (.ref S1.M.length) (.ref ((S1.track p xs S.hid).α S1.M.length)):=.ref hl
   rw [this] at r2
   exact r2⟩⟩
theorem zdy (ho:OpR X (compareOp op) (lR2 XE X.K o)) (ho':OpR X (compareOp op') (lR2 XE X.K o')) (ha:WE X XE a f) (hb:WE X XE b g) (hc:WE X XE c h) (hm:lastMarks [op,op'] [b,c] = false:=by with_unfolding_all rfl):WE X XE (.Compare a [op,op'] [b,c] pos) (yA o o' f g h):=by
 have ha:=ha.pe
 have hb:=hb.pe
 have hc:=hc.pe
 exact ⟨PE.imp (zeA ho ho' ha hb hc hm) fun _ _ _ hh=>chain hh⟩
theorem zbe (ho:OpR X (compareOp op) (lR2 XE X.K o)) (ho':OpR X (compareOp op') (lR2 XE X.K o')) (ha:WE X XE a f) (hb:WE X XE b g) (hc:WE X XE c h) (hm:lastMarks [op,op'] [b,c] = false:=by with_unfolding_all rfl):WT X XE (.Compare a [op,op'] [b,c] pos) (zm (yA o o' f g h)):=by
 have ha:=ha.pe
 have hb:=hb.pe
 have hc:=hc.pe
 exact ⟨PT.imp (zew ho ho' ha hb hc hm) fun σ H Q hh=>by
  have h1:=LN.bind (f:=fun _ σ M=>yA o o' f g h σ M) (k:=fun _ x σ M1=>blT x M1 fun b M2=>.ok b M2) (RB:=Rep X.K) hh
  refine chain (LN.mono h1 fun v H1 h2=>?_)
  obtain ⟨S,στ,a,e,m,ev,ra,fin⟩:=h2
  obtain ⟨b,e1,_,fin⟩:=zaP ra.2 fin
  exact ⟨b,e1,by rw [← e];exact fin S b rfl (.refl m) rfl⟩⟩
end
variable {iter tg:Expr} {sts:List Stmt} {bd:T->Ev->Mem->Out Ev}
section
variable {a b:Expr} {rest:List Stmt} {p q r:Ev->Mem->Out Fl}
theorem ym :WSs X XE [] qC:=⟨PSs.imp zfz fun D σ H h9=>by
 obtain ⟨S,στ,_,e,m,ev,_,fin⟩:=h9
 show D.nx σ H
 rw [← e];exact fin S (.nx σ) rfl (.refl m) (.nx ev)⟩
theorem yd (h1:WS X XE st p) (h2:WSs X XE rest q):WSs X XE (st :: rest) (zi p q):=by
 have h1:=h1.pe
 have h2:=h2.pe
 exact ⟨PSs.imp (zex h1 h2) fun _ _ _ hh=>zhf hh⟩
theorem qd (h1:WS X XE st p):WSs X XE [st] p:=by
 have h1:=h1.pe
 exact ⟨zcF h1⟩
theorem yf (he:WE X XE e f):WS X XE (.Return (some e) pos) (zo f):=by
 have he:=he.pe
 exact ⟨PS.imp (zgO he) fun D σ H hh=>
  LN.mono (LN.bind (f:=fun _ σ M=>f σ M) (k:=fun _ t σ M1=>.ok (Fl.rt t) M1) (RB:=Rep X.K) hh) fun v H1 h9=>by
   obtain ⟨S,στ,a,e,m,ev,ra,fin⟩:=h9
   rw [← e];exact fin S (.rt v) rfl (.refl m) (.rt ra.2)⟩
theorem qu (hc:WT X XE c tf) (ha:WSs X XE sts p) (hb:WSs X XE rest q):WS X XE (.If c sts rest pos) (sIf tf p q):=by
 have hc:=hc.pe
 have ha:=ha.pe
 have hb:=hb.pe
 exact ⟨PS.imp (zh8 hc ha hb) fun D σ H hh=>
  LN.mono (LN.bind (f:=fun _ σ M=>tf σ M) (k:=fun _ c σ M1=>if c = true then p σ M1 else q σ M1) (RB:=EqR) hh) fun c H1 h2=>by
   obtain ⟨S,στ,a,e,m,ev,ra,fin⟩:=h2
   have:a.2 = c:=ra.2
   subst this
   replace fin:Fin XE (FlR X.K) X.K S (if a.2 = true then p στ S.M else q στ S.M) (qL D):=fin
   cases q:a.2 with
   | true=>exact (if_pos rfl).mpr ⟨S,στ,(),e,m,ev,trivial,by rw [q] at fin;exact fin⟩
   | false=>exact (if_neg Q4).mpr ⟨S,στ,(),e,m,ev,trivial,by rw [q] at fin;exact fin⟩⟩
theorem zj {pos':Pos} (hN:X.N.Nodup) (hi:X.N[i]? = some x) (hx:Loc X.env.scope x) (he:WE X XE e f) (hs:swapsWith e (some (.Name x pos')) pos.line X.env = pure false:=by rfl) (hf:X.fn x = true\/X.env.scope.names.lookup x = some .local:=by first | exact .inl rfl | exact .inr rfl | assumption):WS X XE (.Assign [.Name x pos'] e pos) (zx i f):=by
 have he:=he.pe
 exact ⟨PS.imp (zgN hN hi hx he hs hf) fun D σ H hh=>
  LN.mono (LN.bind (f:=fun _ σ M=>f σ M) (k:=fun _ t σ M1=>.ok (Fl.nx (σ.set i (some t))) M1) (RB:=Rep X.K) hh) fun v H1 h9=>by
   obtain ⟨S,στ,a,e,m,ev,ra,fin⟩:=h9
   show D.nx (σ.set i (some v)) H1
   rw [← e];exact fin S (.nx _) rfl (.refl m) (.nx (ev.set ra.2 i))⟩
theorem yC (h:PG X tg (zbz i)):WG X XE tg (zC i):=⟨PG.imp h fun v σ H Q h9=>by
 obtain ⟨S,στ,t,e,m,ev,ra,fin⟩:=h9
 show Q (σ.set i (some v)) H
 rw [← e];exact fin S _ rfl (.refl m) (ev.set ra i)⟩
theorem zcv (he:WE X XE e f) (hg:WG X XE tg bd) (hs:swapsWithSole [tg] e pos.line X.env = pure false:=by rfl) (hw:swappedStores [tg] e X.env = pure none:=by rfl) (h1:(assignEach [tg] X.env).map (·.2) = [assign tg X.env]:=by rfl):WS X XE (.Assign [tg] e pos) (zc8 f bd):=by
 have he:=he.pe
 have hg:=hg.pe
 exact ⟨PS.imp (zgQ he hg hs hw h1) fun D σ H hh=>
  LN.mono (LN.bind (f:=fun _ σ M=>f σ M) (k:=fun _ t σ M1=>(bd t σ M1).bind fun σ1 M2=>.ok (Fl.nx σ1) M2) (RB:=Rep X.K) hh) fun v H1 ⟨S,στ,a,e,m,ev,ra,fin⟩=>
   zij ⟨S,στ,a.2,e,m,ev,ra.2,fin⟩⟩
theorem zaS (hp:PassesOwn (model X.prog X.w) X.A X.env X.xe) (hc:X.calm = true) (hi:WI X XE tg iter ga) (hg:WG X XE tg bd) (hb:WSs X XE sts p) (hs:∀ x,foldedSetIterable iter X.env x = pure x:=by intro _;rfl):WS X XE (.For tg iter sts [] pos) (zbQ ga bd p):=by
 have hi:=hi.pe
 have hg:=hg.pe
 have hb:=hb.pe
 exact ⟨PS.imp (zgP hp hc hi hg hb hs) fun D σ H hh=>by
  refine LN.mono (LN.bind (f:=fun _ σ M=>ga σ M) (k:=fun _ xs σ M1=>forL bd p xs σ M1) (RB:=zV X.K) hh) fun J H1 h1=>?_
  obtain ⟨S,στ,a,e,m,ev,ra,fin⟩:=h1
  refine ⟨fun i n σ H=>∃ S στ,S.H = H/\MemOk X.K S/\EvR X.K S στ σ/\zV X.K S a.2 J/\n = a.2.length - i/\i<=a.2.length/\Fin XE (FlR X.K) X.K S (forL bd p (a.2.drop i) στ S.M) (qL D),⟨_,S,στ,e,m,ev,ra.2,rfl,Nat.zero_le _,fin⟩,?_⟩
  rintro i n σ1 H2 ⟨S1,στ1,e1,m1,ev1,it1,en,hi1,fin1⟩
  subst e1
  obtain ⟨it2,it3⟩:=it1 S1 (.refl m1)
  by_cases hl:i < a.2.length
  ·have eq:a.2.drop i = a.2[i] :: a.2.drop (i + 1):=List.drop_eq_getElem_cons hl
   rw [eq] at fin1
   obtain ⟨go,yl⟩:=it2 i a.2[i] (by simp [hl])
   refine .inr ⟨go,fun σ' H'=>∃ S στ,S.H = H'/\MemOk X.K S/\EvR X.K S στ σ'/\zV X.K S a.2 J/\Fin XE (FlR X.K) X.K S (forL bd p (a.2.drop (i + 1)) στ S.M) (qL D),?_,fun x H' hy=>?_⟩
   ·rintro σ' H' ⟨S2,στ2,e2,m2,ev2,it4,fin2⟩
    exact ⟨a.2.length - (i + 1),by omega,S2,στ2,e2,m2,ev2,it4,rfl,hl,fin2⟩
   ·obtain ⟨S2,e2,eM,s2,r2⟩:=yl x H' hy
    replace fin1:Fin XE (FlR X.K) X.K S1 ((bd a.2[i] στ1 S1.M).bind fun σ1 M1=>(p σ1 M1).bind (yu (forL bd p (a.2.drop (i + 1))))) (qL D):=fin1
    refine ⟨S2,στ1,a.2[i],e2,s2.mok,Mo.mo m1 s2 ev1,r2,?_⟩
    rw [eM]
    cases o:bd a.2[i] στ1 S1.M with
    | bad=>rw [o] at fin1;exact fin1
    | exn C fs M'=>rw [o] at fin1;exact Fin.later s2 fin1
    | ok σ3 M3=>
     rw [o] at fin1
     intro S3 σ3v e3 s3 ev3
     have s13:=s2.trans s3
     refine ⟨S3,σ3,(),rfl,s3.mok,ev3,trivial,?_⟩
     show Fin XE (FlR X.K) X.K S3 (p σ3 S3.M) _
     rw [e3]
     replace fin1:Fin XE (FlR X.K) X.K S1 ((p σ3 M3).bind (yu (forL bd p (a.2.drop (i + 1))))) (qL D):=fin1
     cases o2:p σ3 M3 with
     | bad=>rw [o2] at fin1;exact fin1
     | exn C fs M'=>rw [o2] at fin1;exact Fin.later s13 fin1
     | ok fl M4=>
      rw [o2] at fin1
      intro S4 fv e4 s4 r4
      have s14:=s13.trans s4
      cases r4 with
      | nx r4=>exact ⟨S4,_,rfl,s4.mok,r4,Mo.mo m1 s14 it1,by rw [e4];exact Fin.later s14 fin1⟩
      | ct r4=>exact ⟨S4,_,rfl,s4.mok,r4,Mo.mo m1 s14 it1,by rw [e4];exact Fin.later s14 fin1⟩
      | bk r4=>exact fin1 S4 (.nx _) e4 s14 (.nx r4)
      | rt r4=>exact fin1 S4 (.rt _) e4 s14 (.rt r4)
  ·rw [List.drop_eq_nil_of_le (by omega)] at fin1
   refine .inl ⟨it3 i (by omega),?_⟩
   exact fin1 S1 (.nx σ1) rfl (.refl m1) (.nx ev1)⟩
end
variable {F:List T->Mem->Out T} {p:Pos}
section
theorem qe (C:CalT X.prog X.w X.K X.mg X.base k x ps F) (hr:Room k X.A) (hg:Gl X x) (ha:WA X XE (e :: es) ga) (hdb:(x == ("__debug__":Str)) = false:=by decide) (he:noStar e = true:=by rfl) (hpl:es.all noStar = true:=by rfl):WE X XE (.Call (.Name x p) (e :: es) [] pos) (ze F ga):=by
 have ha:=ha.pe
 exact ⟨PE.imp (zg2 C.cal hr hg ha hdb (yD he) (zbJ hpl)) fun σ H Q hh=>
  LN.mono (LN.bind (f:=fun _ σ M=>ga σ M) (k:=fun _ ts σ M1=>F ts M1) (RB:=Reps X.K) hh) fun vs H1 h9=>by
   obtain ⟨S,στ,a,e,m,ev,ra,fin⟩:=h9
   rw [append_nil]
   refine ⟨S,a.2,e,m,ra.2,?_⟩
   show Fin E0 (Rep X.K) X.K S (F a.2 S.M) Q
   replace fin:Fin XE (Rep X.K) X.K S (F a.2 S.M) Q:=fin
   cases o:F a.2 S.M with
   | bad=>rw [o] at fin;exact fin
   | exn C' fs M'=>exact absurd o (C.nox _ _ _ _ _)
   | ok t M1=>rw [o] at fin;exact fin⟩
theorem ql {id:String} (hc:CallR X (.builtin id) (lRN XE X.K F)) (hg:Gl X x) (hm:X.mg x = none) (hv:bootBuiltins x = some (.builtin id)) (ha:WA X XE (e :: es) ga) (hn:x ≠ "__name__":=by decide) (hdb:(x == ("__debug__":Str)) = false:=by decide) (he:noStar e = true:=by rfl) (hpl:es.all noStar = true:=by rfl):WE X XE (.Call (.Name x p) (e :: es) [] pos) (ze F ga):=by
 have ha:=ha.pe
 exact ⟨PE.imp (zbU hc hg hm hv ha hn hdb (yD he) (zbJ hpl)) fun σ H Q hh=>
  LN.mono (LN.bind (f:=fun _ σ M=>ga σ M) (k:=fun _ ts σ M1=>F ts M1) (RB:=Reps X.K) hh) fun vs H1 ⟨S,στ,a,e,m,ev,ra,fin⟩=>⟨S,a.2,e,m,ra.2,fin⟩⟩
end
section
variable {a b:Expr}
theorem zcx (he:WE X XE e f):WI X XE tg e (zdi f):=⟨zhB he.pe⟩
theorem yY (hg:Gl X "range") (hm:X.mg "range" = none) (ha:WA X XE [a] ga) (hs:starEach [a] X.env = [(false,eval a X.env)]:=by rfl):WI X XE tg (.Call (.Name "range" p) [a] [] pos) (yX ga):=by
 have ha:=ha.pe
 exact ⟨PI.imp (zdI hg hm ha hs) fun σ H R hh=>
  LN.mono (LN.bind (f:=fun _ σ M=>ga σ M) (k:=fun _ ts σ M1=>zaZ ts M1) (RB:=Reps X.K) hh) fun vs H1 h9=>by
   obtain ⟨S,στ,a,e,m,ev,ra,fin⟩:=h9
   obtain ⟨u,ts⟩:=a
   have rr:Reps X.K S ts vs:=ra.2
   replace fin:Fin XE (zV X.K) X.K S (zaZ ts S.M) R:=fin
   unfold zaZ at fin
   split at fin
   ·rename_i j
    obtain ⟨v,vs',rfl,r1,r2⟩:=rr.consT
    cases r1
    rw [r2.nilT]
    split at fin
    ·rename_i hj
     exact ⟨j,rfl,hj.1,hj.2,by rw [← e];exact fin S _ rfl (.refl m) (zeL _ _ _ _)⟩
    ·exact fin.elim
   ·exact fin.elim⟩
end
section
theorem zY {elt:Expr} {ifs:List Expr} {scope:Scope} {cl:List (Str × Addr)} {tgs:List Str} {caps:List (Str × Nat)} {cond:Ev->Mem->Out Bool} (hi:WI X XE tg iter ga) (cb:CB X scope cl caps) (hg:∀ ex s0 H0,WG (X.block scope cl (tgs ++ caps.map (·.1)) ex s0 H0) XE tg bd) (hif:∀ ex s0 H0,PTs (X.block scope cl (tgs ++ caps.map (·.1)) ex s0 H0) ifs (lT XE X.K cond)) (hel:∀ ex s0 H0,WE (X.block scope cl (tgs ++ caps.map (·.1)) ex s0 H0) XE elt f) (hs:∀ x,foldedSetIterable iter X.env x = pure x:=by intro _;rfl):WL X XE (.ListComp elt [⟨tg,iter,ifs,0⟩] scope pos) (z4 ga bd cond f tgs caps):=by
 have hi:=hi.pe
 have hg:=fun ex s0 H0=>(hg ex s0 H0).pe
 have hel:=fun ex s0 H0=>(hel ex s0 H0).pe
 exact ⟨PE.imp (zfF (tgs:=tgs) (g:=lG XE X.K bd) (tc:=lT XE X.K cond) (te:=lE XE X.K f) cb.hc hi cb.hclos cb.hcell cb.hkind cb.hnames cb.hcl cb.hhas cb.hcap hg hif hel hs) fun σ H Q hh=>zeZ hh⟩
theorem zat :PTs X [] (lT XE X.K zZ):=zf8 
theorem zel (h:WT X XE c tf):PTs X [c] (lT XE X.K tf):=zf7 h.pe
end
section
theorem zcy {o i:Expr} {st:T->T->T->Mem->Out Unit} (ho:WE X XE o f) (hi:WE X XE i g) (hs:zcr X (zeI XE X.K st)) (ha:∀ v,assign (.Subscript o i pos) X.env v = (do
 let ov ← holding [v] (eval o X.env)
 let iv ← holding [v,ov] (eval i X.env)
 standAt pos
 holding [v,ov,iv] (setItem ov iv v)
 release [v,ov,iv] []):=by intro _;rfl):WG X XE (.Subscript o i pos) (zdr st f g):=by
 have ho:=ho.pe
 have hi:=hi.pe
 exact ⟨PG.imp (zgT ho hi hs ha) fun v σ H Q hh=>by
  have h1:LN XE (EvR X.K) X.K (Rep X.K) (fun t σ M=>(f σ M).bind fun o M1=>(g σ M1).bind fun i M2=>(st o i t M2).bind fun _ M3=>.ok σ M3) v σ H Q:=hh
  refine LN.mono (LN.env (f:=f) (LN.bind (f:=fun _ σ M=>f σ M) (k:=fun t o σ M1=>(g σ M1).bind fun i M2=>(st o i t M2).bind fun _ M3=>.ok σ M3) (RB:=Rep X.K) h1)) fun ov H1 h2=>?_
  refine LN.mono (LN.env (f:=g) (LN.bind (f:=fun _ σ M=>g σ M) (k:=fun (to:T × T) i σ M2=>(st to.2 i to.1 M2).bind fun _ M3=>.ok σ M3) (RB:=Rep X.K) h2)) fun iv H2 h3=>?_
  obtain ⟨S,στ,a,e,m,ev,ra,fin⟩:=h3
  refine ⟨S,((a.1.2,a.2),a.1.1),e,m,⟨⟨ra.1.2,ra.2⟩,ra.1.1⟩,?_⟩
  show Fin XE UnR X.K S (st a.1.2 a.2 a.1.1 S.M) _
  replace fin:Fin XE (EvR X.K) X.K S ((st a.1.2 a.2 a.1.1 S.M).bind fun _ M3=>.ok στ M3) Q:=fin
  cases o:st a.1.2 a.2 a.1.1 S.M with
  | bad=>rw [o] at fin;exact fin
  | exn C fs M'=>rw [o] at fin;exact fin
  | ok b M1=>
   rw [o] at fin
   intro S1 c e1 s1 _
   exact fin S1 σ e1 s1 (Mo.mo m s1 ev)⟩
end
section
theorem zbD :WO X XE none zbv:=⟨PO.imp zfB fun σ H Q h9=>by
 obtain ⟨S,στ,_,e,m,ev,_,fin⟩:=h9
 show Q none H
 rw [← e];exact fin S none rfl (.refl m) rfl⟩
theorem zbC (h:WE X XE e f):WO X XE (some e) (zbu f):=by
 have h:=h.pe
 exact ⟨PO.imp (zfA h) fun σ H Q hh=>
  LN.mono (LN.bind (f:=fun _ σ M=>f σ M) (k:=fun _ x σ M1=>zeN x M1) (RB:=Rep X.K) hh) fun v H1 h9=>by
   obtain ⟨S,στ,a,e,m,ev,ra,fin⟩:=h9
   obtain ⟨u,t⟩:=a
   have r:Rep X.K S t v:=ra.2
   replace fin:Fin XE EqR X.K S (zeN t S.M) Q:=fin
   cases r with
   | int i=>exact ⟨i,rfl,by rw [← e];exact fin S (some i) rfl (.refl m) rfl⟩
   | _=>exact fin.elim⟩
end
section
theorem zem {o e:Expr} {es:List Expr} {n:Str} {Ty:String} {f:Ev->Mem->Out T} {ga:Ev->Mem->Out (List T)} {chk:T->Mem->Bool} {F:T->List T->Mem->Out T} {apos cpos:Pos} (hc:∀ {K:Frag} {S:Sit},MemOk K S->∀ {t:T} {x:V},Rep K S t x->chk t S.M = true->tyV K Ty x S.H) (h:PE X (.Call (.Attribute o n apos) (e :: es) [] cpos) (tBM X.K Ty (lMt XE X.K F) (lE XE X.K f) (lA XE X.K ga))):WE X XE (.Call (.Attribute o n apos) (e :: es) [] cpos) (zaO chk F f ga):=⟨PE.imp h fun σ H Q hh=>by
 obtain ⟨S,στ,_,e0,m,ev,_,fin⟩:=hh
 replace fin:Fin XE (Rep X.K) X.K S ((f στ S.M).bind fun x M1=>if chk x M1 = true then (ga στ M1).bind fun ts M2=>F x ts M2 else .bad) Q:=fin
 refine ⟨S,στ,(),e0,m,ev,trivial,?_⟩
 show Fin XE (Rep X.K) X.K S (f στ S.M) _
 cases o1:f στ S.M with
 | bad=>rw [o1] at fin;exact fin
 | exn C fs M'=>rw [o1] at fin;exact fin
 | ok x M1=>
  rw [o1] at fin
  intro S1 v e1 s1 r1
  replace fin:Fin XE (Rep X.K) X.K S (if chk x M1 = true then (ga στ M1).bind fun ts M2=>F x ts M2 else .bad) Q:=fin
  split at fin
  ·rename_i hk
   refine ⟨hc s1.mok r1 (by rw [e1];exact hk),S1,στ,(),rfl,s1.mok,Mo.mo m s1 ev,trivial,?_⟩
   show Fin XE (Reps X.K) X.K S1 (ga στ S1.M) _
   rw [e1]
   cases o2:ga στ M1 with
   | bad=>rw [o2] at fin;exact fin
   | exn C fs M'=>rw [o2] at fin;exact Fin.later s1 fin
   | ok ts M2=>
    rw [o2] at fin
    intro S2 ws e2 s2 r2
    replace fin:Fin XE (Rep X.K) X.K S (F x ts M2) Q:=fin
    have fin2:=Fin.later (s1.trans s2) fin
    exact ⟨S2,(x,ts),rfl,s2.mok,⟨r1.grow s1.mok s2.toGrow,r2⟩,by show Fin XE (Rep X.K) X.K S2 (F x ts S2.M) Q;rw [e2];exact fin2⟩
  ·exact fin.elim⟩
end
section
variable {j:Nat} {y v nm:Str} {pos2 np hp tp vp cpos:Pos} {C:Addr} {b0:Stmt} {suite:List Stmt} {g gs:Ev->Mem->Out Fl}
theorem zcz {cs:List Addr} (hS:∀ C' ∈ cs,∃ nm fI,XcAt X.K X.mg nm C' fI) (h:WE X XE e f) (hb:attributeBase e "at" X.env (eval e X.env) = eval e X.env:=by rfl):WE X XE (.Attribute e "at" pos) (eUn (xat cs) f):=by
 have h:=h.pe
 exact ⟨PE.imp (zgU h hb) fun σ H Q hh=>
  LN.mono (LN.bind (f:=fun _ σ M=>f σ M) (k:=fun _ x σ M1=>xat cs x M1) (RB:=Rep X.K) hh) fun v H1 h9=>by
   obtain ⟨S,στ,a,e,m,ev,ra,fin⟩:=h9
   obtain ⟨u,t⟩:=a
   have r:Rep X.K S t v:=ra.2
   replace fin:Fin XE (Rep X.K) X.K S (xat cs t S.M) Q:=fin
   cases r with
   | @exc C fs us p od h hd l rr=>
    unfold xat at fin
    dsimp only at fin
    by_cases hc:cs.contains C = true
    ·rw [if_pos hc] at fin
     split at fin
     ·rename_i w q
      obtain ⟨v,lv,rv⟩:=zbi l rr q
      obtain ⟨nm,fI,O⟩:=hS C (contains_iff_mem.mp hc)
      rcases hd with ⟨rfl,rfl⟩ | ⟨d,rfl,hd⟩
      ·simp at lv
      ·subst e
       exact ⟨p,C,d,us,v,nm,fI,rfl,h,hd,O,lv,fin S v rfl (.refl m) rv⟩
     ·exact fin.elim
    ·rw [if_neg hc] at fin;exact fin.elim
   | _=>exact fin.elim⟩
end
variable {n:Nat}
section
theorem qv {p:Nat} {g:Ev->Mem->Out Fl} (D:Df K mg x st ps) (Sc:FnScope N ps (qc st)) (hp:ps.length = p) (hn:N.length = n)
 (hb:∀ (f:Addr) (cdv:Value) (A:Around) (outer:List PySem.Env) (s:Shared) (H:Hp) (E:XK),Room k (A.deeper (envOfC x (qc st) s.heap.objs.size f cdv))->WSs (qQ CX0 P w K mg base N x (qc st) f cdv A outer s H E).nox E0 (qi st) g) :
  CalT P w K mg base (k + 1) x ps (qg p n g):=zef D Sc hp hn fun f cdv A outer s H E hr=>(hb f cdv A outer s H E hr).pe
theorem zfj {qual:Str} {f:Addr} {fd:FuncData} {p:Nat} {g:Ev->Mem->Out Fl} (F:Fun K x qual st f fd) (Sc:FnScope N ps (qc st)) (hp:ps.length = p) (hn:N.length = n)
 (hb:∀ (cdv:Value) (A:Around) (outer:List PySem.Env) (s:Shared) (H:Hp) (E:XK),Room k (A.deeper (envOfC qual (qc st) s.heap.objs.size f cdv))->WSs (qQ CX0 P w K mg base N qual (qc st) f cdv A outer s H E).nox E0 (qi st) g) :
  FnOk P w K mg base CX0 (k + 1) f fd ps (spT K (qg p n g)):=zhd F Sc hp hn fun cdv A outer s H E hr=>(hb cdv A outer s H E hr).pe
end
end FT
namespace L2
open PySem PySem.Spec PyProof.Rows
section
variable {X:Cx}
theorem zdK:OpR X (compareOp .LtE) (fun x y H Q=>∃ i j,x = .str i/\y = .str j/\Q (.bl (!decide (j.cps.toList < i.cps.toList))) H):=by
 intro pins s σ H x y v u Q I rx ry h
 obtain ⟨i,j,rfl,rfl,q⟩:=h
 obtain ⟨t,rfl⟩:=rx
 obtain ⟨t',rfl⟩:=ry
 exact PySem.P.le_str (zd3 I q rfl)
theorem zdb:OpR X (binaryOp .Mult) (fun x y H Q=>∃ i n,x = .str i/\y = .int n/\MulOk i n/\Q (.str (Txt.mul i n)) H):=by
 intro pins s σ H x y v u Q I rx ry h
 obtain ⟨i,n,rfl,rfl,hk,q⟩:=h
 obtain ⟨t,rfl⟩:=rx
 obtain ⟨t',rfl⟩:=ry
 exact SB.mul hk fun t' k=>⟨.str _,H,I.tok _,⟨_,rfl⟩,q⟩
end
end L2
namespace FT
open PySem PySem.Spec PyProof.Rows L2
noncomputable def leU:T->T->Mem->Out T:=fun x y M=>match x,y with
 | .int i,.int j=>.ok (.bl (decide (i<=j))) M
 | .str i,.str j=>.ok (.bl (!decide (j.cps.toList < i.cps.toList))) M
 | _,_=>.bad
noncomputable def za5:T->T->Mem->Out T:=fun x y M=>match x,y with
 | .str i,.int n=>@ite _ (MulOk i n) (Classical.propDecidable _) (.ok (.str (Txt.mul i n)) M) .bad
 | _,_=>.bad
noncomputable def ixS:T->T->Mem->Out T:=fun x y M=>match x,y with
 | .str z,.int i=>match atI z.cps.toList i with
  | some c=>if z.length<=sizeLine then .ok (.str ⟨#[c]⟩) M else .bad
  | none=>.bad
 | _,_=>.bad
section
variable {X:Cx} {XE:XK}
theorem yW:OpR X (compareOp .LtE) (lR2 XE X.K leU):=by
 intro pins s σ H x y v u Q I rx ry ⟨S,⟨tx,ty⟩,e,m,⟨r1,r2⟩,fin⟩
 subst e
 replace fin:Fin XE (Rep X.K) X.K S (leU tx ty S.M) Q:=fin
 unfold leU at fin
 split at fin
 ·cases r1;cases r2
  exact zif pins s σ S.H _ _ v u Q I rx ry ⟨_,_,rfl,rfl,fin S _ rfl (.refl m) (.bl _)⟩
 ·cases r1;cases r2
  exact zdK pins s σ S.H _ _ v u Q I rx ry ⟨_,_,rfl,rfl,fin S _ rfl (.refl m) (.bl _)⟩
 ·exact fin.elim
theorem zfM:OpR X (binaryOp .Mult) (lR2 XE X.K za5):=by
 intro pins s σ H x y v u Q I rx ry ⟨S,⟨tx,ty⟩,e,m,⟨r1,r2⟩,fin⟩
 subst e
 replace fin:Fin XE (Rep X.K) X.K S (za5 tx ty S.M) Q:=fin
 unfold za5 at fin
 split at fin
 ·cases r1;cases r2
  split at fin
  ·rename_i hk
   exact zdb pins s σ S.H _ _ v u Q I rx ry ⟨_,_,rfl,rfl,hk,fin S _ rfl (.refl m) (.str _)⟩
  ·exact fin.elim
 ·exact fin.elim
theorem zi9:IxR X (lR2 XE X.K ixS):=by
 intro va sl pins s σ H x y v u Q I rx ry ⟨S,⟨tx,ty⟩,e,m,⟨r1,r2⟩,fin⟩ hs
 subst e
 replace fin:Fin XE (Rep X.K) X.K S (ixS tx ty S.M) Q:=fin
 unfold ixS at fin
 split at fin
 ·cases r1;cases r2
  split at fin
  ·rename_i c hc
   split at fin
   ·rename_i hz
    exact zdV va sl pins s σ S.H _ _ v u Q I rx ry ⟨_,_,c,rfl,rfl,hz,hc,fin S _ rfl (.refl m) (.str _)⟩ hs
   ·exact fin.elim
  ·exact fin.elim
 ·exact fin.elim
end
end FT
namespace L2
open PySem PySem.Spec PyProof.Rows
noncomputable def Its (x:Str):It:=⟨fun i _=>i < x.cps.size,fun i H v H'=>H' = H/\∃ c,x.cps[i]? = some c/\v = .str ⟨#[c]⟩,fun i _=>x.cps.size<=i⟩
variable {tg:Expr}
theorem zbE {P:Program} {w:World} {K:Frag} (it:Addr) (x:Str) (t:Tok) (kd:String) (hW:∀ A:Around,A.handled = none->Walks P w A it [it] [it] x.cps.size (SignAt x) (fun i h=>h.IsStrIter it kd x t i))
 (hk:["enumerate","zip","dict_itemiterator","dict_reverseitemiterator","odict_iterator","itertools.zip_longest","itertools.pairwise"].contains kd = false) (he:∀ (A:Around) (i:Nat) (s:Shared) (Q:Option Value->Shared->Prop) (E:Value->Shared->Prop),A.handled = none->s.heap.IsStrIter it kd x t i->x.cps[i]? = none->(∀ h',Heap.ExtBut it s.heap h'->Q none { s with heap:=h' })->wpAny (model P w) A (pyNext (.ref it)) Q E s) (hs:∀ (A:Around) (i:Nat) (s:Shared) (Q:Value->Shared->Prop) (E:Value->Shared->Prop),s.heap.IsStrIter it kd x t i->Q (.ref it) s->wpAny (model P w) A (pyIter (.ref it)) Q E s) :
  Turn P w K tg (Its x) [it] it (fun i h=>h.IsStrIter it kd x t i) where
 mem:=by simp
 obj:=fun i h st b hb=>by
  have e:b = it:=by simpa using hb
  subst e
  obtain ⟨o,e,c,d⟩:=st
  exact ⟨o,e,fun v z=>by rw [d] at z;cases z⟩
 keep:=fun i h h' st k=>by
  obtain ⟨o,e,c⟩:=st
  exact ⟨o,k it (by simp) o e,c⟩
 item:=by
  intro X hP hw hK hc i pins s σ H E I hf st hg
  subst hP hw hK
  obtain ⟨f0,f1,f2,f3,f4,f5⟩:=hf it (by simp)
  refine (hW X.A (I.ok.hd hc)).item i s _ _ hg st fun v h' tk hv st' kk=>?_
  obtain ⟨c,u,hc1,rfl⟩:=hv
  have I1:Inv X pins σ H { s with heap:=h',toks:=tk }:=I.turned (fun b o hb e=>kk b o (by simpa using hb) e) f0 f1 f3 f4 f5
  have st2:=st'
  obtain ⟨o,e,c1,d1⟩:=st2
  exact ⟨_,rfl,zby (s:={ s with heap:=h',toks:=tk }) (n:=kd) e c1 d1 hk ⟨.str ⟨#[c]⟩,H,I1,⟨u,rfl⟩,⟨rfl,c,hc1,rfl⟩,st',fun b hb=>(hf b hb).1⟩⟩
 done:=by
  intro X hP hw hK hc i pins s σ H E I hf st hg
  subst hP hw hK
  obtain ⟨f0,f1,f2,f3,f4,f5⟩:=hf it (by simp)
  have hg':x.cps.size<=i:=hg
  exact he X.A i s _ _ (I.ok.hd hc) st (by simp;exact hg') fun h' eb=>⟨rfl,I.turned (t':=s.toks) (fun b o hb e=>eb b o hb e) f0 f1 f3 f4 f5⟩
 self:=fun A i s Q E st h=>hs A i s Q E st h
section
variable {X:Cx}
noncomputable def zjc (tl:TE):TI:=fun σ H R=>tl σ H fun x H1=>∃ z,x = .str z/\R (Its z) H1
theorem zgR {l:Expr} {tl:TE} (hl:PE X l tl):PI X tg l (zjc tl):=by
 intro pins s σ H R I h
 refine thn (hl pins s σ H _ I h) fun v s1 ⟨x,H1,I1,r1,q1⟩=>?_
 obtain ⟨z,e,q⟩:=q1
 subst e
 obtain ⟨t,rfl⟩:=r1
 have fin:∀ (o:Obj) (kd:String),o.isFreed = false->o.cls = .type kd->o.data = .fields #[.str z t,.int (0:Nat) 0]->Turn X.prog X.w X.K tg (Its z) [s1.heap.objs.size] s1.heap.objs.size (fun i h=>h.IsStrIter s1.heap.objs.size kd z t i)->PIE X pins σ tg R (.ref s1.heap.objs.size) { s1 with heap:=s1.heap.push o }:=fun o kd fr hc hd tu=>by
  refine ⟨s1.heap.objs.size,[s1.heap.objs.size],_,_,H1,rfl,I1.kept (t':=s1.toks) fun b o e=>Q2 _ e,tu,⟨o,Qi _ fr,hc,hd⟩,fun b hb=>?_,q⟩
  have e:b = s1.heap.objs.size:=by simpa using hb
  subst e
  exact I1.fpOk (Q3 _) (I1.hok.fresh (Q3 _))
 cases ha:z.cps.all (· < 128)
 ·exact wpAny_pyIter_wide ha (fin _ "str_iterator" rfl rfl rfl (zbE _ z t _ (fun A hA=>Walks.strWide hA _ z t) (by decide) (fun A i s Q E h1 h2 h3 h4=>wpAny_pyNext_wide_end h1 h2 h3 h4) (fun A i s Q E h1 h2=>wpAny_pyIter_striter_wide h1 h2)))
 ·exact wpAny_pyIter_ascii ha (fin _ "str_ascii_iterator" rfl rfl rfl (zbE _ z t _ (fun A hA=>Walks.strAscii hA _ z t) (by decide) (fun A i s Q E h1 h2 h3 h4=>wpAny_pyNext_ascii_end h1 h2 h3 h4) (fun A i s Q E h1 h2=>wpAny_pyIter_striter_ascii h1 h2)))
theorem zgz:SlR X (fun x lo hi H Q=>∃ z,x = .str z/\z.length<=sizeLine/\Q (.str (Txt.slice z lo hi)) H):=by
 intro pins s σ H x v vl vu lo hi sl Q I rx hs pl pu ⟨z,e,hz,q⟩
 subst e
 obtain ⟨t,rfl⟩:=rx
 have part:∀ {v:Value} {o:Option Int},IsPart v o->∃ p:Option (Int × Tok),v = partValue p/\p.map (·.1) = o:=fun h=>by
  cases h with
  | none=>exact ⟨none,rfl,rfl⟩
  | int i t=>exact ⟨some (i,t),rfl,rfl⟩
 obtain ⟨l,rfl,rfl⟩:=part pl
 obtain ⟨u,rfl,rfl⟩:=part pu
 exact ⟨"str",_,PySem.F.slot_str_getitem.lookup,typeIs_str _ _ _,wpAny_getItem_str_slice (st:=none) hs rfl (post_val_or_str ⟨Qg (Txt.slice_le z _ _) hz,fun t' k=>⟨.str _,H,I.tok _,⟨_,rfl⟩,q⟩⟩)⟩
theorem zbH:∀ {zs:List Str} {its:List Value},Vals (zs.map V.str) its->StrsAre its zs
 | [],its,r=>by cases r;exact .nil
 | z :: zs,its,r=>by
  cases r with
  | cons a b=>
   obtain ⟨t,rfl⟩:=a
   exact .cons z t (zbH b)
theorem zfU:MtR X "str.join" (fun x xs H Q=>∃ z p zs,x = .str z/\xs = [.ref p]/\SqL X.K H p (zs.map V.str)/\(zs.map (·.length)).sum + zs.length * z.length<=16777216/\Q (.str (Txt.join z zs)) H):=by
 intro pins s σ H x xs v us Q I rx rs ⟨z,p,zs,e1,e2,hq,hb,q⟩
 subst e1;subst e2
 obtain ⟨t,rfl⟩:=rx
 obtain ⟨u,rfl,ru⟩:=vals1 rs
 cases ru
 obtain ⟨its,r,pl,hz⟩:=I.list hq
 exact join_list pl.isList (zbH r) hb fun t' k=>⟨.str _,H,I.tok _,⟨_,rfl⟩,q⟩
end
end L2
namespace FT
open PySem PySem.Spec PyProof.Rows L2
noncomputable def sgT (z:Str):List T:=z.cps.toList.map fun c=>T.str ⟨#[c]⟩
noncomputable def iTx (f:Ev->Mem->Out T):Ev->Mem->Out (List T):=fun σ M=>(f σ M).bind fun t M1=>match t with
 | .str z=>.ok (sgT z) M1
 | _=>.bad
noncomputable def zaf (x:T) (lo hi:Option Int) (M:Mem):Out T:=match x with
 | .str z=>if z.length<=sizeLine then .ok (.str (Txt.slice z lo hi)) M else .bad
 | x=>zdo x lo hi M
noncomputable def zcc (f:Ev->Mem->Out T) (p q:Ev->Mem->Out (Option Int)):Ev->Mem->Out T:=fun σ M=>(f σ M).bind fun x M1=>(p σ M1).bind fun lo M2=>(q σ M2).bind fun hi M3=>zaf x lo hi M3
noncomputable def zau:List T->Option (List Str)
 | []=>some []
 | .str z :: ts=>(zau ts).map (z :: ·)
 | _ :: _=>none
theorem zbK:∀ {ts:List T} {zs:List Str},zau ts = some zs->ts = zs.map .str
 | [],zs,h=>by cases h;rfl
 | t :: ts,zs,h=>by
  unfold zau at h
  split at h
  ·rename_i e
   cases e
  ·rename_i e
   cases e
   cases q:zau ts with
   | none=>rw [q] at h;cases h
   | some ys=>
    rw [q] at h
    cases h
    rw [zbK q]
    rfl
  ·cases h
noncomputable def isStr (t:T) (_:Mem):Bool:=match t with
 | .str _=>true
 | _=>false
noncomputable def zam (x:T) (ts:List T) (M:Mem):Out T:=match x,ts with
 | .str z,[t]=>match yB t M with
  | some xs=>match zau xs with
   | some zs=>if (zs.map (·.length)).sum + zs.length * z.length<=16777216 then .ok (.str (Txt.join z zs)) M else .bad
   | none=>.bad
  | none=>.bad
 | _,_=>.bad
variable {X:Cx} {f:Ev->Mem->Out T} {e tg:Expr} {XE:XK}
section
theorem ty_str {K:Frag} {S:Sit} (_:MemOk K S) {t:T} {x:V} (r:Rep K S t x) (h:isStr t S.M = true):tyV K "str" x S.H:=by
 cases r with
 | str z=>exact rfl
 | _=>cases h
theorem zeE:MtR X "str.join" (lMt XE X.K zam):=by
 intro pins s σ H x xs v us Q I rx rs ⟨S,⟨tx,ts⟩,e,m,⟨r1,r2⟩,fin⟩
 subst e
 replace r1:Rep X.K S tx x:=r1
 replace r2:Reps X.K S ts xs:=r2
 replace fin:Fin XE (Rep X.K) X.K S (zam tx ts S.M) Q:=fin
 unfold zam at fin
 split at fin
 ·rename_i z t
  split at fin
  ·rename_i ys q
   split at fin
   ·rename_i zs qz
    split at fin
    ·rename_i hb
     obtain ⟨w1,ws,rfl,h1,h2⟩:=r2.consT
     cases h2.nilT
     obtain ⟨p,vs,rfl,hq,rs'⟩:=yj m h1 q
     cases r1
     have e:=zbK qz
     subst e
     have ev:vs = zs.map V.str:=by
      refine List.ext_getElem? fun i=>?_
      have l:=rs'.1
      rw [length_map] at l
      by_cases hi:i < zs.length
      ·have a1:vs[i]? = some (vs[i]'(by omega)):=Q0 _
       have a2:=rs'.2 i (.str zs[i]) _ (by rw [Qa,Q0 hi];rfl) a1
       rw [a1,Qa,Q0 hi]
       generalize vs[i]'(by omega) = w at a2
       cases a2
       rfl
      ·rw [getElem?_eq_none (by omega),getElem?_eq_none (by rw [length_map];omega)]
     rw [ev] at hq
     exact zfU pins s σ S.H _ _ v us Q I rx rs ⟨z,p,zs,rfl,rfl,hq,hb,fin S _ rfl (.refl m) (.str _)⟩
    ·exact fin.elim
   ·exact fin.elim
  ·exact fin.elim
 ·exact fin.elim
theorem zhA (he:GE X XE e f):GI X XE tg e (iTx f):=PI.imp (zgR he) fun σ H R h9=>by
 obtain ⟨S,στ,_,e,m,ev,_,fin⟩:=h9
 replace fin:Fin XE (zV X.K) X.K S ((f στ S.M).bind fun t M1=>match t with | .str z=>.ok (sgT z) M1 | _=>.bad) R:=fin
 refine ⟨S,στ,(),e,m,ev,trivial,?_⟩
 show Fin XE (Rep X.K) X.K S (f στ S.M) _
 cases o:f στ S.M with
 | bad=>rw [o] at fin;exact fin.elim
 | exn C fs M'=>rw [o] at fin;exact fin
 | ok t M1=>
  rw [o] at fin
  cases t with
  | str z=>
   intro S1 v e1 s1 r1
   cases r1
   refine ⟨z,rfl,fin S1 _ e1 s1 fun S3 s3=>⟨fun i t et=>?_,fun i hi=>?_⟩⟩
   ·unfold sgT at et
    rw [Qa] at et
    cases q:z.cps.toList[i]? with
    | none=>rw [q] at et;cases et
    | some c=>
     rw [q] at et
     cases et
     have hi:i < z.cps.size:=by
      have:=(List.getElem?_eq_some_iff.mp q).1
      simpa using this
     refine ⟨hi,fun x H' hy=>?_⟩
     obtain ⟨rfl,c',hc,rfl⟩:=hy
     have:c' = c:=by
      rw [Array.getElem?_toList] at q
      rw [q] at hc
      exact (Qb hc).symm
     subst this
     exact ⟨S3,rfl,rfl,.refl s3.mok,.str _⟩
   ·show z.cps.size<=i
    unfold sgT at hi
    simpa using hi
  | _=>exact fin.elim
end
theorem yE {K:Frag} {mg:Str->Option Value} {h:Heap} (X:K.In h) (G:h.Ns mainGlobals mg) {x:Str} {C N W:Addr} {nm q:Str} {bs:List Value} {hdct:Bool} {sn:List Str} {sub:List Value} {ab:Bool} {col:Option Bool} {dd:Option Addr} {k0 k1 k2 k3 k5:Option Value}
  {c1 c2 c3:Value} {d1 d2 d3:Option Addr} {es es':Array DictEntry} {ep ep':Nat} {s1 s2 s3:Array (Option Value)} {cdw:ClassData}
  (a:PySem.W.nsIn K mainGlobals x = some (some (.ref C)))
  (l:K.lookup C = some (excClassObj nm q C N bs (.ref W :: zu) hdct sn sub ab col dd k0 k1 k2 k3 k5 "ValueError.__new__"))
  (ln:K.lookup N = some ⟨c1,d1,.dict es ep,s1⟩) (sk:zz es = true) (q0:PySem.W.nsIn K N "__init__" = some none)
  (lw:K.lookup W = some ⟨c2,d2,.cls cdw,s2⟩) (lwn:K.lookup cdw.ns = some ⟨c3,d3,.dict es' ep',s3⟩) (sk':zz es' = true) (q1:PySem.W.nsIn K cdw.ns "__init__" = some none):ExcAt K mg x (zb K x):=by
 rw [zk a]
 refine ⟨PySem.W.mg_of X G a,fun h' X'=>?_⟩
 obtain ⟨mN,hN,eN⟩:=zcJ X' ln sk q0
 obtain ⟨mW,hW,eW⟩:=zcJ X' lwn sk' q1
 exact ⟨_,N,nm,q,bs,hdct,sn,sub,ab,col,dd,k0,k1,k2,k3,k5,mN,X' _ _ l,hN,eN,.own (X' _ _ lw) hW eW .base⟩
noncomputable def zi6 (XE:XK) (K:Frag):V->Option Int->Option Int->Hp->VK->Prop:=fun x lo hi H Q=>∃ S t,S.H = H/\MemOk K S/\Rep K S t x/\Fin XE (Rep K) K S (zaf t lo hi S.M) Q
variable {p q:Ev->Mem->Out (Option Int)} {p2 pos:Pos}
section
theorem ziQ:SlR X (zi6 XE X.K):=by
 intro pins s σ H x v vl vu lo hi sl Q I rx hs pl pu ⟨S,t,e,m,r,fin⟩
 unfold zaf at fin
 split at fin
 ·cases r
  split at fin
  ·rename_i hz
   subst e
   exact zgz pins s σ S.H _ v vl vu lo hi sl Q I rx hs pl pu ⟨_,rfl,hz,fin S _ rfl (.refl m) (.str _)⟩
  ·exact fin.elim
 ·exact ziR pins s σ H x v vl vu lo hi sl Q I rx hs pl pu ⟨S,_,e,m,r,fin⟩
end
section
theorem zcw (he:WE X XE e f):WI X XE tg e (iTx f):=⟨zhA he.pe⟩
end
section
theorem zcA {lo hi:Option Expr} (he:WE X XE e f) (hl:WO X XE lo p) (hu:WO X XE hi q):WE X XE (.Subscript e (.Slice lo hi none p2) pos) (zcc f p q):=by
 have he:=he.pe
 have hl:=hl.pe
 have hu:=hu.pe
 exact ⟨PE.imp (zez ziQ he hl hu) fun σ H Q hh=>
  LN.mono (LN.bind (f:=fun _ σ M=>f σ M) (k:=fun _ x σ M1=>(p σ M1).bind fun lo M2=>(q σ M2).bind fun hi M3=>zaf x lo hi M3) (RB:=Rep X.K) hh) fun v H1 h1=>
   LN.mono (LN.env (f:=p) (LN.bind (f:=fun _ σ M=>p σ M) (k:=fun (ax:Unit × T) lo σ M2=>(q σ M2).bind fun hi M3=>zaf ax.2 lo hi M3) (RB:=EqR) h1)) fun l H2 h2=>
    LN.mono (LN.env (f:=q) (LN.bind (f:=fun _ σ M=>q σ M) (k:=fun (ax:(Unit × T) × Option Int) hi σ M3=>zaf ax.1.2 ax.2 hi M3) (RB:=EqR) h2)) fun w H3 h9=>by
     obtain ⟨S,στ,a,e,m,ev,ra,fin⟩:=h9
     have e1:a.1.2 = l:=ra.1.2
     have e2:a.2 = w:=ra.2
     exact ⟨S,a.1.1.2,e,m,ra.1.1.2,by rw [← e1,← e2];exact fin⟩⟩
end
end FT
namespace L2
open PySem PySem.Spec PyProof.Rows
variable {C:Addr} {A:Around} {cpos np:Pos} {prog:Program} {s:Shared} {x:Str} {E:Value->Shared->Prop} {w:World}
section
variable {env:PySem.Env}
variable {nm q:Str} {N:Addr} {bs bm:List Value} {hdct:Bool} {sn:List Str} {sub:List Value} {ab:Bool} {col:Option Bool} {dd:Option Addr} {k0 k1 k2 k3 k5:Option Value}
theorem zcL {args:List Expr} {Q:Value->Shared->Prop} (hp:(backTo cpos (starEach args env)).any (·.1) = false)
 (h:wpAny (model prog w) A (eval (.Name x np) env) (fun f s1=>f = .ref C/\wpAny (model prog w) A (evalArgs (.ref C) true (backTo cpos (starEach args env)) []) (fun a s2=>a.kw = []/\s2.heap.get? C = some (excClassObj nm q C N bs bm hdct sn sub ab col dd k0 k1 k2 k3 k5 "ValueError.__new__") /\
 wpAny (model prog w) A (call (.ref C) a.pos) Q E s2) E s1) E s) :
  wpAny (model prog w) A (eval (.Call (.Name x np) args [] cpos) env) Q E s:=by
 refine wpAny_Call_ofName (Qe h (fun f s1 h1=>?_) fun _ _ y=>y)
 obtain ⟨rfl,h1⟩:=h1
 unfold callWith
 refine Q1 (wpAny_holding (Qe h1 (fun a s2 h2=>Q1 (wpAny_standAt ?_)) fun _ _ y=>y))
 obtain ⟨ap,ak⟩:=a
 obtain ⟨hkw,hC,h2⟩:=h2
 obtain rfl:ak = []:=hkw
 obtain ⟨hp',g,d,tk,os⟩:=s2
 simp only [hp]
 refine Q1 (wpAny_keeperOf_exc hC (Q1 (Qe h2 (fun v s3 h3=>Q1 (wpAny_holding (wpAny_point (Qd ?_)))) fun _ _ y=>y)))
 exact h3
end
variable {X:Cx}
section
variable {f:Addr} {e:Expr} {ta:TA} {fd:FuncData}
theorem zfE (O:ExcAt X.K X.mg x C) (hg:Gl X x) (hex:X.ex = []) (ha:PA X [e] ta) (hd:(x == ("__debug__":Str)) = false:=by decide) (he:starEach [e] X.env = [(false,eval e X.env)]:=by rfl) :
  PE X (.Call (.Name x np) [e] [] cpos) (fun σ H Q=>ta σ H fun vs H1=>vs.length<=sizeLine/\∀ p,H1 p = none->Q (.ref p) (upd H1 p (.ext (ExO p C none)))):=by
 intro pins s σ H Q I h
 obtain ⟨bm,N,nm,q,bs,hdct,sn,sub,ab,col,dd,k0,k1,k2,k3,k5,mN,hC,hN,hni,T⟩:=O.obj X.base I.ok.mod.kin
 refine zcL (C:=C) (nm:=nm) (q:=q) (N:=N) (bs:=bs) (bm:=bm) (hdct:=hdct) (sn:=sn) (sub:=sub) (ab:=ab) (col:=col) (dd:=dd) (k0:=k0) (k1:=k1) (k2:=k2) (k3:=k3) (k5:=k5) (by rw [he];rfl) (zal I hg O.bound ⟨rfl,?_⟩ hd)
 have hq:=ha cpos pins s σ H _ I h
 rw [he] at hq ⊢
 refine Calls.evalArgs_plain (Qe hq (fun us s2 ⟨vs,H2,I2,r2,hl,hE⟩=>?_) fun _ _ y=>y)
 have hC2:=I2.bk _ _ hC
 refine ⟨rfl,hC2,?_⟩
 obtain ⟨h2,g2,d2,t2,os2⟩:=s2
 refine wpAny_call_exc_subT PySem.F.excBase_ValueError (T.keeps I2.bk) hC2 (hN.keeps I2.bk) hni (fun h' ev hm=>?_) (by rw [← r2.length];exact hl)
 obtain ⟨t,ge,_,_⟩:=hm.there
 obtain ⟨b1,b2,b3,b4,b5⟩:=I2.new0 hex hm.new
 have I3:Inv X pins σ H2 ⟨h',g2,d2,t2,os2⟩:=I2.kept (t':=t2) hm.keeps
 have I4:Inv X pins σ (upd H2 ev (.ext (ExO ev C none))) ⟨h',g2,d2,t2,os2⟩:=I3.take b1 b2 b3 b4 b5 (zd4 ⟨_,ge,rfl,rfl,fun c z=>by cases z⟩)
 exact ⟨.ref ev,_,I4,rfl,hE ev b2⟩
theorem zfD (O:XcAt X.K X.mg x C f) (F:FnOk X.prog X.w X.K X.mg X.base CX0 1 f fd ["self","at"] (fun vs H Q E=>(∃ e t v,vs = [.ref e,v]/\H e = some (.ext (ExN e C t none))/\∀ d,H d = none->d ≠ e->Q .non (upd (upd H e (.ext (ExN e C t (some d)))) d (.xd [("at",v)])))))
  (hbd:Binds X.K fd ["self","at"] []) (hr:Room 2 X.A) (hg:Gl X x) (hex:X.ex = [])
  (ha:PA X [e] ta) (hd:(x == ("__debug__":Str)) = false:=by decide) (he:starEach [e] X.env = [(false,eval e X.env)]:=by rfl) :
  PE X (.Call (.Name x np) [e] [] cpos) (fun σ H Q=>ta σ H fun vs H1=>∃ v,vs = [v]/\∀ p d,H1 p = none->H1 d = none->d ≠ p->Q (.ref p) (upd (upd H1 d (.xd [("at",v)])) p (.ext (ExO p C (some d))))):=by
 intro pins s σ H Q I h
 obtain ⟨bm,N,nm,q,bs,sn,sub,ab,col,dd,k0,k1,k2,k3,k5,mN,hC,hN,hi,hno,T⟩:=O.obj X.base I.ok.mod.kin
 have Tt:=T.tail (by decide)
 refine zcL (C:=C) (nm:=nm) (q:=q) (N:=N) (bs:=bs) (bm:=bm) (hdct:=true) (sn:=sn) (sub:=sub) (ab:=ab) (col:=col) (dd:=dd) (k0:=k0) (k1:=k1) (k2:=k2) (k3:=k3) (k5:=k5) (by rw [he];rfl) (zal I hg O.bound ⟨rfl,?_⟩ hd)
 have hq:=ha cpos pins s σ H _ I h
 rw [he] at hq ⊢
 refine Calls.evalArgs_plain (Qe hq (fun us s2 ⟨vs,H2,I2,r2,v,ev,hE⟩=>?_) fun _ _ y=>y)
 subst ev
 obtain ⟨u,rfl,ru⟩:∃ u,us = [u]/\RelV v u:=by
  cases r2 with
  | cons a b=>cases b;exact ⟨_,rfl,a⟩
 obtain ⟨oI,fk,fc⟩:=O.fn
 have hC2:=I2.bk _ _ hC
 refine ⟨rfl,hC2,?_⟩
 obtain ⟨h2,g2,d2,t2,os2⟩:=s2
 refine zhU hC2 (hN.keeps I2.bk) (Tt.keeps I2.bk) hi (I2.kIn _ _ fk) fc (fun h' e hm=>?_) (by show 1<=sizeLine;decide)
 obtain ⟨t,ge,_,_⟩:=hm.there
 obtain ⟨b1,b2,b3,b4,b5⟩:=I2.new0 hex hm.new
 have I3:Inv X pins σ H2 ⟨h',g2,d2,t2,os2⟩:=I2.kept (t':=t2) hm.keeps
 have I4:Inv X pins σ (upd H2 e (.ext (ExN e C t none))) ⟨h',g2,d2,t2,os2⟩:=I3.take b1 b2 b3 b4 b5 (zd5 ge)
 refine wpAny_call (codeAny_mono (F.run _ X.stack _ _ ⟨[.ref e,u],[]⟩ [.ref e,u] [.ref e,v] (fun w H'=>w = .non/\∃ d,H2 d = none/\d ≠ e/\H' = upd (upd (upd H2 e (.ext (ExN e C t none))) e (.ext (ExN e C t (some d)))) d (.xd [("at",v)])) E0 (hr.make C [u] []) (I4.env0.make C [u] []) (hbd _ [.ref e,u] I4.kIn rfl) (.cons rfl (.cons ru .nil)) ⟨e,t,v,rfl,zh,fun d hd ne=>⟨rfl,d,by rw [yc ne] at hd;exact hd,ne,rfl⟩⟩) fun r s' hr'=>?_)
 cases r with
 | error ee=>exact hr'.elim
 | ok fl=>
  cases fl with
  | next=>exact hr'.elim
  | brk=>exact hr'.elim
  | cont=>exact hr'.elim
  | ret u'=>
   obtain ⟨w',H5,os,bare,un,hok,rw',rfl,d,hd2,ne,eH⟩:=hr'
   have I5:Inv X pins σ H5 s':=I4.call' (ch:=[]) os un hok bare (fun b z=>absurd z (by simp))
   have e5:H5 e = some (.ext (ExN e C t (some d))):=by rw [eH,yc ne.symm,zh]
   have ge5:s'.heap.get? e = some (qX C t (some d)):=(I5.hok e _ e5).1
   have I6:=I5.let e5
   have eq:zaW H5 e = upd H2 d (.xd [("at",v)]):=by
    funext b
    rw [eH]
    by_cases hb:b = e
    ·subst hb;rw [zbg,yc ne.symm,b2]
    ·rw [yG hb]
     by_cases hd':b = d
     ·subst hd';rw [zh,zh]
     ·rw [yc hd',yc hb,yc hb,yc hd']
   rw [eq] at I6
   have n6:(upd H2 d (.xd [("at",v)])) e = none:=by rw [yc ne.symm];exact b2
   have I7:Inv X pins σ (upd (upd H2 d (.xd [("at",v)])) e (.ext (ExO e C (some d)))) s':=I6.take b1 n6 b3 b4 b5 (zd4 ⟨_,ge5,rfl,rfl,fun c z=>by cases z⟩)
   refine ⟨rw',.ref e,_,I7,rfl,hE e d b2 hd2 ne⟩
end
structure XiAt (K:Frag) (D:Addr):Prop where
 ga:PySem.W.findIn K (.ref D) "__getattribute__" = some (some (.builtin "BaseException.__getattribute__"))
 gt:PySem.W.findIn K (.ref D) "__getattr__" = some none
 c:(PySem.W.clsIn K D).isSome = true
 a:PySem.W.findIn K (.ref D) "__class__" = some (some (.builtin "object.__class__"))
 n:PySem.W.specialIn K (.builtin "object.__class__") "__get__" = some (some (.builtin "getset_descriptor.__get__"))
 t:PySem.W.takesIn K (.builtin "object.__class__") = some true
 m:PySem.W.mroIn K D (.type "object") = some true
 be:PySem.W.mroIn K D (.type "BaseException") = some true
variable {K:Frag}
theorem zd2 {od:Option Obj} {name:Str} {a g:Value} (hc:(PySem.W.clsIn K C).isSome = true) (ha:PySem.W.findIn K (.ref C) name = some (some a)) (hg:PySem.W.specialIn K a "__get__" = some (some g)) (ht:PySem.W.takesIn K a = some true):PySem.W.findObj K C od name = some (.bind g a):=by
 unfold PySem.W.findObj
 cases h:PySem.W.clsIn K C with
 | none=>rw [h] at hc;cases hc
 | some cd=>simp only [Option.bind_some,ha,hg,ht]
variable {D:Addr}
section
variable {x:Addr} {ox:Obj} {odo:Option Obj}
theorem zej {u:Value} {Q:Unit->Shared->Prop} (Z:XiAt K D) (X:K.In s.heap) (I:PySem.W.InstAt s.heap x ox D odo) (hq:Q () s) :
  wpAny (model prog w) A (checkBuiltinCall "BaseException.__getattribute__" ⟨[.ref x,u],[]⟩) Q E s:=by
 have hk:builtinKind "BaseException.__getattribute__" = some .slot:=by decide +kernel
 have hs:splitId "BaseException.__getattribute__" = some ("BaseException","__getattribute__"):=by decide +kernel
 have L:PySem.W.Looks (model prog w) s.heap (isInstance (.ref x) (.type "BaseException")) true:=(I.type (M:=model prog w)).andThen (PySem.W.looks_mroIn X Z.be)
 have ha:=PySem.F.args_bexc_ga (.ref x) u
 obtain ⟨h,g,d,t,os⟩:=s
 simp only [checkBuiltinCall,hk,hs]
 refine Q1 (L.at ?_)
 repeat (any_goals (first | assumption | wp_step))
theorem zei {tk:Tok} {Q:PySem.Fin->Shared->Prop} (Z:XiAt K D) (X:K.In s.heap) (I:PySem.W.InstAt s.heap x ox D odo) (hq:Q (.done (.ret (.ref D))) s) :
  wpAny (model prog w) A (Builtin.«object.__getattribute__» ⟨[.ref x,.str "__class__" tk],[]⟩) Q E s:=by
 have L0:=I.type (M:=model prog w)
 have L1:=PySem.W.looks_find (M:=model prog w) X I (zd2 Z.c Z.a Z.n Z.t)
 have cg:wpAny (model prog w) A (call (.builtin "getset_descriptor.__get__") [.builtin "object.__class__",.ref x,.ref D]) (fun v s'=>Q (.done (.ret v)) s') E s:=wpAny_call (PySem.W.class_get (ox:=ox) (od:=odo) X I Z.m hq)
 obtain ⟨h,g,d,t,os⟩:=s
 unfold Builtin.«object.__getattribute__»
 refine Q1 (Qd ?_)
 refine Q1 (Qd ?_)
 refine Q1 (L0.at (Q1 (L1.at ?_)))
 show wpAny _ _ (holding [.builtin "object.__class__"] (call (.builtin "getset_descriptor.__get__") [.builtin "object.__class__",.ref x,.ref D]) >>= ret) _ _ _
 exact Q1 (wpAny_holding (Qe cg (fun v s' z=>Qd z) fun _ _ z=>z))
theorem ziB {Q:Option Value->Shared->Prop} (Z:XiAt K D) (X:K.In s.heap) (I:PySem.W.InstAt s.heap x ox D odo) (hq:Q (some (.ref D)) { s with toks:=s.toks + 1 }):wpAny (model prog w) A (getAttr? (.ref x) "__class__") Q E s:=by
 have f3:=PySem.F.excAttr_ValueError.ga.bind (.ref x)
 obtain ⟨hh,g,d,t,os⟩:=s
 have L0:=I.type (M:=model prog w)
 have L1:=PySem.W.looks_findIn (M:=model prog w) X Z.ga
 have L2:=PySem.W.looks_findIn (M:=model prog w) X Z.gt
 have hx2:(Value.builtin "BaseException.__getattribute__" == Value.builtin "object.__getattribute__") = false:=by decide +kernel
 have hx1:(onTheHeap (Value.ref D) && Value.builtin "BaseException.__getattribute__" == Value.builtin "object.__getattribute__") = false:=by rw [hx2];rfl
 unfold getAttr? getAttrBy? getAttrBy
 refine Q1 (wpAny_mkText (Q1 (wpAny_attempt (wpAny_holding (Q1 (L0.at (Q1 (L1.at ?_))))))))
 simp only [hx1,Bool.false_eq_true,if_false]
 unfold getAttrByItsOwn hookBefore
 refine Q1 (L2.at ?_)
 refine Q1 (wpAny_attempt (wpAny_holding ?_))
 unfold callGetattribute
 rw [if_neg (by decide)]
 unfold boundAndCalled
 rw [f3]
 refine Q1 (Qd (wpAny_call (codeAny_call_builtin PySem.F.excAttr_ValueError.ga.plain PySem.F.entry_bexc_ga (zej (s:=⟨hh,g,d,t + 1,os⟩) Z X I (zei (s:=⟨hh,g,d,t + 1,os⟩) Z X I ?_)))))
 exact Qe (PySem.W.handed_on (v:=.ref D) rfl hq) (fun v s' z=>Qd z) fun _ _ z=>z
end
theorem zeJ {x:Addr} (Z:XiAt K D):PySem.W.KitX K (.ref x) (.ref D) (fun h=>∃ ox odo,PySem.W.InstAt h x ox D odo) where
 ty:=fun M h X ⟨ox,odo,I⟩=>I.type
 it:=fun M h X _=>by
  have z0:=Z.c
  unfold PySem.W.clsIn at z0
  split at z0
  ·rename_i c' d' cd' sl' ho
   intro A' Q' E' s' k q
   unfold isType loadHead
   exact Q1 (wpAny_loadPart (k _ _ (X _ _ ho)) (Qd q))
  ·cases z0
 ne:=fun h tp dd its n sl X ht=>by
  have z0:=Z.c
  unfold PySem.W.clsIn at z0
  split at z0
  ·rename_i c' d' cd' sl' ho
   refine Bool.eq_false_iff.mpr fun q=>?_
   have e:=Value.ref.inj (beq_iff_eq.mp q)
   have:=X _ _ ho
   rw [e,ht] at this
   cases this
  ·cases z0
 ca:=fun {prog w A E Q s} X ⟨ox,odo,I⟩ hq=>ziB Z X I hq
section
theorem ze0:CallR X (.builtin "isinstance") (fun xs H Q=>∃ p D od v c b,xs = [.ref p,v]/\H p = some (.ext (ExO p D od))/\(od = none\/∃ d us,od = some d/\H d = some (.xd us))/\XiAt X.K D/\(∀ u,RelV v u->u = c)/\PySem.W.kitOne X.K (.ref D) c = some b/\Q (.bl b) H):=by
 intro pins s σ H xs us Q I r h
 obtain ⟨p,D,od,v,c,b,rfl,hp,ho,Z,hv,e,q⟩:=h
 obtain ⟨u,w',rfl,r1,r2⟩:=vals2 r
 obtain rfl:u = Value.ref p:=r1
 cases hv _ r2
 obtain ⟨⟨ob,g1,g2,g3,g4⟩,_,_⟩:=I.hok p _ hp
 have nc:PySem.W.notCls ob = true:=by
  unfold PySem.W.notCls
  split
  ·rename_i cd z;exact absurd z (g4 cd)
  ·rfl
 have hI:∃ ox odo,PySem.W.InstAt s.heap p ox D odo:=by
  rcases ho with rfl | ⟨d,us,rfl,hd⟩
  ·exact ⟨ob,none,g1,g2,nc,by rw [g3];trivial⟩
  ·obtain ⟨od,e'⟩:=(I.hok d _ hd).there
   exact ⟨ob,some od,g1,g2,nc,by rw [g3];exact e'⟩
 exact PySem.W.kia_one (zeJ Z) I.kIn hI e (fun z=>nomatch z) fun tk=>⟨.bl b,H,I.tok tk,rfl,q⟩
end
end L2
namespace FT
open PySem PySem.Spec PyProof.Rows L2
noncomputable def isX (g:Addr->Option Bool) (t:T) (M:Mem):Out T:=match t with
 | .exc C _=>match g C with
  | some b=>.ok (.bl b) M
  | none=>.bad
 | _=>.bad
noncomputable def zD (C:Addr) (ts:List T) (M:Mem):Out T:=if ts.length<=sizeLine then .ok (.exc C []) M else .bad
noncomputable def yP (C:Addr) (ts:List T) (M:Mem):Out T:=match ts with
 | [t]=>.ok (.exc C [("at",t)]) M
 | _=>.bad
noncomputable def zl (k:List T->Mem->Out T) (ga:Ev->Mem->Out (List T)):Ev->Mem->Out T:=fun σ M=>(ga σ M).bind fun ts M1=>k ts M1
variable {C:Addr} {g:Addr->Option Bool} {X:Cx} {ga:Ev->Mem->Out (List T)} {f:Ev->Mem->Out T} {e:Expr} {cpos np p p2 pos:Pos} {x y:Str} {XE:XK}
section
theorem zdZ {v:V} {c:Value} (pe:PE X (.Name y p2) (tC v)) (hv:∀ u,RelV v u->u = c) (hS:∀ C b,g C = some b->XiAt X.K C/\PySem.W.kitOne X.K (.ref C) c = some b) (hg:Gl X "isinstance") (hm:X.mg "isinstance" = none) (hb:bootBuiltins "isinstance" = some (.builtin "isinstance"))
 (h:GE X XE e f) (he:starEach [e,.Name y p2] X.env = (false,eval e X.env) :: starEach [.Name y p2] X.env:=by rfl):GE X XE (.Call (.Name "isinstance" p) [e,.Name y p2] [] pos) (eUn (isX g) f):=PE.imp (zbU ze0 hg hm hb (za2 h (za2 pe zdJ) he) (by decide) (by decide) he) fun σ H Q hh=>
 LN.mono (LN.bind (f:=fun _ σ M=>f σ M) (k:=fun _ x σ M1=>isX g x M1) (RB:=Rep X.K) hh) fun vv H1 h9=>by
  obtain ⟨S,στ,a,e,m,ev,ra,fin⟩:=h9
  obtain ⟨u,t⟩:=a
  have r:Rep X.K S t vv:=ra.2
  replace fin:Fin XE (Rep X.K) X.K S (isX g t S.M) Q:=fin
  cases r with
  | @exc D fs us p od h hd l rr=>
   unfold isX at fin
   dsimp only at fin
   split at fin
   ·rename_i b hb
    subst e
    obtain ⟨z1,z2⟩:=hS D b hb
    exact ⟨p,D,od,v,c,b,rfl,h,hd.imp (fun z=>z.1) (fun ⟨d,a,b⟩=>⟨d,us,a,b⟩),z1,hv,z2,fin S _ rfl (.refl m) (.bl _)⟩
   ·exact fin.elim
  | _=>exact fin.elim
end
noncomputable def yn (ks:List Addr) (k C:Addr):Option Bool:=if ks.contains C = true then some (C == k) else none
noncomputable def qT (ks:List Addr) (C:Addr):Option Bool:=if ks.contains C = true then some true else none
structure IsAt (K:Frag) (mg:Str->Option Value) (y:Str) (g:Addr->Option Bool):Prop where
 ex:∃ (v:V) (c:Value),RelV v c/\(mg y = some c\/(mg y = none/\bootBuiltins y = some c))/\(∀ u,RelV v u->u = c)/\∀ C b,g C = some b->XiAt K C/\PySem.W.kitOne K (.ref C) c = some b
section
end
structure XmAt (K:Frag) (D W:Addr):Prop where
 ga:PySem.W.findIn K (.ref D) "__getattribute__" = some (some (.builtin "BaseException.__getattribute__"))
 gt:PySem.W.findIn K (.ref D) "__getattr__" = some none
 a:PySem.W.findIn K (.ref D) "__class__" = some (some (.builtin "object.__class__"))
 n:PySem.W.specialIn K (.builtin "object.__class__") "__get__" = some (some (.builtin "getset_descriptor.__get__"))
 t:PySem.W.takesIn K (.builtin "object.__class__") = some true
 mro:(PySem.W.clsIn K D).map (·.mro) = some (.ref D :: .ref W :: zu)
 ty:PySem.W.typeIn K (.ref D) = some (.type "type")
variable {K:Frag} {w:Str} {mg:Str->Option Value}
section
variable {D W Y:Addr} {ks:List Addr}
theorem XmAt.in (x:XmAt K D W) (base:Value):PySem.W.mroIn K D base = some ((Value.ref D :: .ref W :: zu).contains base):=by
 obtain ⟨cd,h,e⟩:=Option.map_eq_some_iff.mp x.mro
 unfold PySem.W.mroIn
 rw [h,Option.bind_some,e]
 rfl
theorem XmAt.cls (x:XmAt K D W):(PySem.W.clsIn K D).isSome = true:=by
 obtain ⟨cd,h,e⟩:=Option.map_eq_some_iff.mp x.mro
 rw [h]
 rfl
theorem qt (a b:Value) (l:List Value):(b :: l).contains a = (a == b || l.contains a):=List.contains_cons
theorem XmAt.xi (x:XmAt K D W):XiAt K D:=⟨x.ga,x.gt,x.cls,x.a,x.n,x.t,by rw [x.in,qt,qt,show zu.contains (.type "object") = true by decide +kernel,Bool.or_true,Bool.or_true],by rw [x.in,qt,qt,show zu.contains (.type "BaseException") = true by decide +kernel,Bool.or_true,Bool.or_true]⟩
theorem no_ref (Y:Addr):zu.contains (.ref Y) = false:=by
 refine Bool.eq_false_iff.mpr fun h=>?_
 have h:=contains_iff_mem.mp h
 unfold zu at h
 simp at h
theorem zeK (x:XmAt K C W) (z:XmAt K Y W) (ne:Y ≠ W):PySem.W.kitOne K (.ref C) (.ref Y) = some (C == Y):=by
 unfold PySem.W.kitOne
 by_cases h:C = Y
 ·subst h
  rw [if_pos (by simp)]
  simp
 ·rw [if_neg (by simpa using h)]
  unfold PySem.W.kitCls
  dsimp only
  rw [if_pos (by rw [z.cls,z.ty];rfl)]
  show PySem.W.mroIn K C (.ref Y) = _
  rw [x.in,qt,qt,no_ref,show (Value.ref Y == Value.ref C) = false by simpa using fun q=>h q.symm,show (Value.ref Y == Value.ref W) = false by simpa using ne,show (C == Y) = false by simpa using h]
  rfl
theorem zhh (x:XmAt K C W) (c:(PySem.W.clsIn K W).isSome = true) (t:PySem.W.typeIn K (.ref W) = some (.type "type")):PySem.W.kitOne K (.ref C) (.ref W) = some true:=by
 unfold PySem.W.kitOne
 split
 ·rfl
 ·unfold PySem.W.kitCls
  dsimp only
  rw [if_pos (by rw [c,t];rfl)]
  show PySem.W.mroIn K C (.ref W) = _
  rw [x.in,qt,qt,show (Value.ref W == Value.ref W) = true by simp,Bool.true_or,Bool.or_true]
theorem zhg (x:XmAt K C W):PySem.W.kitOne K (.ref C) (.type "ValueError") = some true:=by
 unfold PySem.W.kitOne
 rw [if_neg (by simp)]
 unfold PySem.W.kitCls
 dsimp only
 rw [if_pos (by decide +kernel)]
 show PySem.W.mroIn K C (.type "ValueError") = _
 rw [x.in,qt,qt,show zu.contains (.type "ValueError") = true by decide +kernel,Bool.or_true,Bool.or_true]
theorem qo (b:mg y = some (.ref Y)) (xs:∀ C ∈ ks,XmAt K C W) (hY:Y ∈ ks) (ne:Y ≠ W):IsAt K mg y (yn ks Y):=⟨.ref Y,.ref Y,rfl,.inl b,fun u r=>r,fun C v e=>by
 unfold yn at e
 split at e
 ·rename_i hc
  cases e
  have x:=xs C (contains_iff_mem.mp hc)
  exact ⟨x.xi,zeK x (xs Y hY) ne⟩
 ·cases e⟩
theorem zf3 (b:mg y = some (.ref W)) (xs:∀ C ∈ ks,XmAt K C W) (c:(PySem.W.clsIn K W).isSome = true) (t:PySem.W.typeIn K (.ref W) = some (.type "type")):IsAt K mg y (qT ks):=⟨.ref W,.ref W,rfl,.inl b,fun u r=>r,fun C v e=>by
 unfold qT at e
 split at e
 ·rename_i hc
  cases e
  have x:=xs C (contains_iff_mem.mp hc)
  exact ⟨x.xi,zhh x c t⟩
 ·cases e⟩
theorem zf2 (b:mg "ValueError" = none) (xs:∀ C ∈ ks,XmAt K C W):IsAt K mg "ValueError" (qT ks):=⟨.ty "ValueError",.type "ValueError",rfl,.inr ⟨b,by decide +kernel⟩,fun u r=>r,fun C v e=>by
 unfold qT at e
 split at e
 ·rename_i hc
  cases e
  have x:=xs C (contains_iff_mem.mp hc)
  exact ⟨x.xi,zhg x⟩
 ·cases e⟩
theorem zE {nm q:Str} {N:Addr} {bs:List Value} {hdct:Bool} {sn:List Str} {sub:List Value} {ab:Bool} {col:Option Bool} {dd:Option Addr} {k0 k1 k2 k3 k5:Option Value} (a:PySem.W.nsIn K mainGlobals x = some (some (.ref D))) (b:PySem.W.nsIn K mainGlobals w = some (some (.ref W)))
 (l:K.lookup D = some (excClassObj nm q D N bs (.ref W :: zu) hdct sn sub ab col dd k0 k1 k2 k3 k5 "ValueError.__new__"))
 (ga:PySem.W.findIn K (.ref D) "__getattribute__" = some (some (.builtin "BaseException.__getattribute__"))) (gt:PySem.W.findIn K (.ref D) "__getattr__" = some none) (c:PySem.W.findIn K (.ref D) "__class__" = some (some (.builtin "object.__class__")))
 (n:PySem.W.specialIn K (.builtin "object.__class__") "__get__" = some (some (.builtin "getset_descriptor.__get__"))) (t:PySem.W.takesIn K (.builtin "object.__class__") = some true):XmAt K (zb K x) (zb K w):=by
 rw [zk a,zk b]
 refine ⟨ga,gt,c,n,t,?_,?_⟩
 ·unfold PySem.W.clsIn
  rw [l]
  rfl
 ·show (K.lookup D).map (·.cls) = _
  rw [l]
  rfl
theorem zhV {h:Heap} (X:K.In h) (G:h.Ns mainGlobals mg) {d2:Option Addr} {cdw:ClassData} {s2:Array (Option Value)} (b:PySem.W.nsIn K mainGlobals w = some (some (.ref W))) (l:K.lookup W = some ⟨.type "type",d2,.cls cdw,s2⟩) :
  mg w = some (.ref (zb K w))/\(PySem.W.clsIn K (zb K w)).isSome = true/\PySem.W.typeIn K (.ref (zb K w)) = some (.type "type"):=by
 rw [zk b]
 refine ⟨PySem.W.mg_of X G b,?_,?_⟩
 ·unfold PySem.W.clsIn
  rw [l]
  rfl
 ·show (K.lookup W).map (·.cls) = _
  rw [l]
  rfl
end
theorem zdw {P:Program} {w:World} {base:Heap} (O:XcF P w K mg base x C):mg x = some (.ref C):=let ⟨_,_,h,_⟩:=O.ex;h.bound
theorem qx (O:ExcAt K mg x C):mg x = some (.ref C):=O.bound
section
theorem qw (O:ExcAt X.K X.mg x C) (hg:Gl X x) (hex:X.ex = []) (ha:WA X XE [e] ga) (hd:(x == ("__debug__":Str)) = false:=by decide) (he:noStar e = true:=by rfl):WE X XE (.Call (.Name x np) [e] [] cpos) (zl (zD C) ga):=by
 have ha:=ha.pe
 exact ⟨
  PE.imp (zfE O hg hex ha hd (yD he)) fun σ H Q hh=>
   LN.mono (LN.bind (f:=fun _ σ M=>ga σ M) (k:=fun _ ts σ M1=>zD C ts M1) (RB:=Reps X.K) hh) fun vs H1 h9=>by
    obtain ⟨S,στ,a,e,m,ev,ra,fin⟩:=h9
    obtain ⟨u,ts⟩:=a
    have r:Reps X.K S ts vs:=ra.2
    replace fin:Fin XE (Rep X.K) X.K S (zD C ts S.M) Q:=fin
    unfold zD at fin
    split at fin
    ·rename_i hl
     subst e
     refine ⟨by rw [← r.1];exact hl,fun p hp=>?_⟩
     exact fin ⟨S.α,S.M,upd S.H p (.ext (ExO p C none)),S.hid⟩ _ rfl (Stp.new m hp _) (.exc (us:=[]) zh (.inl ⟨rfl,rfl⟩) rfl fun i t v z=>by simp at z)
    ·exact fin.elim⟩
theorem qY (O:XcF X.prog X.w X.K X.mg X.base x C) (hr:Room 2 X.A) (hg:Gl X x) (hex:X.ex = []) (ha:WA X XE [e] ga) (hd:(x == ("__debug__":Str)) = false:=by decide) (he:noStar e = true:=by rfl):WE X XE (.Call (.Name x np) [e] [] cpos) (zl (yP C) ga):=by
 have ha:=ha.pe
 refine ⟨?_⟩
 obtain ⟨f,fd,O1,Fo,hbd⟩:=O.ex
 exact PE.imp (zfD O1 Fo hbd hr hg hex ha hd (yD he)) fun σ H Q hh=>
  LN.mono (LN.bind (f:=fun _ σ M=>ga σ M) (k:=fun _ ts σ M1=>yP C ts M1) (RB:=Reps X.K) hh) fun vs H1 h9=>by
   obtain ⟨S,στ,a,e,m,ev,ra,fin⟩:=h9
   obtain ⟨u,ts⟩:=a
   have r:Reps X.K S ts vs:=ra.2
   replace fin:Fin XE (Rep X.K) X.K S (yP C ts S.M) Q:=fin
   unfold yP at fin
   split at fin
   ·rename_i t
    obtain ⟨w,vs1,rfl,r1,r2⟩:=r.consT
    have:=r2.nilT
    subst this
    refine ⟨w,rfl,fun p d hp hd ne=>?_⟩
    subst e
    have s1:=Stp.new m hd (.xd [("at",w)])
    have hp1:(upd S.H d (.xd [("at",w)])) p = none:=by rw [yc ne.symm];exact hp
    have s2:Stp X.K ⟨S.α,S.M,upd S.H d (.xd [("at",w)]),S.hid⟩ ⟨S.α,S.M,upd (upd S.H d (.xd [("at",w)])) p (.ext (ExO p C (some d))),S.hid⟩:=Stp.new s1.mok hp1 _
    refine fin ⟨S.α,S.M,upd (upd S.H d (.xd [("at",w)])) p (.ext (ExO p C (some d))),S.hid⟩ _ rfl (s1.trans s2) (.exc (us:=[("at",w)]) zh (.inr ⟨d,rfl,(yc ne).trans zh⟩) rfl ?_)
    exact (Reps.cons (r1.grow m (s1.trans s2).toGrow) .nil).2
   ·exact fin.elim
end
section
theorem zr (O:IsAt X.K X.mg y g) (hy:Gl X y) (hg:Gl X "isinstance") (hm:X.mg "isinstance" = none) (hb:bootBuiltins "isinstance" = some (.builtin "isinstance")) (h:WE X XE e f) (hn:y ≠ "__name__":=by decide) (hd:(y == ("__debug__":Str)) = false:=by decide) (he:starEach [e,.Name y p2] X.env = (false,eval e X.env) :: starEach [.Name y p2] X.env:=by rfl):WE X XE (.Call (.Name "isinstance" p) [e,.Name y p2] [] pos) (eUn (isX g) f):=by
 have h:=h.pe
 refine ⟨?_⟩
 obtain ⟨v,c,r,m,u,t⟩:=O.ex
 rcases m with m | ⟨m,m2⟩
 ·exact zdZ (zcG hy m r hd) u t hg hm hb h he
 ·exact zdZ (zcH hy m m2 r hn hd) u t hg hm hb h he
end
def Ok {β:Type} (o:Out β) (Q:β->Mem->Prop):Prop:=∃ b M,o = .ok b M/\Q b M
variable {M:Mem}
theorem Ok.ret {β:Type} {b:β} {Q:β->Mem->Prop} (h:Q b M):Ok (.ok b M) Q:=⟨b,M,rfl,h⟩
theorem Ok.of {β:Type} {o:Out β} {b:β} {Q:β->Mem->Prop} (e:o = .ok b M) (h:Q b M):Ok o Q:=⟨b,M,e,h⟩
theorem Ok.bind {β γ:Type} {o:Out β} {k:β->Mem->Out γ} {P:β->Mem->Prop} {Q:γ->Mem->Prop} (h:Ok o P) (g:∀ b M,P b M->Ok (k b M) Q):Ok (o.bind k) Q:=by
 obtain ⟨b,M,e,p⟩:=h
 rw [e]
 exact g b M p
theorem Ok.mono {β:Type} {o:Out β} {P Q:β->Mem->Prop} (h:Ok o P) (g:∀ b M,P b M->Q b M):Ok o Q:=by
 obtain ⟨b,M,e,p⟩:=h
 exact ⟨b,M,e,g b M p⟩
theorem ze2 {β γ δ:Type} {o:Out β} {k:β->Mem->Out γ} {l:γ->Mem->Out δ}:(o.bind k).bind l = o.bind fun b M=>(k b M).bind l:=by cases o <;> rfl
theorem zjh {β γ:Type} {p:Prop} [Decidable p] {x y:Out β} {k:β->Mem->Out γ}:(if p then x else y).bind k = if p then x.bind k else y.bind k:=by split <;> rfl
variable {t:T}
theorem zjg {β γ:Type} {k:Bool->Mem->Out β} {l:β->Mem->Out γ}:(blT t M k).bind l = blT t M fun b M=>(k b M).bind l:=by cases t <;> rfl
noncomputable def zbR (fl:Fl) (M:Mem):Out T:=match fl with
 | .rt t=>.ok t M
 | .nx _=>.ok .non M
 | _=>.bad
theorem zjn:zbR (.rt t) M = .ok t M:=rfl
variable {σ:Ev}
theorem zjo:zbR (.nx σ) M = .ok .non M:=rfl
variable {n:Nat}
theorem qD {p:Nat} {g:Ev->Mem->Out Fl} {ts:List T} {Q:T->Mem->Prop} (h:ts.length = p) (k:Ok ((g (startT n ts) M).bind zbR) Q):Ok (qg p n g ts M) Q:=by
 obtain ⟨b,M1,e,q⟩:=k
 refine ⟨b,M1,?_,q⟩
 rw [zdG h]
 cases r:g (startT n ts) M with
 | bad=>rw [r] at e;cases e
 | exn C fs M'=>rw [r] at e;cases e
 | ok fl M'=>
  rw [r] at e
  cases fl with
  | rt t=>exact e
  | nx σ=>exact e
  | bk σ=>cases e
  | ct σ=>cases e
def Fr (S:List Nat) (M M':Mem):Prop:=M.length<=M'.length/\∀ i,i < M.length->i ∉ S->M'[i]? = M[i]?
variable {A B:Mem}
theorem Fr.trans {S:List Nat} {C:Mem} (h:Fr S A B) (g:Fr S B C):Fr S A C:=⟨Qg h.1 g.1,fun i hi hs=>by rw [g.2 i (Q5 hi h.1) hs,h.2 i hi hs]⟩
variable {S':List Nat}
theorem Fr.tr {S:List Nat} {C:Mem} (h:Fr S A B) (g:Fr S' B C) (s:∀ i ∈ S',i ∈ S\/A.length<=i):Fr S A C:=⟨Qg h.1 g.1,fun i hi hs=>by
 rw [g.2 i (Q5 hi h.1) (fun z=>by rcases s i z with a | a;exact hs a;omega),h.2 i hi hs]⟩
variable {c:Cell} {M':Mem} {i:Nat}
theorem Fr.get {S:List Nat} (h:Fr S M M') (e:M[i]? = some c) (hs:i ∉ S):M'[i]? = some c:=by
 rw [h.2 i (List.getElem?_eq_some_iff.mp e).1 hs];exact e
theorem Fr.sub {S:List Nat} (h:Fr S M M') (s:∀ i ∈ S,i ∈ S'\/M.length<=i):Fr S' M M':=⟨h.1,fun i hi hs=>h.2 i hi fun z=>by
 rcases s i z with a | a
 ·exact hs a
 ·omega⟩
theorem Fr.set (M:Mem) (a:Nat) (c:Cell):Fr [a] M (M.set a c):=⟨by simp,fun i _ hs=>by rw [getElem?_set,if_neg (by simp at hs;omega)]⟩
theorem zhD (e:M[i]? = some c):i < M.length:=(List.getElem?_eq_some_iff.mp e).1
theorem zgh:(M ++ [c])[M.length]? = some c:=List.getElem?_concat_length
theorem get_set {a:Nat} {c':Cell} (e:M[a]? = some c):(M.set a c')[a]? = some c':=by
 rw [getElem?_set,if_pos rfl,if_pos (zhD e)]
theorem Ok.loop {bd:T->Ev->Mem->Out Ev} {body:Ev->Mem->Out Fl} {α:Type} {r:α->T} (P:Nat->Ev->Mem->Prop) {R:T->Mem->Prop}:∀ (xs:List α) (i:Nat) {σ:Ev} {M:Mem},
  P i σ M->(∀ (k:Nat) x σ M,xs[k]? = some x->P (i + k) σ M->Ok ((bd (r x) σ M).bind fun σ1 M1=>body σ1 M1) fun fl M'=>(∃ σ',(fl = .nx σ'\/fl = .ct σ')/\P (i + k + 1) σ' M')\/(∃ σ',fl = .bk σ'/\P (i + xs.length) σ' M')\/∃ t,fl = .rt t/\R t M')->
  Ok (forL bd body (xs.map r) σ M) fun fl M'=>(∃ σ',fl = .nx σ'/\P (i + xs.length) σ' M')\/∃ t,fl = .rt t/\R t M'
 | [],i,σ,M,h,_=>⟨.nx σ,M,rfl,.inl ⟨σ,rfl,h⟩⟩
 | x :: xs,i,σ,M,h,t=>by
  obtain ⟨fl,M1,e1,h1⟩:=t 0 x σ M rfl h
  rw [map_cons,zd1]
  cases q:bd (r x) σ M with
  | bad=>rw [q] at e1;cases e1
  | exn C fs M'=>rw [q] at e1;cases e1
  | ok σ3 M3=>
   rw [q] at e1
   replace e1:body σ3 M3 = .ok fl M1:=e1
   show Ok ((body σ3 M3).bind (yu (forL bd body (xs.map r)))) _
   rw [e1]
   have go:∀ σ1,P (i + 1) σ1 M1->Ok (forL bd body (xs.map r) σ1 M1) fun fl M'=>(∃ σ',fl = .nx σ'/\P (i + (x :: xs).length) σ' M')\/∃ t,fl = .rt t/\R t M':=fun σ1 h1=>by
    have ih:=Ok.loop (R:=R) P xs (i + 1) (bd:=bd) (body:=body) h1 (fun k y σ M hk hp=>by
     have:=t (k + 1) y σ M (by simpa using hk) (by rw [show i + (k + 1) = i + 1 + k by omega];exact hp)
     rw [show i + (k + 1) + 1 = i + 1 + k + 1 by omega,Qm,show i + (xs.length + 1) = i + 1 + xs.length by omega] at this
     exact this)
    rw [Qm,show i + (xs.length + 1) = i + 1 + xs.length by omega]
    exact ih
   rcases h1 with ⟨σ1,h1 | h1,h2⟩ | ⟨σ1,h1,h2⟩ | ⟨u,h1,h2⟩
   ·rw [h1];exact go σ1 h2
   ·rw [h1];exact go σ1 h2
   ·rw [h1];exact ⟨.nx σ1,M1,rfl,.inl ⟨σ1,rfl,h2⟩⟩
   ·rw [h1];exact ⟨.rt u,M1,rfl,.inr ⟨u,rfl,h2⟩⟩
variable {body:Ev->Mem->Out Fl} {bd:T->Ev->Mem->Out Ev}
theorem Ok.for {α:Type} {r:α->T} (P:Nat->Ev->Mem->Prop) {xs:List α} 
 (h:P 0 σ M) (t:∀ (k:Nat) x σ M,xs[k]? = some x->P k σ M->Ok ((bd (r x) σ M).bind fun σ1 M1=>body σ1 M1) fun fl M'=>∃ σ',fl = .nx σ'/\P (k + 1) σ' M') :
  Ok (forL bd body (xs.map r) σ M) fun fl M'=>∃ σ',fl = .nx σ'/\P xs.length σ' M':=by
 refine (Ok.loop (R:=fun _ _=>False) P xs 0 h (fun k x σ M hk hp=>?_)).mono ?_
 ·rw [Nat.zero_add] at hp
  refine (t k x σ M hk hp).mono ?_
  rintro fl M' ⟨σ',e,q⟩
  exact .inl ⟨σ',.inl e,by rw [Nat.zero_add];exact q⟩
 ·rintro fl M' (⟨σ',e,q⟩ | ⟨t,_,f⟩)
  ·exact ⟨σ',e,by rw [Nat.zero_add] at q;exact q⟩
  ·exact f.elim
theorem Ok.comp {bd:T->Ev->Mem->Out Ev} {cond:Ev->Mem->Out Bool} {el:Ev->Mem->Out T} {α:Type} {r:α->T} (P:Nat->List T->Ev->Mem->Prop):∀ (xs:List α) {σ:Ev} {M:Mem} (i:Nat) (acc:List T),
  P i acc σ M->acc.length + xs.length<=sizeLine->(∀ (k:Nat) x σ M acc,xs[k]? = some x->P (i + k) acc σ M->Ok ((bd (r x) σ M).bind fun σ1 M1=>(cond σ1 M1).bind fun b M2=>if b = true then (el σ1 M2).bind fun t M3=>.ok (some t,σ1) M3 else .ok (none,σ1) M2) fun o M'=>P (i + k + 1) (match o.1 with | some t=>acc ++ [t] | none=>acc) o.2 M')->
  Ok (qh bd cond el (xs.map r) σ M acc) fun ts M'=>∃ σ',P (i + xs.length) ts σ' M'
 | [],σ,M,i,acc,h,_,_=>⟨acc,M,by simp [qh],σ,h⟩
 | x :: xs,σ,M,i,acc,h,hl,t=>by
  obtain ⟨o,M1,e1,h1⟩:=t 0 x σ M acc rfl h
  rw [Qm] at hl
  rw [map_cons]
  unfold qh
  have go:∀ acc σ1 M1,acc.length + xs.length<=sizeLine->P (i + 1) acc σ1 M1->Ok (qh bd cond el (xs.map r) σ1 M1 acc) fun ts M'=>∃ σ',P (i + (x :: xs).length) ts σ' M':=fun acc σ1 M1 hl h1=>by
   have ih:=Ok.comp P xs (i + 1) acc (bd:=bd) (cond:=cond) (el:=el) h1 hl (fun k y σ M acc hk hp=>by
    have:=t (k + 1) y σ M acc (by simpa using hk) (by rw [show i + (k + 1) = i + 1 + k by omega];exact hp)
    rw [show i + (k + 1) + 1 = i + 1 + k + 1 by omega] at this
    exact this)
   rw [Qm,show i + (xs.length + 1) = i + 1 + xs.length by omega]
   exact ih
  cases q:bd (r x) σ M with
  | bad=>rw [q] at e1;cases e1
  | exn C fs M'=>rw [q] at e1;cases e1
  | ok σ3 M3=>
   rw [q] at e1
   replace e1:((cond σ3 M3).bind fun b M2=>if b = true then (el σ3 M2).bind fun t M3=>.ok (some t,σ3) M3 else .ok (none,σ3) M2) = .ok o M1:=e1
   show Ok ((cond σ3 M3).bind _) _
   cases q2:cond σ3 M3 with
   | bad=>rw [q2] at e1;cases e1
   | exn C fs M'=>rw [q2] at e1;cases e1
   | ok b M4=>
    rw [q2] at e1
    cases b with
    | false=>
     replace e1:(Out.ok (none,σ3) M4:Out (Option T × Ev)) = .ok o M1:=e1
     cases e1
     exact go acc σ3 _ (by omega) h1
    | true=>
     replace e1:((el σ3 M4).bind fun t M3=>.ok (some t,σ3) M3) = .ok o M1:=e1
     show Ok ((el σ3 M4).bind _) _
     cases q3:el σ3 M4 with
     | bad=>rw [q3] at e1;cases e1
     | exn C fs M'=>rw [q3] at e1;cases e1
     | ok u M5=>
      rw [q3] at e1
      replace e1:(Out.ok (some u,σ3) M5:Out (Option T × Ev)) = .ok o M1:=e1
      cases e1
      show Ok (if acc.length < sizeLine then _ else _) _
      rw [if_pos (by omega)]
      exact go (acc ++ [u]) σ3 _ (by rw [Qk,Qm,length_nil];omega) h1
theorem Ok.whileN {c:Ev->Mem->Out Bool} {body:Ev->Mem->Out Fl} (P:Ev->Mem->Prop) (μ:Ev->Mem->Nat) {Q:Ev->Mem->Prop} {R:T->Mem->Prop}
  (t:∀ σ M,P σ M->Ok (c σ M) fun b M1=>(b = true/\Ok (body σ M1) fun fl M2=>(∃ σ',(fl = .nx σ'\/fl = .ct σ')/\P σ' M2/\μ σ' M2 < μ σ M)\/(∃ σ',fl = .bk σ'/\Q σ' M2)\/∃ t,fl = .rt t/\R t M2)\/(b = false/\Q σ M1)) :
  ∀ (n:Nat) (σ:Ev) (M:Mem),μ σ M < n->P σ M->Ok (whileN c body n σ M) fun fl M'=>(∃ σ',fl = .nx σ'/\Q σ' M')\/∃ t,fl = .rt t/\R t M'
 | 0,_,_,hn,_=>absurd hn (by omega)
 | n + 1,σ,M,hn,h=>by
  obtain ⟨b,M1,e,r⟩:=t σ M h
  unfold FT.whileN
  rw [e]
  rcases r with ⟨rfl,fl,M2,e2,r⟩ | ⟨rfl,q⟩
  ·show Ok ((body σ M1).bind _) _
   rw [e2]
   rcases r with ⟨σ1,h1 | h1,h2,h3⟩ | ⟨σ1,h1,h2⟩ | ⟨u,h1,h2⟩
   ·rw [h1];exact Ok.whileN P μ t n σ1 M2 (by omega) h2
   ·rw [h1];exact Ok.whileN P μ t n σ1 M2 (by omega) h2
   ·rw [h1];exact ⟨.nx σ1,M2,rfl,.inl ⟨σ1,rfl,h2⟩⟩
   ·rw [h1];exact ⟨.rt u,M2,rfl,.inr ⟨u,rfl,h2⟩⟩
  ·exact ⟨.nx σ,M1,rfl,.inl ⟨σ,rfl,q⟩⟩
theorem Ok.while {c:Ev->Mem->Out Bool} (P:Ev->Mem->Prop) (μ:Ev->Mem->Nat) {Q:Ev->Mem->Prop} {R:T->Mem->Prop} (h:P σ M)
 (t:∀ σ M,P σ M->Ok (c σ M) fun b M1=>(b = true/\Ok (body σ M1) fun fl M2=>(∃ σ',(fl = .nx σ'\/fl = .ct σ')/\P σ' M2/\μ σ' M2 < μ σ M)\/(∃ σ',fl = .bk σ'/\Q σ' M2)\/∃ t,fl = .rt t/\R t M2)\/(b = false/\Q σ M1)) :
  Ok (zbP c body σ M) fun fl M'=>(∃ σ',fl = .nx σ'/\Q σ' M')\/∃ t,fl = .rt t/\R t M':=by
 obtain ⟨fl,M',e,r⟩:=Ok.whileN P μ t (μ σ M + 1) σ M (by omega) h
 exact ⟨fl,M',zdF _ e (by simp),r⟩
noncomputable def rgI (n:Nat):List Int:=(List.range n).map fun (k:Nat)=>(k:Int)
theorem zaj (n:Nat):(rgI n).length = n:=by simp [rgI]
theorem zfs {k:Nat} {x:Int} (h:(rgI n)[k]? = some x):k < n/\x = k:=by
 unfold rgI at h
 rw [Qa] at h
 cases q:(List.range n)[k]? with
 | none=>rw [q] at h;cases h
 | some j=>
  rw [q] at h
  have hk:k < n:=by have:=(List.getElem?_eq_some_iff.mp q).1;simpa using this
  rw [List.getElem?_range hk] at q
  cases q
  exact ⟨hk,(Qb h).symm⟩
theorem zeq (n:Nat):zac 0 n = (rgI n).map .int:=by
 unfold zac rgI
 rw [List.map_map]
 congr 1
 funext k
 simp
theorem zaY {j:Int} (h:-(2 ^ 62)<=j/\j < 2 ^ 62):zaZ [.int j] M = .ok ((rgI j.toNat).map .int) M:=by rw [zgD h,zeq]
variable {el:Ev->Mem->Out T}
theorem Ok.filt {cond:Ev->Mem->Out Bool} {α:Type} {r:α->T} (I:Ev->Prop) (c:α->Bool) (f:α->T) {xs:List α} (h:I σ) (hl:xs.length<=1000000)
 (t:∀ x σ,x ∈ xs->I σ->∃ σ1,bd (r x) σ M = .ok σ1 M/\I σ1/\cond σ1 M = .ok (c x) M/\(c x = true->el σ1 M = .ok (f x) M)):qh bd cond el (xs.map r) σ M [] = .ok ((xs.filter c).map f) M:=by
 have key:∀ (xs:List α) (σ:Ev) (acc:List T),(∀ x σ,x ∈ xs->I σ->∃ σ1,bd (r x) σ M = .ok σ1 M/\I σ1/\cond σ1 M = .ok (c x) M/\(c x = true->el σ1 M = .ok (f x) M))->I σ->acc.length + xs.length<=sizeLine->qh bd cond el (xs.map r) σ M acc = .ok (acc ++ (xs.filter c).map f) M:=by
  intro xs
  induction xs with
  | nil=>intro σ acc _ _ _;simp [qh]
  | cons x xs ih=>
   intro σ acc t h hl
   obtain ⟨σ1,e1,h1,e2,e3⟩:=t x σ (.head _) h
   rw [Qm] at hl
   rw [map_cons]
   unfold qh
   rw [e1]
   show ((cond σ1 M).bind _) = _
   rw [e2]
   cases hc:c x with
   | true=>
    have ih:=ih σ1 (acc ++ [f x]) (fun y σ hy=>t y σ (.tail _ hy)) h1 (by rw [Qk,Qm,length_nil];omega)
    show ((el σ1 M).bind _) = _
    rw [e3 hc]
    show (if acc.length < sizeLine then qh bd cond el (xs.map r) σ1 M (acc ++ [f x]) else .bad) = _
    rw [if_pos (by omega),ih,List.filter_cons_of_pos hc]
    simp
   | false=>
    have ih:=ih σ1 acc (fun y σ hy=>t y σ (.tail _ hy)) h1 (by omega)
    show qh bd cond el (xs.map r) σ1 M acc = _
    rw [ih,List.filter_cons_of_neg (by rw [hc];exact Q4)]
 have:=key xs σ [] t h (by rw [length_nil,Nat.zero_add];exact Qg hl (by decide))
 rw [this,nil_append]
theorem Ok.mapc {α:Type} {r:α->T} (I:Ev->Prop) (f:α->T) {xs:List α} (h:I σ) (hl:xs.length<=1000000)
 (t:∀ x σ,x ∈ xs->I σ->∃ σ1,bd (r x) σ M = .ok σ1 M/\I σ1/\el σ1 M = .ok (f x) M):qh bd zZ el (xs.map r) σ M [] = .ok (xs.map f) M:=by
 have:=Ok.filt (cond:=zZ) I (fun _=>true) f h hl (fun x σ hx hs=>by
  obtain ⟨σ1,a,b,c⟩:=t x σ hx hs
  exact ⟨σ1,a,b,rfl,fun _=>c⟩)
 rw [this,List.filter_eq_self.mpr (fun _ _=>rfl)]
theorem Ok.loopG {G:Gd} {bd:T->Ev->Mem->Out Ev} {body:Ev->Mem->Out Fl} {α:Type} {r:α->T} (P:Nat->Ev->Mem->Prop) {R:T->Mem->Prop} (hG:∀ i σ M,P i σ M->zdk G M):∀ (xs:List α) (i:Nat) {σ:Ev} {M:Mem},
  P i σ M->(∀ (k:Nat) x σ M,xs[k]? = some x->P (i + k) σ M->Ok ((bd (r x) σ M).bind fun σ1 M1=>body σ1 M1) fun fl M'=>(∃ σ',(fl = .nx σ'\/fl = .ct σ')/\P (i + k + 1) σ' M')\/(∃ σ',fl = .bk σ'/\P (i + xs.length) σ' M')\/∃ t,fl = .rt t/\R t M')->
  Ok (za6 G bd body (xs.map r) σ M) fun fl M'=>(∃ σ',fl = .nx σ'/\P (i + xs.length) σ' M')\/∃ t,fl = .rt t/\R t M'
 | [],i,σ,M,h,_=>⟨.nx σ,M,by rw [map_nil];unfold za6;exact zd0 (hG _ _ _ h),.inl ⟨σ,rfl,h⟩⟩
 | x :: xs,i,σ,M,h,t=>by
  obtain ⟨fl,M1,e1,h1⟩:=t 0 x σ M rfl h
  rw [map_cons]
  unfold za6
  rw [zd0 (hG _ _ _ h)]
  cases q:bd (r x) σ M with
  | bad=>rw [q] at e1;cases e1
  | exn C fs M'=>rw [q] at e1;cases e1
  | ok σ3 M3=>
   rw [q] at e1
   replace e1:body σ3 M3 = .ok fl M1:=e1
   show Ok ((body σ3 M3).bind (yu (za6 G bd body (xs.map r)))) _
   rw [e1]
   have go:∀ σ1,P (i + 1) σ1 M1->Ok (za6 G bd body (xs.map r) σ1 M1) fun fl M'=>(∃ σ',fl = .nx σ'/\P (i + (x :: xs).length) σ' M')\/∃ t,fl = .rt t/\R t M':=fun σ1 h1=>by
    have ih:=Ok.loopG (R:=R) P hG xs (i + 1) (bd:=bd) (body:=body) h1 (fun k y σ M hk hp=>by
     have:=t (k + 1) y σ M (by simpa using hk) (by rw [show i + (k + 1) = i + 1 + k by omega];exact hp)
     rw [show i + (k + 1) + 1 = i + 1 + k + 1 by omega,Qm,show i + (xs.length + 1) = i + 1 + xs.length by omega] at this
     exact this)
    rw [Qm,show i + (xs.length + 1) = i + 1 + xs.length by omega]
    exact ih
   rcases h1 with ⟨σ1,h1 | h1,h2⟩ | ⟨σ1,h1,h2⟩ | ⟨u,h1,h2⟩
   ·rw [h1];exact go σ1 h2
   ·rw [h1];exact go σ1 h2
   ·rw [h1];exact ⟨.nx σ1,M1,rfl,.inl ⟨σ1,rfl,h2⟩⟩
   ·rw [h1];exact ⟨.rt u,M1,rfl,.inr ⟨u,rfl,h2⟩⟩
def OkX {β:Type} (o:Out β) (Q:β->Mem->Prop) (E:Addr->List (Str × T)->Mem->Prop):Prop:=match o with
 | .ok b M=>Q b M
 | .exn C fs M=>E C fs M
 | .bad=>False
variable {E:Addr->List (Str × T)->Mem->Prop}
theorem OkX.ok {β:Type} {o:Out β} {Q:β->Mem->Prop} (h:Ok o Q):OkX o Q E:=by
 obtain ⟨b,M,rfl,q⟩:=h
 exact q
theorem OkX.bind {β γ:Type} {o:Out β} {k:β->Mem->Out γ} {P:β->Mem->Prop} {Q:γ->Mem->Prop} (h:OkX o P E) (g:∀ b M,P b M->OkX (k b M) Q E):OkX (o.bind k) Q E:=by
 cases o with
 | ok b M=>exact g b M h
 | exn C fs M=>exact h
 | bad=>exact h.elim
end FT
namespace My
open PySem L2 FT
noncomputable def top (i:Nat):Stmt:=PySem.Challenge.pw_tryweir_k01_words_and_refusals.main.body.getD i (.Pass ⟨0,0,0,0⟩)
noncomputable abbrev zaX:Stmt:=inClass (top 16) 0
noncomputable abbrev zbr:Stmt:=inClass (top 15) 0
noncomputable abbrev zaw:Stmt:=top 18
noncomputable abbrev zax:Stmt:=top 19
noncomputable abbrev zav:Stmt:=top 22
noncomputable abbrev y0:Stmt:=top 20
noncomputable abbrev y1:Stmt:=top 3
noncomputable abbrev zay:Stmt:=top 24
noncomputable abbrev y9:Stmt:=top 25
noncomputable abbrev zaa:Stmt:=top 26
noncomputable abbrev zab:Stmt:=top 2
noncomputable abbrev zU:Stmt:=top 23
noncomputable abbrev z9:Stmt:=top 21
noncomputable abbrev zc7:Stmt:=top 27
structure Txt (mg:Str->Option Value):Prop where
 n_max:mg "max" = none
 n_range:mg "range" = none
 n_len:mg "len" = none
 n_int:mg "int" = none
 n_isinstance:mg "isinstance" = none
 n_bool:mg "bool" = none
 n_str:mg "str" = none
 n_all:mg "all" = none
 n_abs:mg "abs" = none
 c_MOST_LETTERS:∃ t,mg "MOST_LETTERS" = some (.int 8 t)
theorem boot_max:bootBuiltins "max" = some (.builtin "max"):=by decide +kernel
theorem boot_range:bootBuiltins "range" = some (.type "range"):=by decide +kernel
theorem boot_len:bootBuiltins "len" = some (.builtin "len"):=by decide +kernel
theorem boot_int:bootBuiltins "int" = some (.type "int"):=by decide +kernel
theorem boot_isinstance:bootBuiltins "isinstance" = some (.builtin "isinstance"):=by decide +kernel
theorem boot_bool:bootBuiltins "bool" = some (.type "bool"):=by decide +kernel
theorem boot_str:bootBuiltins "str" = some (.type "str"):=by decide +kernel
theorem boot_all:bootBuiltins "all" = some (.builtin "all"):=by decide +kernel
theorem boot_abs:bootBuiltins "abs" = some (.builtin "abs"):=by decide +kernel
end My
theorem FT.nc_l {k:PySem.NameKind} {P:Prop} (e:(k == .cell || k == .free) = false) (h:k = .cell\/k = .free):P:=by
 rcases h with rfl | rfl
 ·exact absurd e (by decide)
 ·exact absurd e (by decide)
open PySem L2 FT in
local macro_rules | `(tactic| bv_omega) => `(tactic| exact ⟨rfl, rfl, by decide +kernel, rfl, by decide +kernel, by first | exact (fun _ _ h => h) | exact zb2 (by repeat (first | exact True.intro | refine ⟨rfl, ?_⟩)), fun _ => zhq (by repeat (first | exact True.intro | (refine ⟨?_, ?_⟩; first | exact (fun _ => ⟨_, rfl⟩) | exact nc_l rfl | exact (fun h => h.elim (fun h => nomatch h) (fun h => nomatch h))))), by repeat (first | exact List.forall_mem_nil _ | refine List.forall_mem_cons.mpr ⟨⟨rfl, rfl, by first | exact .inl rfl | exact .inr rfl⟩, ?_⟩)⟩)
namespace My
open PySem L2 FT
noncomputable def zb6:Ev->Mem->Out Fl:=
 (zo (eTk (qr (qa (ze (call2 zdd) (qa (eC (.int 0)) (qa (eOp y8 (zc 0) (eOp za1 (eC (.int 10)) (eC (.int 18)))) zd))) (qa (eOp z3 (zc 0) (eOp za1 (eC (.int 10)) (eC (.int 18)))) (qa (eC (.int 0)) zd))))))
noncomputable def zQ:List FT.T->Mem->Out FT.T:=qg 1 1 (zb6)
variable {K:Frag} {base:Heap} {P:Program} {mg:Str->Option Value} {w:World}
section
theorem zdD:FnScope ["cell"] ["cell"] (qc zaw):=by ac_rfl
theorem yR (D:Df K mg "_law_pool" zaw ["cell"]) (T:Txt mg)   :CalT P w K mg base 1 "_law_pool" ["cell"] zQ:=
 qv D zdD rfl rfl (fun f cdv A outer s H E hr=>(qd (yf (zgt (yi (za (ql (zea rfl) rfl T.n_max boot_max (za qb (za (ye zM (ya (pv 0)) (ye zak qb qb)) yb))) (za (ye yM (ya (pv 0)) (ye zak qb qb)) (za qb yb))))))))
end
noncomputable def zb7:Ev->Mem->Out Fl:=
 (zi (sIf (zm (eOp gtI (eOp ixT (zc 0) (eC (.int 0))) (eC (.int 0)))) (zi (zx 2 (eOp z3 (eOp ixT (zc 0) (eC (.int 0))) (zc 1)))
 (zi (zc8 (eOp za7 (eOp ixT (zc 0) (eC (.int 0))) (zc 1)) (zdr zbM (zc 0) (eC (.int 0))))
 (zo (zc 2)))) qC)
 (zi (zc8 (eOp yw (eOp ixT (zc 0) (eC (.int 2))) (eC (.int 1))) (zdr zbM (zc 0) (eC (.int 2))))
 (zi (zx 3 (eOp z3 (eOp yw (eOp ixT (zc 0) (eC (.int 1))) (eOp zP (eC (.int 7919)) (eOp ixT (zc 0) (eC (.int 2))))) (eC (.int 1000000007))))
 (zi (zx 4 (eOp z3 (eOp zP (eOp yw (zc 3) (eC (.int 11))) (eOp yw (zc 3) (eC (.int 48271)))) (eC (.int 998244353))))
 (zo (eOp z3 (eOp za7 (eOp z3 (eOp zP (zc 4) (zc 4)) (eC (.int 2147483647))) (eC (.int 8))) (zc 1)))))))
noncomputable def yh:List FT.T->Mem->Out FT.T:=qg 2 5 (zb7)
section
theorem yS:FnScope ["pool","base","digit","mixed","stir"] ["pool","base"] (qc zax):=by ac_rfl
theorem yg (D:Df K mg "_law_next" zax ["pool","base"]) (T:Txt mg)   :CalT P w K mg base 1 "_law_next" ["pool","base"] yh:=
 qv D yS rfl rfl (fun f cdv A outer s H E hr=>(yd (qu (yp zg6 (yv qK (ya (pv 0)) qb (fun _ _=>rfl)) qb (yo _)) (yd (zj (i:=2) yS.nd rfl (Or.inl rfl) (ye yM (yv qK (ya (pv 0)) qb (fun _ _=>rfl)) (ya (pv 1))))
  (yd (zcv (ye zcI (yv qK (ya (pv 0)) qb (fun _ _=>rfl)) (ya (pv 1))) (zcy (ya (pv 0)) qb zfc))
  (qd (yf (ya (pv 2)))))) ym)
  (yd (zcv (ye yy (yv qK (ya (pv 0)) qb (fun _ _=>rfl)) qb) (zcy (ya (pv 0)) qb zfc))
  (yd (zj (i:=3) yS.nd rfl (Or.inl rfl) (ye yM (ye yy (yv qK (ya (pv 0)) qb (fun _ _=>rfl)) (ye za3 qb (yv qK (ya (pv 0)) qb (fun _ _=>rfl)))) qb))
  (yd (zj (i:=4) yS.nd rfl (Or.inl rfl) (ye yM (ye za3 (ye yy (ya (pv 3)) qb) (ye yy (ya (pv 3)) qb)) qb))
  (qd (yf (ye yM (ye zcI (ye yM (ye za3 (ya (pv 4)) (ya (pv 4))) qb) qb) (ya (pv 1))))))))))
end
noncomputable def zb5:Ev->Mem->Out Fl:=
 (zi (zx 1 (eC (.str "abcdefghijklmnopqrstuvwxyz")))
 (zi (zx 2 (zaO isStr zam (eC (.str "")) (qa (eFz (z4 (yX (qa (ze yh (qa (zc 0) (qa (eC (.int 11)) zd))) zd)) (zC 0) zZ (eOp ixS (zc 1) (ze yh (qa (zc 2) (qa (eC (.int 26)) zd)))) ["k"] [("letters",1),("pool",0)])) zd)))
 (zi (zx 2 (eOp za5 (zc 2) (eOp ixT (eFz (qr (qa (eC (.int 1)) (qa (eC (.int 1)) (qa (eC (.int 1)) (qa (eC (.int 1)) (qa (eC (.int 1)) (qa (eC (.int 1)) (qa (eC (.int 2)) (qa (eC (.int 10)) zd)))))))))) (ze yh (qa (zc 0) (qa (eC (.int 8)) zd))))))
 (zi (zx 3 (eOp ixT (eFz (qr (qa (eC (.str "")) (qa (eC (.str "A")) (qa (eC (.str "1")) (qa (eC (.str " ")) (qa (eC (.str "_")) (qa (eC (.str "Z")) (qa (eC (.str "{")) (qa (eC (.str "-")) (qa (eC (.str "~")) (qa (eC (.str "z")) zd)))))))))))) (ze yh (qa (zc 0) (qa (eC (.int 10)) zd)))))
 (zi (zx 4 (ze yh (qa (zc 0) (qa (eOp yw (ze (qB y3) (qa (zc 2) zd)) (eC (.int 1))) zd))))
 (zi (sIf (zm (eOp eqA (ze yh (qa (zc 0) (qa (eC (.int 2)) zd))) (eC (.int 0)))) (zx 2 (eOp yw (eOp yw (zcc (zc 2) zbv (zbu (zc 4))) (zc 3)) (zcc (zc 2) (zbu (zc 4)) zbv))) qC)
 (zo (zc 2))))))))
noncomputable def z5:List FT.T->Mem->Out FT.T:=qg 1 5 (zb5)
section
theorem yz:FnScope ["pool","letters","text","odd","at"] ["pool"] (qc zav):=by ac_rfl
theorem zR (D:Df K mg "_law_text" zav ["pool"]) (T:Txt mg)   (yg:CalT P w K mg base 1 "_law_next" ["pool","base"] yh):CalT P w K mg base 2 "_law_text" ["pool"] z5:=
 qv D yz rfl rfl (fun f cdv A outer s H E hr=>(yd (zj (i:=1) yz.nd rfl (Or.inr rfl) zf)
  (yd (zj (i:=2) yz.nd rfl (Or.inl rfl) (zem ty_str (zib PySem.F.plainAttrs_str PySem.F.slot_str_join PySem.F.type_str_join zeE (WE.pe zf) (WA.pe (za (yk (zY (tgs:=["k"]) (caps:=[("letters",1),("pool",0)]) (yY rfl T.n_range (za (qe yg (hr.mono (by decide)) rfl (za (ya (pv 0)) (za qb yb))) yb)) (by bv_omega) (fun _ _ _=>(yC (zH (i:=0) (show (["k","letters","pool"]:List Str).Nodup by decide +kernel) rfl (by first | exact Or.inl rfl | exact Or.inr rfl)))) (fun _ _ _=>zat) (fun _ _ _=>(yv zi9 (ya (pv 1)) (qe yg (hr.mono (by decide)) rfl (za (ya (pv 2)) (za qb yb))) (fun _ _=>rfl))))) yb)))))
  (yd (zj (i:=2) yz.nd rfl (Or.inl rfl) (ye zfM (ya (pv 2)) (yv qK (yk (yi (za qb (za qb (za qb (za qb (za qb (za qb (za qb (za qb yb)))))))))) (qe yg (hr.mono (by decide)) rfl (za (ya (pv 0)) (za qb yb))) (fun _ _=>rfl))))
  (yd (zj (i:=3) yz.nd rfl (Or.inl rfl) (yv qK (yk (yi (za zf (za zf (za zf (za zf (za zf (za zf (za zf (za zf (za zf (za zf yb)))))))))))) (qe yg (hr.mono (by decide)) rfl (za (ya (pv 0)) (za qb yb))) (fun _ _=>rfl)))
  (yd (zj (i:=4) yz.nd rfl (Or.inl rfl) (qe yg (hr.mono (by decide)) rfl (za (ya (pv 0)) (za (ye yy (ql zah rfl T.n_len boot_len (za (ya (pv 2)) yb)) qb) yb))))
  (yd (qu (yp (qW hr.units) (qe yg (hr.mono (by decide)) rfl (za (ya (pv 0)) (za qb yb))) qb (yo _)) (qd (zj (i:=2) yz.nd rfl (Or.inl rfl) (ye yy (ye yy (zcA (ya (pv 2)) zbD (zbC (ya (pv 4)))) (ya (pv 3))) (zcA (ya (pv 2)) (zbC (ya (pv 4))) zbD)))) ym)
  (qd (yf (ya (pv 2)))))))))))
end
noncomputable def zaK:Ev->Mem->Out Fl:=
 (zi (zx 1 (ze yh (qa (zc 0) (qa (eC (.int 8)) zd))))
 (zi (sIf (zm (eOp ltI (zc 1) (eC (.int 5)))) (zo (eOp y8 (ze yh (qa (zc 0) (qa (eC (.int 21)) zd))) (eC (.int 10)))) qC)
 (zi (sIf (zm (eOp eqA (zc 1) (eC (.int 5)))) (zo (eOp y8 (ze yh (qa (zc 0) (qa (eC (.int 2000001)) zd))) (eC (.int 1000000)))) qC)
 (zo (eOp y8 (ze yh (qa (zc 0) (qa (eOp za1 (eC (.int 10)) (eC (.int 30))) zd))) (ze yh (qa (zc 0) (qa (eOp za1 (eC (.int 10)) (eC (.int 30))) zd))))))))
noncomputable def yL:List FT.T->Mem->Out FT.T:=qg 1 2 (zaK)
section
theorem zar:FnScope ["pool","way"] ["pool"] (qc y0):=by ac_rfl
theorem zF (D:Df K mg "_law_number" y0 ["pool"]) (T:Txt mg)   (yg:CalT P w K mg base 1 "_law_next" ["pool","base"] yh):CalT P w K mg base 2 "_law_number" ["pool"] yL:=
 qv D zar rfl rfl (fun f cdv A outer s H E hr=>(yd (zj (i:=1) zar.nd rfl (Or.inl rfl) (qe yg (hr.mono (by decide)) rfl (za (ya (pv 0)) (za qb yb))))
  (yd (qu (yp zbY (ya (pv 1)) qb (yo _)) (qd (yf (ye zM (qe yg (hr.mono (by decide)) rfl (za (ya (pv 0)) (za qb yb))) qb))) ym)
  (yd (qu (yp (qW hr.units) (ya (pv 1)) qb (yo _)) (qd (yf (ye zM (qe yg (hr.mono (by decide)) rfl (za (ya (pv 0)) (za qb yb))) qb))) ym)
  (qd (yf (ye zM (qe yg (hr.mono (by decide)) rfl (za (ya (pv 0)) (za (ye zak qb qb) yb))) (qe yg (hr.mono (by decide)) rfl (za (ya (pv 0)) (za (ye zak qb qb) yb))))))))))
end
noncomputable def zaL:Ev->Mem->Out Fl:=
 (zo (zcd (ze (call2 qp) (qa (zc 0) (qa (eC (.ty "int")) zd))) (zdl (ze (call2 qp) (qa (zc 0) (qa (eC (.ty "bool")) zd))))))
noncomputable def qk:List FT.T->Mem->Out FT.T:=qg 1 1 (zaL)
section
theorem zcs:FnScope ["thing"] ["thing"] (qc y1):=by ac_rfl
theorem zy (D:Df K mg "is_whole" y1 ["thing"]) (T:Txt mg)   :CalT P w K mg base 1 "is_whole" ["thing"] qk:=
 qv D zcs rfl rfl (fun f cdv A outer s H E hr=>(qd (yf (zaV (ql zw rfl T.n_isinstance boot_isinstance (za (ya (pv 0)) (za (zG rfl T.n_int boot_int) yb))) (zaU (zcB (ql zw rfl T.n_isinstance boot_isinstance (za (ya (pv 0)) (za (zG rfl T.n_bool boot_bool) yb)))))))))
end
noncomputable def zb8 (k_NoRatio k_NoHouse k_NoAsk k_NoPurse k_TooMany k_NoText k_NoRow k_NoNet k_NoPast k_NoDeed kN:Addr):Ev->Mem->Out Fl:=
 (zi (sIf (zm (eOp ltI (zc 0) (eC (.int 4)))) (zo (eOp ixT (eFz (qr (qa (zl (zD k_NoRatio) (qa (eC (.str "x")) zd)) (qa (zl (zD k_NoHouse) (qa (eC (.str "x")) zd)) (qa (zl (zD k_NoAsk) (qa (eC (.str "x")) zd)) (qa (zl (zD k_NoPurse) (qa (eC (.str "x")) zd)) zd)))))) (zc 0))) qC)
 (zi (sIf (zm (eOp ltI (zc 0) (eC (.int 9)))) (zo (eOp ixT (eFz (qr (qa (zl (zD k_TooMany) (qa (eC (.str "x")) zd)) (qa (zl (zD k_NoText) (qa (eC (.str "x")) zd)) (qa (zl (zD k_NoRow) (qa (eC (.str "x")) zd)) (qa (zl (zD k_NoNet) (qa (eC (.str "x")) zd)) (qa (zl (zD k_NoPast) (qa (eC (.str "x")) zd)) zd))))))) (eOp y8 (zc 0) (eC (.int 4))))) qC)
 (zo (eOp ixT (eFz (qr (qa (zl (yP k_NoDeed) (qa (zc 1) zd)) (qa (zl (yP kN) (qa (zc 1) zd)) zd)))) (eOp y8 (zc 0) (eC (.int 9)))))))
noncomputable def yQ (k_NoRatio k_NoHouse k_NoAsk k_NoPurse k_TooMany k_NoText k_NoRow k_NoNet k_NoPast k_NoDeed kN:Addr):List FT.T->Mem->Out FT.T:=qg 2 2 (zb8 k_NoRatio k_NoHouse k_NoAsk k_NoPurse k_TooMany k_NoText k_NoRow k_NoNet k_NoPast k_NoDeed kN)
variable {k_NoAsk k_NoDeed kN k_NoHouse k_NoNet k_NoPast k_NoPurse k_NoRatio k_NoRow k_NoText k_TooMany:Addr}
section
theorem zdE:FnScope ["k","number"] ["k","number"] (qc zay):=by ac_rfl
theorem qR (D:Df K mg "_law_made" zay ["k","number"]) (T:Txt mg) (x_NoDeed:XcF P w K mg base "NoDeed" k_NoDeed) (x_NoEvent:XcF P w K mg base "NoEvent" kN) (x_NoRatio:ExcAt K mg "NoRatio" k_NoRatio) (x_NoHouse:ExcAt K mg "NoHouse" k_NoHouse) (x_NoAsk:ExcAt K mg "NoAsk" k_NoAsk) (x_NoPurse:ExcAt K mg "NoPurse" k_NoPurse) (x_TooMany:ExcAt K mg "TooMany" k_TooMany) (x_NoText:ExcAt K mg "NoText" k_NoText) (x_NoRow:ExcAt K mg "NoRow" k_NoRow) (x_NoNet:ExcAt K mg "NoNet" k_NoNet) (x_NoPast:ExcAt K mg "NoPast" k_NoPast)  :CalT P w K mg base 3 "_law_made" ["k","number"] (yQ k_NoRatio k_NoHouse k_NoAsk k_NoPurse k_TooMany k_NoText k_NoRow k_NoNet k_NoPast k_NoDeed kN):=
 qv D zdE rfl rfl (fun f cdv A outer s H E hr=>(yd (qu (yp zbY (ya (pv 0)) qb (yo _)) (qd (yf (yv qK (yk (yi (za (qw x_NoRatio rfl rfl (za zf yb)) (za (qw x_NoHouse rfl rfl (za zf yb)) (za (qw x_NoAsk rfl rfl (za zf yb)) (za (qw x_NoPurse rfl rfl (za zf yb)) yb)))))) (ya (pv 0)) (fun _ _=>rfl)))) ym)
  (yd (qu (yp zbY (ya (pv 0)) qb (yo _)) (qd (yf (yv qK (yk (yi (za (qw x_TooMany rfl rfl (za zf yb)) (za (qw x_NoText rfl rfl (za zf yb)) (za (qw x_NoRow rfl rfl (za zf yb)) (za (qw x_NoNet rfl rfl (za zf yb)) (za (qw x_NoPast rfl rfl (za zf yb)) yb))))))) (ye zM (ya (pv 0)) qb) (fun _ _=>rfl)))) ym)
  (qd (yf (yv qK (yk (yi (za (qY x_NoDeed (hr.mono (by decide)) rfl rfl (za (ya (pv 1)) yb)) (za (qY x_NoEvent (hr.mono (by decide)) rfl rfl (za (ya (pv 1)) yb)) yb)))) (ye zM (ya (pv 0)) qb) (fun _ _=>rfl)))))))
end
noncomputable def zbk (k_NoRatio k_NoHouse k_NoAsk k_NoPurse k_TooMany k_NoText k_NoRow k_NoNet k_NoPast k_NoDeed kN:Addr):Ev->Mem->Out Fl:=
 (zi (zx 1 (eFz (qr (qa (eUn (isX (yn [k_NoRatio,k_NoHouse,k_NoAsk,k_NoPurse,k_TooMany,k_NoText,k_NoRow,k_NoNet,k_NoPast,k_NoDeed,kN] k_NoRatio)) (zc 0)) (qa (eUn (isX (yn [k_NoRatio,k_NoHouse,k_NoAsk,k_NoPurse,k_TooMany,k_NoText,k_NoRow,k_NoNet,k_NoPast,k_NoDeed,kN] k_NoHouse)) (zc 0)) (qa (eUn (isX (yn [k_NoRatio,k_NoHouse,k_NoAsk,k_NoPurse,k_TooMany,k_NoText,k_NoRow,k_NoNet,k_NoPast,k_NoDeed,kN] k_NoAsk)) (zc 0)) (qa (eUn (isX (yn [k_NoRatio,k_NoHouse,k_NoAsk,k_NoPurse,k_TooMany,k_NoText,k_NoRow,k_NoNet,k_NoPast,k_NoDeed,kN] k_NoPurse)) (zc 0)) zd)))))))
 (zi (zx 1 (eOp yw (zc 1) (eFz (qr (qa (eUn (isX (yn [k_NoRatio,k_NoHouse,k_NoAsk,k_NoPurse,k_TooMany,k_NoText,k_NoRow,k_NoNet,k_NoPast,k_NoDeed,kN] k_TooMany)) (zc 0)) (qa (eUn (isX (yn [k_NoRatio,k_NoHouse,k_NoAsk,k_NoPurse,k_TooMany,k_NoText,k_NoRow,k_NoNet,k_NoPast,k_NoDeed,kN] k_NoText)) (zc 0)) (qa (eUn (isX (yn [k_NoRatio,k_NoHouse,k_NoAsk,k_NoPurse,k_TooMany,k_NoText,k_NoRow,k_NoNet,k_NoPast,k_NoDeed,kN] k_NoRow)) (zc 0)) (qa (eUn (isX (yn [k_NoRatio,k_NoHouse,k_NoAsk,k_NoPurse,k_TooMany,k_NoText,k_NoRow,k_NoNet,k_NoPast,k_NoDeed,kN] k_NoNet)) (zc 0)) zd))))))))
 (zo (eOp yw (zc 1) (eFz (qr (qa (eUn (isX (yn [k_NoRatio,k_NoHouse,k_NoAsk,k_NoPurse,k_TooMany,k_NoText,k_NoRow,k_NoNet,k_NoPast,k_NoDeed,kN] k_NoPast)) (zc 0)) (qa (eUn (isX (yn [k_NoRatio,k_NoHouse,k_NoAsk,k_NoPurse,k_TooMany,k_NoText,k_NoRow,k_NoNet,k_NoPast,k_NoDeed,kN] k_NoDeed)) (zc 0)) (qa (eUn (isX (yn [k_NoRatio,k_NoHouse,k_NoAsk,k_NoPurse,k_TooMany,k_NoText,k_NoRow,k_NoNet,k_NoPast,k_NoDeed,kN] kN)) (zc 0)) zd)))))))))
noncomputable def yI (k_NoRatio k_NoHouse k_NoAsk k_NoPurse k_TooMany k_NoText k_NoRow k_NoNet k_NoPast k_NoDeed kN:Addr):List FT.T->Mem->Out FT.T:=qg 1 2 (zbk k_NoRatio k_NoHouse k_NoAsk k_NoPurse k_TooMany k_NoText k_NoRow k_NoNet k_NoPast k_NoDeed kN)
section
theorem yZ:FnScope ["e","signs"] ["e"] (qc y9):=by ac_rfl
theorem yJ (D:Df K mg "_law_signs" y9 ["e"]) (T:Txt mg)  (i_NoRatio:IsAt K mg "NoRatio" (yn [k_NoRatio,k_NoHouse,k_NoAsk,k_NoPurse,k_TooMany,k_NoText,k_NoRow,k_NoNet,k_NoPast,k_NoDeed,kN] k_NoRatio)) (i_NoHouse:IsAt K mg "NoHouse" (yn [k_NoRatio,k_NoHouse,k_NoAsk,k_NoPurse,k_TooMany,k_NoText,k_NoRow,k_NoNet,k_NoPast,k_NoDeed,kN] k_NoHouse)) (i_NoAsk:IsAt K mg "NoAsk" (yn [k_NoRatio,k_NoHouse,k_NoAsk,k_NoPurse,k_TooMany,k_NoText,k_NoRow,k_NoNet,k_NoPast,k_NoDeed,kN] k_NoAsk)) (i_NoPurse:IsAt K mg "NoPurse" (yn [k_NoRatio,k_NoHouse,k_NoAsk,k_NoPurse,k_TooMany,k_NoText,k_NoRow,k_NoNet,k_NoPast,k_NoDeed,kN] k_NoPurse)) (i_TooMany:IsAt K mg "TooMany" (yn [k_NoRatio,k_NoHouse,k_NoAsk,k_NoPurse,k_TooMany,k_NoText,k_NoRow,k_NoNet,k_NoPast,k_NoDeed,kN] k_TooMany)) (i_NoText:IsAt K mg "NoText" (yn [k_NoRatio,k_NoHouse,k_NoAsk,k_NoPurse,k_TooMany,k_NoText,k_NoRow,k_NoNet,k_NoPast,k_NoDeed,kN] k_NoText)) (i_NoRow:IsAt K mg "NoRow" (yn [k_NoRatio,k_NoHouse,k_NoAsk,k_NoPurse,k_TooMany,k_NoText,k_NoRow,k_NoNet,k_NoPast,k_NoDeed,kN] k_NoRow)) (i_NoNet:IsAt K mg "NoNet" (yn [k_NoRatio,k_NoHouse,k_NoAsk,k_NoPurse,k_TooMany,k_NoText,k_NoRow,k_NoNet,k_NoPast,k_NoDeed,kN] k_NoNet)) (i_NoPast:IsAt K mg "NoPast" (yn [k_NoRatio,k_NoHouse,k_NoAsk,k_NoPurse,k_TooMany,k_NoText,k_NoRow,k_NoNet,k_NoPast,k_NoDeed,kN] k_NoPast)) (i_NoDeed:IsAt K mg "NoDeed" (yn [k_NoRatio,k_NoHouse,k_NoAsk,k_NoPurse,k_TooMany,k_NoText,k_NoRow,k_NoNet,k_NoPast,k_NoDeed,kN] k_NoDeed)) (i_NoEvent:IsAt K mg "NoEvent" (yn [k_NoRatio,k_NoHouse,k_NoAsk,k_NoPurse,k_TooMany,k_NoText,k_NoRow,k_NoNet,k_NoPast,k_NoDeed,kN] kN)) :CalT P w K mg base 1 "_law_signs" ["e"] (yI k_NoRatio k_NoHouse k_NoAsk k_NoPurse k_TooMany k_NoText k_NoRow k_NoNet k_NoPast k_NoDeed kN):=
 qv D yZ rfl rfl (fun f cdv A outer s H E hr=>(yd (zj (i:=1) yZ.nd rfl (Or.inl rfl) (yk (yi (za (zr i_NoRatio rfl rfl T.n_isinstance boot_isinstance (ya (pv 0))) (za (zr i_NoHouse rfl rfl T.n_isinstance boot_isinstance (ya (pv 0))) (za (zr i_NoAsk rfl rfl T.n_isinstance boot_isinstance (ya (pv 0))) (za (zr i_NoPurse rfl rfl T.n_isinstance boot_isinstance (ya (pv 0))) yb)))))))
  (yd (zj (i:=1) yZ.nd rfl (Or.inl rfl) (ye yy (ya (pv 1)) (yk (yi (za (zr i_TooMany rfl rfl T.n_isinstance boot_isinstance (ya (pv 0))) (za (zr i_NoText rfl rfl T.n_isinstance boot_isinstance (ya (pv 0))) (za (zr i_NoRow rfl rfl T.n_isinstance boot_isinstance (ya (pv 0))) (za (zr i_NoNet rfl rfl T.n_isinstance boot_isinstance (ya (pv 0))) yb))))))))
  (qd (yf (ye yy (ya (pv 1)) (yk (yi (za (zr i_NoPast rfl rfl T.n_isinstance boot_isinstance (ya (pv 0))) (za (zr i_NoDeed rfl rfl T.n_isinstance boot_isinstance (ya (pv 0))) (za (zr i_NoEvent rfl rfl T.n_isinstance boot_isinstance (ya (pv 0))) yb)))))))))))
end
noncomputable def zaQ (k_NoRatio k_NoHouse k_NoAsk k_NoPurse k_TooMany k_NoText k_NoRow k_NoNet k_NoPast k_NoDeed kN:Addr):Ev->Mem->Out Fl:=
 (zi (zx 2 (ze (yQ k_NoRatio k_NoHouse k_NoAsk k_NoPurse k_TooMany k_NoText k_NoRow k_NoNet k_NoPast k_NoDeed kN) (qa (zc 1) (qa (zc 0) zd))))
 (zi (sIf (zm (eOp neA (ze (yI k_NoRatio k_NoHouse k_NoAsk k_NoPurse k_TooMany k_NoText k_NoRow k_NoNet k_NoPast k_NoDeed kN) (qa (zc 2) zd)) (eFz (z4 (yX (qa (eC (.int 11)) zd)) (zC 0) zZ (eOp eqA (zc 0) (zc 1)) ["j"] [("k",1)])))) (zo (eC (.bl false))) qC)
 (sIf (z8 (zI (zm (eUn (isX (qT [k_NoRatio,k_NoHouse,k_NoAsk,k_NoPurse,k_TooMany,k_NoText,k_NoRow,k_NoNet,k_NoPast,k_NoDeed,kN])) (zc 2)))) (zI (zm (eUn (isX (qT [k_NoRatio,k_NoHouse,k_NoAsk,k_NoPurse,k_TooMany,k_NoText,k_NoRow,k_NoNet,k_NoPast,k_NoDeed,kN])) (zc 2))))) (zo (eC (.bl false))) qC)))
noncomputable def zbl (k_NoRatio k_NoHouse k_NoAsk k_NoPurse k_TooMany k_NoText k_NoRow k_NoNet k_NoPast k_NoDeed kN:Addr):Ev->Mem->Out Fl:=
 (zi (zbQ (yX (qa (eC (.int 11)) zd)) (zC 1) (zaQ k_NoRatio k_NoHouse k_NoAsk k_NoPurse k_TooMany k_NoText k_NoRow k_NoNet k_NoPast k_NoDeed kN))
 (zo (zcd (eOp eqA (eUn (xat [k_NoDeed]) (zl (yP k_NoDeed) (qa (zc 0) zd))) (zc 0)) (eOp eqA (eUn (xat [kN]) (zl (yP kN) (qa (zc 0) zd))) (zc 0)))))
noncomputable def qI (k_NoRatio k_NoHouse k_NoAsk k_NoPurse k_TooMany k_NoText k_NoRow k_NoNet k_NoPast k_NoDeed kN:Addr):List FT.T->Mem->Out FT.T:=qg 1 3 (zbl k_NoRatio k_NoHouse k_NoAsk k_NoPurse k_TooMany k_NoText k_NoRow k_NoNet k_NoPast k_NoDeed kN)
section
theorem qZ:FnScope ["number","k","e"] ["number"] (qc zaa):=by ac_rfl
theorem qJ (D:Df K mg "_law_apart" zaa ["number"]) (T:Txt mg) (x_NoDeed:XcF P w K mg base "NoDeed" k_NoDeed) (x_NoEvent:XcF P w K mg base "NoEvent" kN) (i_WeirError:IsAt K mg "WeirError" (qT [k_NoRatio,k_NoHouse,k_NoAsk,k_NoPurse,k_TooMany,k_NoText,k_NoRow,k_NoNet,k_NoPast,k_NoDeed,kN])) (i_ValueError:IsAt K mg "ValueError" (qT [k_NoRatio,k_NoHouse,k_NoAsk,k_NoPurse,k_TooMany,k_NoText,k_NoRow,k_NoNet,k_NoPast,k_NoDeed,kN])) (qR:CalT P w K mg base 3 "_law_made" ["k","number"] (yQ k_NoRatio k_NoHouse k_NoAsk k_NoPurse k_TooMany k_NoText k_NoRow k_NoNet k_NoPast k_NoDeed kN)) (yJ:CalT P w K mg base 1 "_law_signs" ["e"] (yI k_NoRatio k_NoHouse k_NoAsk k_NoPurse k_TooMany k_NoText k_NoRow k_NoNet k_NoPast k_NoDeed kN)):CalT P w K mg base 4 "_law_apart" ["number"] (qI k_NoRatio k_NoHouse k_NoAsk k_NoPurse k_TooMany k_NoText k_NoRow k_NoNet k_NoPast k_NoDeed kN):=
 qv D qZ rfl rfl (fun f cdv A outer s H E hr=>(yd (zaS PassesOwn.never rfl (yY rfl T.n_range (za qb yb)) (yC (zH (i:=1) qZ.nd rfl (by first | exact Or.inl rfl | exact Or.inr rfl))) (yd (zj (i:=2) qZ.nd rfl (Or.inl rfl) (qe qR (hr.mono (by decide)) rfl (za (ya (pv 1)) (za (ya (pv 0)) yb))))
  (yd (qu (yp (zbX hr.units) (qe yJ (hr.mono (by decide)) rfl (za (ya (pv 2)) yb)) (yk (zY (tgs:=["j"]) (caps:=[("k",1)]) (yY rfl T.n_range (za qb yb)) (by bv_omega) (fun _ _ _=>(yC (zH (i:=0) (show (["j","k"]:List Str).Nodup by decide +kernel) rfl (by first | exact Or.inl rfl | exact Or.inr rfl)))) (fun _ _ _=>zat) (fun _ _ _=>(zai (qW hr.units) (ya (pv 0)) (ya (pv 1)) (yo _))))) (yo _)) (qd (yf yt)) ym)
  (qd (qu (WW.gt (qV (qF (zW (zr i_WeirError rfl rfl T.n_isinstance boot_isinstance (ya (pv 2))))) (yV (qF (zW (zr i_ValueError rfl rfl T.n_isinstance boot_isinstance (ya (pv 2)))))))) (qd (yf yt)) ym)))))
  (qd (yf (zaV (zai (qW hr.units) (zcz (List.forall_mem_cons.mpr ⟨x_NoDeed.at,List.forall_mem_nil _⟩) (qY x_NoDeed (hr.mono (by decide)) rfl rfl (za (ya (pv 0)) yb))) (ya (pv 0)) (yo _)) (zaU (zai (qW hr.units) (zcz (List.forall_mem_cons.mpr ⟨x_NoEvent.at,List.forall_mem_nil _⟩) (qY x_NoEvent (hr.mono (by decide)) rfl rfl (za (ya (pv 0)) yb))) (ya (pv 0)) (yo _))))))))
end
noncomputable def zae:Ev->Mem->Out Fl:=
 (zi (sIf (z8 (zI (zm (ze (call2 qp) (qa (zc 0) (qa (eC (.ty "str")) zd))))) (zI (zm (yA leU leU (eC (.int 1)) (ze (qB y3) (qa (zc 0) zd)) (eC (.int 8)))))) (zo (eC (.bl false))) qC)
 (zo (ze (qB zcq) (qa (eFz (z4 (iTx (zc 0)) (zC 0) zZ (yA leU leU (eC (.str "a")) (zc 0) (eC (.str "z"))) ["letter"] [])) zd))))
noncomputable def yq:List FT.T->Mem->Out FT.T:=qg 1 1 (zae)
section
theorem zc6:FnScope ["thing"] ["thing"] (qc zab):=by ac_rfl
theorem qA (D:Df K mg "is_word" zab ["thing"]) (T:Txt mg)   :CalT P w K mg base 1 "is_word" ["thing"] yq:=
 qv D zc6 rfl rfl (fun f cdv A outer s H E hr=>(yd (qu (WW.gt (qV (qF (zW (ql zw rfl T.n_isinstance boot_isinstance (za (ya (pv 0)) (za (zG rfl T.n_str boot_str) yb))))) (yV (qF (zbe yW yW qb (ql zah rfl T.n_len boot_len (za (ya (pv 0)) yb)) (zdx rfl T.c_MOST_LETTERS)))))) (qd (yf yt)) ym)
  (qd (yf (ql (zec rfl) rfl T.n_all boot_all (za (yk (zY (tgs:=["letter"]) (caps:=[]) (zcw (ya (pv 0))) (by bv_omega) (fun _ _ _=>(yC (zH (i:=0) (show (["letter"]:List Str).Nodup by decide +kernel) rfl (by first | exact Or.inl rfl | exact Or.inr rfl)))) (fun _ _ _=>zat) (fun _ _ _=>(zdy yW yW zf (ya (pv 0)) zf)))) yb))))))
end
noncomputable def yU:Ev->Mem->Out Fl:=
 (zi (sIf (z8 (zI (zm (ze (call2 qp) (qa (zc 0) (qa (eC (.ty "str")) zd))))) (zm (eOp zb0 (ze (qB y3) (qa (zc 0) zd)) (eFz (qr (qa (eC (.int 1)) (qa (eC (.int 2)) (qa (eC (.int 3)) (qa (eC (.int 4)) (qa (eC (.int 5)) (qa (eC (.int 6)) (qa (eC (.int 7)) (qa (eC (.int 8)) zd))))))))))))) (zo (eC (.bl false))) qC)
 (zo (eOp eqA (eFz (z4 (iTx (zc 0)) (zC 0) (zI (zm (yA leU leU (eC (.str "a")) (zc 0) (eC (.str "z"))))) (zc 0) ["sign"] [])) (eFz (qr zd)))))
noncomputable def zq:List FT.T->Mem->Out FT.T:=qg 1 1 (yU)
section
theorem zbO:FnScope ["thing"] ["thing"] (qc zU):=by ac_rfl
theorem zB (D:Df K mg "_law_is_word" zU ["thing"]) (T:Txt mg)   :CalT P w K mg base 1 "_law_is_word" ["thing"] zq:=
 qv D zbO rfl rfl (fun f cdv A outer s H E hr=>(yd (qu (WW.gt (qV (qF (zW (ql zw rfl T.n_isinstance boot_isinstance (za (ya (pv 0)) (za (zG rfl T.n_str boot_str) yb))))) (yV (yp zfL (ql zah rfl T.n_len boot_len (za (ya (pv 0)) yb)) (yk (yi (za qb (za qb (za qb (za qb (za qb (za qb (za qb (za qb yb)))))))))) rfl)))) (qd (yf yt)) ym)
  (qd (yf (zai (qW hr.units) (yk (zY (tgs:=["sign"]) (caps:=[]) (zcw (ya (pv 0))) (by bv_omega) (fun _ _ _=>(yC (zH (i:=0) (show (["sign"]:List Str).Nodup by decide +kernel) rfl (by first | exact Or.inl rfl | exact Or.inr rfl)))) (fun _ _ _=>(zel (qF (zbe yW yW zf (ya (pv 0)) zf)))) (fun _ _ _=>(ya (pv 0))))) (yk (yi yb)) (yo _))))))
end
noncomputable def zbj:Ev->Mem->Out Fl:=
 (zo (zcd (ze (call2 qp) (qa (zc 0) (qa (eC (.ty "int")) zd))) (zdl (ze (call2 qp) (qa (zc 0) (qa (eC (.ty "bool")) zd))))))
noncomputable def zA:List FT.T->Mem->Out FT.T:=qg 1 1 (zbj)
section
theorem zc5:FnScope ["thing"] ["thing"] (qc z9):=by ac_rfl
theorem zJ (D:Df K mg "_law_whole" z9 ["thing"]) (T:Txt mg)   :CalT P w K mg base 1 "_law_whole" ["thing"] zA:=
 qv D zc5 rfl rfl (fun f cdv A outer s H E hr=>(qd (yf (zaV (ql zw rfl T.n_isinstance boot_isinstance (za (ya (pv 0)) (za (zG rfl T.n_int boot_int) yb))) (zaU (zcB (ql zw rfl T.n_isinstance boot_isinstance (za (ya (pv 0)) (za (zG rfl T.n_bool boot_bool) yb)))))))))
end
noncomputable def zeh (k_NoRatio k_NoHouse k_NoAsk k_NoPurse k_TooMany k_NoText k_NoRow k_NoNet k_NoPast k_NoDeed kN:Addr):Ev->Mem->Out Fl:=
 (zi (sIf (zc4 (zm (eOp zT (ze yq (qa (zc 6) zd)) (eC (.bl true)))) (zm (eOp zT (ze yq (qa (zc 6) zd)) (eC (.bl false))))) (zo (eC (.bl false))) qC)
 (sIf (z8 (zm (eOp neA (ze yq (qa (zc 6) zd)) (ze zq (qa (zc 6) zd)))) (zm (eOp neA (ze qk (qa (zc 6) zd)) (ze zA (qa (zc 6) zd))))) (zo (eC (.bl false))) qC))
noncomputable def zeg (k_NoRatio k_NoHouse k_NoAsk k_NoPurse k_TooMany k_NoText k_NoRow k_NoNet k_NoPast k_NoDeed kN:Addr):Ev->Mem->Out Fl:=
 (zi (zx 2 (ze zQ (qa (zc 1) zd)))
 (zi (zx 3 (ze z5 (qa (zc 2) zd)))
 (zi (zx 4 (ze yL (qa (zc 2) zd)))
 (zi (zx 5 (eFz (qr (qa (zc 3) (qa (zc 4) (qa (eC (.bl true)) (qa (eC (.bl false)) (qa (eC .non) (qa (eFz (qr (qa (zc 3) zd))) (qa (zcb (qa (zc 3) zd)) (qa (zcb (qa (zc 4) zd)) (qa (eFz (qr zd)) (qa (zcb zd) zd)))))))))))))
 (zi (zbQ (zdi (eFz (qr (qa (zc 3) (qa (eOp ixT (zc 5) (ze yh (qa (zc 2) (qa (eC (.int 10)) zd)))) zd))))) (zC 6) (zeh k_NoRatio k_NoHouse k_NoAsk k_NoPurse k_TooMany k_NoText k_NoRow k_NoNet k_NoPast k_NoDeed kN))
 (sIf (z8 (zm (eOp zT (ze qk (qa (zc 4) zd)) (eC (.bl true)))) (z8 (zm (eOp zT (ze qk (qa (zc 3) zd)) (eC (.bl false)))) (zI (zm (ze (qI k_NoRatio k_NoHouse k_NoAsk k_NoPurse k_TooMany k_NoText k_NoRow k_NoNet k_NoPast k_NoDeed kN) (qa (ze (qB zdt) (qa (zc 4) zd)) zd)))))) (zo (eC (.bl false))) qC))))))
noncomputable def zfg (k_NoRatio k_NoHouse k_NoAsk k_NoPurse k_TooMany k_NoText k_NoRow k_NoNet k_NoPast k_NoDeed kN:Addr):Ev->Mem->Out Fl:=
 (zi (zbQ (zdi (eOp yw (eFz (qr (qa (eC (.int 0)) zd))) (zc 0))) (zC 1) (zeg k_NoRatio k_NoHouse k_NoAsk k_NoPurse k_TooMany k_NoText k_NoRow k_NoNet k_NoPast k_NoDeed kN))
 (zo (eC (.bl true))))
noncomputable def zan (k_NoRatio k_NoHouse k_NoAsk k_NoPurse k_TooMany k_NoText k_NoRow k_NoNet k_NoPast k_NoDeed kN:Addr):List FT.T->Mem->Out FT.T:=qg 1 7 (zfg k_NoRatio k_NoHouse k_NoAsk k_NoPurse k_TooMany k_NoText k_NoRow k_NoNet k_NoPast k_NoDeed kN)
noncomputable def zaM (k_NoRatio k_NoHouse k_NoAsk k_NoPurse k_TooMany k_NoText k_NoRow k_NoNet k_NoPast k_NoDeed kN:Addr):List FT.T->Mem->Out FT.T:=if [k_NoRatio,k_NoHouse,k_NoAsk,k_NoPurse,k_TooMany,k_NoText,k_NoRow,k_NoNet,k_NoPast,k_NoDeed,kN].Nodup then zan k_NoRatio k_NoHouse k_NoAsk k_NoPurse k_TooMany k_NoText k_NoRow k_NoNet k_NoPast k_NoDeed kN else fun _ M=>.ok (.bl true) M
section
theorem yO:FnScope ["script","cell","pool","text","number","some","thing"] ["script"] (qc zc7):=by ac_rfl
theorem zg9 {f:Addr} {fd:FuncData} (D:Fun K "law" "law" zc7 f fd) (T:Txt mg)   (yR:CalT P w K mg base 1 "_law_pool" ["cell"] zQ) (zR:CalT P w K mg base 2 "_law_text" ["pool"] z5) (zF:CalT P w K mg base 2 "_law_number" ["pool"] yL) (yg:CalT P w K mg base 1 "_law_next" ["pool","base"] yh) (zy:CalT P w K mg base 1 "is_whole" ["thing"] qk) (qJ:CalT P w K mg base 4 "_law_apart" ["number"] (qI k_NoRatio k_NoHouse k_NoAsk k_NoPurse k_TooMany k_NoText k_NoRow k_NoNet k_NoPast k_NoDeed kN)) (qA:CalT P w K mg base 1 "is_word" ["thing"] yq) (zB:CalT P w K mg base 1 "_law_is_word" ["thing"] zq) (zJ:CalT P w K mg base 1 "_law_whole" ["thing"] zA):FnOk P w K mg base CX0 5 f fd ["script"] (spT K (zan k_NoRatio k_NoHouse k_NoAsk k_NoPurse k_TooMany k_NoText k_NoRow k_NoNet k_NoPast k_NoDeed kN)):=
 zfj D yO rfl rfl (fun cdv A outer s H E hr=>(yd (zaS PassesOwn.never rfl (zcx (ye yy (yk (yi (za qb yb))) (ya (pv 0)))) (yC (zH (i:=1) yO.nd rfl (by first | exact Or.inl rfl | exact Or.inr rfl))) (yd (zj (i:=2) yO.nd rfl (Or.inl rfl) (qe yR (hr.mono (by decide)) rfl (za (ya (pv 1)) yb)))
  (yd (zj (i:=3) yO.nd rfl (Or.inl rfl) (qe zR (hr.mono (by decide)) rfl (za (ya (pv 2)) yb)))
  (yd (zj (i:=4) yO.nd rfl (Or.inl rfl) (qe zF (hr.mono (by decide)) rfl (za (ya (pv 2)) yb)))
  (yd (zj (i:=5) yO.nd rfl (Or.inl rfl) (yk (yi (za (ya (pv 3)) (za (ya (pv 4)) (za yt (za yt (za zfl (za (yk (yi (za (ya (pv 3)) yb))) (za (zaT (za (ya (pv 3)) yb)) (za (zaT (za (ya (pv 4)) yb)) (za (yk (yi yb)) (za (zaT yb) yb)))))))))))))
  (yd (zaS PassesOwn.never rfl (zcx (yk (yi (za (ya (pv 3)) (za (yv qK (ya (pv 5)) (qe yg (hr.mono (by decide)) rfl (za (ya (pv 2)) (za qb yb))) (fun _ _=>rfl)) yb))))) (yC (zH (i:=6) yO.nd rfl (by first | exact Or.inl rfl | exact Or.inr rfl))) (yd (qu (WW.gt (zfk (yp qS (qe qA (hr.mono (by decide)) rfl (za (ya (pv 6)) yb)) yt (yo _)) (zek (yp qS (qe qA (hr.mono (by decide)) rfl (za (ya (pv 6)) yb)) yt (yo _))))) (qd (yf yt)) ym)
  (qd (qu (WW.gt (qV (yp (zbX hr.units) (qe qA (hr.mono (by decide)) rfl (za (ya (pv 6)) yb)) (qe zB (hr.mono (by decide)) rfl (za (ya (pv 6)) yb)) (yo _)) (yV (yp (zbX hr.units) (qe zy (hr.mono (by decide)) rfl (za (ya (pv 6)) yb)) (qe zJ (hr.mono (by decide)) rfl (za (ya (pv 6)) yb)) (yo _))))) (qd (yf yt)) ym))))
  (qd (qu (WW.gt (qV (yp qS (qe zy (hr.mono (by decide)) rfl (za (ya (pv 4)) yb)) yt (yo _)) (qV (yp qS (qe zy (hr.mono (by decide)) rfl (za (ya (pv 3)) yb)) yt (yo _)) (yV (qF (zW (qe qJ (hr.mono (by decide)) rfl (za (ql zee rfl T.n_abs boot_abs (za (ya (pv 4)) yb)) yb)))))))) (qd (yf yt)) ym))))))))
  (qd (yf yt))))
end
end My
open Lean in
local macro_rules | `(tactic| simp_arith [$xs,*]) => do
  let ids := ("FT.zdG FT.zjp FT.zjq FT.startT FT.zi FT.zo FT.zx FT.sIf FT.zj0 FT.zc8 FT.qC FT.zbQ FT.zc FT.eC FT.eOp FT.eUn FT.zcd FT.eOr FT.zdl FT.eIf FT.ze FT.zcb FT.eFz FT.eTk FT.qr FT.zjO FT.yA FT.lOp FT.eSl FT.zbv FT.zbu FT.zeN FT.zdo FT.zjz FT.zjN FT.zjS FT.zd FT.qa FT.zm FT.zc4 FT.z8 FT.zI FT.zjK FT.zjw FT.zji FT.qm FT.ziE FT.ziG FT.ziF FT.zi1 FT.zi0 FT.zi3 FT.zi2 FT.zC FT.zdr FT.zj2 FT.zjU FT.zj3 FT.zdi FT.yX FT.zjt FT.zbN FT.ixT FT.zbV FT.zdj FT.zjY FT.zjX FT.zjW FT.zjV FT.z4 FT.zag FT.zZ Option.join_some Option.join_none FT.zi4 FT.zi5 FT.zbM FT.zjR FT.zjQ FT.zjP map_cons map_nil Qm length_nil List.cons_append nil_append List.getElem?_cons_zero List.getElem?_cons_succ List.set_cons_zero List.set_cons_succ List.replicate Nat.zero_add Nat.reduceAdd Nat.reduceSub FT.zjv FT.zju FT.zjy FT.zjx Int.reduceBEq Int.reduceLT FT.zjm FT.zjD FT.zjE FT.zjG FT.zjH FT.zjB FT.zjs FT.zjI FT.zjC FT.zjF FT.zja Bool.false_eq_true reduceIte Nat.reduceEqDiff Nat.succ.injEq Bool.not_true Bool.not_false FT.zfV FT.zjr FT.zjJ Int.reduceToNat Int.reducePow ne_eq Int.reduceEq not_false_eq_true Int.reduceNeg Bool.bne_true Bool.bne_false Bool.true_bne Bool.false_bne decide_true decide_false FT.ze2 FT.zjh FT.zjg FT.zjn FT.zjo".splitOn " ").toArray.map fun s => Lean.mkIdent s.toName
  `(tactic| simp (config := {decide := true}) only [$[$ids:term],*, $xs,*])
namespace My
open PySem L2 FT
noncomputable abbrev S (l:List Nat):Str:=⟨l.toArray⟩
theorem zap (l:List Nat):(S l).length = l.length:=by simp [Str.length]
theorem ze6 (z:Str):z = S z.cps.toList:=by simp
theorem sz {n:Nat} (h:n<=10000):n<=sizeLine:=by rw [sizeLine_eq];omega
theorem zb3 (i j:Int) (M:Mem):leU (.int i) (.int j) M = .ok (.bl (decide (i<=j))) M:=rfl
theorem zdR (c d:Nat):([c] < [d]) ↔ c < d:=by simp [List.cons_lt_cons_iff]
theorem le_lo (c:Nat) (M:Mem):leU (.str "a") (.str (S [c])) M = .ok (.bl (decide (97<=c))) M:=by
 show Out.ok (FT.T.bl (!decide ([c] < [97]))) M = _
 rw [show decide ([c] < [97]) = decide (c < 97) from by simp only [zdR]]
 by_cases h:c < 97
 ·rw [Qo h,Qp (by omega)];rfl
 ·rw [Qp h,Qo (by omega)];rfl
theorem zbw (c:Nat) (M:Mem):leU (.str (S [c])) (.str "z") M = .ok (.bl (decide (c<=122))) M:=by
 show Out.ok (FT.T.bl (!decide ([122] < [c]))) M = _
 rw [show decide ([122] < [c]) = decide (122 < c) from by simp only [zdR]]
 by_cases h:122 < c
 ·rw [Qo h,Qp (by omega)];rfl
 ·rw [Qp h,Qo (by omega)];rfl
variable {l:List Nat}
theorem zeG (h:l.length<=10000) (M:Mem):y3 (.str (S l)) M = .ok (.int (l.length:Int)) M:=by
 unfold y3
 dsimp only
 rw [zap,if_pos (sz h)]
theorem zgA (l:List Nat):sgT (S l) = l.map fun c=>FT.T.str (S [c]):=by
 unfold sgT
 simp
noncomputable def isL (c:Nat):Bool:=decide (97<=c/\c<=122)
noncomputable def isW (l:List Nat):Bool:=decide (1<=l.length/\l.length<=8) && l.all isL
theorem isS (l:List Nat) (M:Mem):qp (.str (S l)) (.ty "str") M = .ok (.bl true) M:=rfl
theorem zfi (hl:l.length<=2000) (M:Mem):yq [.str (S l)] M = .ok (.bl (isW l)) M:=by
 have key:Ok (yq [.str (S l)] M) fun t M'=>t = .bl (isW l)/\M' = M:=by
  refine qD rfl ?_
  unfold zae
  have ln:=zeG (l:=l) (by omega) M
  have cp:qh (zC 0) zZ (yA leU leU (eC (.str "a")) (zc 0) (eC (.str "z"))) (l.map fun c=>FT.T.str (S [c])) [none] M [] = .ok (l.map fun c=>.bl (isL c)) M:=
   Ok.mapc (r:=fun c=>FT.T.str (S [c])) (fun σ=>∃ o,σ = [o]) _ ⟨_,rfl⟩ (by omega) (by
    rintro c σ _ ⟨o,rfl⟩
    refine ⟨[some (.str (S [c]))],rfl,⟨_,rfl⟩,?_⟩
    unfold isL
    by_cases h1:97<=c
    ·by_cases h2:c<=122
     ·simp_arith [le_lo,zbw,Qo h1,Qo h2]
      rw [Qo ⟨h1,h2⟩]
     ·simp_arith [le_lo,zbw,Qo h1,Qp h2]
      rw [Qp (fun z=>h2 z.2)]
    ·simp_arith [le_lo,Qp h1]
     rw [Qp (fun z=>h1 z.1)])
  have al:=ze5 isL l M
  by_cases h1:1<=l.length
  ·by_cases h2:l.length<=8
   ·simp_arith [isS,zb3,ln,Qo (show (1:Int)<=(l.length:Int) by omega),Qo (show (l.length:Int)<=8 by omega),iTx,zgA,cp,al]
    exact Ok.ret ⟨by unfold isW;rw [Qo ⟨h1,h2⟩];rfl,rfl⟩
   ·simp_arith [isS,zb3,ln,Qo (show (1:Int)<=(l.length:Int) by omega),Qp (show ¬ (l.length:Int)<=8 by omega)]
    exact Ok.ret ⟨by unfold isW;rw [Qp (fun z=>h2 z.2)];rfl,rfl⟩
  ·simp_arith [isS,zb3,ln,Qp (show ¬ (1:Int)<=(l.length:Int) by omega)]
   exact Ok.ret ⟨by unfold isW;rw [Qp (fun z=>h1 z.1)];rfl,rfl⟩
 obtain ⟨t,M',e,rfl,rfl⟩:=key
 exact e
theorem ziX (n:Nat) (M:Mem):zb0 (.int (n:Int)) (.lst [.int 1,.int 2,.int 3,.int 4,.int 5,.int 6,.int 7,.int 8]) M = .ok (.bl (!decide (1<=n/\n<=8))) M:=by
 show Out.ok (FT.T.bl (!([FT.T.int 1,.int 2,.int 3,.int 4,.int 5,.int 6,.int 7,.int 8].any fun y=>eqS y (.int (n:Int))))) M = _
 congr 3
 by_cases h:1<=n/\n<=8
 ·rw [Qo h]
  obtain ⟨h1,h2⟩:=h
  have:n = 1\/n = 2\/n = 3\/n = 4\/n = 5\/n = 6\/n = 7\/n = 8:=by omega
  rcases this with rfl | rfl | rfl | rfl | rfl | rfl | rfl | rfl <;> rfl
 ·rw [Qp h]
  have e:∀ i:Int,eqS (.int i) (.int (n:Int)) = (i == (n:Int)):=fun i=>rfl
  simp only [any_cons,List.any_nil,e]
  have d:∀ i:Int,1<=i->i<=8->(i == (n:Int)) = false:=fun i h1 h2=>by
   refine beq_eq_false_iff_ne.mpr fun q=>h ?_
   omega
  rw [d 1 (by decide) (by decide),d 2 (by decide) (by decide),d 3 (by decide) (by decide),d 4 (by decide) (by decide),d 5 (by decide) (by decide),d 6 (by decide) (by decide),d 7 (by decide) (by decide),d 8 (by decide) (by decide)]
  rfl
theorem zeF (hl:l.length<=2000) (M:Mem):zq [.str (S l)] M = .ok (.bl (isW l)) M:=by
 have key:Ok (zq [.str (S l)] M) fun t M'=>t = .bl (isW l)/\M' = M:=by
  refine qD rfl ?_
  unfold yU
  have ln:=zeG (l:=l) (by omega) M
  have cp:qh (zC 0) (zI (zm (yA leU leU (eC (.str "a")) (zc 0) (eC (.str "z"))))) (zc 0) (l.map fun c=>FT.T.str (S [c])) [none] M [] = .ok ((l.filter fun c=>!isL c).map fun c=>.str (S [c])) M:=
   Ok.filt (r:=fun c=>FT.T.str (S [c])) (fun σ=>∃ o,σ = [o]) (fun c=>!isL c) _ ⟨_,rfl⟩ (by omega) (by
    rintro c σ _ ⟨o,rfl⟩
    refine ⟨[some (.str (S [c]))],rfl,⟨_,rfl⟩,?_,fun _=>rfl⟩
    unfold isL
    by_cases h1:97<=c
    ·by_cases h2:c<=122
     ·simp_arith [le_lo,zbw,Qo h1,Qo h2]
      rw [Qo ⟨h1,h2⟩]
      rfl
     ·simp_arith [le_lo,zbw,Qo h1,Qp h2]
      rw [Qp (fun z=>h2 z.2)]
      rfl
    ·simp_arith [le_lo,Qp h1]
     rw [Qp (fun z=>h1 z.1)]
     rfl)
  have nn:=ziX l.length M
  have eq:eqA (.lst ((l.filter fun c=>!isL c).map fun c=>FT.T.str (S [c]))) (.lst []) M = .ok (.bl (l.all isL)) M:=by
   cases h:l.filter fun c=>!isL c with
   | nil=>
    have:l.all isL = true:=all_eq_true.mpr fun c hc=>by
     have:=List.filter_eq_nil_iff.mp h c hc
     simpa using this
    rw [this]
    rfl
   | cons c r=>
    have hc:c ∈ l.filter fun c=>!isL c:=by rw [h];exact .head _
    have hc:=mem_filter.mp hc
    have:l.all isL = false:=Bool.eq_false_iff.mpr fun z=>by
     have:=all_eq_true.mp z c hc.1
     simp [this] at hc
    rw [this]
    rfl
  by_cases h:1<=l.length/\l.length<=8
  ·rw [Qo h] at nn
   simp_arith [isS,ln,nn,iTx,zgA,cp,eq]
   exact Ok.ret ⟨by unfold isW;rw [Qo h];rfl,rfl⟩
  ·rw [Qp h] at nn
   simp_arith [isS,ln,nn]
   exact Ok.ret ⟨by unfold isW;rw [Qp h];rfl,rfl⟩
 obtain ⟨t,M',e,rfl,rfl⟩:=key
 exact e
noncomputable def zaG:FT.T->Bool
 | .non=>true
 | .int _=>true
 | .bl _=>true
 | .tup _=>true
 | .lst _=>true
 | _=>false
variable {t:FT.T}
theorem zbB (h:zaG t = true) (M:Mem):yq [t] M = .ok (.bl false) M/\zq [t] M = .ok (.bl false) M:=by
 have i:qp t (.ty "str") M = .ok (.bl false) M:=by cases t <;> first | rfl | cases h
 unfold yq zae zq yU
 constructor
 ·simp_arith [i]
 ·simp_arith [i]
noncomputable def isN:FT.T->Bool
 | .int _=>true
 | _=>false
theorem yF (h:zaG t = true\/∃ l,t = .str (S l)) (M:Mem):qk [t] M = .ok (.bl (isN t)) M/\zA [t] M = .ok (.bl (isN t)) M:=by
 have i:qp t (.ty "int") M = .ok (.bl (match t with | .int _=>true | .bl _=>true | _=>false)) M/\qp t (.ty "bool") M = .ok (.bl (match t with | .bl _=>true | _=>false)) M:=by
  rcases h with h | ⟨l,rfl⟩
  ·cases t <;> first | exact ⟨rfl,rfl⟩ | cases h
  ·exact ⟨rfl,rfl⟩
 obtain ⟨i1,i2⟩:=i
 have u:∀ b c:Bool,(b = true->isN t = !c)->(b = false->isN t = false)->qp t (.ty "int") M = .ok (.bl b) M->qp t (.ty "bool") M = .ok (.bl c) M->qk [t] M = .ok (.bl (isN t)) M/\zA [t] M = .ok (.bl (isN t)) M:=fun b c h1 h2 j1 j2=>by
  unfold qk zaL zA zbj
  cases b with
  | false=>rw [h2 rfl];constructor <;> simp_arith [j1]
  | true=>
   rw [h1 rfl]
   cases c with
   | false=>constructor <;> simp_arith [j1,j2]
   | true=>constructor <;> simp_arith [j1,j2]
 refine u _ _ ?_ ?_ i1 i2
 ·cases t <;> simp [isN]
 ·cases t <;> simp [isN]
variable {d:Int} {M:Mem}
section
theorem zdT (c:Int) (M:Mem):zQ [.int c] M = .ok (.ref M.length) (M ++ [(Po.new c).cell]):=by
 unfold zQ zb6
 simp_arith [and_self]
 rw [show Po.new c = ⟨if c - 10 ^ 18 > 0 then c - 10 ^ 18 else 0,c % 10 ^ 18,0⟩ from rfl,Q8 _ (by decide)]
 rfl
theorem zdU (p:Po) (a:Nat) (base:Int) (M:Mem) (e:M[a]? = some p.cell) (h:0 < base) (hb:base.natAbs < 10 ^ 100):yh [.ref a,.int base] M = .ok (.int (p.dig base)) (M.set a (p.nxt base).cell):=by
 unfold yh zb7
 have ha:a < M.length:=(List.getElem?_eq_some_iff.mp e).1
 have hd:∀ i M,za7 (.int i) (.int base) M = .ok (.int (i.fdiv base)) M:=fun i M=>zcR (ziy 100 (by decide) (by omega) hb)
 have hm:∀ i M,z3 (.int i) (.int base) M = .ok (.int (i.fmod base)) M:=fun i M=>zfV (by omega)
 by_cases hp:0 < p.a
 ·simp_arith [e,Po.cell,hd,hm,Qo hp]
  unfold Po.dig Po.nxt
  rw [if_pos hp,if_pos hp,Q8 _ (by omega),Int.fdiv_eq_ediv_of_nonneg _ (by omega)]
 ·have hs:∀ c:Cell,(M.set a c)[a]? = some c:=fun c=>by rw [getElem?_set,if_pos rfl,if_pos ha]
  have h1:∀ j M,zP (.int 7919) (.int j) M = .ok (.int (7919 * j)) M:=fun j M=>zb1 (by decide)
  have hx:∀ x:Int,0<=x.fmod 1000000007/\x.fmod 1000000007 < 1000000007:=fun x=>by rw [Q8 _ (by decide)];omega
  have hy:∀ x:Int,0<=x.fmod 998244353/\x.fmod 998244353 < 998244353:=fun x=>by rw [Q8 _ (by decide)];omega
  have h2:∀ (x y:Int) M,zP (.int (x.fmod 1000000007 + 11)) (.int y) M = .ok (.int ((x.fmod 1000000007 + 11) * y)) M:=fun x y M=>zb1 (by have:=hx x;omega)
  have h3:∀ (x y:Int) M,zP (.int (x.fmod 998244353)) (.int y) M = .ok (.int (x.fmod 998244353 * y)) M:=fun x y M=>zb1 (by have:=hy x;omega)
  simp_arith [e,Po.cell,hd,hm,Qp hp,hs,h1,h2,h3]
  unfold Po.dig Po.nxt
  rw [if_neg hp,if_neg hp]
  simp only [Q8 _ (show (0:Int)<=1000000007 by decide),Q8 _ (show (0:Int)<=998244353 by decide),Q8 _ (show (0:Int)<=2147483647 by decide),Int.fdiv_eq_ediv_of_nonneg _ (show (0:Int)<=8 by decide),Q8 _ (show (0:Int)<=base by omega)]
def PO (a:Nat) (M:Mem):Prop:=∃ p:Po,M[a]? = some p.cell
theorem zt {a:Nat} {base:Int} (e:PO a M) (h:0 < base) (hb:base.natAbs < 10 ^ 100) :
  Ok (yh [.ref a,.int base] M) fun t M'=>∃ d:Int,t = .int d/\0<=d/\d < base/\PO a M'/\Fr [a] M M':=by
 obtain ⟨p,e⟩:=e
 exact Ok.of (zdU p a base M e h hb) ⟨_,rfl,p.dig_lo h,p.dig_hi h,⟨_,get_set e⟩,Fr.set _ _ _⟩
theorem PO.app {c:Int}:PO M.length (M ++ [(Po.new c).cell]):=⟨_,zgh⟩
theorem pick {xs:List Int} (h0:0<=d) (h1:d < xs.length):∃ v ∈ xs,atI (xs.map FT.T.int) d = some (.int v):=by
 obtain ⟨x,h1,h2⟩:=zaR (xs:=xs.map FT.T.int) h0 (by simpa using h1)
 obtain ⟨v,hv,rfl⟩:=mem_map.mp h2
 exact ⟨v,hv,h1⟩
theorem zdM {a:Nat} (e:PO a M):Ok (yL [.ref a] M) fun t M'=>∃ d:Int,t = .int d/\-(10 ^ 30)<=d/\d<=10 ^ 30/\PO a M'/\Fr [a] M M':=by
 refine qD rfl ?_
 unfold zaK
 simp only [Int.reducePow]
 simp_arith [and_self]
 refine Ok.bind (zt e (by decide) (by decide)) ?_
 rintro t M1 ⟨w,rfl,w0,w8,p1,f1⟩
 by_cases h1:w < 5
 ·simp_arith [Qo h1]
  refine Ok.bind (zt p1 (by decide) (by decide)) ?_
  rintro t M2 ⟨d,rfl,d0,d1,p2,f2⟩
  simp_arith [and_self]
  exact Ok.ret ⟨_,rfl,by omega,by omega,p2,f1.trans f2⟩
 ·by_cases h2:w = 5
  ·simp_arith [Qp h1,show (w == 5) = true by rw [h2];rfl]
   refine Ok.bind (zt p1 (by decide) (by decide)) ?_
   rintro t M2 ⟨d,rfl,d0,d1,p2,f2⟩
   simp_arith [and_self]
   exact Ok.ret ⟨_,rfl,by omega,by omega,p2,f1.trans f2⟩
  ·simp_arith [Qp h1,show (w == 5) = false by simpa using h2]
   refine Ok.bind (zt p1 (by decide) (by decide)) ?_
   rintro t M2 ⟨d,rfl,d0,d1,p2,f2⟩
   refine Ok.bind (zt p2 (by decide) (by decide)) ?_
   rintro t M3 ⟨d',rfl,d0',d1',p3,f3⟩
   simp_arith [and_self]
   exact Ok.ret ⟨_,rfl,by omega,by omega,p3,(f1.trans f2).trans f3⟩
end
theorem zhb:∀ d:Nat,d < 26->∃ c,atI (Str.ofString "abcdefghijklmnopqrstuvwxyz").cps.toList ((d:Nat):Int) = some c:=by
 intro d hd
 obtain ⟨x,h,_⟩:=zaR (xs:=(Str.ofString "abcdefghijklmnopqrstuvwxyz").cps.toList) (i:=(d:Int)) (by omega) (by rw [show (Str.ofString "abcdefghijklmnopqrstuvwxyz").cps.toList.length = 26 by decide];omega)
 exact ⟨x,h⟩
theorem zhp (h0:0<=d) (h:d < 26) (M:Mem):∃ c,ixS (.str "abcdefghijklmnopqrstuvwxyz") (.int d) M = .ok (.str (S [c])) M:=by
 obtain ⟨n,rfl⟩:∃ n:Nat,d = n:=⟨d.toNat,by omega⟩
 obtain ⟨c,e⟩:=zhb n (by omega)
 refine ⟨c,?_⟩
 unfold ixS
 simp only [e]
 exact if_pos (sz (by decide))
theorem zgx (zs:List Str):zau (zs.map FT.T.str) = some zs:=by
 induction zs with
 | nil=>rfl
 | cons z zs ih=>simp only [map_cons,zau,ih,Option.map_some]
theorem zik {zs:List Str} (h:∀ z ∈ zs,z.length = 1) (hl:zs.length<=10) (M:Mem):∃ l,zam (.str "") [.lst (zs.map FT.T.str)] M = .ok (.str (S l)) M/\l.length<=10:=by
 have hs:(zs.map (·.length)).sum<=10:=by
  have:(zs.map (·.length)).sum = zs.length:=by
   clear hl
   induction zs with
   | nil=>rfl
   | cons z zs ih=>simp only [map_cons,List.sum_cons,Qm,ih (fun z hz=>h z (.tail _ hz)),h z (.head _)];omega
  omega
 refine ⟨(Txt.join "" zs).cps.toList,?_,?_⟩
 ·unfold zam
  simp only [yB,zgx]
  rw [if_pos (by rw [show (Str.ofString "").length = 0 from rfl];omega),← ze6]
 ·have:=StrLaws.join_length_le "" zs
  rw [← StrLaws.glued_eq_join] at this
  have e:(Txt.join "" zs).cps.toList.length = (Txt.join "" zs).length:=by simp [Str.length]
  rw [e]
  refine Qg this ?_
  rw [show (Str.ofString "").length = 0 from rfl]
  omega
theorem ziZ (hl:l.length<=10) {n:Int} (hn:n = 1\/n = 2\/n = 10) (M:Mem):∃ l',za5 (.str (S l)) (.int n) M = .ok (.str (S l')) M/\l'.length<=100:=by
 have ok:MulOk (S l) n:=by
  unfold MulOk
  rw [zap]
  rcases hn with rfl | rfl | rfl
  ·exact ⟨by decide,fun _ h=>by simp at h,fun _ h=>by simp at h⟩
  ·exact ⟨by decide,fun _ _=>by omega,fun _ _=>by unfold PySem.Builtin.Str.tooLong;rw [sizeLine_eq];simp;omega⟩
  ·exact ⟨by decide,fun _ _=>by omega,fun _ _=>by unfold PySem.Builtin.Str.tooLong;rw [sizeLine_eq];simp;omega⟩
 refine ⟨(Txt.mul (S l) n).cps.toList,?_,?_⟩
 ·unfold za5
  dsimp only
  rw [if_pos ok,← ze6]
 ·unfold Txt.mul
  have fl:∀ (k:Nat) (acc:Array Nat),((List.replicate k (S l).cps).foldl (· ++ ·) acc).size = acc.size + k * l.length:=by
   intro k
   induction k with
   | zero=>intro acc;simp
   | succ k ih=>
    intro acc
    rw [replicate_succ,List.foldl_cons,ih]
    simp [Nat.succ_mul]
    omega
  rcases hn with rfl | rfl | rfl
  ·rw [if_neg (by decide),if_pos (by simp)];simp;omega
  ·rw [if_neg (by decide)]
   split
   ·simp;omega
   ·have:=fl 2 #[]
    simp only [Array.length_toList]
    show ((List.replicate 2 (S l).cps).foldl (· ++ ·) #[]).size<=100
    rw [this]
    simp
    omega
  ·rw [if_neg (by decide)]
   split
   ·simp;omega
   ·have:=fl 10 #[]
    simp only [Array.length_toList]
    show ((List.replicate 10 (S l).cps).foldl (· ++ ·) #[]).size<=100
    rw [this]
    simp
    omega
theorem zhR (hl:l.length<=1000) (lo hi:Option Int) (M:Mem):∃ l',zaf (.str (S l)) lo hi M = .ok (.str (S l')) M/\l'.length<=l.length:=by
 refine ⟨(Txt.slice (S l) lo hi).cps.toList,?_,?_⟩
 ·unfold zaf
  dsimp only
  rw [if_pos (sz (by rw [zap];omega)),← ze6]
 ·have:=Txt.slice_le (S l) lo hi
  rw [zap] at this
  have e:(Txt.slice (S l) lo hi).cps.toList.length = (Txt.slice (S l) lo hi).length:=by simp [Str.length]
  rw [e]
  exact this
theorem adE {m:List Nat} (h:l.length + m.length<=10000) (M:Mem):yw (.str (S l)) (.str (S m)) M = .ok (.str (S (l ++ m))) M:=by
 unfold yw
 dsimp only
 rw [if_pos (sz (by rw [zap,zap];exact h))]
 congr 2
 show Str.append _ _ = _
 unfold Str.append
 simp
end My
namespace FT
open PySem L2
variable {σ:Ev} {p q:Ev->Mem->Out Fl} {M:Mem}
theorem Ok.seqX {Q:Fl->Mem->Prop} (h:∀ X,X = zS q->Ok ((p σ M).bind X) Q):Ok (zi p q σ M) Q:=h _ rfl
theorem Ok.seqR {Q:T->Mem->Prop} (h:∀ X,X = (fun fl M=>(zS q fl M).bind zbR)->Ok ((p σ M).bind X) Q):Ok ((zi p q σ M).bind zbR) Q:=by
 have:=h _ rfl
 unfold zi
 rw [ze2]
 exact this
end FT
namespace My
open PySem L2 FT
theorem zf1 (x:Str) (M:Mem):isStr (.str x) M = true:=rfl
theorem zfo {a:Nat} {M:Mem} (e:PO a M):Ok (z5 [.ref a] M) fun t M'=>∃ l,t = .str (S l)/\l.length<=300/\PO a M'/\Fr [a] M M':=by
 refine qD rfl ?_
 unfold zb5
 rw [show startT 5 [.ref a] = [some (.ref a),none,none,none,none] from rfl]
 refine Ok.seqR fun X hX=>?_
 try simp_arith [and_self]
 rw [hX];clear hX;simp only [qm]
 refine Ok.seqR fun X hX=>?_
 simp_arith [zaO,zf1]
 refine Ok.bind (zt e (by decide) (by decide)) ?_
 rintro t M1 ⟨n,rfl,n0,n1,p1,f1⟩
 simp_arith [zaY (show -(2 ^ 62)<=n/\n < 2 ^ 62 by omega)]
 refine Ok.bind (Ok.comp (r:=FT.T.int) (fun i acc σ M'=>(∃ zs:List Str,acc = zs.map FT.T.str/\zs.length = i/\∀ z ∈ zs,z.length = 1)/\(∃ o,σ = [o,some (.str "abcdefghijklmnopqrstuvwxyz"),some (.ref a)])/\PO a M'/\Fr [a] M M') (rgI n.toNat) 0 [] ⟨⟨[],rfl,rfl,fun z h=>by cases h⟩,⟨_,rfl⟩,p1,f1⟩ (by rw [zaj];exact sz (by simp;omega)) ?_) ?_
 ·rintro k x σ M2 acc hk ⟨⟨zs,rfl,hz,h1⟩,⟨o,rfl⟩,p2,f2⟩
  simp_arith [and_self]
  refine Ok.bind (zt p2 (by decide) (by decide)) ?_
  rintro t M3 ⟨d,rfl,d0,d1,p3,f3⟩
  obtain ⟨c,hc⟩:=zhp d0 d1 M3
  simp_arith [hc]
  refine Ok.ret ⟨⟨zs ++ [S [c]],by simp,by simp [hz],fun z hz=>?_⟩,⟨_,rfl⟩,p3,f2.trans f3⟩
  rcases mem_append.mp hz with q | q
  ·exact h1 z q
  ·rw [mem_singleton.mp q];rfl
 rintro ts M2 ⟨σ,⟨zs,rfl,hz,h1⟩,_,p2,f2⟩
 rw [Nat.zero_add,zaj] at hz
 obtain ⟨l1,j1,hl1⟩:=zik h1 (by omega) M2
 simp_arith [j1]
 rw [hX];clear hX;simp only [qm]
 refine Ok.seqR fun X hX=>?_
 try simp_arith [and_self]
 refine Ok.bind (zt p2 (by decide) (by decide)) ?_
 rintro t M3 ⟨d,rfl,d0,d1,p3,f3⟩
 obtain ⟨v,hv,hm⟩:=pick (xs:=[1,1,1,1,1,1,2,10]) d0 d1
 obtain ⟨l2,j2,hl2⟩:=ziZ hl1 (n:=v) (by simp at hv;omega) M3
 replace hm:atI [FT.T.int 1,.int 1,.int 1,.int 1,.int 1,.int 1,.int 2,.int 10] d = some (.int v):=hm
 simp_arith [hm,j2]
 rw [hX];clear hX;simp only [qm]
 refine Ok.seqR fun X hX=>?_
 try simp_arith [and_self]
 refine Ok.bind (zt p3 (by decide) (by decide)) ?_
 rintro t M4 ⟨d,rfl,d0,d1,p4,f4⟩
 obtain ⟨w,hw,hm⟩:=zaR (xs:=([[],[65],[49],[32],[95],[90],[123],[45],[126],[122]]:List (List Nat)).map fun l=>FT.T.str (S l)) d0 d1
 obtain ⟨lo,hlo,rfl⟩:=mem_map.mp hm
 have hlo1:lo.length<=1:=by
  simp only [mem_cons,not_mem_nil,or_false] at hlo
  rcases hlo with rfl | rfl | rfl | rfl | rfl | rfl | rfl | rfl | rfl | rfl <;> decide
 replace hw:atI [FT.T.str "",.str "A",.str "1",.str " ",.str "_",.str "Z",.str "{",.str "-",.str "~",.str "z"] d = some (.str (S lo)):=hw
 simp_arith [hw]
 rw [hX];clear hX;simp only [qm]
 refine Ok.seqR fun X hX=>?_
 simp_arith [zeG (l:=l2) (by omega)]
 refine Ok.bind (zt p4 (by omega) (by omega)) ?_
 rintro t M5 ⟨at_,rfl,a0,a1,p5,f5⟩
 try simp_arith [and_self]
 rw [hX];clear hX;simp only [qm]
 refine Ok.seqR fun X hX=>?_
 try simp_arith [and_self]
 refine Ok.bind (zt p5 (by decide) (by decide)) ?_
 rintro t M6 ⟨d,rfl,d0,d1,p6,f6⟩
 have fr:=((((f2.trans f3).trans f4).trans f5).trans f6)
 have eq:eqA (.int d) (.int 0) M6 = .ok (.bl (d == 0)) M6:=rfl
 cases hd:(d == 0) with
 | false=>
  rw [hd] at eq
  simp_arith [eq]
  rw [hX];clear hX;simp only [qm]
  simp_arith [and_self]
  exact Ok.ret ⟨l2,rfl,by omega,p6,fr⟩
 | true=>
  rw [hd] at eq
  obtain ⟨u,ju,hu⟩:=zhR (l:=l2) (by omega) none (some at_) M6
  obtain ⟨v,jv,hv⟩:=zhR (l:=l2) (by omega) (some at_) none M6
  simp_arith [eq,zcc,ju,jv,adE (l:=u) (m:=lo) (by omega) M6,adE (l:=u ++ lo) (m:=v) (by rw [Qk];omega) M6]
  rw [hX];clear hX;simp only [qm]
  simp_arith [and_self]
  exact Ok.ret ⟨_,rfl,by rw [Qk,Qk];omega,p6,fr⟩
variable {C:Addr} {ks:List Addr}
theorem zil {k:Addr} {fs:List (Str × FT.T)} (h:C ∈ ks) (M:Mem):isX (yn ks k) (.exc C fs) M = .ok (.bl (C == k)) M:=by
 unfold isX yn
 dsimp only
 rw [if_pos (contains_iff_mem.mpr h)]
theorem zim {fs:List (Str × FT.T)} (h:C ∈ ks) (M:Mem):isX (qT ks) (.exc C fs) M = .ok (.bl true) M:=by
 unfold isX qT
 dsimp only
 rw [if_pos (contains_iff_mem.mpr h)]
theorem mk0 (C:Addr) (M:Mem):zD C [.str "x"] M = .ok (.exc C []) M:=if_pos (sz (by decide))
variable {i:Nat}
theorem zdO (nd:ks.Nodup) {j:Nat} {a b:Addr} (ha:ks[i]? = some a) (hb:ks[j]? = some b):(a == b) = ((j:Int) == (i:Int)):=by
 by_cases h:i = j
 ·subst h
  rw [ha] at hb
  cases hb
  simp
 ·have:a ≠ b:=fun e=>by
   subst e
   obtain ⟨h1,e1⟩:=List.getElem?_eq_some_iff.mp ha
   obtain ⟨h2,e2⟩:=List.getElem?_eq_some_iff.mp hb
   exact h ((List.getElem_inj nd).mp (e1.trans e2.symm))
  rw [beq_eq_false_iff_ne.mpr this,beq_eq_false_iff_ne.mpr (by omega)]
theorem zd7 (M:Mem) (d:Nat):∀ l:List Bool,eqL (eqD M d) (l.map FT.T.bl) (l.map FT.T.bl) = some true
 | []=>rfl
 | b :: l=>by
  have ih:=zd7 M d l
  have e:eqD M d (.bl b) (.bl b) = some true:=by cases d <;> cases b <;> rfl
  simp only [map_cons,eqL,e,ih]
  rfl
theorem zih (l:List Bool) (M:Mem):neA (.lst (l.map FT.T.bl)) (.lst (l.map FT.T.bl)) M = .ok (.bl false) M:=by
 unfold neA
 have:eqD M 20 (.lst (l.map FT.T.bl)) (.lst (l.map FT.T.bl)) = some true:=by
  rw [show eqD M 20 (.lst (l.map FT.T.bl)) (.lst (l.map FT.T.bl)) = (if (l.map FT.T.bl).length = (l.map FT.T.bl).length then eqL (eqD M 19) (l.map FT.T.bl) (l.map FT.T.bl) else some false) from rfl,if_pos rfl]
  exact zd7 M 19 l
 rw [this]
 rfl
section
variable (k0 k1 k2 k3 k4 k5 k6 k7 k8 k9 k10:Addr)
noncomputable abbrev yK:List Addr:=[k0,k1,k2,k3,k4,k5,k6,k7,k8,k9,k10]
theorem zep {fs:List (Str × FT.T)} (h:C ∈ yK k0 k1 k2 k3 k4 k5 k6 k7 k8 k9 k10) (M:Mem):yI k0 k1 k2 k3 k4 k5 k6 k7 k8 k9 k10 [.exc C fs] M = .ok (.lst (((yK k0 k1 k2 k3 k4 k5 k6 k7 k8 k9 k10).map fun k=>C == k).map .bl)) M:=by
 have i:=fun k=>zil (k:=k) (fs:=fs) h M
 have al:∀ xs ys:List FT.T,xs.length + ys.length<=100->yw (.lst xs) (.lst ys) M = .ok (.lst (xs ++ ys)) M:=fun xs ys h=>zcU (by rw [sizeLine_eq];omega)
 unfold yI zbk
 simp_arith [eUn,i]
 rw [al _ _ (Nat.le_of_ble_eq_true rfl)]
 simp_arith [i]
 rw [al _ _ (Nat.le_of_ble_eq_true rfl)]
 rfl
theorem zfW (n:FT.T) (h:(yK k0 k1 k2 k3 k4 k5 k6 k7 k8 k9 k10)[i]? = some C) (M:Mem):∃ fs,yQ k0 k1 k2 k3 k4 k5 k6 k7 k8 k9 k10 [.int (i:Int),n] M = .ok (.exc C fs) M:=by
 have hi:i < 11:=(List.getElem?_eq_some_iff.mp h).1
 have m1:∀ C M,yP C [n] M = .ok (.exc C [("at",n)]) M:=fun C M=>rfl
 unfold yQ zb8
 have:i = 0\/i = 1\/i = 2\/i = 3\/i = 4\/i = 5\/i = 6\/i = 7\/i = 8\/i = 9\/i = 10:=by omega
 rcases this with rfl | rfl | rfl | rfl | rfl | rfl | rfl | rfl | rfl | rfl | rfl <;> cases h
 ·exact ⟨[],by simp_arith [zl,mk0,Int.reduceSub];rfl⟩
 ·exact ⟨[],by simp_arith [zl,mk0,Int.reduceSub];rfl⟩
 ·exact ⟨[],by simp_arith [zl,mk0,Int.reduceSub];rfl⟩
 ·exact ⟨[],by simp_arith [zl,mk0,Int.reduceSub];rfl⟩
 ·exact ⟨[],by simp_arith [zl,mk0,Int.reduceSub];rfl⟩
 ·exact ⟨[],by simp_arith [zl,mk0,Int.reduceSub];rfl⟩
 ·exact ⟨[],by simp_arith [zl,mk0,Int.reduceSub];rfl⟩
 ·exact ⟨[],by simp_arith [zl,mk0,Int.reduceSub];rfl⟩
 ·exact ⟨[],by simp_arith [zl,mk0,Int.reduceSub];rfl⟩
 ·exact ⟨[("at",n)],by simp_arith [zl,m1,Int.reduceSub];rfl⟩
 ·exact ⟨[("at",n)],by simp_arith [zl,m1,Int.reduceSub];rfl⟩
theorem ze4 (nd:(yK k0 k1 k2 k3 k4 k5 k6 k7 k8 k9 k10).Nodup) (n:Nat) (M:Mem):qI k0 k1 k2 k3 k4 k5 k6 k7 k8 k9 k10 [.int (n:Int)] M = .ok (.bl true) M:=by
 have key:Ok (qI k0 k1 k2 k3 k4 k5 k6 k7 k8 k9 k10 [.int (n:Int)] M) fun t M'=>t = .bl true/\M' = M:=by
  refine qD rfl ?_
  unfold zbl
  simp_arith [zaY (show -(2 ^ 62)<=(11:Int)/\(11:Int) < 2 ^ 62 by decide)]
  refine Ok.bind (Ok.for (r:=FT.T.int) (xs:=rgI 11) (fun k σ M'=>(∃ o1 o2,σ = [some (.int (n:Int)),o1,o2])/\M' = M) ⟨⟨none,none,rfl⟩,rfl⟩ ?_) ?_
  ·rintro k x σ M1 hk ⟨⟨o1,o2,rfl⟩,rfl⟩
   obtain ⟨hq,rfl⟩:=zfs hk
   obtain ⟨C,hC⟩:∃ C,(yK k0 k1 k2 k3 k4 k5 k6 k7 k8 k9 k10)[k]? = some C:=⟨_,Q0 (show k < (yK k0 k1 k2 k3 k4 k5 k6 k7 k8 k9 k10).length from hq)⟩
   obtain ⟨fs,md⟩:=zfW k0 k1 k2 k3 k4 k5 k6 k7 k8 k9 k10 (.int (n:Int)) hC M1
   have hm:C ∈ yK k0 k1 k2 k3 k4 k5 k6 k7 k8 k9 k10:=Q9 hC
   have sg:=zep k0 k1 k2 k3 k4 k5 k6 k7 k8 k9 k10 (fs:=fs) hm M1
   have iA:=zim (fs:=fs) hm M1
   have cp:qh (zC 0) zZ (eOp eqA (zc 0) (zc 1)) ((rgI 11).map FT.T.int) [none,some (.int (k:Int))] M1 [] = .ok ((rgI 11).map fun j=>.bl (j == (k:Int))) M1:=
    Ok.mapc (r:=FT.T.int) (fun σ=>∃ o,σ = [o,some (.int (k:Int))]) (fun j=>FT.T.bl (j == (k:Int))) ⟨_,rfl⟩ (by rw [zaj];decide) (by
     rintro j σ _ ⟨o,rfl⟩
     exact ⟨[some (.int j),some (.int (k:Int))],rfl,⟨_,rfl⟩,rfl⟩)
   have le:((yK k0 k1 k2 k3 k4 k5 k6 k7 k8 k9 k10).map fun k=>C == k).map FT.T.bl = (rgI 11).map fun j=>FT.T.bl (j == (k:Int)):=by
    rw [List.map_map]
    refine List.ext_getElem? fun j=>?_
    rw [Qa,Qa]
    by_cases hj:j < 11
    ·obtain ⟨b,hb⟩:∃ b,(yK k0 k1 k2 k3 k4 k5 k6 k7 k8 k9 k10)[j]? = some b:=⟨_,Q0 (show j < (yK k0 k1 k2 k3 k4 k5 k6 k7 k8 k9 k10).length from hj)⟩
     rw [hb,show (rgI 11)[j]? = some (j:Int) by unfold rgI;simp [hj]]
     simp only [Option.map_some,Function.comp]
     rw [zdO nd hC hb]
    ·rw [getElem?_eq_none (show (yK k0 k1 k2 k3 k4 k5 k6 k7 k8 k9 k10).length<=j by show 11<=j;omega),getElem?_eq_none (show (rgI 11).length<=j by rw [zaj];omega)]
     rfl
   have ne:=zih ((yK k0 k1 k2 k3 k4 k5 k6 k7 k8 k9 k10).map fun k=>C == k) M1
   rw [le] at sg ne
   generalize (rgI 11).map (fun j=>FT.T.bl (j == (k:Int))) = L at *
   unfold zaQ
   simp_arith [md,sg,zaY (show -(2 ^ 62)<=(11:Int)/\(11:Int) < 2 ^ 62 by decide),cp,ne,eUn,iA]
   exact Ok.ret ⟨_,rfl,⟨_,_,rfl⟩,rfl⟩
  ·rintro fl M1 ⟨σ,rfl,⟨o1,o2,rfl⟩,rfl⟩
   have m1:∀ C,yP C [.int (n:Int)] M1 = .ok (.exc C [("at",.int (n:Int))]) M1:=fun C=>rfl
   have x1:∀ C,xat [C] (.exc C [("at",.int (n:Int))]) M1 = .ok (.int (n:Int)) M1:=fun C=>by
    unfold xat
    dsimp only
    rw [if_pos (by simp)]
    rfl
   have eq:eqA (.int (n:Int)) (.int (n:Int)) M1 = .ok (.bl true) M1:=by
    show Out.ok (FT.T.bl ((n:Int) == (n:Int))) M1 = _
    rw [beq_self_eq_true]
   simp_arith [eUn,zl,m1,x1,eq]
   exact Ok.ret ⟨rfl,rfl⟩
 obtain ⟨t,M',e,rfl,rfl⟩:=key
 exact e
end
theorem law_true (k0 k1 k2 k3 k4 k5 k6 k7 k8 k9 k10:Addr) (nd:[k0,k1,k2,k3,k4,k5,k6,k7,k8,k9,k10].Nodup) (ns:List Int) (hn:ns.length<=63):∃ M,zan k0 k1 k2 k3 k4 k5 k6 k7 k8 k9 k10 [.lst (ns.map .int)] [] = .ok (.bl true) M:=by
 have:Ok (zan k0 k1 k2 k3 k4 k5 k6 k7 k8 k9 k10 [.lst (ns.map .int)] []) fun t _=>t = .bl true:=by
  refine qD rfl ?_
  unfold zfg
  rw [show startT 7 [.lst (ns.map .int)] = [some (.lst (ns.map .int)),none,none,none,none,none,none] from rfl]
  have al:∀ M,yw (.lst [.int 0]) (.lst (ns.map .int)) M = .ok (.lst ((0 :: ns).map .int)) M:=fun M=>zcU (by rw [sizeLine_eq,length_map,List.length_singleton];omega)
  refine Ok.seqR fun X hX=>?_
  simp_arith [al]
  refine Ok.bind (Ok.for (r:=FT.T.int) (xs:=0 :: ns) (fun k σ M'=>∃ o1 o2 o3 o4 o5 o6,σ = [some (.lst (ns.map .int)),o1,o2,o3,o4,o5,o6]) ⟨_,_,_,_,_,_,rfl⟩ ?_) ?_
  ·rintro k c σ M1 hk ⟨o1,o2,o3,o4,o5,o6,rfl⟩
   simp_arith [and_self]
   unfold zeg
   refine Ok.seqX fun X hX=>?_
   simp_arith [zdT]
   rw [hX];clear hX;simp only [qm]
   have po:PO M1.length (M1 ++ [(Po.new c).cell]):=PO.app
   generalize M1 ++ [(Po.new c).cell] = M2 at *
   generalize M1.length = a at *
   refine Ok.seqX fun X hX=>?_
   simp_arith [and_self]
   refine Ok.bind (zfo po) ?_
   rintro t M3 ⟨l,rfl,hl,p3,f3⟩
   rw [hX];clear hX;simp only [qm]
   refine Ok.seqX fun X hX=>?_
   simp_arith [and_self]
   refine Ok.bind (zdM p3) ?_
   rintro t M4 ⟨n,rfl,n1,n2,p4,f4⟩
   rw [hX];clear hX;simp only [qm]
   refine Ok.seqX fun X hX=>?_
   simp_arith [and_self]
   rw [hX];clear hX;simp only [qm]
   refine Ok.seqX fun X hX=>?_
   simp_arith [and_self]
   refine Ok.bind (zt p4 (by decide) (by decide)) ?_
   rintro t M5 ⟨d,rfl,d0,d1,p5,f5⟩
   obtain ⟨w,hw,hm⟩:=zaR (xs:=[FT.T.str (S l),.int n,.bl true,.bl false,.non,.lst [.str (S l)],.tup [.str (S l)],.tup [.int n],.lst [],.tup []]) d0 d1
   have hs:zaG w = true\/w = .str (S l):=by
    simp only [mem_cons,not_mem_nil,or_false] at hm
    rcases hm with rfl | rfl | rfl | rfl | rfl | rfl | rfl | rfl | rfl | rfl
    ·exact .inr rfl
    all_goals exact .inl rfl
   simp_arith [hw]
   have go:∀ (t:FT.T),(zaG t = true\/t = .str (S l))->∃ b c,∀ M,yq [t] M = .ok (.bl b) M/\zq [t] M = .ok (.bl b) M/\qk [t] M = .ok (.bl c) M/\zA [t] M = .ok (.bl c) M:=fun t ht=>by
    rcases ht with h | rfl
    ·exact ⟨false,isN t,fun M=>⟨(zbB h M).1,(zbB h M).2,(yF (.inl h) M).1,(yF (.inl h) M).2⟩⟩
    ·exact ⟨isW l,false,fun M=>⟨zfi (by omega) M,zeF (by omega) M,(yF (.inr ⟨l,rfl⟩) M).1,(yF (.inr ⟨l,rfl⟩) M).2⟩⟩
   refine Ok.bind (Ok.for (r:=fun t:FT.T=>t) (xs:=[.str (S l),w]) (fun k σ M'=>(∃ o6,σ = [some (.lst (ns.map .int)),some (.int c),some (.ref a),some (.str (S l)),some (.int n),some (.lst [FT.T.str (S l),.int n,.bl true,.bl false,.non,.lst [.str (S l)],.tup [.str (S l)],.tup [.int n],.lst [],.tup []]),o6])/\M' = M5) ⟨⟨_,rfl⟩,rfl⟩ ?_) ?_
   ·rintro k t σ M6 hk ⟨⟨o6,rfl⟩,rfl⟩
    have ht:zaG t = true\/t = .str (S l):=by
     have:=Q9 hk
     simp only [mem_cons,not_mem_nil,or_false] at this
     rcases this with rfl | rfl
     ·exact .inr rfl
     ·exact hs
    obtain ⟨b,c,g⟩:=go t ht
    obtain ⟨g1,g2,g3,g4⟩:=g M6
    have ne:∀ b:Bool,neA (.bl b) (.bl b) M6 = .ok (.bl false) M6:=fun b=>by cases b <;> rfl
    unfold zeh
    cases b with
    | false=>
     simp_arith [g1,g2,g3,g4,ne]
     exact Ok.ret ⟨_,rfl,⟨_,rfl⟩,rfl⟩
    | true=>
     simp_arith [g1,g2,g3,g4,ne]
     exact Ok.ret ⟨_,rfl,⟨_,rfl⟩,rfl⟩
   rintro fl M6 ⟨σ,rfl,⟨o6,rfl⟩,rfl⟩
   rw [hX];clear hX;simp only [qm]
   have w1:=(yF (t:=.int n) (.inl rfl) M6).1
   have w2:=(yF (t:=.str (S l)) (.inr ⟨l,rfl⟩) M6).1
   replace w1:qk [.int n] M6 = .ok (.bl true) M6:=w1
   replace w2:qk [.str (S l)] M6 = .ok (.bl false) M6:=w2
   have ap:=ze4 k0 k1 k2 k3 k4 k5 k6 k7 k8 k9 k10 nd n.natAbs M6
   have ab:zdt (.int n) M6 = .ok (.int ((n.natAbs:Nat):Int)) M6:=by
    show Out.ok (FT.T.int (if n < 0 then -n else n)) M6 = _
    congr 2
    split <;> omega
   simp_arith [w1,w2,ab,ap]
   exact Ok.ret ⟨_,rfl,_,_,_,_,_,_,rfl⟩
  ·rintro fl M2 ⟨σ,rfl,o1,o2,o3,o4,o5,o6,rfl⟩
   rw [hX];clear hX;simp only [qm]
   simp_arith [and_self]
   exact Ok.ret rfl
 obtain ⟨t,M,e,rfl⟩:=this
 exact ⟨M,e⟩
end My
theorem My.e1 {α:Type} {P:List α->Prop} (h:∀ a,P [a]):∀ us:List α,us.length = 1->P us
 | [a],_=>h a
theorem My.e2 {α:Type} {P:List α->Prop} (h:∀ a b,P [a,b]):∀ us:List α,us.length = 2->P us
 | [a,b],_=>h a b
local macro_rules | `(tactic| rfl') => do
 let K:=Lean.mkIdent `KX
 let G:=Lean.mkIdent `G
 `(tactic| (dsimp only [L2.KOf];refine' L2.qE $K $G ?a ?l ?c ?k ?b;(case a=>k_is);(case l=>k_is);(case c=>k_is);(case k=>k_is)))
open PySem PySem.W PyProof.Rows
set_option maxRecDepth 100000 in
set_option maxHeartbeats 0 in
theorem PySem.Challenge.cw_tryweir_k01_words_and_refusals_holds : PySem.Challenge.rw_tryweir_k01_words_and_refusals.Holds := by
 refine My.hdD.2 ?_
 dsimp only [My.hdD]
 k_fill
 refine L2.zen (l:=PySem.Challenge.rw_tryweir_k01_words_and_refusals) (n:=63) (k:=5) (x:="script") (CX:=L2.CX0) (sp:=fun K=>FT.spT K (My.zaM (FT.zb K "NoRatio") (FT.zb K "NoHouse") (FT.zb K "NoAsk") (FT.zb K "NoPurse") (FT.zb K "TooMany") (FT.zb K "NoText") (FT.zb K "NoRow") (FT.zb K "NoNet") (FT.zb K "NoPast") (FT.zb K "NoDeed") (FT.zb K "NoEvent"))) rfl (by decide) rfl ⟨rfl,by decide,by decide⟩ (fun w h Y=>PySem.W.kIn_of Y) ?F ?S ?C
 case F=>
  intro w mg fa h KX G hmg
  have ut:L2.Df (L2.KOf KX) mg "_law_pool" My.zaw ["cell"]:=by rfl';exact fun _ _ _ _ _ _=>My.e1 fun _=>rfl
  have uq:L2.Df (L2.KOf KX) mg "_law_next" My.zax ["pool","base"]:=by rfl';exact fun _ _ _ _ _ _=>My.e2 fun _ _=>rfl
  have uv:L2.Df (L2.KOf KX) mg "_law_text" My.zav ["pool"]:=by rfl';exact fun _ _ _ _ _ _=>My.e1 fun _=>rfl
  have ud:L2.Df (L2.KOf KX) mg "_law_number" My.y0 ["pool"]:=by rfl';exact fun _ _ _ _ _ _=>My.e1 fun _=>rfl
  have ue:L2.Df (L2.KOf KX) mg "is_whole" My.y1 ["thing"]:=by rfl';exact fun _ _ _ _ _ _=>My.e1 fun _=>rfl
  have uu:L2.Df (L2.KOf KX) mg "_law_made" My.zay ["k","number"]:=by rfl';exact fun _ _ _ _ _ _=>My.e2 fun _ _=>rfl
  have uj:L2.Df (L2.KOf KX) mg "_law_signs" My.y9 ["e"]:=by rfl';exact fun _ _ _ _ _ _=>My.e1 fun _=>rfl
  have uh:L2.Df (L2.KOf KX) mg "_law_apart" My.zaa ["number"]:=by rfl';exact fun _ _ _ _ _ _=>My.e1 fun _=>rfl
  have uk:L2.Df (L2.KOf KX) mg "is_word" My.zab ["thing"]:=by rfl';exact fun _ _ _ _ _ _=>My.e1 fun _=>rfl
  have uc:L2.Df (L2.KOf KX) mg "_law_is_word" My.zU ["thing"]:=by rfl';exact fun _ _ _ _ _ _=>My.e1 fun _=>rfl
  have um:L2.Df (L2.KOf KX) mg "_law_whole" My.z9 ["thing"]:=by rfl';exact fun _ _ _ _ _ _=>My.e1 fun _=>rfl
  have uE:mg "max" = none:=by refine' PySem.W.mg_none_of KX G ?z12;k_is
  have ux:mg "range" = none:=by refine' PySem.W.mg_none_of KX G ?z13;k_is
  have uD:mg "len" = none:=by refine' PySem.W.mg_none_of KX G ?z14;k_is
  have uC:mg "int" = none:=by refine' PySem.W.mg_none_of KX G ?z15;k_is
  have ub:mg "isinstance" = none:=by refine' PySem.W.mg_none_of KX G ?z16;k_is
  have uA:mg "bool" = none:=by refine' PySem.W.mg_none_of KX G ?z17;k_is
  have uG:mg "str" = none:=by refine' PySem.W.mg_none_of KX G ?z18;k_is
  have uF:mg "all" = none:=by refine' PySem.W.mg_none_of KX G ?z19;k_is
  have uB:mg "abs" = none:=by refine' PySem.W.mg_none_of KX G ?z20;k_is
  have ua:∃ t,mg "MOST_LETTERS" = some (.int 8 t):=by
   have h:∃ v,mg "MOST_LETTERS" = some v/\∃ t,v = .int 8 t:=by
    refine' ⟨_,PySem.W.mg_of KX G ?z21,?y21⟩
    (case z21=>k_is)
    exact ⟨_,rfl⟩
   obtain ⟨v,h1,t,h2⟩:=h
   exact ⟨t,by rw [h1,h2]⟩
  have L:=by
   refine' L2.zhe (st:=My.zc7) KX G ?la ?ll ?lc ?lk ?lb
   (case la=>k_is);(case ll=>k_is);(case lc=>k_is);(case lk=>k_is)
   exact fun _ _ _ _ _ _ s u=>.of_eq rfl
  obtain ⟨f,fd,F,g,hb⟩:=L
  have e:=hmg.symm.trans g
  cases e
  have T:My.Txt mg:=⟨uE,ux,uD,uC,ub,uA,uG,uF,uB,ua⟩
  refine ⟨fd,hb,fun base _ _=>?_⟩
  have un:L2.ExcAt (L2.KOf KX) mg "NoRatio" (FT.zb (L2.KOf KX) "NoRatio"):=by
   dsimp only [L2.KOf]
   refine' FT.yE KX G ?a22 ?l22 ?ln22 ?sk22 ?q22 ?lw22 ?lwn22 ?sl22 ?ni22
   (case a22=>k_is);(case l22=>k_is);(case ln22=>k_is);(case sk22=>exact rfl);(case q22=>k_is);(case lw22=>k_is);(case lwn22=>k_is);(case sl22=>exact rfl);(case ni22=>k_is)
  have ui:L2.ExcAt (L2.KOf KX) mg "NoHouse" (FT.zb (L2.KOf KX) "NoHouse"):=by
   dsimp only [L2.KOf]
   refine' FT.yE KX G ?a23 ?l23 ?ln23 ?sk23 ?q23 ?lw23 ?lwn23 ?sl23 ?ni23
   (case a23=>k_is);(case l23=>k_is);(case ln23=>k_is);(case sk23=>exact rfl);(case q23=>k_is);(case lw23=>k_is);(case lwn23=>k_is);(case sl23=>exact rfl);(case ni23=>k_is)
  have uy:L2.ExcAt (L2.KOf KX) mg "NoAsk" (FT.zb (L2.KOf KX) "NoAsk"):=by
   dsimp only [L2.KOf]
   refine' FT.yE KX G ?a24 ?l24 ?ln24 ?sk24 ?q24 ?lw24 ?lwn24 ?sl24 ?ni24
   (case a24=>k_is);(case l24=>k_is);(case ln24=>k_is);(case sk24=>exact rfl);(case q24=>k_is);(case lw24=>k_is);(case lwn24=>k_is);(case sl24=>exact rfl);(case ni24=>k_is)
  have uf:L2.ExcAt (L2.KOf KX) mg "NoPurse" (FT.zb (L2.KOf KX) "NoPurse"):=by
   dsimp only [L2.KOf]
   refine' FT.yE KX G ?a25 ?l25 ?ln25 ?sk25 ?q25 ?lw25 ?lwn25 ?sl25 ?ni25
   (case a25=>k_is);(case l25=>k_is);(case ln25=>k_is);(case sk25=>exact rfl);(case q25=>k_is);(case lw25=>k_is);(case lwn25=>k_is);(case sl25=>exact rfl);(case ni25=>k_is)
  have ug:L2.ExcAt (L2.KOf KX) mg "TooMany" (FT.zb (L2.KOf KX) "TooMany"):=by
   dsimp only [L2.KOf]
   refine' FT.yE KX G ?a26 ?l26 ?ln26 ?sk26 ?q26 ?lw26 ?lwn26 ?sl26 ?ni26
   (case a26=>k_is);(case l26=>k_is);(case ln26=>k_is);(case sk26=>exact rfl);(case q26=>k_is);(case lw26=>k_is);(case lwn26=>k_is);(case sl26=>exact rfl);(case ni26=>k_is)
  have ur:L2.ExcAt (L2.KOf KX) mg "NoText" (FT.zb (L2.KOf KX) "NoText"):=by
   dsimp only [L2.KOf]
   refine' FT.yE KX G ?a27 ?l27 ?ln27 ?sk27 ?q27 ?lw27 ?lwn27 ?sl27 ?ni27
   (case a27=>k_is);(case l27=>k_is);(case ln27=>k_is);(case sk27=>exact rfl);(case q27=>k_is);(case lw27=>k_is);(case lwn27=>k_is);(case sl27=>exact rfl);(case ni27=>k_is)
  have uz:L2.ExcAt (L2.KOf KX) mg "NoRow" (FT.zb (L2.KOf KX) "NoRow"):=by
   dsimp only [L2.KOf]
   refine' FT.yE KX G ?a28 ?l28 ?ln28 ?sk28 ?q28 ?lw28 ?lwn28 ?sl28 ?ni28
   (case a28=>k_is);(case l28=>k_is);(case ln28=>k_is);(case sk28=>exact rfl);(case q28=>k_is);(case lw28=>k_is);(case lwn28=>k_is);(case sl28=>exact rfl);(case ni28=>k_is)
  have uw:L2.ExcAt (L2.KOf KX) mg "NoNet" (FT.zb (L2.KOf KX) "NoNet"):=by
   dsimp only [L2.KOf]
   refine' FT.yE KX G ?a29 ?l29 ?ln29 ?sk29 ?q29 ?lw29 ?lwn29 ?sl29 ?ni29
   (case a29=>k_is);(case l29=>k_is);(case ln29=>k_is);(case sk29=>exact rfl);(case q29=>k_is);(case lw29=>k_is);(case lwn29=>k_is);(case sl29=>exact rfl);(case ni29=>k_is)
  have uo:L2.ExcAt (L2.KOf KX) mg "NoPast" (FT.zb (L2.KOf KX) "NoPast"):=by
   dsimp only [L2.KOf]
   refine' FT.yE KX G ?a30 ?l30 ?ln30 ?sk30 ?q30 ?lw30 ?lwn30 ?sl30 ?ni30
   (case a30=>k_is);(case l30=>k_is);(case ln30=>k_is);(case sk30=>exact rfl);(case q30=>k_is);(case lw30=>k_is);(case lwn30=>k_is);(case sl30=>exact rfl);(case ni30=>k_is)
  have us:FT.XcF My.pg w (L2.KOf KX) mg base "NoDeed" (FT.zb (L2.KOf KX) "NoDeed"):=by
   dsimp only [L2.KOf]
   refine' FT.ze8 (st:=My.zbr) KX G ?a31 ?l31 ?ln31 ?sk31 ?q31 ?no31 ?lw31 ?lwn31 ?sl31 ?ni31 ?lf31 ?cc31 ?kk31 (by ac_rfl) rfl rfl rfl ?bd31
   (case a31=>k_is);(case l31=>k_is);(case ln31=>k_is);(case sk31=>exact rfl);(case q31=>k_is);(case no31=>(refine FT.qf ?_ ?_;k_is);(refine FT.qf ?_ ?_;k_is);(refine FT.qf ?_ ?_;k_is);(refine FT.qf ?_ ?_;k_is);exact FT.y2);(case lw31=>k_is);(case lwn31=>k_is);(case sl31=>exact rfl);(case ni31=>(refine FT.qf ?_ ?_;k_is);(refine FT.qf ?_ ?_;k_is);(refine FT.qf ?_ ?_;k_is);(refine FT.qf ?_ ?_;k_is);(refine FT.qf ?_ ?_;k_is);exact FT.y2);(case lf31=>k_is);(case cc31=>k_is);(case kk31=>k_is)
   exact fun _ _ _ _ _ _=>My.e2 fun _ _=>rfl
  have ul:FT.XcF My.pg w (L2.KOf KX) mg base "NoEvent" (FT.zb (L2.KOf KX) "NoEvent"):=by
   dsimp only [L2.KOf]
   refine' FT.ze8 (st:=My.zaX) KX G ?a32 ?l32 ?ln32 ?sk32 ?q32 ?no32 ?lw32 ?lwn32 ?sl32 ?ni32 ?lf32 ?cc32 ?kk32 (by ac_rfl) rfl rfl rfl ?bd32
   (case a32=>k_is);(case l32=>k_is);(case ln32=>k_is);(case sk32=>exact rfl);(case q32=>k_is);(case no32=>(refine FT.qf ?_ ?_;k_is);(refine FT.qf ?_ ?_;k_is);(refine FT.qf ?_ ?_;k_is);(refine FT.qf ?_ ?_;k_is);exact FT.y2);(case lw32=>k_is);(case lwn32=>k_is);(case sl32=>exact rfl);(case ni32=>(refine FT.qf ?_ ?_;k_is);(refine FT.qf ?_ ?_;k_is);(refine FT.qf ?_ ?_;k_is);(refine FT.qf ?_ ?_;k_is);(refine FT.qf ?_ ?_;k_is);exact FT.y2);(case lf32=>k_is);(case cc32=>k_is);(case kk32=>k_is)
   exact fun _ _ _ _ _ _=>My.e2 fun _ _=>rfl
  have xm_NoRatio:FT.XmAt (L2.KOf KX) (FT.zb (L2.KOf KX) "NoRatio") (FT.zb (L2.KOf KX) "WeirError"):=by
   dsimp only [L2.KOf]
   refine' FT.zE ?a33 ?b33 ?l33 ?ga33 ?gt33 ?c33 ?n33 ?t33
   (case a33=>k_is);(case b33=>k_is);(case l33=>k_is);(case ga33=>k_is);(case gt33=>k_is);(case c33=>k_is);(case n33=>first | k_is | rfl | decide +kernel);(case t33=>first | k_is | rfl | decide +kernel)
  have xm_NoHouse:FT.XmAt (L2.KOf KX) (FT.zb (L2.KOf KX) "NoHouse") (FT.zb (L2.KOf KX) "WeirError"):=by
   dsimp only [L2.KOf]
   refine' FT.zE ?a34 ?b34 ?l34 ?ga34 ?gt34 ?c34 ?n34 ?t34
   (case a34=>k_is);(case b34=>k_is);(case l34=>k_is);(case ga34=>k_is);(case gt34=>k_is);(case c34=>k_is);(case n34=>first | k_is | rfl | decide +kernel);(case t34=>first | k_is | rfl | decide +kernel)
  have xm_NoAsk:FT.XmAt (L2.KOf KX) (FT.zb (L2.KOf KX) "NoAsk") (FT.zb (L2.KOf KX) "WeirError"):=by
   dsimp only [L2.KOf]
   refine' FT.zE ?a35 ?b35 ?l35 ?ga35 ?gt35 ?c35 ?n35 ?t35
   (case a35=>k_is);(case b35=>k_is);(case l35=>k_is);(case ga35=>k_is);(case gt35=>k_is);(case c35=>k_is);(case n35=>first | k_is | rfl | decide +kernel);(case t35=>first | k_is | rfl | decide +kernel)
  have xm_NoPurse:FT.XmAt (L2.KOf KX) (FT.zb (L2.KOf KX) "NoPurse") (FT.zb (L2.KOf KX) "WeirError"):=by
   dsimp only [L2.KOf]
   refine' FT.zE ?a36 ?b36 ?l36 ?ga36 ?gt36 ?c36 ?n36 ?t36
   (case a36=>k_is);(case b36=>k_is);(case l36=>k_is);(case ga36=>k_is);(case gt36=>k_is);(case c36=>k_is);(case n36=>first | k_is | rfl | decide +kernel);(case t36=>first | k_is | rfl | decide +kernel)
  have xm_TooMany:FT.XmAt (L2.KOf KX) (FT.zb (L2.KOf KX) "TooMany") (FT.zb (L2.KOf KX) "WeirError"):=by
   dsimp only [L2.KOf]
   refine' FT.zE ?a37 ?b37 ?l37 ?ga37 ?gt37 ?c37 ?n37 ?t37
   (case a37=>k_is);(case b37=>k_is);(case l37=>k_is);(case ga37=>k_is);(case gt37=>k_is);(case c37=>k_is);(case n37=>first | k_is | rfl | decide +kernel);(case t37=>first | k_is | rfl | decide +kernel)
  have xm_NoText:FT.XmAt (L2.KOf KX) (FT.zb (L2.KOf KX) "NoText") (FT.zb (L2.KOf KX) "WeirError"):=by
   dsimp only [L2.KOf]
   refine' FT.zE ?a38 ?b38 ?l38 ?ga38 ?gt38 ?c38 ?n38 ?t38
   (case a38=>k_is);(case b38=>k_is);(case l38=>k_is);(case ga38=>k_is);(case gt38=>k_is);(case c38=>k_is);(case n38=>first | k_is | rfl | decide +kernel);(case t38=>first | k_is | rfl | decide +kernel)
  have xm_NoRow:FT.XmAt (L2.KOf KX) (FT.zb (L2.KOf KX) "NoRow") (FT.zb (L2.KOf KX) "WeirError"):=by
   dsimp only [L2.KOf]
   refine' FT.zE ?a39 ?b39 ?l39 ?ga39 ?gt39 ?c39 ?n39 ?t39
   (case a39=>k_is);(case b39=>k_is);(case l39=>k_is);(case ga39=>k_is);(case gt39=>k_is);(case c39=>k_is);(case n39=>first | k_is | rfl | decide +kernel);(case t39=>first | k_is | rfl | decide +kernel)
  have xm_NoNet:FT.XmAt (L2.KOf KX) (FT.zb (L2.KOf KX) "NoNet") (FT.zb (L2.KOf KX) "WeirError"):=by
   dsimp only [L2.KOf]
   refine' FT.zE ?a40 ?b40 ?l40 ?ga40 ?gt40 ?c40 ?n40 ?t40
   (case a40=>k_is);(case b40=>k_is);(case l40=>k_is);(case ga40=>k_is);(case gt40=>k_is);(case c40=>k_is);(case n40=>first | k_is | rfl | decide +kernel);(case t40=>first | k_is | rfl | decide +kernel)
  have xm_NoPast:FT.XmAt (L2.KOf KX) (FT.zb (L2.KOf KX) "NoPast") (FT.zb (L2.KOf KX) "WeirError"):=by
   dsimp only [L2.KOf]
   refine' FT.zE ?a41 ?b41 ?l41 ?ga41 ?gt41 ?c41 ?n41 ?t41
   (case a41=>k_is);(case b41=>k_is);(case l41=>k_is);(case ga41=>k_is);(case gt41=>k_is);(case c41=>k_is);(case n41=>first | k_is | rfl | decide +kernel);(case t41=>first | k_is | rfl | decide +kernel)
  have xm_NoDeed:FT.XmAt (L2.KOf KX) (FT.zb (L2.KOf KX) "NoDeed") (FT.zb (L2.KOf KX) "WeirError"):=by
   dsimp only [L2.KOf]
   refine' FT.zE ?a42 ?b42 ?l42 ?ga42 ?gt42 ?c42 ?n42 ?t42
   (case a42=>k_is);(case b42=>k_is);(case l42=>k_is);(case ga42=>k_is);(case gt42=>k_is);(case c42=>k_is);(case n42=>first | k_is | rfl | decide +kernel);(case t42=>first | k_is | rfl | decide +kernel)
  have xm_NoEvent:FT.XmAt (L2.KOf KX) (FT.zb (L2.KOf KX) "NoEvent") (FT.zb (L2.KOf KX) "WeirError"):=by
   dsimp only [L2.KOf]
   refine' FT.zE ?a43 ?b43 ?l43 ?ga43 ?gt43 ?c43 ?n43 ?t43
   (case a43=>k_is);(case b43=>k_is);(case l43=>k_is);(case ga43=>k_is);(case gt43=>k_is);(case c43=>k_is);(case n43=>first | k_is | rfl | decide +kernel);(case t43=>first | k_is | rfl | decide +kernel)
  have up:mg "WeirError" = some (.ref (FT.zb (L2.KOf KX) "WeirError"))/\(PySem.W.clsIn (L2.KOf KX) (FT.zb (L2.KOf KX) "WeirError")).isSome = true/\PySem.W.typeIn (L2.KOf KX) (.ref (FT.zb (L2.KOf KX) "WeirError")) = some (.type "type"):=by
   dsimp only [L2.KOf]
   refine' FT.zhV KX G ?b44 ?l44
   (case b44=>k_is);(case l44=>k_is)
  have ec_NoRatio:=by
   refine' FT.zk (K:=L2.KOf KX) (x:="NoRatio") ?a45
   (case a45=>dsimp only [L2.KOf];k_is)
  have ec_NoHouse:=by
   refine' FT.zk (K:=L2.KOf KX) (x:="NoHouse") ?a46
   (case a46=>dsimp only [L2.KOf];k_is)
  have ec_NoAsk:=by
   refine' FT.zk (K:=L2.KOf KX) (x:="NoAsk") ?a47
   (case a47=>dsimp only [L2.KOf];k_is)
  have ec_NoPurse:=by
   refine' FT.zk (K:=L2.KOf KX) (x:="NoPurse") ?a48
   (case a48=>dsimp only [L2.KOf];k_is)
  have ec_TooMany:=by
   refine' FT.zk (K:=L2.KOf KX) (x:="TooMany") ?a49
   (case a49=>dsimp only [L2.KOf];k_is)
  have ec_NoText:=by
   refine' FT.zk (K:=L2.KOf KX) (x:="NoText") ?a50
   (case a50=>dsimp only [L2.KOf];k_is)
  have ec_NoRow:=by
   refine' FT.zk (K:=L2.KOf KX) (x:="NoRow") ?a51
   (case a51=>dsimp only [L2.KOf];k_is)
  have ec_NoNet:=by
   refine' FT.zk (K:=L2.KOf KX) (x:="NoNet") ?a52
   (case a52=>dsimp only [L2.KOf];k_is)
  have ec_NoPast:=by
   refine' FT.zk (K:=L2.KOf KX) (x:="NoPast") ?a53
   (case a53=>dsimp only [L2.KOf];k_is)
  have ec_NoDeed:=by
   refine' FT.zk (K:=L2.KOf KX) (x:="NoDeed") ?a54
   (case a54=>dsimp only [L2.KOf];k_is)
  have ec_NoEvent:=by
   refine' FT.zk (K:=L2.KOf KX) (x:="NoEvent") ?a55
   (case a55=>dsimp only [L2.KOf];k_is)
  have ec_WeirError:=by
   refine' FT.zk (K:=L2.KOf KX) (x:="WeirError") ?a56
   (case a56=>dsimp only [L2.KOf];k_is)
  have nd:([(FT.zb (L2.KOf KX) "NoRatio"),(FT.zb (L2.KOf KX) "NoHouse"),(FT.zb (L2.KOf KX) "NoAsk"),(FT.zb (L2.KOf KX) "NoPurse"),(FT.zb (L2.KOf KX) "TooMany"),(FT.zb (L2.KOf KX) "NoText"),(FT.zb (L2.KOf KX) "NoRow"),(FT.zb (L2.KOf KX) "NoNet"),(FT.zb (L2.KOf KX) "NoPast"),(FT.zb (L2.KOf KX) "NoDeed"),(FT.zb (L2.KOf KX) "NoEvent")]:List PySem.Addr).Nodup:=by rw [ec_NoRatio,ec_NoHouse,ec_NoAsk,ec_NoPurse,ec_TooMany,ec_NoText,ec_NoRow,ec_NoNet,ec_NoPast,ec_NoDeed,ec_NoEvent];decide
  have xs:∀ C ∈ ([(FT.zb (L2.KOf KX) "NoRatio"),(FT.zb (L2.KOf KX) "NoHouse"),(FT.zb (L2.KOf KX) "NoAsk"),(FT.zb (L2.KOf KX) "NoPurse"),(FT.zb (L2.KOf KX) "TooMany"),(FT.zb (L2.KOf KX) "NoText"),(FT.zb (L2.KOf KX) "NoRow"),(FT.zb (L2.KOf KX) "NoNet"),(FT.zb (L2.KOf KX) "NoPast"),(FT.zb (L2.KOf KX) "NoDeed"),(FT.zb (L2.KOf KX) "NoEvent")]:List PySem.Addr),FT.XmAt (L2.KOf KX) C (FT.zb (L2.KOf KX) "WeirError"):=FT.zp xm_NoRatio (FT.zp xm_NoHouse (FT.zp xm_NoAsk (FT.zp xm_NoPurse (FT.zp xm_TooMany (FT.zp xm_NoText (FT.zp xm_NoRow (FT.zp xm_NoNet (FT.zp xm_NoPast (FT.zp xm_NoDeed (FT.zp xm_NoEvent (FT.zeW)))))))))))
  have i_NoAsk:FT.IsAt (L2.KOf KX) mg "NoAsk" _:=FT.qo (FT.qx uy) xs (by simp only [mem_cons,true_or,or_true]) (by rw [ec_NoAsk,ec_WeirError];decide)
  have i_NoDeed:FT.IsAt (L2.KOf KX) mg "NoDeed" _:=FT.qo (FT.zdw us) xs (by simp only [mem_cons,true_or,or_true]) (by rw [ec_NoDeed,ec_WeirError];decide)
  have i_NoEvent:FT.IsAt (L2.KOf KX) mg "NoEvent" _:=FT.qo (FT.zdw ul) xs (by simp only [mem_cons,true_or,or_true]) (by rw [ec_NoEvent,ec_WeirError];decide)
  have i_NoHouse:FT.IsAt (L2.KOf KX) mg "NoHouse" _:=FT.qo (FT.qx ui) xs (by simp only [mem_cons,true_or,or_true]) (by rw [ec_NoHouse,ec_WeirError];decide)
  have i_NoNet:FT.IsAt (L2.KOf KX) mg "NoNet" _:=FT.qo (FT.qx uw) xs (by simp only [mem_cons,true_or,or_true]) (by rw [ec_NoNet,ec_WeirError];decide)
  have i_NoPast:FT.IsAt (L2.KOf KX) mg "NoPast" _:=FT.qo (FT.qx uo) xs (by simp only [mem_cons,true_or,or_true]) (by rw [ec_NoPast,ec_WeirError];decide)
  have i_NoPurse:FT.IsAt (L2.KOf KX) mg "NoPurse" _:=FT.qo (FT.qx uf) xs (by simp only [mem_cons,true_or,or_true]) (by rw [ec_NoPurse,ec_WeirError];decide)
  have i_NoRatio:FT.IsAt (L2.KOf KX) mg "NoRatio" _:=FT.qo (FT.qx un) xs (by simp only [mem_cons,true_or,or_true]) (by rw [ec_NoRatio,ec_WeirError];decide)
  have i_NoRow:FT.IsAt (L2.KOf KX) mg "NoRow" _:=FT.qo (FT.qx uz) xs (by simp only [mem_cons,true_or,or_true]) (by rw [ec_NoRow,ec_WeirError];decide)
  have i_NoText:FT.IsAt (L2.KOf KX) mg "NoText" _:=FT.qo (FT.qx ur) xs (by simp only [mem_cons,true_or,or_true]) (by rw [ec_NoText,ec_WeirError];decide)
  have i_TooMany:FT.IsAt (L2.KOf KX) mg "TooMany" _:=FT.qo (FT.qx ug) xs (by simp only [mem_cons,true_or,or_true]) (by rw [ec_TooMany,ec_WeirError];decide)
  have i_ValueError:FT.IsAt (L2.KOf KX) mg "ValueError" _:=FT.zf2 (by refine' PySem.W.mg_none_of KX G ?zv;k_is) xs
  have i_WeirError:FT.IsAt (L2.KOf KX) mg "WeirError" _:=FT.zf3 up.1 xs up.2.1 up.2.2
  have yR:=My.yR (P:=My.pg) (w:=w) (base:=base) ut T
  have yg:=My.yg (P:=My.pg) (w:=w) (base:=base) uq T
  have zR:=My.zR uv T yg
  have zF:=My.zF ud T yg
  have zy:=My.zy (P:=My.pg) (w:=w) (base:=base) ue T
  have qR:=My.qR uu T us ul un ui uy uf ug ur uz uw uo
  have yJ:=My.yJ (P:=My.pg) (w:=w) (base:=base) uj T i_NoRatio i_NoHouse i_NoAsk i_NoPurse i_TooMany i_NoText i_NoRow i_NoNet i_NoPast i_NoDeed i_NoEvent
  have qJ:=My.qJ uh T us ul i_WeirError i_ValueError qR yJ
  have qA:=My.qA (P:=My.pg) (w:=w) (base:=base) uk T
  have zB:=My.zB (P:=My.pg) (w:=w) (base:=base) uc T
  have zJ:=My.zJ (P:=My.pg) (w:=w) (base:=base) um T
  rw [show My.zaM (FT.zb (L2.KOf KX) "NoRatio") (FT.zb (L2.KOf KX) "NoHouse") (FT.zb (L2.KOf KX) "NoAsk") (FT.zb (L2.KOf KX) "NoPurse") (FT.zb (L2.KOf KX) "TooMany") (FT.zb (L2.KOf KX) "NoText") (FT.zb (L2.KOf KX) "NoRow") (FT.zb (L2.KOf KX) "NoNet") (FT.zb (L2.KOf KX) "NoPast") (FT.zb (L2.KOf KX) "NoDeed") (FT.zb (L2.KOf KX) "NoEvent") = My.zan (FT.zb (L2.KOf KX) "NoRatio") (FT.zb (L2.KOf KX) "NoHouse") (FT.zb (L2.KOf KX) "NoAsk") (FT.zb (L2.KOf KX) "NoPurse") (FT.zb (L2.KOf KX) "TooMany") (FT.zb (L2.KOf KX) "NoText") (FT.zb (L2.KOf KX) "NoRow") (FT.zb (L2.KOf KX) "NoNet") (FT.zb (L2.KOf KX) "NoPast") (FT.zb (L2.KOf KX) "NoDeed") (FT.zb (L2.KOf KX) "NoEvent") from if_pos nd]
  exact My.zg9 F T yR zR zF yg zy qJ qA zB zJ
 case S=>
  intro K H a ns hl _ hS
  by_cases nd:([FT.zb K "NoRatio",FT.zb K "NoHouse",FT.zb K "NoAsk",FT.zb K "NoPurse",FT.zb K "TooMany",FT.zb K "NoText",FT.zb K "NoRow",FT.zb K "NoNet",FT.zb K "NoPast",FT.zb K "NoDeed",FT.zb K "NoEvent"]:List PySem.Addr).Nodup
  ·rw [show My.zaM (FT.zb K "NoRatio") (FT.zb K "NoHouse") (FT.zb K "NoAsk") (FT.zb K "NoPurse") (FT.zb K "TooMany") (FT.zb K "NoText") (FT.zb K "NoRow") (FT.zb K "NoNet") (FT.zb K "NoPast") (FT.zb K "NoDeed") (FT.zb K "NoEvent") = My.zan (FT.zb K "NoRatio") (FT.zb K "NoHouse") (FT.zb K "NoAsk") (FT.zb K "NoPurse") (FT.zb K "TooMany") (FT.zb K "NoText") (FT.zb K "NoRow") (FT.zb K "NoNet") (FT.zb K "NoPast") (FT.zb K "NoDeed") (FT.zb K "NoEvent") from if_pos nd]
   obtain ⟨M,h⟩:=My.law_true (FT.zb K "NoRatio") (FT.zb K "NoHouse") (FT.zb K "NoAsk") (FT.zb K "NoPurse") (FT.zb K "TooMany") (FT.zb K "NoText") (FT.zb K "NoRow") (FT.zb K "NoNet") (FT.zb K "NoPast") (FT.zb K "NoDeed") (FT.zb K "NoEvent") nd ns hl
   exact FT.zcP hS h
  ·rw [show My.zaM (FT.zb K "NoRatio") (FT.zb K "NoHouse") (FT.zb K "NoAsk") (FT.zb K "NoPurse") (FT.zb K "TooMany") (FT.zb K "NoText") (FT.zb K "NoRow") (FT.zb K "NoNet") (FT.zb K "NoPast") (FT.zb K "NoDeed") (FT.zb K "NoEvent") = (fun _ M=>.ok (.bl true) M) from if_neg nd]
   exact FT.zcP hS rfl
 case C=>exact fun _ _ _ _ z=>z
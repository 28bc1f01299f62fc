import PyProof.Rows.All
import Wide.All
import OpenK.AllK
import Wide.FinOn
import Lean
import PyProof.EqAt
import PyProof.EqKinds
import PyProof.TupleCall
import PyProof.NeKinds
import PyProof.SumAny
import KE.KDictList
import KE.KDictOf
import PyProof.AttrMissHeap
import PyProof.Conv_int_bool
import PyProof.TupleOfStr
import PyProof.CollectIter
import PyProof.ListRange
import PyProof.DictWalks
import PyProof.ConsumeS
import PyProof.WalkInts
import PyProof.Draws
import PyProof.EnumFor
import PyProof.EnumStmt
import KE.KDictLaws
import KE.KRevIter
import KE.KDictSum
import PyProof.SeqRoads2
import PyProof.EqAt
import PyProof.EnumMake
import PyProof.ZipIter
import PyProof.InstStore
import PyProof.InstStoreFacts
import PyProof.ExcInit
import PyProof.ExcClass2
import PyProof.NsDelKeeps
import PyProof.ExcArgsOwn
import PyProof.Rows.SetFrom
import PyProof.SetRoads
import KE.IntTextText
import KE.KIntText
import PyProof.StrBlock2
import PyProof.FString5
import PyProof.CallStr
import PyProof.StrWalks
import PyProof.StrCalls
import PyProof.StrCalls2
import PyProof.SliceStr2
import PyProof.StrBlockI
import PyProof.Rows.StrJoin2
import PyProof.CallRoads3
import PyProof.TupleKey
import KE.KIsAll
import PySem.Challenge.RW_tryweir_k35_what_is_no_net
open PySem.W (Frag)
open List (mem_filter mem_range filterMap_cons mem_cons_self mem_cons_of_mem mem_cons mem_append mem_append_right append_nil nodup_cons of_mem_zip length_take getElem?_append_right getElem?_append_left getElem?_map mem_of_getElem? length_append length_map size_toArray length_drop length_set all_cons any_cons replicate_succ flatten_cons foldl_cons length_singleton map_nil map_cons find?_cons lookup_cons all_eq_true getElem_of_mem getElem_mem nil_append mem_singleton take_length getElem?_set getElem?_eq_getElem mem_map getElem?_range length_cons all_map getElem_toArray map_append map_take map_drop mem_of_mem_drop ext_getElem? getElem?_eq_none take_succ length_nil map_map cons_append drop_zero sum_cons length_range map_id' not_mem_nil)
set_option Elab.async false
set_option linter.all false
set_option maxRecDepth 100000
local macro_rules | `(tactic| ac_rfl) => `(tactic| exact ⟨rfl, rfl, rfl, by decide +kernel, rfl, by decide +kernel, by decide +kernel⟩)
abbrev Q0:=@List.getElem?_eq_getElem
abbrev Q1:=@PySem.wpAny_bind
abbrev Q2:=@PySem.Heap.get?_push_of_some
abbrev Q3:=@Nat.le_refl
abbrev Q4:=@Bool.false_ne_true
abbrev Q5:=@Nat.lt_of_lt_of_le
abbrev Q6:=@List.getElem?_append_left
abbrev Q7:=@List.getElem?_append_right
abbrev Q8:=@Int.fmod_eq_emod_of_nonneg
abbrev Q9:=@List.mem_of_getElem?
abbrev Qa:=@List.getElem?_map
abbrev Qb:=@List.getElem?_set
abbrev Qc:=@Option.some.inj
abbrev Qd:=@PySem.Heap.lt_size
abbrev Qe:=@PySem.wpAny_pure
abbrev Qf:=@PySem.wpAny_mono
abbrev Qg:=@List.length_map
abbrev Qh:=@List.size_toArray
abbrev Qi:=@Nat.le_trans
abbrev Qj:=@Nat.ne_of_lt
abbrev Qk:=@PySem.Heap.get?_push_size
abbrev Ql:=@List.mem_append_right
abbrev Qm:=@List.length_append
abbrev Qn:=@Nat.lt_irrefl
abbrev Qo:=@List.length_cons
abbrev Qp:=@List.length_take
abbrev Qq:=@Bool.and_eq_true
abbrev Qr:=@PySem.wpAny_newObj_type
abbrev Qs:=@List.length_singleton
abbrev Qt:=@decide_eq_true
abbrev Qu:=@decide_eq_false
namespace My
open PySem
noncomputable def zm2:Stmt->Bool
 | .Assign [.Name x _] _ _=>!(x == "__name__")
 | _=>true
noncomputable abbrev pg:Program:=PySem.Challenge.rw_tryweir_k35_what_is_no_net.prog
noncomputable def vw:Program:={ pg with main:={ pg.main with body:=pg.main.body.filter zm2 } }
end My
section
open PySem PySem.W PyProof.Rows in
local macro_rules | `(tactic| o_head $H) => `(tactic| refine holds_open (q := My.vw) (loose := []) (Xt := fun s => xlAt My.vw [] s && recOk (RowW.records (OpenRow.toRowW (OpenLaw.row PySem.Challenge.rw_tryweir_k35_what_is_no_net))) s) (XP := XL My.vw []) (Yf := Hook.obs $H) (Ya := Hook.val $H) (YP := Hook.says $H) (N := 40000) (by intro w; kernel_rfl) (Hook.of $H) (Hook.keeps $H) (fun s e => xl_of s (Bool.and_eq_true_iff.mp e).1) XL.keeps (by rfl) (by rfl) (by rfl) (fun s e => recFacts_of (Bool.and_eq_true_iff.mp e).2) (by rfl) (by first | assumption | decide +kernel) (by decide +kernel) ⟨rfl, rfl, rfl, rfl, rfl, by decide +kernel⟩ ?hw ?hc)
open PySem PySem.W PyProof.Rows in
set_option maxHeartbeats 0 in
noncomputable def My.hdD:Σ' P:Prop,P->PySem.Challenge.rw_tryweir_k35_what_is_no_net.Holds:=by
 refine ⟨?P,fun hc=>?_⟩
 rotate_left
 ·w_on;o_law;k_head;(case hw=>w_witness2)
  exact hc
end
namespace L2
open PySem PySem.Spec PyProof.Rows
noncomputable abbrev Key:=Sum Int Str
noncomputable def ziI:Key->Value->Bool
 | .inl k,v=>Value.isInt k v
 | .inr x,v=>Value.isStrOf x v
noncomputable def zm0 (w:World):Key->Int
 | .inl k=>hashInt k
 | .inr x=>hashStr w x
theorem yD:∀ {k:Key} {v:Value},ziI k v = true->(∃ i t,k = Sum.inl i/\v = Value.int i t)\/(∃ x t,k = Sum.inr x/\v = Value.str x t)
 | .inl i,v,h=>by
  obtain ⟨t,e⟩:=Value.isInt_shape (k:=i) (v:=v) h
  exact .inl ⟨i,t,rfl,e⟩
 | .inr x,v,h=>by
  obtain ⟨t,e⟩:=Value.isStrOf_shape (x:=x) (v:=v) h
  exact .inr ⟨x,t,rfl,e⟩
theorem zk8 (a b:Int):decide ((Sum.inl a:Key) = Sum.inl b) = (a == b):=by
 by_cases e:a = b
 ·subst e;simp
 ·have h:¬ (Sum.inl a:Key) = Sum.inl b:=fun q=>e (Sum.inl.inj q)
  rw [Qu h]
  exact (beq_eq_false_iff_ne.mpr e).symm
theorem zk5 (a b:Str):decide ((Sum.inr a:Key) = Sum.inr b) = decide (a = b):=by
 by_cases e:a = b
 ·subst e;simp
 ·have h:¬ (Sum.inr a:Key) = Sum.inr b:=fun q=>e (Sum.inr.inj q)
  rw [Qu h,Qu e]
theorem zk7 (a:Int) (b:Str):decide ((Sum.inl a:Key) = Sum.inr b) = false:=Qu (fun q=>nomatch q)
theorem zk6 (a:Str) (b:Int):decide ((Sum.inr a:Key) = Sum.inl b) = false:=Qu (fun q=>nomatch q)
noncomputable def zfA (prog:Program) (w:World):PySem.KeyKind prog w Key where
 is:=ziI
 hash:=zm0 w
 inj:=fun v a b ha hb=>by
  rcases yD ha with ⟨i,t,rfl,rfl⟩ | ⟨x,t,rfl,rfl⟩
  ·rcases yD hb with ⟨j,u,rfl,e⟩ | ⟨y,u,rfl,e⟩
   ·injection e with e1 _;rw [e1]
   ·exact nomatch e
  ·rcases yD hb with ⟨j,u,rfl,e⟩ | ⟨y,u,rfl,e⟩
   ·exact nomatch e
   ·injection e with e1 _;rw [e1]
 byValue:=fun k v h=>by
  rcases yD h with ⟨i,t,rfl,rfl⟩ | ⟨x,t,rfl,rfl⟩ <;> rfl
 pyHash:=fun hv h=>by
  rcases yD hv with ⟨i,t,rfl,rfl⟩ | ⟨x,t,rfl,rfl⟩
  ·exact wpAny_pyHash_int h
  ·exact wpAny_pyHash_str h
 eqBool:=fun hu hv h=>by
  rcases yD hu with ⟨i,t,rfl,rfl⟩ | ⟨x,t,rfl,rfl⟩
  ·rcases yD hv with ⟨j,u,rfl,rfl⟩ | ⟨y,u,rfl,rfl⟩
   ·rw [zk8] at h;exact wpAny_eqBool_int h
   ·rw [zk7] at h;exact SeqAt.EqAt.int_str i t y u _ _ _ _ h
  ·rcases yD hv with ⟨j,u,rfl,rfl⟩ | ⟨y,u,rfl,rfl⟩
   ·rw [zk6] at h;exact SeqAt.EqAt.str_int x t j u _ _ _ _ h
   ·rw [zk5] at h;exact wpAny_eqBool_str h
 «strs»:=fun k x t v h=>by
  rcases yD h with ⟨i,u,rfl,e⟩ | ⟨y,u,rfl,e⟩
  ·exact nomatch e
  ·injection e with e1 _
   subst e1
   cases v <;> rfl
inductive V where
 | non | bl (b:Bool) | int (i:Int) | str (x:Str) | byt (b:Array UInt8) | flt (b:UInt64) | ref (a:Addr) | ty (n:String)
 deriving DecidableEq
noncomputable def RelV:V->Value->Prop
 | .non,u=>u = Value.none
 | .bl b,u=>u = Value.bool b
 | .int i,u=>∃ t,u = Value.int i t
 | .str x,u=>∃ t,u = Value.str x t
 | .byt b,u=>∃ t,u = Value.bytes b t
 | .flt b,u=>∃ t,u = Value.float b t
 | .ref a,u=>u = Value.ref a
 | .ty n,u=>u = Value.type n
noncomputable abbrev Vals:List V->List Value->Prop:=Paired RelV
variable {xs:List V} {us:List Value}
theorem Vals.length (r:Vals xs us):xs.length = us.length:=Paired.length r
theorem Vals.get:∀ {xs:List V} {us:List Value} {i:Nat} {x:V},Vals xs us->xs[i]? = some x->∃ u,us[i]? = some u/\RelV x u
 | _,_,_,_,.nil,e=>by simp at e
 | _,_,0,_,.cons r _,e=>by simp at e;subst e;exact ⟨_,rfl,r⟩
 | _,_,i + 1,x,.cons _ t,e=>by
  obtain ⟨u,h1,h2⟩:=Vals.get (i:=i) (x:=x) t (by simpa using e)
  exact ⟨u,by simpa using h1,h2⟩
theorem Vals.set {x:V} {u:Value} (r:RelV x u):∀ {xs:List V} {us:List Value} (i:Nat),Vals xs us->Vals (xs.set i x) (us.set i u)
 | _,_,_,.nil=>.nil
 | _,_,0,.cons _ t=>.cons r t
 | _,_,i + 1,.cons q t=>.cons q (Vals.set r i t)
theorem Vals.append:∀ {xs ys:List V} {us ws:List Value},Vals xs us->Vals ys ws->Vals (xs ++ ys) (us ++ ws)
 | _,_,_,_,.nil,s=>s
 | _,_,_,_,.cons r t,s=>.cons r (Vals.append t s)
theorem Vals.take:∀ {xs:List V} {us:List Value} (n:Nat),Vals xs us->Vals (xs.take n) (us.take n)
 | _,_,0,_=>.nil
 | _,_,_ + 1,.nil=>.nil
 | _,_,n + 1,.cons r t=>.cons r (Vals.take n t)
theorem Vals.drop:∀ {xs:List V} {us:List Value} (n:Nat),Vals xs us->Vals (xs.drop n) (us.drop n)
 | _,_,0,r=>r
 | _,_,_ + 1,.nil=>.nil
 | _,_,n + 1,.cons _ t=>Vals.drop n t
theorem Vals.none_of:∀ {xs:List V} {us:List Value} {i:Nat},Vals xs us->xs[i]? = none->us[i]? = none:=fun {xs us i} r e=>by
 have h1:=r.length
 have h2:xs.length<=i:=List.getElem?_eq_none_iff.mp e
 exact List.getElem?_eq_none_iff.mpr (by omega)
noncomputable def zlM:Option V->Option Value->Prop
 | some v,some u=>RelV v u
 | none,none=>True
 | _,_=>False
noncomputable def KV {κ:Type}:List (κ × V)->List (κ × Value)->Prop:=Paired fun (p:κ × V) (q:κ × Value)=>p.1 = q.1/\RelV p.2 q.2
noncomputable def kV:Key->V
 | .inl i=>.int i
 | .inr x=>.str x
inductive HO where
 | lst (xs:List V)
 | tup (xs:List V)
 | dK (kvs:List (Key × V)) | dT (kvs:List (List Key × V))
 | set (S:Int->Bool) (n:Nat)
 | ins (C dx:Addr) (fs:List (Str × V))
 | own (x:Addr)
 | xd (fs:List (Str × V))
 | met (f x:Addr)
 | rng (lo hi:Int)
 | frz (o:Obj) (u:HO)
 | tbl (ps:Array Value)
 | ext (φ:Heap->Prop)
noncomputable abbrev Hp:=Addr->Option HO
noncomputable def upd (H:Hp) (a:Addr) (o:HO):Hp:=fun b=>if b = a then some o else H b
variable {o:HO} {H:Hp}
theorem zy {a:Addr} :upd H a o a = some o:=by unfold upd;rw [if_pos rfl]
theorem yj {a b:Addr} (h:b ≠ a):upd H a o b = H b:=by unfold upd;rw [if_neg h]
theorem zc5 {a b:Addr} {u:HO} (h:H a = some o) (h':H b = some u) (d:o ≠ u):a ≠ b:=by
 intro e;subst e;rw [h] at h';exact d (Qc h')
theorem yt {a b:Addr} (h:H a = some o) (h':H b = none):a ≠ b:=by
 intro e;subst e;rw [h] at h';cases h'
def NoDict (h:Heap) (a:Addr):Prop:=∀ o,h.get? a = some o->o.dict = none
variable {h:Heap} {n:Nat}
theorem NoDict.new {its:Array Value} {n:Nat}:NoDict (h.push { cls:=.type "tuple",data:=.seq its n }) h.objs.size:=fun o e=>by
 rw [Qk _ rfl] at e;cases e;rfl
section
variable (P:Program) (w:World)
noncomputable def ObjOk (H:Hp) (h:Heap) (a:Addr):HO->Prop
 | .lst xs=>xs.length<=sizeLine/\∃ (its:List Value) (n:Nat),Vals xs its/\h.get? a = some { cls:=.type "list",data:=.seq its.toArray n }
 | .tup xs=>xs.length<=sizeLine/\∃ its:List Value,Vals xs its/\IsTup h a its.toArray/\NoDict h a
 | .dK kvs=>kvs.length<=sizeLine/\(a == sysModules) = false/\∃ vs,KV kvs vs/\h.DictOf (zfA P w) a vs
 | .dT kvs=>kvs.length<=sizeLine/\(a == sysModules) = false/\∃ xs:List (List Key × Addr × Value),
   Paired (fun (p:List Key × V) (q:List Key × Addr × Value)=>p.1 = q.1/\H q.2.1 = some (.tup (p.1.map kV))/\RelV p.2 q.2.2) kvs xs /\
   ∃ o es ep,h.get? a = some o/\o.ExactDict/\o.data = .dict es ep/\es.toList = xs.map (entryOfKey (tupleKind (zfA P w)))/\(xs.map (·.1)).Nodup
 | .set S n=>h.SetOf (intKind P w) a S n
 | .ins C dx fs=>H dx = some (.own a)/\fs.length<=1000/\dx ≠ a/\h.get? a = some (PySem.W.instObj C dx) /\
   ∃ mA,h.Ns1 dx mA/\(∀ f,zlM (fs.lookup f) (mA f))/\PySem.Within mA (fs.map (·.1))
 | .own _=>∃ o,h.get? a = some o
 | .xd fs=>∃ mA,h.Ns1 a mA/\∀ f,zlM (fs.lookup f) (mA f)
 | .rng lo hi=>∃ t u v,h.get? a = some { cls:=.type "range",data:=.fields #[.int lo t,.int hi u,.int 1 v] }
 | .frz o u=>h.get? a = some o/\ObjOk H h a u
 | .tbl ps=>h.get? a = some { cls:=.none,data:=.fields ps }
 | .met f x=>h.get? a = some (PySem.W.methodObj (.ref f) (.ref x))
 | .ext φ=>φ h/\(∃ o,h.get? a = some o)/\∀ h1 h2:Heap,φ h1->(∀ o,h1.get? a = some o->h2.get? a = some o)->φ h2
def HOk (H:Hp) (h:Heap):Prop:=∀ a o,H a = some o->ObjOk P w H h a o
end
variable {h':Heap} {H':Hp} {P:Program} {w:World}
section
variable {a:Addr}
theorem ObjOk.lt (x:ObjOk P w H h a o):a < h.objs.size:=by
 cases o with
 | lst xs=>obtain ⟨_,_,_,_,e⟩:=x;exact Qd e
 | tup xs=>obtain ⟨_,_,_,p,_⟩:=x;exact p.lt
 | dK kvs=>obtain ⟨_,_,_,_,o,_,_,e,_⟩:=x;exact Qd e
 | dT kvs=>obtain ⟨_,_,_,_,o,_,_,e,_⟩:=x;exact Qd e
 | set S n=>obtain ⟨o,_,_,_,e,_⟩:=x;exact Qd e
 | ins C dx fs=>obtain ⟨_,_,_,e,_⟩:=x;exact Qd e
 | own y=>obtain ⟨_,e⟩:=x;exact Qd e
 | xd fs=>obtain ⟨_,⟨_,_,_,e,_⟩,_⟩:=x;exact Qd e
 | rng lo hi=>obtain ⟨_,_,_,e⟩:=x;exact Qd e
 | frz ob u=>obtain ⟨e,_⟩:=x;exact Qd e
 | tbl ps=>exact Qd (show h.get? a = some _ from x)
 | met f y=>exact Qd (show h.get? a = some _ from x)
 | ext φ=>obtain ⟨_,⟨_,e⟩,_⟩:=x;exact Qd e
theorem Paired.mapP {α β:Type} {F G:α->β->Prop}:∀ {l₁:List α} {l₂:List β},Paired F l₁ l₂->(∀ a b,F a b->G a b)->Paired G l₁ l₂
 | _,_,.nil,_=>.nil
 | _,_,.cons r t,f=>.cons (f _ _ r) (Paired.mapP t f)
theorem ObjOk.stay (x:ObjOk P w H h a o) (k:∀ b u,(b = a\/H b = some (.own a))->h.get? b = some u->h'.get? b = some u)
  (ho:∀ b,H b = some (.own a)->H' b = some (.own a)) (ht:∀ b xs,H b = some (.tup xs)->H' b = some (.tup xs)):ObjOk P w H' h' a o:=by
 induction o with
 | lst xs=>obtain ⟨z,its,n,r,e⟩:=x;exact ⟨z,its,n,r,k _ _ (.inl rfl) e⟩
 | tup xs=>obtain ⟨z,its,r,⟨ob,e,c⟩,nd⟩:=x;exact ⟨z,its,r,⟨ob,k _ _ (.inl rfl) e,c⟩,fun o q=>nd o (by rw [k _ _ (.inl rfl) e] at q;rw [e];exact q)⟩
 | dK kvs=>obtain ⟨z,y,vs,r,ob,es,ep,e,c⟩:=x;exact ⟨z,y,vs,r,ob,es,ep,k _ _ (.inl rfl) e,c⟩
 | dT kvs=>
  obtain ⟨z,y,xs,r,ob,es,ep,e,c⟩:=x
  exact ⟨z,y,xs,Paired.mapP r fun p q z=>⟨z.1,ht _ _ z.2.1,z.2.2⟩,ob,es,ep,k _ _ (.inl rfl) e,c⟩
 | set S n=>obtain ⟨ob,es,ep,t,e,c⟩:=x;exact ⟨ob,es,ep,t,k _ _ (.inl rfl) e,c⟩
 | ins C dx fs=>
  obtain ⟨d,z,ne,e,mA,⟨od,es,ep,e2,c⟩,r⟩:=x
  exact ⟨ho _ d,z,ne,k _ _ (.inl rfl) e,mA,⟨od,es,ep,k _ _ (.inr d) e2,c⟩,r⟩
 | own y=>obtain ⟨ob,e⟩:=x;exact ⟨ob,k _ _ (.inl rfl) e⟩
 | xd fs=>obtain ⟨mA,⟨od,es,ep,e,c⟩,r⟩:=x;exact ⟨mA,⟨od,es,ep,k _ _ (.inl rfl) e,c⟩,r⟩
 | rng lo hi=>obtain ⟨t,u,v,e⟩:=x;exact ⟨t,u,v,k _ _ (.inl rfl) e⟩
 | frz ob u ih=>obtain ⟨e,q⟩:=x;exact ⟨k _ _ (.inl rfl) e,ih q⟩
 | tbl ps=>
  have e:h.get? a = some { cls:=.none,data:=.fields ps }:=x
  show h'.get? a = some { cls:=.none,data:=.fields ps }
  exact k a _ (.inl rfl) e
 | met f y=>
  have e:h.get? a = some (PySem.W.methodObj (.ref f) (.ref y)):=x
  show h'.get? a = some (PySem.W.methodObj (.ref f) (.ref y))
  exact k a _ (.inl rfl) e
 | ext φ=>obtain ⟨p,⟨o,e⟩,st⟩:=x;exact ⟨st _ _ p fun o q=>k _ _ (.inl rfl) q,⟨o,k _ _ (.inl rfl) e⟩,st⟩
theorem HOk.lt (x:HOk P w H h) (e:H a = some o):a < h.objs.size:=(x a o e).lt
theorem HOk.fresh (x:HOk P w H h) (e:h.objs.size<=a):H a = none:=by
 cases q:H a with
 | none=>rfl
 | some u=>exact absurd (Q5 (x.lt q) e) (Qn _)
theorem HOk.kept (x:HOk P w H h) (k:∀ b u,h.get? b = some u->h'.get? b = some u):HOk P w H h':=fun a o e=>
 (x a o e).stay (fun b u _ q=>k b u q) (fun _ q=>q) fun _ _ q=>q
theorem HOk.laid (x:HOk P w H h) (k:∀ b u,h.get? b = some u->h'.get? b = some u) (hp:h.objs.size<=a) (new:ObjOk P w (upd H a o) h' a o):HOk P w (upd H a o) h':=fun b u e=>by
 have hn:=x.fresh hp
 by_cases hb:b = a
 ·subst hb;rw [zy] at e;cases e;exact new
 ·rw [yj hb] at e
  exact (x b u e).stay (fun c v _ q=>k c v q) (fun c q=>by rw [yj (yt q hn)];exact q) fun c xs q=>by rw [yj (yt q hn)];exact q
end
def Rd (H:Hp) (a:Addr) (u:HO):Prop:=H a = some u\/∃ o,H a = some (.frz o u)
theorem Rd.ok {a:Addr} {u:HO} (r:Rd H a u) (x:HOk P w H h):ObjOk P w H h a u:=by
 rcases r with r | ⟨o,r⟩
 ·exact x a u r
 ·obtain ⟨_,q⟩:=x a _ r
  exact q
noncomputable def Mut:Option HO->Prop
 | some (.lst _)=>True
 | some (.dK _)=>True
 | some (.dT _)=>True
 | some (.set _ _)=>True
 | some (.ins _ _ _)=>True
 | some (.ext _)=>True
 | _=>False
section
variable {x e:Addr} {o':HO}
theorem HOk.write (ok:HOk P w H h) (mu:Mut (H x)) (he:e = x\/H e = some (.own x)) (k:∀ b u,b ≠ e->h.get? b = some u->h'.get? b = some u) (heo:∃ u,h'.get? e = some u)
  (new:ObjOk P w (upd H x o') h' x o'):HOk P w (upd H x o') h':=fun b u q=>by
 have nown:∀ c y,H c = some (.own y)->c ≠ x:=fun c y r z=>by subst z;rw [r] at mu;exact mu
 have ntup:∀ c xs,H c = some (.tup xs)->c ≠ x:=fun c xs r z=>by subst z;rw [r] at mu;exact mu
 by_cases hb:b = x
 ·subst hb;rw [zy] at q;cases q;exact new
 ·rw [yj hb] at q
  by_cases hbe:b = e
  ·have q':H b = some (.own x):=by
    rcases he with z | z
    ·exact absurd (hbe.trans z) hb
    ·rw [hbe];exact z
   rw [q] at q';cases q'
   obtain ⟨v,hv⟩:=heo
   exact ⟨v,by rw [hbe];exact hv⟩
  ·refine (ok b u q).stay (fun c v hc r=>k c v ?_ r) (fun c r=>by rw [yj (nown c b r)];exact r) fun c xs r=>by rw [yj (ntup c xs r)];exact r
   rcases hc with rfl | hc
   ·exact hbe
   ·rintro rfl
    rcases he with z | z
    ·exact nown c b hc z
    ·rw [hc] at z;cases z;exact hb rfl
end
structure Un (fs ex:List Addr) (H H':Hp) (h h':Heap):Prop where
 keep:∀ b o,h.get? b = some o->H b = none->b ∉ fs->b ∉ ex->h'.get? b = some o
 slot:∀ b o,h.get? b = some o->H b = none->b ∈ fs->b ∉ ex->∃ sl,h'.get? b = some { o with slots:=sl }
 free:∀ b o,h.get? b = some o->H b = none->b ∉ ex->H' b = none
 there:∀ b o,h.get? b = some o->b ∉ ex->∃ o',h'.get? b = some o'
 tups:∀ b xs,H b = some (.tup xs)->H' b = some (.tup xs)
 frzs:∀ b o u,H b = some (.frz o u)->H' b = some (.frz o u)
 tbls:∀ b ps,H b = some (.tbl ps)->∃ more,H' b = some (.tbl (ps ++ more))
section
variable {fs fs' ex ex':List Addr} {H1 H2:Hp} {h1 h2:Heap} {a x e:Addr}
theorem Un.any (u:Un fs ex H H1 h h1) {b:Addr} {ob:Obj} (q:h.get? b = some ob) (n:H b = none) (hx:b ∉ ex):∃ sl,h1.get? b = some { ob with slots:=sl }:=by
 by_cases hb:b ∈ fs
 ·exact u.slot b ob q n hb hx
 ·exact ⟨ob.slots,u.keep b ob q n hb hx⟩
theorem Un.kept (k:∀ b u,h.get? b = some u->h'.get? b = some u):Un fs ex H H h h':=
 ⟨fun b ob q _ _ _=>k b ob q,fun b ob q _ _ _=>⟨ob.slots,k b ob q⟩,fun _ _ _ n _=>n,fun b ob q _=>⟨ob,k b ob q⟩,fun _ _ q=>q,fun _ _ _ q=>q,fun _ ps q=>⟨#[],by rw [q];simp⟩⟩
theorem Un.refl:Un fs ex H H h h:=Un.kept fun _ _ q=>q
theorem Un.laid (k:∀ b u,h.get? b = some u->h'.get? b = some u) (hp:h.objs.size<=a) (hn:H a = none):Un fs ex H (upd H a o) h h' where
 keep:=fun b u q _ _ _=>k b u q
 slot:=fun b u q _ _ _=>⟨u.slots,k b u q⟩
 free:=fun b u q n _=>by rw [yj (Qj (Q5 (Qd q) hp))];exact n
 there:=fun b u q _=>⟨u,k b u q⟩
 tups:=fun b xs q=>by rw [yj (yt q hn)];exact q
 frzs:=fun b u xs q=>by rw [yj (yt q hn)];exact q
 tbls:=fun b ps q=>⟨#[],by rw [yj (yt q hn),q];simp⟩
theorem Un.write (mu:Mut (H x)) (he:e = x\/H e = some (.own x)) (k:∀ b u,b ≠ e->h.get? b = some u->h'.get? b = some u) (heo:∃ u,h'.get? e = some u):Un fs ex H (upd H x o) h h':=by
 have hx:∀ b,H b = none->b ≠ x:=fun b n z=>by subst z;rw [n] at mu;exact mu
 have hb:∀ b,H b = none->b ≠ e:=fun b n z=>by
  subst z
  rcases he with r | r
  ·exact hx b n r
  ·rw [n] at r;cases r
 have hm:∀ b u,H b = some u->¬ Mut (some u)->b ≠ x:=fun b u q nm z=>by subst z;rw [q] at mu;exact nm mu
 refine ⟨fun b u q n _ _=>k b u (hb b n) q,fun b u q n _ _=>⟨u.slots,k b u (hb b n) q⟩,fun b u q n _=>by rw [yj (hx b n)];exact n,fun b u q _=>?_,
  fun b xs q=>by rw [yj (hm b _ q fun z=>z)];exact q,fun b u xs q=>by rw [yj (hm b _ q fun z=>z)];exact q,fun b ps q=>⟨#[],by rw [yj (hm b _ q fun z=>z),q];simp⟩⟩
 by_cases hbe:b = e
 ·subst hbe;exact heo
 ·exact ⟨u,k b u hbe q⟩
end
noncomputable def trk (h:Heap) (H:Hp):List Addr:=(List.range h.objs.size).filter fun a=>(H a).isSome
noncomputable def zbN (h:Heap) (H:Hp):Heap:=PySem.W.hideAll h (trk h H)
theorem zgZ (h:Heap) (H:Hp):(zbN h H).objs.size = h.objs.size:=PySem.W.hideAll_size _ _
theorem zic {b:Addr} {o:Obj} (e:h.get? b = some o) (n:H b = none):(zbN h H).get? b = some o:=
 PySem.W.hideAll_get _ e fun hm=>by
  have q:(H b).isSome = true:=(mem_filter.mp hm).2
  rw [n] at q;simp at q
theorem zjo {b:Addr} {o:Obj} (e:(zbN h H).get? b = some o):h.get? b = some o/\H b = none:=by
 have e':h.get? b = some o:=PySem.W.of_hideAll (trk h H) e
 refine ⟨e',?_⟩
 cases q:H b with
 | none=>rfl
 | some x=>
  have hm:b ∈ trk h H:=mem_filter.mpr ⟨mem_range.mpr (Qd e'),by simp [q]⟩
  have z:(zbN h H).get? b = none:=PySem.W.hideAll_none (trk h H) hm
  rw [z] at e;cases e
noncomputable def zj6 (g h:Heap) (L:Addr):List (Addr × Obj):=(List.range h.objs.size).filterMap fun a=>if a = L\/(g.get? a).isSome = true then none else (h.get? a).map fun o=>(a,o)
noncomputable def rest (g h:Heap) (L d:Addr):List (Addr × Obj):=(zj6 g h L).filter fun p=>decide (p.1 ≠ d)
structure Mod (K:Frag) (mg:Str->Option Value) (base:Heap):Prop where
 kin:K.In base
 glob:base.Ns mainGlobals mg
 blt:∃ mb,base.Ns builtinsNs mb/\∀ x:Str,x ≠ "__name__"->mb x = bootBuiltins x
 nolimit:base.NoLimit
structure Cx where
 prog:Program
 w:World
 K:Frag
 mg:Str->Option Value
 base:Heap
 A:Around
 N:List Str
 s₀:Shared
 H₀:Hp
 env:Env
 outer:List Env
 stack:List Env
 ex:List Addr
 fn:Str->Bool
 calm:Bool
 pn:List (Addr × Obj)
 xe:Value->Shared->Prop
noncomputable def frs (l:List Env):List Addr:=l.filterMap (·.frame)
noncomputable abbrev Cx.fs (X:Cx):List Addr:=frs X.outer
def Vis (sc:Scope) (x:Str):Prop:=sc.names.lookup x = some .local\/sc.names.lookup x = some .cell\/sc.names.lookup x = some .free
def Loc (sc:Scope) (x:Str):Prop:=sc.names.lookup x = some .local\/sc.names.lookup x = some .cell
def Look (env:Env) (h:Heap) (m:Str->Option Value) (x:Str) (u:Value):Prop:=
 (env.kindOf x = some .local/\m x = some u)\/((env.kindOf x = some .cell\/env.kindOf x = some .free)/\∃ c,env.cells.lookup x = some c/\h.IsCell c (some u))
structure Cx.Ok (X:Cx):Prop where
 mod:Mod X.K X.mg X.base
 kind:X.env.scope.kind = .function
 glob:X.env.globals = mainGlobals
 blt:X.env.builtins = builtinsNs
 above:X.s₀.heap.objs.size<=X.env.locals
 inj:∀ x y c,X.env.cells.lookup x = some c->X.env.cells.lookup y = some c->x = y
 has:∀ x,(X.env.kindOf x = some .cell\/X.env.kindOf x = some .free)->∃ c,X.env.cells.lookup x = some c
 cab:∀ x c,X.fn x = true->X.env.cells.lookup x = some c->X.s₀.heap.objs.size<=c
 hd:X.calm = true->X.A.handled = none
 frames:X.A.frames = some X.stack
 stk:X.stack = X.outer\/(X.stack = X.env :: X.outer/\X.env.frame = some X.env.locals)
 exf:∀ b ∈ X.ex,b ≠ X.env.locals/\∀ x c,X.env.cells.lookup x = some c->c ≠ b
 bs:∀ b o,X.base.get? b = some o->X.s₀.heap.get? b = some o/\X.H₀ b = none
 bsz:X.base.objs.size<=X.s₀.heap.objs.size
 noex:∀ b o,X.base.get? b = some o->b ∉ X.ex
 exfs:∀ b ∈ X.ex,b ∉ X.fs
 funs:X.s₀.heap.FunFrames X.base X.outer
 frf:∀ b ∈ X.fs,X.H₀ b = none
structure Inv (X:Cx) (pins:List (Addr × Obj)) (σ:List (Option V)) (H:Hp) (s:Shared):Prop where
 ok:X.Ok
 os:s.os = X.s₀.os
 bare:AllBare s.gens
 base:Un X.fs X.ex X.H₀ H X.s₀.heap s.heap
 loc:∃ m,s.heap.Ns X.env.locals m/\∀ (i:Nat) (x:Str) (v:V),X.N[i]? = some x->σ[i]? = some (some v)->Vis X.env.scope x->∃ u,RelV v u/\Look X.env s.heap m x u
 cell:∀ x c,X.env.cells.lookup x = some c->∃ v,s.heap.IsCell c v
 free:H X.env.locals = none
 freeC:∀ x c,X.env.cells.lookup x = some c->H c = none
 pin:∀ p ∈ X.pn ++ pins,s.heap.get? p.1 = some p.2/\H p.1 = none/\p.1 ≠ X.env.locals/\p.1 ∉ X.fs/\∀ v,p.2.data ≠ .cell v
 hok:HOk X.prog X.w H s.heap
 len:σ.length = X.N.length
variable {it:Addr} {A:Around} {g':Array GenState} {X:Cx} {d':Drawn} {pins:List (Addr × Obj)} {ch:List Addr} {N:List Str} {M:Model} {i j t':Nat} {s s':Shared} {x:Str} {v:V} {u:Value} {E:Value->Shared->Prop}
section
variable {σ:List (Option V)}
theorem Cx.Ok.nofr (ok:X.Ok) {b:Addr} {o:Obj} (e:X.base.get? b = some o):b ∉ X.fs:=fun hb=>by
 have:=(ok.funs.mem hb).1
 rw [e] at this;cases this
theorem Inv.bs (I:Inv X pins σ H s):∀ b o,X.base.get? b = some o->s.heap.get? b = some o/\H b = none:=fun b o e=>
 ⟨I.base.keep b o (I.ok.bs b o e).1 (I.ok.bs b o e).2 (I.ok.nofr e) (I.ok.noex b o e),I.base.free b o (I.ok.bs b o e).1 (I.ok.bs b o e).2 (I.ok.noex b o e)⟩
theorem Inv.bk (I:Inv X pins σ H s):∀ b o,X.base.get? b = some o->s.heap.get? b = some o:=fun b o e=>(I.bs b o e).1
theorem Inv.mod (I:Inv X pins σ H s):Mod X.K X.mg X.base:=I.ok.mod
theorem Inv.kIn (I:Inv X pins σ H s):X.K.In s.heap:=I.ok.mod.kin.keeps I.bk
theorem Inv.fr (I:Inv X pins σ H s):∃ m,Fr X.base X.env.locals s.heap m:=
 let ⟨m,hn,_⟩:=I.loc
 ⟨m,hn,I.bk,Qi I.ok.bsz I.ok.above⟩
theorem Inv.lt (I:Inv X pins σ H s):X.env.locals < s.heap.objs.size:=let ⟨_,hn,_⟩:=I.loc;hn.lt
theorem Inv.sz (I:Inv X pins σ H s):X.s₀.heap.objs.size<=s.heap.objs.size:=Qi I.ok.above (Nat.le_of_lt I.lt)
theorem Inv.nofs (I:Inv X pins σ H s) {a:Addr} (h:s.heap.objs.size<=a):a ∉ X.fs:=fun hb=>by
 obtain ⟨_,o,ho,_⟩:=I.ok.funs.mem hb
 exact absurd (Q5 (Qd ho) (Qi I.sz h)) (Qn _)
theorem Inv.cne (I:Inv X pins σ H s):∀ x c,X.env.cells.lookup x = some c->c ≠ X.env.locals:=fun x c e z=>by
 obtain ⟨v,o,ho,hd⟩:=I.cell x c e
 obtain ⟨m,⟨o',es,ep,ho',hd',_⟩,_⟩:=I.loc
 rw [z,ho'] at ho;cases ho;rw [hd'] at hd;cases hd
theorem Inv.funs (I:Inv X pins σ H s):s.heap.FunFrames X.base X.outer:=by
 have all:∀ (l:List Env),(∀ b ∈ frs l,b ∈ X.fs)->X.s₀.heap.FunFrames X.base l->s.heap.FunFrames X.base l:=by
  intro l
  induction l with
  | nil=>intro _ _;trivial
  | cons env r ih=>
   intro hs hl
   obtain ⟨hk,⟨L,o,hf,hn,ho,hd⟩,hr⟩:=hl
   have hL:L ∈ X.fs:=hs L (by unfold frs;rw [filterMap_cons,hf];exact mem_cons_self)
   obtain ⟨sl,e⟩:=I.base.slot L o ho (I.ok.frf L hL) hL fun z=>I.ok.exfs L z hL
   exact ⟨hk,⟨L,_,hf,hn,e,hd⟩,ih (fun b hb=>hs b (by unfold frs;rw [filterMap_cons,hf];exact mem_cons_of_mem _ hb)) hr⟩
 exact all X.outer (fun _ hb=>hb) I.ok.funs
theorem Inv.stack (I:Inv X pins σ H s):s.heap.FunFrames X.base X.stack:=by
 rcases I.ok.stk with e | ⟨e,hf⟩
 ·rw [e];exact I.funs
 ·rw [e]
  obtain ⟨m,hn,_⟩:=I.loc
  refine .cons (by rw [I.ok.kind];decide) hf hn ?_ I.funs
  exact Heap.get?_none_of_le (Qi I.ok.bsz I.ok.above)
theorem Inv.stkSub (I:Inv X pins σ H s):∀ b ∈ frs X.stack,b ∈ X.env.locals :: X.fs:=fun b hb=>by
 rcases I.ok.stk with e | ⟨e,hf⟩
 ·rw [e] at hb;exact mem_cons_of_mem _ hb
 ·rw [e] at hb
  unfold frs at hb
  rw [filterMap_cons,hf] at hb
  exact hb
theorem Inv.stkFree (I:Inv X pins σ H s):∀ b ∈ frs X.stack,H b = none:=fun b hb=>by
 rcases mem_cons.mp (I.stkSub b hb) with e | hb
 ·rw [e];exact I.free
 ·obtain ⟨_,o,ho,_⟩:=I.ok.funs.mem hb
  exact I.base.free b o ho (I.ok.frf b hb) fun z=>I.ok.exfs b z hb
theorem Inv.step {t':Nat} {d':Drawn} (I:Inv X pins σ H s)
 (hch:∀ b ∈ ch,(b ∈ X.ex\/X.s₀.heap.objs.size<=b)/\b ≠ X.env.locals/\(∀ x c,X.env.cells.lookup x = some c->c ≠ b)/\∀ p ∈ X.pn ++ pins,p.1 ≠ b)
 (keep:∀ b o,b ≠ X.env.locals->b ∉ X.fs->b ∉ ch->s.heap.get? b = some o->H b = none->h'.get? b = some o)
 (slot:∀ b o,b ≠ X.env.locals->b ∈ X.fs->b ∉ ch->s.heap.get? b = some o->H b = none->∃ sl,h'.get? b = some { o with slots:=sl }) (free:∀ b o,b ∉ ch->s.heap.get? b = some o->H b = none->H' b = none)
 (there:∀ b o,b ∉ ch->s.heap.get? b = some o->∃ o',h'.get? b = some o')
 (tups:∀ b xs,H b = some (.tup xs)->H' b = some (.tup xs)) (frzs:∀ b o u,H b = some (.frz o u)->H' b = some (.frz o u)) (tbls:∀ b ps,H b = some (.tbl ps)->∃ more,H' b = some (.tbl (ps ++ more)))
 (ns:∀ m,s.heap.Ns X.env.locals m->h'.Ns X.env.locals m) (hok:HOk X.prog X.w H' h') (hg:AllBare g') :
  Inv X pins σ H' { s with heap:=h',gens:=g',drawn:=d',toks:=t' }:=by
 have neL:∀ b o,X.s₀.heap.get? b = some o->b ≠ X.env.locals:=fun b o e=>Qj (Q5 (Qd e) I.ok.above)
 have neC:∀ b o,X.s₀.heap.get? b = some o->b ∉ X.ex->b ∉ ch:=fun b o e hx hb=>by
  rcases (hch b hb).1 with z | z
  ·exact hx z
  ·exact absurd (Q5 (Qd e) z) (Qn _)
 have cellK:∀ x c,X.env.cells.lookup x = some c->∀ v,s.heap.IsCell c v->h'.IsCell c v:=fun x c e v h9=>by
  obtain ⟨o,ho,hd⟩:=h9
  have nch:c ∉ ch:=fun z=>(hch c z).2.2.1 x c e rfl
  by_cases hc:c ∈ X.fs
  ·obtain ⟨sl,q⟩:=slot c o (I.cne x c e) hc nch ho (I.freeC x c e)
   exact ⟨_,q,hd⟩
  ·exact ⟨o,keep c o (I.cne x c e) hc nch ho (I.freeC x c e),hd⟩
 refine ⟨I.ok,I.os,hg,⟨fun b o e n hb hx=>?_,fun b o e n hb hx=>?_,fun b o e n hx=>?_,fun b o e hx=>?_,fun b xs e=>tups b xs (I.base.tups b xs e),fun b o xs e=>frzs b o xs (I.base.frzs b o xs e),fun b ps e=>?_⟩,?_,fun x c e=>?_,?_,fun x c e=>?_,fun p hp=>?_,hok,I.len⟩
 ·exact keep b o (neL b o e) hb (neC b o e hx) (I.base.keep b o e n hb hx) (I.base.free b o e n hx)
 ·obtain ⟨sl,e1⟩:=I.base.slot b o e n hb hx
  obtain ⟨sl',e2⟩:=slot b _ (neL b o e) hb (neC b o e hx) e1 (I.base.free b o e n hx)
  exact ⟨sl',e2⟩
 ·obtain ⟨o',e1⟩:=I.base.there b o e hx
  exact free b o' (neC b o e hx) e1 (I.base.free b o e n hx)
 ·obtain ⟨o',e1⟩:=I.base.there b o e hx
  exact there b o' (neC b o e hx) e1
 ·obtain ⟨m1,e1⟩:=I.base.tbls b ps e
  obtain ⟨m2,e2⟩:=tbls b _ e1
  exact ⟨m1 ++ m2,by rw [e2,Array.append_assoc]⟩
 ·obtain ⟨m,hn,hl⟩:=I.loc
  refine ⟨m,ns m hn,fun i x v e1 e2 e3=>?_⟩
  obtain ⟨u,r,l⟩:=hl i x v e1 e2 e3
  refine ⟨u,r,?_⟩
  rcases l with l | ⟨k,c,e,z⟩
  ·exact .inl l
  ·exact .inr ⟨k,c,e,cellK x c e _ z⟩
 ·obtain ⟨v,z⟩:=I.cell x c e
  exact ⟨v,cellK x c e v z⟩
 ·obtain ⟨m,⟨o,_,_,ho,_⟩,_⟩:=I.loc
  exact free _ o (fun z=>(hch _ z).2.1 rfl) ho I.free
 ·obtain ⟨v,o,ho,hd⟩:=I.cell x c e
  exact free c o (fun z=>(hch c z).2.2.1 x c e rfl) ho (I.freeC x c e)
 ·obtain ⟨e,n,ne,nf,d⟩:=I.pin p hp
  have nch:p.1 ∉ ch:=fun z=>(hch p.1 z).2.2.2 p hp rfl
  exact ⟨keep p.1 p.2 ne nf nch e n,free p.1 p.2 nch e n,ne,nf,d⟩
theorem Inv.un {t':Nat} (I:Inv X pins σ H s) (u:Un X.fs [] H H' s.heap h') (hok:HOk X.prog X.w H' h'):Inv X pins σ H' { s with heap:=h',toks:=t' }:=by
 obtain ⟨m,⟨o,es,ep,ho,r⟩,_⟩:=id I.loc
 obtain ⟨sl,hL⟩:=u.any ho I.free (by simp)
 exact I.step (g':=s.gens) (d':=s.drawn) (ch:=[]) (fun _ z=>nomatch z) (fun b o _ hb _ e n=>u.keep b o e n hb (by simp)) (fun b o _ hb _ e n=>u.slot b o e n hb (by simp)) (fun b o _ e n=>u.free b o e n (by simp)) (fun b o _ e=>u.there b o e (by simp)) u.tups u.frzs u.tbls (fun m' hm=>by
  obtain ⟨o',es',ep',ho',r'⟩:=hm
  rw [ho] at ho';cases ho'
  exact ⟨_,es',ep',hL,r'⟩) hok I.bare
theorem Inv.call {t':Nat} {d':Drawn} (I:Inv X pins σ H s) (u:Un (frs X.stack) ch H H' s.heap h') (hok:HOk X.prog X.w H' h') (hg:AllBare g')
 (hch:∀ b ∈ ch,(b ∈ X.ex\/X.s₀.heap.objs.size<=b)/\b ≠ X.env.locals/\(∀ x c,X.env.cells.lookup x = some c->c ≠ b)/\∀ p ∈ X.pn ++ pins,p.1 ≠ b) :
  Inv X pins σ H' { s with heap:=h',gens:=g',drawn:=d',toks:=t' }:=by
 obtain ⟨m,⟨o,es,ep,ho,r⟩,_⟩:=id I.loc
 obtain ⟨sl,hL⟩:=u.any ho I.free fun z=>(hch _ z).2.1 rfl
 exact I.step (ch:=ch) hch (fun b o hL hb hc e n=>u.keep b o e n (fun z=>(mem_cons.mp (I.stkSub b z)).elim hL hb) hc) (fun b o _ _ hc e n=>u.any e n hc) (fun b o hc e n=>u.free b o e n hc) (fun b o hc e=>u.there b o e hc) u.tups u.frzs u.tbls (fun m' hm=>by
  obtain ⟨o',es',ep',ho',r'⟩:=hm
  rw [ho] at ho';cases ho'
  exact ⟨_,es',ep',hL,r'⟩) hok hg
theorem Inv.turned {t':Nat} (I:Inv X pins σ H s) (k:∀ b o,b ≠ it->s.heap.get? b = some o->h'.get? b = some o) (hn:H it = none) (hL:it ≠ X.env.locals)
 (h1:it ∈ X.ex\/X.s₀.heap.objs.size<=it) (h2:∀ x c,X.env.cells.lookup x = some c->c ≠ it) (h3:∀ p ∈ X.pn ++ pins,p.1 ≠ it):Inv X pins σ H { s with heap:=h',toks:=t' }:=by
 have nit:∀ b u,H b = some u->b ≠ it:=fun b u e z=>by rw [z,hn] at e;cases e
 refine I.step (g':=s.gens) (d':=s.drawn) (ch:=[it]) (fun b hb=>?_) (fun b o _ _ hc e _=>k b o (fun z=>hc (by simp [z])) e) (fun b o _ _ hc e _=>⟨o.slots,k b o (fun z=>hc (by simp [z])) e⟩) (fun _ _ _ _ n=>n)
  (fun b o hc e=>⟨o,k b o (fun z=>hc (by simp [z])) e⟩) (fun _ _ e=>e) (fun _ _ _ e=>e) (fun b ps e=>⟨#[],by rw [e];simp⟩) (fun m hm=>?_) (fun b u e=>?_) I.bare
 ·have e:b = it:=by simpa using hb
  subst e
  exact ⟨h1,hL,h2,h3⟩
 ·obtain ⟨o,es,ep,ho,r⟩:=hm
  exact ⟨o,es,ep,k _ o (Ne.symm hL) ho,r⟩
 ·refine (I.hok b u e).stay (fun c v hc q=>k c v ?_ q) (fun _ q=>q) fun _ _ q=>q
  rcases hc with z | z
  ·rw [z];exact nit b u e
  ·exact nit c _ z
theorem Inv.tok (I:Inv X pins σ H s) (t:Nat):Inv X pins σ H { s with toks:=t }:=I.un (h':=s.heap) (t':=t) Un.refl I.hok
theorem Inv.kept {t':Nat} (I:Inv X pins σ H s) (k:∀ b u,s.heap.get? b = some u->h'.get? b = some u):Inv X pins σ H { s with heap:=h',toks:=t' }:=I.un (Un.kept k) (I.hok.kept k)
theorem Inv.laid {a:Addr} {t':Nat} (I:Inv X pins σ H s) (k:∀ b u,s.heap.get? b = some u->h'.get? b = some u) (hp:s.heap.objs.size<=a) (new:ObjOk X.prog X.w (upd H a o) h' a o) :
  Inv X pins σ (upd H a o) { s with heap:=h',toks:=t' }:=I.un (Un.laid k hp (I.hok.fresh hp)) (I.hok.laid k hp new)
theorem Inv.write {x e:Addr} {t':Nat} (I:Inv X pins σ H s) (mu:Mut (H x)) (he:e = x\/H e = some (.own x)) (k:∀ b u,b ≠ e->s.heap.get? b = some u->h'.get? b = some u) (heo:∃ u,h'.get? e = some u)
 (new:ObjOk X.prog X.w (upd H x o) h' x o):Inv X pins σ (upd H x o) { s with heap:=h',toks:=t' }:=I.un (Un.write mu he k heo) (I.hok.write mu he k heo new)
theorem Inv.pins_of {pins':List (Addr × Obj)} (I:Inv X pins σ H s) (h:∀ p ∈ pins',s.heap.get? p.1 = some p.2/\H p.1 = none/\p.1 ≠ X.env.locals/\p.1 ∉ X.fs/\∀ v,p.2.data ≠ .cell v):Inv X pins' σ H s:=
 ⟨I.ok,I.os,I.bare,I.base,I.loc,I.cell,I.free,I.freeC,fun p hp=>(mem_append.mp hp).elim (fun z=>I.pin p (List.mem_append_left _ z)) (h p),I.hok,I.len⟩
theorem zeE (hN:N.Nodup) (a:N[i]? = some x) (b:N[j]? = some x):i = j:=by
 obtain ⟨h1,e1⟩:=List.getElem?_eq_some_iff.mp a
 obtain ⟨h2,e2⟩:=List.getElem?_eq_some_iff.mp b
 exact (List.getElem_inj hN).mp (e1.trans e2.symm)
theorem zdO {Q:Unit->Shared->Prop} (I:Inv X pins σ H s) (hN:X.N.Nodup) (hi:X.N[i]? = some x) (hx:Loc X.env.scope x) (r:RelV v u)
 (h:∀ s',Inv X pins (σ.set i (some v)) H s'->(∃ a,Heap.SameBut a s.heap s'.heap/\(a = X.env.locals\/X.env.cells.lookup x = some a))->Q () s') (hf:X.fn x = true\/X.env.scope.names.lookup x = some .local:=by first | exact .inl rfl | exact .inr rfl | assumption):wpAny M A (storeName X.env x u) Q E s:=by
 obtain ⟨m,hn,hl⟩:=id I.loc
 have hcls:(X.env.scope.kind == .class || (X.env.scope.kind == .module && X.env.locals != X.env.globals)) = false:=by rw [I.ok.kind];rfl
 have hiσ:i < σ.length:=by rw [I.len];exact (List.getElem?_eq_some_iff.mp hi).1
 have cne:=I.cne
 have tracked:∀ {a:Addr} {h':Heap},(∃ o,s.heap.get? a = some o/\H a = none)->Heap.SameBut a s.heap h'->HOk X.prog X.w H h':=fun {a h'} ha hs b ob e=>by
  obtain ⟨_,_,hfree⟩:=ha
  refine (I.hok b ob e).stay (fun c w' hc q=>(hs.2 c ?_).trans q) (fun _ q=>q) fun _ _ q=>q
  rintro rfl
  rcases hc with rfl | hc
  ·rw [hfree] at e;cases e
  ·rw [hfree] at hc;cases hc
 rcases hx with hk | hk
 ·refine wpAny_storeName_local hk hn (fun h' hn' hs=>?_) hcls
  obtain ⟨oL,_,_,hoL,_⟩:=id hn
  refine h _ ⟨I.ok,I.os,I.bare,⟨fun b o e n hb hx=>?_,fun b o e n hb hx=>?_,I.base.free,fun b o e hx=>?_,I.base.tups,I.base.frzs,I.base.tbls⟩,⟨_,hn',fun j y v' e1 e2 e3=>?_⟩,fun y c e=>?_,I.free,I.freeC,fun p hp=>?_,tracked ⟨oL,hoL,I.free⟩ hs,by simpa using I.len⟩ ⟨_,hs,.inl rfl⟩
  ·exact (hs.2 b (Qj (Q5 (Qd e) I.ok.above))).trans (I.base.keep b o e n hb hx)
  ·obtain ⟨sl,e1⟩:=I.base.slot b o e n hb hx
   exact ⟨sl,(hs.2 b (Qj (Q5 (Qd e) I.ok.above))).trans e1⟩
  ·obtain ⟨o',e1⟩:=I.base.there b o e hx
   exact ⟨o',(hs.2 b (Qj (Q5 (Qd e) I.ok.above))).trans e1⟩
  ·by_cases hj:j = i
   ·subst hj
    rw [hi] at e1;cases e1
    rw [List.getElem?_set_self hiσ] at e2
    cases e2
    exact ⟨u,r,.inl ⟨hk,by simp⟩⟩
   ·rw [List.getElem?_set_ne (Ne.symm hj)] at e2
    obtain ⟨u',r',q⟩:=hl j y v' e1 e2 e3
    refine ⟨u',r',?_⟩
    rcases q with ⟨k,e⟩ | ⟨k,c,e,z⟩
    ·refine .inl ⟨k,?_⟩
     have:y ≠ x:=fun e=>hj (zeE hN e1 (e ▸ hi))
     simp [this,e]
    ·exact .inr ⟨k,c,e,z.sameBut hs (cne y c e)⟩
  ·obtain ⟨w',z⟩:=I.cell y c e
   exact ⟨w',z.sameBut hs (cne y c e)⟩
  ·obtain ⟨e,n,ne,nf,d⟩:=I.pin p hp
   exact ⟨(hs.2 p.1 ne).trans e,n,ne,nf,d⟩
 ·have hfn:X.fn x = true:=by
   rcases hf with z | z
   ·exact z
   ·rw [z] at hk;cases hk
  obtain ⟨c,hc⟩:=I.ok.has x (.inl hk)
  obtain ⟨w',z⟩:=I.cell x c hc
  refine wpAny_storeName_cell I.ok.kind hk hc z (fun h' hc' hs=>?_)
  obtain ⟨oc,hoc,hocd⟩:=id z
  refine h { s with heap:=h' } ⟨I.ok,I.os,I.bare,⟨fun b o e n hb hx=>?_,fun b o e n hb hx=>?_,I.base.free,fun b o e hx=>?_,I.base.tups,I.base.frzs,I.base.tbls⟩,⟨m,hn.sameBut hs (Ne.symm (cne x c hc)),fun j y v' e1 e2 e3=>?_⟩,fun y c' e=>?_,I.free,I.freeC,fun p hp=>?_,tracked ⟨oc,hoc,I.freeC x c hc⟩ hs,by simpa using I.len⟩ ⟨c,hs,.inr hc⟩
  ·exact (hs.2 b (Qj (Q5 (Qd e) (I.ok.cab x c hfn hc)))).trans (I.base.keep b o e n hb hx)
  ·obtain ⟨sl,e1⟩:=I.base.slot b o e n hb hx
   exact ⟨sl,(hs.2 b (Qj (Q5 (Qd e) (I.ok.cab x c hfn hc)))).trans e1⟩
  ·obtain ⟨o',e1⟩:=I.base.there b o e hx
   exact ⟨o',(hs.2 b (Qj (Q5 (Qd e) (I.ok.cab x c hfn hc)))).trans e1⟩
  ·by_cases hj:j = i
   ·subst hj
    rw [hi] at e1;cases e1
    rw [List.getElem?_set_self hiσ] at e2
    cases e2
    exact ⟨u,r,.inr ⟨.inl hk,c,hc,hc'⟩⟩
   ·rw [List.getElem?_set_ne (Ne.symm hj)] at e2
    obtain ⟨u',r',q⟩:=hl j y v' e1 e2 e3
    refine ⟨u',r',?_⟩
    rcases q with q | ⟨k,c',e,z'⟩
    ·exact .inl q
    ·refine .inr ⟨k,c',e,z'.sameBut hs ?_⟩
     rintro rfl
     exact hj (zeE hN e1 (I.ok.inj _ _ _ e hc ▸ hi))
  ·by_cases hcc:c' = c
   ·subst hcc;exact ⟨_,hc'⟩
   ·obtain ⟨w2,z2⟩:=I.cell y c' e
    exact ⟨w2,z2.sameBut hs hcc⟩
  ·obtain ⟨e,n,ne,nf,d⟩:=I.pin p hp
   refine ⟨(hs.2 p.1 ?_).trans e,n,ne,nf,d⟩
   intro q
   rw [q,hoc] at e
   have q':oc = p.2:=Qc e
   exact d w' (by rw [← q'];exact hocd)
theorem zeo {Q:Unit->Shared->Prop} (I:Inv X pins σ H s) (hN:X.N.Nodup) (hi:X.N[i]? = some x) (hx:Loc X.env.scope x) (r:RelV v u)
 (h:∀ s',Inv X pins (σ.set i (some v)) H s'->Q () s') (hf:X.fn x = true\/X.env.scope.names.lookup x = some .local:=by first | exact .inl rfl | exact .inr rfl | assumption):wpAny M A (storeName X.env x u) Q E s:=
 zdO I hN hi hx r (fun s' I' _=>h s' I') hf
theorem Inv.call' (I:Inv X pins σ H s) (ho:s'.os = s.os) (u:Un (frs X.stack) ch H H' s.heap s'.heap) (hok:HOk X.prog X.w H' s'.heap) (hg:AllBare s'.gens)
 (hch:∀ b ∈ ch,(b ∈ X.ex\/X.s₀.heap.objs.size<=b)/\b ≠ X.env.locals/\(∀ x c,X.env.cells.lookup x = some c->c ≠ b)/\∀ p ∈ X.pn ++ pins,p.1 ≠ b):Inv X pins σ H' s':=by
 obtain ⟨h',g',d',t',o'⟩:=s'
 have e:o' = s.os:=ho
 subst e
 exact I.call (g':=g') (t':=t') (d':=d') u hok hg hch
end
noncomputable abbrev XK:=Value->Option Addr->Hp->Prop
noncomputable abbrev St:=List (Option V)
noncomputable abbrev VK:=V->Hp->Prop
noncomputable abbrev TE:=St->Hp->VK->Prop
noncomputable abbrev TT:=St->Hp->(Bool->Hp->Prop)->Prop
noncomputable abbrev TA:=St->Hp->(List V->Hp->Prop)->Prop
structure Ends where
 nx:St->Hp->Prop
 rt:VK
 bk:St->Hp->Prop:=fun _ _=>False
 ct:St->Hp->Prop:=fun _ _=>False
noncomputable abbrev TS:=Ends->St->Hp->Prop
def EP (X:Cx) (pins:List (Addr × Obj)) (σ:St) (Q:VK) (u:Value) (s':Shared):Prop:=∃ v H',Inv X pins σ H' s'/\RelV v u/\Q v H'
def TP (X:Cx) (pins:List (Addr × Obj)) (σ:St) (Q:Bool->Hp->Prop) (b:Bool) (s':Shared):Prop:=∃ H',Inv X pins σ H' s'/\Q b H'
def AP (X:Cx) (pins:List (Addr × Obj)) (σ:St) (Q:List V->Hp->Prop) (us:List Value) (s':Shared):Prop:=∃ vs H',Inv X pins σ H' s'/\Vals vs us/\Q vs H'
def SP (X:Cx) (pins:List (Addr × Obj)) (D:Ends) (f:Flow) (s':Shared):Prop:=
 match f with
 | .next=>∃ σ' H',Inv X pins σ' H' s'/\D.nx σ' H'
 | .brk=>∃ σ' H',Inv X pins σ' H' s'/\D.bk σ' H'
 | .cont=>∃ σ' H',Inv X pins σ' H' s'/\D.ct σ' H'
 | .ret u=>∃ v σ' H',Inv X pins σ' H' s'/\RelV v u/\D.rt v H'
def PE (X:Cx) (e:Expr) (t:TE):Prop:=
 ∀ (pins:List (Addr × Obj)) (s:Shared) (σ:St) (H:Hp) (Q:VK),Inv X pins σ H s->t σ H Q->wpAny (model X.prog X.w) X.A (eval e X.env) (EP X pins σ Q) X.xe s
def PT (X:Cx) (e:Expr) (t:TT):Prop:=
 ∀ (pins:List (Addr × Obj)) (s:Shared) (σ:St) (H:Hp) (Q:Bool->Hp->Prop),Inv X pins σ H s->t σ H Q->wpAny (model X.prog X.w) X.A (isTrue e X.env (eval e X.env)) (TP X pins σ Q) X.xe s
def PW (X:Cx) (e:Expr) (t:TT):Prop:=
 ∀ (whole:Sem Value) (pins:List (Addr × Obj)) (s:Shared) (σ:St) (H:Hp) (Q:Bool->Hp->Prop),Inv X pins σ H s->t σ H Q->wpAny (model X.prog X.w) X.A (isTrue e X.env whole) (TP X pins σ Q) X.xe s
variable {e:Expr}
theorem PW.pt {t:TT} (h:PW X e t):PT X e t:=h _
def PA (X:Cx) (es:List Expr) (t:TA):Prop:=
 ∀ (pos:Pos) (pins:List (Addr × Obj)) (s:Shared) (σ:St) (H:Hp) (Q:List V->Hp->Prop),Inv X pins σ H s->t σ H Q->wpAny (model X.prog X.w) X.A (spliced (backTo pos (starEach es X.env))) (AP X pins σ Q) X.xe s
def PS (X:Cx) (st:Stmt) (t:TS):Prop:=
 ∀ (pins:List (Addr × Obj)) (s:Shared) (σ:St) (H:Hp) (D:Ends),Inv X pins σ H s->t D σ H->wpAny (model X.prog X.w) X.A (exec st X.env) (SP X pins D) X.xe s
def PSs (X:Cx) (st:List Stmt) (t:TS):Prop:=
 ∀ (pins:List (Addr × Obj)) (s:Shared) (σ:St) (H:Hp) (D:Ends),Inv X pins σ H s->t D σ H->wpAny (model X.prog X.w) X.A (execs st X.env) (SP X pins D) X.xe s
theorem thn {α:Type} {t:Sem α} {Q Q':α->Shared->Prop} (h:wpAny M A t Q E s) (hQ:∀ a s,Q a s->Q' a s):wpAny M A t Q' E s:=Qf h hQ fun _ _ x=>x
variable {op:CmpOp} {pos:Pos} {σ:St} {t ta tb:TE} {R:V->V->Hp->Prop} {Q:Value->Shared->Prop}
section
theorem bin {a b:Expr} (ha:PE X a ta) (hb:PE X b tb) (I:Inv X pins σ H s) (h:ta σ H fun x H1=>tb σ H1 fun y H2=>R x y H2)
 {α:Type} {Q:α->Shared->Prop} {f:Value->Value->Sem α}
 (hf:∀ v u s2 x y H2,Inv X pins σ H2 s2->RelV x v->RelV y u->R x y H2->wpAny (model X.prog X.w) X.A (f v u) Q X.xe s2) :
  wpAny (model X.prog X.w) X.A (eval a X.env) (fun v s₁=>wpAny (model X.prog X.w) X.A (eval b X.env) (fun u s₂=>wpAny (model X.prog X.w) X.A (f v u) Q X.xe s₂) X.xe s₁) X.xe s:=by
 refine thn (ha pins s σ H _ I h) fun v s1 ⟨x,H1,I1,r1,q1⟩=>?_
 refine thn (hb pins s1 σ H1 _ I1 q1) fun u s2 ⟨y,H2,I2,r2,q2⟩=>?_
 exact hf v u s2 x y H2 I2 r1 r2 q2
noncomputable def zfT (i:Nat):TE:=fun σ H Q=>∃ v,σ[i]? = some (some v)/\Q v H
noncomputable def tC (v:V):TE:=fun _ H Q=>Q v H
theorem zky (hN:X.N[i]? = some x) (hv:Vis X.env.scope x) (hd:(x == ("__debug__":Str)) = false:=by decide) (hcd:(x == ("__classdict__":Str)) = false:=by decide):PE X (.Name x pos) (zfT i):=by
 intro pins s σ H Q I h
 obtain ⟨v,e,h⟩:=h
 obtain ⟨m,hn,hl⟩:=I.loc
 obtain ⟨u,r,l⟩:=hl i x v hN e hv
 have fin:EP X pins σ Q u s:=⟨v,H,I,r,h⟩
 rcases l with ⟨hk,hm⟩ | ⟨hk,c,hc,hcell⟩
 ·exact wpAny_Name (wpAny_loadName_local I.ok.kind hk hn hm fin) hd
 ·rcases hk with hk | hk
  ·exact wpAny_Name (wpAny_loadName_cell I.ok.kind hk hc hcell fin) hd
  ·exact wpAny_Name (wpAny_loadName_free I.ok.kind hk hc hcell fin hcd) hd
theorem zkG {i j pos}:PE X (.Constant (.int i) j pos) (tC (.int i)):=fun _ _ _ H _ I h=>wpAny_Constant_int ⟨.int i,H,I.tok _,⟨_,rfl⟩,h⟩
theorem zl7 {b j pos}:PE X (.Constant (.bool b) j pos) (tC (.bl b)):=fun _ _ _ H _ I h=>Constant_bool ⟨.bl b,H,I,rfl,h⟩
theorem zkE {j pos}:PE X (.Constant .none j pos) (tC .non):=fun _ _ _ H _ I h=>Constant_none ⟨.non,H,I,rfl,h⟩
theorem zkA {x j pos}:PE X (.Constant (.str x) j pos) (tC (.str x)):=fun _ _ _ H _ I h=>Calls.Constant_str ⟨.str x,H,I.tok _,⟨_,rfl⟩,h⟩
def Gl (X:Cx) (x:Str):Prop:=X.env.kindOf x = some .globalImplicit
theorem zfC (I:Inv X pins σ H s) (hg:Gl X x) (hm:X.mg x = some u) (h:Q u s)
 (hd:(x == ("__debug__":Str)) = false:=by decide):wpAny (model X.prog X.w) X.A (eval (.Name x pos) X.env) Q E s:=
 Calls.Name_function_global I.ok.kind hg (Calls.loadGlobal_global (by rw [I.ok.glob];exact I.mod.glob.keeps I.bk) hm h) hd
theorem zbu (I:Inv X pins σ H s) (hg:Gl X x) (hm:X.mg x = none) (hv:bootBuiltins x = some u) (h:Q u s)
 (hn:x ≠ "__name__":=by decide) (hd:(x == ("__debug__":Str)) = false:=by decide):wpAny (model X.prog X.w) X.A (eval (.Name x pos) X.env) Q E s:=by
 obtain ⟨mb,h1,h2⟩:=I.mod.blt
 exact Calls.Name_function_global I.ok.kind hg (Calls.loadGlobal_builtin (by rw [I.ok.glob];exact I.mod.glob.keeps I.bk) hm (by rw [I.ok.blt];exact h1.keeps I.bk) ((h2 x hn).trans hv) h) hd
theorem zja (hg:Gl X x) (hm:X.mg x = some u) (r:RelV v u) (hd:(x == ("__debug__":Str)) = false:=by decide):PE X (.Name x pos) (tC v):=
 fun _ _ _ H _ I h=>zfC I hg hm ⟨v,H,I,r,h⟩ hd
theorem zje (hg:Gl X x) (hm:X.mg x = none) (hv:bootBuiltins x = some u) (r:RelV v u) (hn:x ≠ "__name__":=by decide) (hd:(x == ("__debug__":Str)) = false:=by decide):PE X (.Name x pos) (tC v):=
 fun _ _ _ H _ I h=>zbu I hg hm hv ⟨v,H,I,r,h⟩ hn hd
variable {a b:Expr}
def PC (X:Cx) (op:CmpOp) (a b:Expr) (t:TE):Prop:=
 ∀ (pins:List (Addr × Obj)) (s:Shared) (σ:St) (H:Hp) (Q:VK),Inv X pins σ H s->t σ H Q->
  wpAny (model X.prog X.w) X.A (eval a X.env) (fun v s₁=>wpAny (model X.prog X.w) X.A (eval b X.env) (fun u s₂=>wpAny (model X.prog X.w) X.A (compareOp op v u) (EP X pins σ Q) X.xe s₂) X.xe s₁) X.xe s
theorem zhY (b:Expr) (h:op ≠ .In) (h2:op ≠ .NotIn):behindInMarks op b = false:=by
 have e1:(op == CmpOp.In) = false:=by cases op <;> first | rfl | exact absurd rfl h
 have e2:(op == CmpOp.NotIn) = false:=by cases op <;> first | rfl | exact absurd rfl h2
 cases b <;> simp [behindInMarks,e1,e2]
noncomputable def tB (t:TE):TT:=fun σ H Q=>t σ H fun x H1=>∃ c,x = .bl c/\Q c H1
theorem znt (h:PC X op a b t) (h1:behindInMarks op b = false:=by first | exact zhY _ (by decide) (by decide) | rfl):PT X (.Compare a [op] [b] pos) (tB t):=by
 intro pins s σ H Q I hw
 refine wpAny_isTrue_Compare1 (thn (h pins s σ H _ I hw) fun v s1 h1=>thn h1 fun u s2 h2=>thn h2 fun c s3 ⟨x,H1,I1,r1,q1⟩=>?_) h1
 obtain ⟨d,rfl,q⟩:=q1
 cases r1
 exact wpAny_truthy_bool ⟨H1,I1,q⟩
theorem zkq (h:PE X e t) (he:∀ whole,isTrue e X.env whole = (do let v ← whole;standAt e.pos;holding [v] (truthy v)):=by intro _;rfl):PT X e (tB t):=by
 intro pins s σ H Q I hw
 refine isTrue_plain (thn (h pins s σ H _ I hw) fun v s1 ⟨x,H1,I1,r1,q1⟩=>?_) (he _)
 obtain ⟨d,rfl,q⟩:=q1
 cases r1
 exact wpAny_truthy_bool ⟨H1,I1,q⟩
variable {tA tB':TT} {rest:List Expr}
noncomputable def zmL (t u:TT):TT:=fun σ H Q=>t σ H fun c H1=>if c = true then u σ H1 Q else Q false H1
noncomputable def tOr (t u:TT):TT:=fun σ H Q=>t σ H fun c H1=>if c = true then Q true H1 else u σ H1 Q
noncomputable def zmG (t:TT):TT:=fun σ H Q=>t σ H fun c H1=>Q (!c) H1
theorem zi0 (ha:PT X a tA):PW X (.BoolOp .And [a] pos) tA:=by
 intro wh pins s σ H Q I h
 refine isTrue_and (thn (ha pins s σ H Q I h) fun c s1 e=>?_)
 cases c with
 | true=>exact isTrue_and_nil e
 | false=>exact e
theorem zko (ha:PT X a tA):PW X (.BoolOp .Or [a] pos) tA:=by
 intro wh pins s σ H Q I h
 refine isTrue_or (thn (ha pins s σ H Q I h) fun c s1 e=>?_)
 cases c with
 | false=>exact isTrue_or_nil e
 | true=>exact e
theorem zkp (ha:PT X a tA) (hb:PW X (.BoolOp .And (b :: rest) pos) tB'):PW X (.BoolOp .And (a :: b :: rest) pos) (zmL tA tB'):=by
 intro wh pins s σ H Q I h
 refine isTrue_and (thn (ha pins s σ H _ I h) fun c s1 ⟨H1,I1,q1⟩=>?_)
 cases c with
 | true=>exact hb wh pins s1 σ H1 Q I1 q1
 | false=>exact ⟨H1,I1,q1⟩
theorem zl2 (ha:PT X a tA) (hb:PW X (.BoolOp .Or (b :: rest) pos) tB'):PW X (.BoolOp .Or (a :: b :: rest) pos) (tOr tA tB'):=by
 intro wh pins s σ H Q I h
 refine isTrue_or (thn (ha pins s σ H _ I h) fun c s1 ⟨H1,I1,q1⟩=>?_)
 cases c with
 | true=>exact ⟨H1,I1,q1⟩
 | false=>exact hb wh pins s1 σ H1 Q I1 q1
theorem zkr (ha:PT X a tA):PT X (.UnaryOp .Not a pos) (zmG tA):=by
 intro pins s σ H Q I h
 exact isTrue_not (ha pins s σ H (fun c H1=>Q (!c) H1) I h)
noncomputable def zlT (ta tb:TE):TE:=fun σ H Q=>ta σ H fun x H1=>∃ c,x = .bl c/\if c = true then tb σ H1 Q else Q (.bl false) H1
noncomputable def zlP (ta:TE):TE:=fun σ H Q=>ta σ H fun x H1=>∃ c,x = .bl c/\Q (.bl (!c)) H1
theorem zkC {op} (h:PE X a t):PE X (.BoolOp op [a] pos) t:=fun pins s σ H Q I hw=>BoolOp_one (h pins s σ H Q I hw)
theorem zkI (ha:PE X a ta) (hb:PE X (.BoolOp .And (b :: rest) pos) tb):PE X (.BoolOp .And (a :: b :: rest) pos) (zlT ta tb):=by
 intro pins s σ H Q I h
 refine BoolOp_and (thn (ha pins s σ H _ I h) fun v s1 ⟨x,H1,I1,r1,q1⟩=>?_)
 obtain ⟨c,rfl,q1⟩:=q1
 cases r1
 refine wpAny_truthy_bool ?_
 cases c with
 | true=>exact hb pins s1 σ H1 Q I1 q1
 | false=>exact ⟨.bl false,H1,I1,rfl,q1⟩
theorem zkD (ha:PE X a ta):PE X (.UnaryOp .Not a pos) (zlP ta):=by
 intro pins s σ H Q I h
 refine UnaryOp_ (thn (ha pins s σ H _ I h) fun v s1 ⟨x,H1,I1,r1,q1⟩=>?_)
 obtain ⟨c,rfl,q1⟩:=q1
 cases r1
 exact not_of (wpAny_truthy_bool ⟨.bl (!c),H1,I1,rfl,q1⟩)
end
def SqL (K:Frag) (H:Hp) (a:Addr) (xs:List V):Prop:=
 Rd H a (.lst xs) \/
  ∃ (o:Obj) (its:Array Value) (n:Nat),K.lookup a = some o/\o.cls = .type "list"/\o.dict = none/\o.data = .seq its n/\its.size<=sizeLine/\Vals xs its.toList
def SqT (K:Frag) (H:Hp) (a:Addr) (xs:List V):Prop:=
 Rd H a (.tup xs) \/
  ∃ (o:Obj) (its:Array Value) (n:Nat),K.lookup a = some o/\o.cls = .type "tuple"/\o.dict = none/\o.data = .seq its n/\its.size<=sizeLine/\Vals xs its.toList
noncomputable def znd:Value->Option V
 | .none=>some .non
 | .bool b=>some (.bl b)
 | .int i _=>some (.int i)
 | .str x _=>some (.str x)
 | .bytes b _=>some (.byt b)
 | .float b _=>some (.flt b)
 | .ref a=>some (.ref a)
 | .type n=>some (.ty n)
 | _=>none
theorem RelV.abs {x:V} (r:RelV x u):znd u = some x:=by
 cases x with
 | non=>cases r;rfl
 | bl _=>cases r;rfl
 | int _=>obtain ⟨t,rfl⟩:=r;rfl
 | str _=>obtain ⟨t,rfl⟩:=r;rfl
 | byt _=>obtain ⟨t,rfl⟩:=r;rfl
 | flt _=>obtain ⟨t,rfl⟩:=r;rfl
 | ref _=>cases r;rfl
 | ty _=>cases r;rfl
variable {y:V}
theorem RelV.inj {x:V} (r:RelV x u) (q:RelV y u):x = y:=Qc (r.abs.symm.trans q.abs)
theorem Vals.inj:∀ {xs ys:List V} {us:List Value},Vals xs us->Vals ys us->xs = ys
 | _,_,_,.nil,.nil=>rfl
 | _,_,_,.cons r t,.cons r' t'=>by rw [r.inj r',Vals.inj t t']
section
variable {a:Addr} {ys:List V}
theorem Inv.list (I:Inv X pins σ H s) (h:SqL X.K H a xs):∃ its:List Value,Vals xs its/\PlainL s.heap a its.toArray/\xs.length<=sizeLine:=by
 rcases h with h | ⟨o,its,n,hk,hc,hd,hs,hz,r⟩
 ·obtain ⟨z,its,n,r,e⟩:=h.ok I.hok
  exact ⟨its,r,⟨_,n,e,rfl,rfl,rfl⟩,z⟩
 ·refine ⟨its.toList,r,⟨o,n,I.kIn a o hk,hc,hd,by simpa using hs⟩,?_⟩
  have e:=r.length
  simp only [Array.length_toList] at e
  omega
theorem Inv.tuple (I:Inv X pins σ H s) (h:SqT X.K H a xs):∃ its:List Value,Vals xs its/\IsTup s.heap a its.toArray/\xs.length<=sizeLine:=by
 rcases h with h | ⟨o,its,n,hk,hc,_,hs,hz,r⟩
 ·obtain ⟨z,its,r,p,_⟩:=h.ok I.hok
  exact ⟨its,r,p,z⟩
 ·refine ⟨its.toList,r,⟨o,I.kIn a o hk,hc,n,by simpa using hs⟩,?_⟩
  have e:=r.length
  simp only [Array.length_toList] at e
  omega
theorem Inv.list_inj (I:Inv X pins σ H s) (h:SqL X.K H a xs) (h':SqL X.K H a ys):xs = ys:=by
 obtain ⟨its,r,⟨o,n,e,_,_,d⟩,_⟩:=I.list h
 obtain ⟨its',r',⟨o',n',e',_,_,d'⟩,_⟩:=I.list h'
 rw [e] at e';cases e'
 rw [d] at d'
 injection d' with d1 _
 have:its = its':=by simpa using congrArg Array.toList d1
 subst this
 exact r.inj r'
theorem Inv.tuple_inj (I:Inv X pins σ H s) (h:SqT X.K H a xs) (h':SqT X.K H a ys):xs = ys:=by
 obtain ⟨its,r,⟨o,e,_,n,d⟩,_⟩:=I.tuple h
 obtain ⟨its',r',⟨o',e',_,n',d'⟩,_⟩:=I.tuple h'
 rw [e] at e';cases e'
 rw [d] at d'
 injection d' with d1 _
 have:its = its':=by simpa using congrArg Array.toList d1
 subst this
 exact r.inj r'
end
noncomputable abbrev Cx.wish (X:Cx) (E:Value->Shared->Prop):Cx:={ X with xe:=E }
noncomputable abbrev Cx.nox (X:Cx):Cx:=X.wish fun _ _=>False
theorem Cx.Ok.wish (ok:X.Ok) (E:Value->Shared->Prop):(X.wish E).Ok:=
 ⟨ok.mod,ok.kind,ok.glob,ok.blt,ok.above,ok.inj,ok.has,ok.cab,ok.hd,ok.frames,ok.stk,ok.exf,ok.bs,ok.bsz,ok.noex,ok.exfs,ok.funs,ok.frf⟩
theorem Cx.Ok.unwish (ok:(X.wish E).Ok):X.Ok:=
 ⟨ok.mod,ok.kind,ok.glob,ok.blt,ok.above,ok.inj,ok.has,ok.cab,ok.hd,ok.frames,ok.stk,ok.exf,ok.bs,ok.bsz,ok.noex,ok.exfs,ok.funs,ok.frf⟩
section
theorem Inv.wish (I:Inv X pins σ H s) (E:Value->Shared->Prop):Inv (X.wish E) pins σ H s:=⟨I.ok.wish E,I.os,I.bare,I.base,I.loc,I.cell,I.free,I.freeC,I.pin,I.hok,I.len⟩
theorem Inv.unwish (I:Inv (X.wish E) pins σ H s):Inv X pins σ H s:=⟨I.ok.unwish,I.os,I.bare,I.base,I.loc,I.cell,I.free,I.freeC,I.pin,I.hok,I.len⟩
theorem SP.unwish {D:Ends} {f:Flow} (h:SP (X.wish E) pins D f s'):SP X pins D f s':=by
 cases f with
 | next=>obtain ⟨σ',H',I,q⟩:=h;exact ⟨σ',H',I.unwish,q⟩
 | brk=>obtain ⟨σ',H',I,q⟩:=h;exact ⟨σ',H',I.unwish,q⟩
 | cont=>obtain ⟨σ',H',I,q⟩:=h;exact ⟨σ',H',I.unwish,q⟩
 | ret u=>obtain ⟨v,σ',H',I,r,q⟩:=h;exact ⟨v,σ',H',I.unwish,r,q⟩
theorem PE.nox (h:PE X.nox e t):PE X e t:=fun pins s σ H Q I hw=>
 Qf (h pins s σ H Q (I.wish _) hw) (fun _ _ ⟨v,H',I',r,q⟩=>⟨v,H',I'.unwish,r,q⟩) fun _ _ z=>False.elim z
theorem PT.nox {t:TT} (h:PT X.nox e t):PT X e t:=fun pins s σ H Q I hw=>
 Qf (h pins s σ H Q (I.wish _) hw) (fun _ _ ⟨H',I',q⟩=>⟨H',I'.unwish,q⟩) fun _ _ z=>False.elim z
theorem PSs.nox {st:List Stmt} {t:TS} (h:PSs X.nox st t):PSs X st t:=fun pins s σ H D I hw=>
 Qf (h pins s σ H D (I.wish _) hw) (fun _ _ q=>q.unwish) fun _ _ z=>False.elim z
end
variable {c:Expr} {te:TE}
section
variable {st:Stmt} {rest:List Stmt} {t u:TS}
noncomputable def zlQ:TS:=fun D σ H=>D.nx σ H
noncomputable def zmE (t u:TS):TS:=fun D σ H=>t { D with nx:=u D } σ H
theorem zi5:PSs X [] zlQ:=fun _ _ σ H _ I h=>wpAny_execs_nil ⟨σ,H,I,h⟩
theorem zhQ (h1:PS X st t) (h2:PSs X rest u):PSs X (st :: rest) (zmE t u):=by
 intro pins s σ H D I h
 refine wpAny_execs_cons (thn (h1 pins s σ H { D with nx:=u D } I h) fun f s1 q=>?_)
 cases f with
 | next=>
  obtain ⟨σ',H',I',q⟩:=q
  exact h2 pins s1 σ' H' D I' q
 | ret v=>exact q
 | brk=>exact q
 | cont=>exact q
theorem zi4 (h1:PS X st t):PSs X [st] t:=by
 intro pins s σ H D I h
 refine wpAny_execs_cons (thn (h1 pins s σ H D I h) fun f s1 q=>?_)
 cases f with
 | next=>exact wpAny_execs_nil q
 | ret v=>exact q
 | brk=>exact q
 | cont=>exact q
theorem Inv.quiet (I:Inv X pins σ H s):interactive X.env = false:=by simp [interactive,I.ok.kind]
noncomputable def zlR (te:TE):TS:=fun D σ H=>te σ H fun _ H1=>D.nx σ H1
theorem zi6 (he:PE X e te) (hs:swapsWith e none pos.line X.env = pure false:=by rfl):PS X (.Expr e pos) (zlR te):=by
 intro pins s σ H D I h
 exact wpAny_Expr_any (thn (he pins s σ H _ I h) fun v s1 ⟨x,H1,I1,r1,q1⟩=>⟨σ,H1,I1,q1⟩) I.quiet hs
noncomputable def zmF (te:TE):TS:=fun D σ H=>te σ H D.rt
theorem zkt (he:PE X e te):PS X (.Return (some e) pos) (zmF te):=by
 intro pins s σ H D I h
 exact wpAny_Return_some (thn (he pins s σ H _ I h) fun v s1 ⟨x,H1,I1,r1,q1⟩=>⟨x,σ,H1,I1,r1,q1⟩)
noncomputable def zmJ (c:TT) (t u:TS):TS:=fun D σ H=>c σ H fun b H1=>if b = true then t D σ H1 else u D σ H1
theorem zl3 {a b:List Stmt} {tc:TT} (hc:PT X c tc) (ha:PSs X a t) (hb:PSs X b u):PS X (.If c a b pos) (zmJ tc t u):=by
 intro pins s σ H D I h
 refine wpAny_If (thn (hc pins s σ H _ I h) fun d s1 ⟨H1,I1,q1⟩=>?_)
 cases d with
 | true=>exact ha pins s1 σ H1 D I1 q1
 | false=>exact hb pins s1 σ H1 D I1 q1
end
noncomputable abbrev TG:=V->St->Hp->(St->Hp->Prop)->Prop
noncomputable abbrev TGs:=List V->St->Hp->(St->Hp->Prop)->Prop
def PG (X:Cx) (target:Expr) (t:TG):Prop:=
 ∀ (pins:List (Addr × Obj)) (s:Shared) (σ:St) (H:Hp) (v:V) (u:Value) (Q:St->Hp->Prop),Inv X pins σ H s->RelV v u->t v σ H Q->
  wpAny (model X.prog X.w) X.A (assign target X.env u) (fun _ s'=>∃ σ' H',Inv X pins σ' H' s'/\Q σ' H') X.xe s
def PGs (X:Cx) (ts:List Expr) (t:TGs):Prop:=
 ∀ (pins:List (Addr × Obj)) (s:Shared) (σ:St) (H:Hp) (vs:List V) (us:List Value) (Q:St->Hp->Prop),Inv X pins σ H s->Vals vs us->t vs σ H Q->
  wpAny (model X.prog X.w) X.A (assignInOrder ((assignEach ts X.env).map (·.2)) us) (fun _ s'=>∃ σ' H',Inv X pins σ' H' s'/\Q σ' H') X.xe s
noncomputable abbrev zgm:=V->V->V->Hp->(Hp->Prop)->Prop
def zfc (X:Cx) (t:zgm):Prop:=
 ∀ (pins:List (Addr × Obj)) (s:Shared) (σ:St) (H:Hp) (o i v:V) (ov iv u:Value) (Q:Hp->Prop),Inv X pins σ H s->RelV o ov->RelV i iv->RelV v u->t o i v H Q->
  wpAny (model X.prog X.w) X.A (setItem ov iv u) (fun _ s'=>∃ H',Inv X pins σ H' s'/\Q H') X.xe s
variable {tg:Expr} {es:List Expr} {k:Nat} {g:TG}
section
noncomputable def zea (i:Nat):TG:=fun v σ H Q=>Q (σ.set i (some v)) H
theorem yg (hN:X.N.Nodup) (hi:X.N[i]? = some x) (hx:Loc X.env.scope x) (hf:X.fn x = true\/X.env.scope.names.lookup x = some .local:=by first | exact .inl rfl | exact .inr rfl | assumption):PG X (.Name x pos) (zea i):=by
 intro pins s σ H v u Q I r h
 exact wpAny_assign_Name (zeo I hN hi hx r (fun s' I'=>⟨_,H,I',h⟩) hf)
noncomputable def zm7:TGs:=fun vs σ H Q=>vs = []/\Q σ H
noncomputable def zgb (t:TG) (u:TGs):TGs:=fun vs σ H Q=>∃ v r,vs = v :: r/\t v σ H fun σ' H'=>u r σ' H' Q
theorem zi9:PGs X [] zm7:=by
 intro pins s σ H vs us Q I r h
 obtain ⟨e,h⟩:=h
 subst e
 cases r
 exact assignInOrder_nil ⟨σ,H,I,h⟩
theorem zB {t:TG} {u:TGs} (h1:PG X e t) (h2:PGs X es u)
 (hs:(assignEach (e :: es) X.env).map (·.2) = assign e X.env :: (assignEach es X.env).map (·.2):=by rfl):PGs X (e :: es) (zgb t u):=by
 intro pins s σ H vs us Q I r h
 obtain ⟨v,vr,e1,h⟩:=h
 subst e1
 cases r with
 | cons r rr=>
  rw [hs]
  refine assignInOrder_cons (thn (h1 pins s σ H _ _ _ I r h) fun _ s1 ⟨σ1,H1,I1,q1⟩=>?_)
  exact h2 pins s1 σ1 H1 _ _ Q I1 rr q1
noncomputable def zim (K:Frag) (n:Nat) (t:TGs):TG:=fun v σ H Q=>∃ a xs,v = .ref a/\SqT K H a xs/\xs.length = n/\t xs σ H Q
theorem zbo {t:TGs} (hc:X.calm = true) (h:PGs X es t)
 (hn:(assignEach es X.env).length = n:=by rfl) (hst:(assignEach es X.env).findIdx? (·.1) = none:=by rfl):PG X (.Tuple es k pos) (zim X.K n t):=by
 intro pins s σ H v u Q I r hw
 obtain ⟨a,xs,e1,hq,hl,hw⟩:=hw
 subst e1
 cases r
 obtain ⟨its,rv,ht,hz⟩:=I.tuple hq
 refine assign_Tuple_tuple (I.ok.hd hc) ht (by simp [hn,← hl,rv.length]) hst fun h' hx=>?_
 have I1:Inv X pins σ H { s with heap:=h' }:=I.kept (t':=s.toks) fun b o e=>hx b o (Qj (Qd e)) e
 exact h pins _ σ H xs _ Q I1 (by simpa using rv) hw
noncomputable def zm6 (to ti:TE) (t:zgm):TG:=fun v σ H Q=>to σ H fun o H1=>ti σ H1 fun i H2=>t o i v H2 fun H3=>Q σ H3
theorem zkx {o i:Expr} {to ti:TE} {t:zgm} (ho:PE X o to) (hi:PE X i ti) (hs:zfc X t)
  (ha:∀ v,assign (.Subscript o i pos) X.env v = (do
   let ov ← holding [v] (eval o X.env)
   let iv ← holding [v,ov] (eval i X.env)
   standAt pos
   holding [v,ov,iv] (setItem ov iv v)
   release [v,ov,iv] []):=by intro _;rfl):PG X (.Subscript o i pos) (zm6 to ti t):=by
 intro pins s σ H v u Q I r h
 rw [ha]
 refine Q1 (wpAny_holding (thn (ho pins s σ H _ I h) fun ov s1 ⟨x,H1,I1,r1,q1⟩=>?_))
 refine Q1 (wpAny_holding (thn (hi pins s1 σ H1 _ I1 q1) fun iv s2 ⟨y,H2,I2,r2,q2⟩=>?_))
 refine Q1 (wpAny_standAt (Q1 (wpAny_holding (thn (hs pins s2 σ H2 x y v ov iv u _ I2 r1 r2 r q2) fun _ s3 ⟨H3,I3,q3⟩=>?_))))
 exact wpAny_release ⟨σ,H3,I3,q3⟩
noncomputable def zkd (te:TE) (g:TG):TS:=fun D σ H=>te σ H fun x H1=>g x σ H1 D.nx
theorem zku (he:PE X e te) (hg:PG X tg g) (hs:swapsWithSole [tg] e pos.line X.env = pure false:=by rfl) (hw:swappedStores [tg] e X.env = pure none:=by rfl)
 (h1:(assignEach [tg] X.env).map (·.2) = [assign tg X.env]:=by rfl):PS X (.Assign [tg] e pos) (zkd te g):=by
 intro pins s σ H D I h
 refine wpAny_Assign_stores (thn (he pins s σ H _ I h) fun v s1 ⟨x,H1,I1,r1,q1⟩=>?_) hs hw
 rw [h1]
 exact thn (hg pins s1 σ H1 x v _ I1 r1 q1) fun _ s2 q=>q
theorem zks {pos':Pos} (hN:X.N.Nodup) (hi:X.N[i]? = some x) (hx:Loc X.env.scope x) (he:PE X e te) (hs:swapsWith e (some (.Name x pos')) pos.line X.env = pure false:=by rfl) (hf:X.fn x = true\/X.env.scope.names.lookup x = some .local:=by first | exact .inl rfl | exact .inr rfl | assumption) :
  PS X (.Assign [.Name x pos'] e pos) (zkd te (zea i)):=by
 intro pins s σ H D I h
 refine wpAny_Assign_Name (thn (he pins s σ H _ I h) fun v s1 ⟨y,H1,I1,r1,q1⟩=>?_) hs
 exact zeo I1 hN hi hx r1 (fun s2 I2=>⟨_,H1,I2,q1⟩) hf
end
structure It where
 go:Nat->Hp->Prop
 yld:Nat->Hp->V->Hp->Prop
 stop:Nat->Hp->Prop
def zbk (X:Cx) (pins:List (Addr × Obj)) (H:Hp) (b:Addr):Prop:=
 H b = none/\b ≠ X.env.locals/\b ∉ X.fs/\(b ∈ X.ex\/X.s₀.heap.objs.size<=b)/\(∀ x c,X.env.cells.lookup x = some c->c ≠ b)/\∀ p ∈ X.pn ++ pins,p.1 ≠ b
theorem Inv.fpOk {b:Addr} (I:Inv X pins σ H s) (hb:s.heap.objs.size<=b) (hn:H' b = none):zbk X pins H' b:=by
 refine ⟨hn,Nat.ne_of_gt (Q5 I.lt hb),I.nofs hb,.inr (Qi I.sz hb),fun x c e z=>?_,fun p hp z=>?_⟩
 ·obtain ⟨v,q⟩:=I.cell x c e
  exact absurd (Q5 q.lt (by rw [z];exact hb)) (Qn _)
 ·exact absurd (Q5 (Qd (I.pin p hp).1) (by rw [z];exact hb)) (Qn _)
structure Turn (P:Program) (w:World) (K:Frag) (tg:Expr) (J:It) (fp:List Addr) (it:Addr) (tn:Nat->Heap->Prop):Prop where
 mem:it ∈ fp
 obj:∀ i h,tn i h->∀ b ∈ fp,∃ o,h.get? b = some o/\∀ v,o.data ≠ .cell v
 keep:∀ i h h',tn i h->(∀ b ∈ fp,∀ o,h.get? b = some o->h'.get? b = some o)->tn i h'
 item:∀ (X:Cx),X.prog = P->X.w = w->X.K = K->X.calm = true->∀ (i:Nat) (pins:List (Addr × Obj)) (s:Shared) (σ:St) (H:Hp) (E:Value->Shared->Prop),Inv X pins σ H s->(∀ b ∈ fp,zbk X pins H b)->tn i s.heap->J.go i H->
  wpAny (model P w) X.A (pyNext (.ref it)) (fun r s1=>∃ u,r = some u /\
   wpAny (model P w) X.A (letOwnedTupleGo tg (.ref it) u) (fun _ s2=>∃ x H',Inv X pins σ H' s2/\RelV x u/\J.yld i H x H'/\tn (i + 1) s2.heap/\∀ b ∈ fp,H' b = none) E s1) E s
 done:∀ (X:Cx),X.prog = P->X.w = w->X.K = K->X.calm = true->∀ (i:Nat) (pins:List (Addr × Obj)) (s:Shared) (σ:St) (H:Hp) (E:Value->Shared->Prop),Inv X pins σ H s->(∀ b ∈ fp,zbk X pins H b)->tn i s.heap->J.stop i H->
  wpAny (model P w) X.A (pyNext (.ref it)) (fun r s1=>r = none/\Inv X pins σ H s1) E s
 self:∀ (A:Around) (i:Nat) (s:Shared) (Q:Value->Shared->Prop) (E:Value->Shared->Prop),tn i s.heap->Q (.ref it) s->wpAny (model P w) A (pyIter (.ref it)) Q E s
noncomputable abbrev TI:=St->Hp->(It->Hp->Prop)->Prop
def PIE (X:Cx) (pins:List (Addr × Obj)) (σ:St) (tg:Expr) (R:It->Hp->Prop) (itv:Value) (s2:Shared):Prop:=
 ∃ (it:Addr) (fp:List Addr) (tn:Nat->Heap->Prop) (J:It) (H':Hp),itv = .ref it/\Inv X pins σ H' s2/\Turn X.prog X.w X.K tg J fp it tn/\tn 0 s2.heap/\(∀ b ∈ fp,zbk X pins H' b)/\R J H'
def PI (X:Cx) (tg iter:Expr) (wi:TI):Prop:=
 ∀ (pins:List (Addr × Obj)) (s:Shared) (σ:St) (H:Hp) (R:It->Hp->Prop),Inv X pins σ H s->wi σ H R->
  wpAny (model X.prog X.w) X.A (eval iter X.env) (fun v s1=>wpAny (model X.prog X.w) X.A (pyIter v) (PIE X pins σ tg R) X.xe s1) X.xe s
theorem zd9 {o:Obj} {n:String} {vs:Array Value} {Q:Unit->Shared->Prop} (ho:s.heap.get? it = some o) (hc:o.cls = .type n) (hd:o.data = .fields vs)
 (hn:["enumerate","zip","dict_itemiterator","dict_reverseitemiterator","odict_iterator","itertools.zip_longest","itertools.pairwise"].contains n = false) (hQ:Q () s):wpAny M A (letOwnedTupleGo tg (.ref it) u) Q E s:=by
 unfold letOwnedTupleGo
 cases tg <;> first
  | exact Qe hQ
  | (cases u <;> first
    | exact Qe hQ
    | (refine Q1 (wpAny_load ho ?_)
       rw [hc,hd]
       show wpAny M A (if (["enumerate","zip","dict_itemiterator","dict_reverseitemiterator","odict_iterator","itertools.zip_longest","itertools.pairwise"].contains n && vs[0]? == some (rawInt _)) = true then _ else _) Q E s
       rw [if_neg (by intro h;rw [hn,Bool.false_and] at h;cases h)]
       exact Qe hQ))
noncomputable def Itl (K:Frag) (a:Addr):It:=
 ⟨fun i H=>∃ xs x,SqL K H a xs/\xs[i]? = some x,fun i H x H'=>H' = H/\∀ xs,SqL K H a xs->xs[i]? = some x,fun i H=>∃ xs,SqL K H a xs/\xs.length<=i⟩
noncomputable def Itt (K:Frag) (a:Addr):It:=
 ⟨fun i H=>∃ xs x,SqT K H a xs/\xs[i]? = some x,fun i H x H'=>H' = H/\∀ xs,SqT K H a xs->xs[i]? = some x,fun i H=>∃ xs,SqT K H a xs/\xs.length<=i⟩
noncomputable def Itr (lo:Int) (n:Nat):It:=⟨fun i _=>i < n,fun i H x H'=>H' = H/\x = .int (lo + i),fun i _=>n<=i⟩
variable {K:Frag}
theorem zgq (a it:Addr):Turn P w K tg (Itl K a) [it] it (fun i h=>h.IsListIter it a i) where
 mem:=by simp
 obj:=fun i h st b hb=>by
  have e:b = it:=by simpa using hb
  subst e
  obtain ⟨o,e,c,d⟩:=st
  exact ⟨o,e,fun v z=>by rw [d] at z;cases z⟩
 keep:=fun i h h' st k=>st.at fun o e=>k it (by simp) o e
 item:=by
  intro X hP hw hK hc i pins s σ H E I hf st hg
  subst hP hw hK
  obtain ⟨xs,x,hq,hx⟩:=hg
  obtain ⟨its,rv,p,hz⟩:=I.list hq
  obtain ⟨u,hu,ru⟩:=rv.get hx
  obtain ⟨f0,f1,f2,f3,f4,f5⟩:=hf it (by simp)
  refine wpAny_pyNext_list_item st p.isList (x:=u) (by simpa using hu) fun h' st' sb=>?_
  have I1:Inv X pins σ H { s with heap:=h' }:=I.turned (t':=s.toks) (fun b o hb e=>(sb.2 b hb).trans e) f0 f1 f3 f4 f5
  obtain ⟨o,e,c,d⟩:=id st'
  exact ⟨u,rfl,zd9 (s:={ s with heap:=h' }) e c d (by decide) ⟨x,H,I1,ru,⟨rfl,fun ys hy=>by rw [I.list_inj hy hq];exact hx⟩,st',fun b hb=>(hf b hb).1⟩⟩
 done:=by
  intro X hP hw hK hc i pins s σ H E I hf st hg
  subst hP hw hK
  obtain ⟨xs,hq,hx⟩:=hg
  obtain ⟨its,rv,p,hz⟩:=I.list hq
  obtain ⟨f0,f1,f2,f3,f4,f5⟩:=hf it (by simp)
  have hl:=rv.length
  exact wpAny_pyNext_list_end (I.ok.hd hc) st p.isList (by simp;omega) fun h' eb=>⟨rfl,I.turned (t':=s.toks) (fun b o hb e=>eb b o hb e) f0 f1 f3 f4 f5⟩
 self:=fun _ _ _ _ _ st h=>wpAny_pyIter_listiter st h
theorem zfN (a it:Addr):Turn P w K tg (Itt K a) [it] it (fun i h=>h.IsTupleIter it a i) where
 mem:=by simp
 obj:=fun i h st b hb=>by
  have e:b = it:=by simpa using hb
  subst e
  obtain ⟨o,e,c,d⟩:=st
  exact ⟨o,e,fun v z=>by rw [d] at z;cases z⟩
 keep:=fun i h h' st k=>st.at fun o e=>k it (by simp) o e
 item:=by
  intro X hP hw hK hc i pins s σ H E I hf st hg
  subst hP hw hK
  obtain ⟨xs,x,hq,hx⟩:=hg
  obtain ⟨its,rv,p,hz⟩:=I.tuple hq
  obtain ⟨u,hu,ru⟩:=rv.get hx
  obtain ⟨f0,f1,f2,f3,f4,f5⟩:=hf it (by simp)
  refine wpAny_pyNext_tuple_item st (show s.heap.IsTuple a its.toArray from p) (x:=u) (by simpa using hu) fun h' st' sb=>?_
  have I1:Inv X pins σ H { s with heap:=h' }:=I.turned (t':=s.toks) (fun b o hb e=>(sb.2 b hb).trans e) f0 f1 f3 f4 f5
  obtain ⟨o,e,c,d⟩:=id st'
  exact ⟨u,rfl,zd9 (s:={ s with heap:=h' }) e c d (by decide) ⟨x,H,I1,ru,⟨rfl,fun ys hy=>by rw [I.tuple_inj hy hq];exact hx⟩,st',fun b hb=>(hf b hb).1⟩⟩
 done:=by
  intro X hP hw hK hc i pins s σ H E I hf st hg
  subst hP hw hK
  obtain ⟨xs,hq,hx⟩:=hg
  obtain ⟨its,rv,p,hz⟩:=I.tuple hq
  obtain ⟨f0,f1,f2,f3,f4,f5⟩:=hf it (by simp)
  have hl:=rv.length
  exact wpAny_pyNext_tuple_end (I.ok.hd hc) st (show s.heap.IsTuple a its.toArray from p) (by simp;omega) fun h' eb=>⟨rfl,I.turned (t':=s.toks) (fun b o hb e=>eb b o hb e) f0 f1 f3 f4 f5⟩
 self:=fun _ _ _ _ _ st h=>wpAny_pyIter_tupleiter st h
theorem zfO (it:Addr) (lo:Int) (n:Nat):Turn P w K tg (Itr lo n) [it] it (fun i h=>IsRangeIter h it (lo + (i:Nat) * 1) ((n:Int) - (i:Nat)) 1) where
 mem:=by simp
 obj:=fun i h st b hb=>by
  have e:b = it:=by simpa using hb
  subst e
  exact ⟨_,st,fun v z=>by
   have z':Data.fields _ = Data.cell v:=z
   cases z'⟩
 keep:=fun i h h' st k=>k it (by simp) _ st
 item:=by
  intro X hP hw hK hc i pins s σ H E I hf st hg
  subst hP hw hK
  obtain ⟨f0,f1,f2,f3,f4,f5⟩:=hf it (by simp)
  have W:=Walks.range (prog:=X.prog) (w:=X.w) (I.ok.hd hc) it lo 1 n
  refine W.item i s _ _ hg st fun v h' tk hv st' kk=>?_
  obtain ⟨t,rfl⟩:=hv
  have I1:Inv X pins σ H { s with heap:=h',toks:=tk }:=I.turned (fun b o hb e=>kk b o (by simpa using hb) e) f0 f1 f3 f4 f5
  refine ⟨_,rfl,zd9 (s:={ s with heap:=h',toks:=tk }) (n:="range_iterator") st' rfl rfl (by decide) ⟨.int (lo + i),H,I1,⟨t,?_⟩,⟨rfl,rfl⟩,st',fun b hb=>(hf b hb).1⟩⟩
  rw [Int.mul_one]
 done:=by
  intro X hP hw hK hc i pins s σ H E I hf st hg
  subst hP hw hK
  obtain ⟨f0,f1,f2,f3,f4,f5⟩:=hf it (by simp)
  exact wpAny_pyNext_range_end (I.ok.hd hc) st (by have:n<=i:=hg;omega) fun h' eb=>⟨rfl,I.turned (t':=s.toks) (fun b o hb e=>eb b o hb e) f0 f1 f3 f4 f5⟩
 self:=fun _ _ _ _ _ st h=>wpAny_pyIter_rangeiter st h
variable {l:Expr} {fp:List Addr} {body:List Stmt} {p:Pos} {tl:TE}
section
noncomputable def zmh (K:Frag) (tl:TE):TI:=fun σ H R=>tl σ H fun x H1=>∃ a,x = .ref a/\(∃ xs,SqL K H1 a xs)/\R (Itl K a) H1
noncomputable def zm4 (K:Frag) (tl:TE):TI:=fun σ H R=>tl σ H fun x H1=>∃ a,x = .ref a/\(∃ xs,SqT K H1 a xs)/\R (Itt K a) H1
theorem zft (hl:PE X l tl):PI X tg l (zmh X.K tl):=by
 intro pins s σ H R I h
 refine thn (hl pins s σ H _ I h) fun v s1 ⟨x,H1,I1,r1,q1⟩=>?_
 obtain ⟨a,e,⟨xs,hq⟩,q⟩:=q1
 subst e
 cases r1
 obtain ⟨its,rv,p,hz⟩:=I1.list hq
 refine wpAny_pyIter_list p.isList ?_
 refine ⟨s1.heap.objs.size,[s1.heap.objs.size],_,_,H1,rfl,I1.kept (t':=s1.toks) fun b o e=>Q2 _ e,zgq a _,⟨_,Qk _ rfl,rfl,rfl⟩,fun b hb=>?_,q⟩
 have e:b = s1.heap.objs.size:=by simpa using hb
 subst e
 exact I1.fpOk (Q3 _) (I1.hok.fresh (Q3 _))
theorem zkw (hl:PE X l tl):PI X tg l (zm4 X.K tl):=by
 intro pins s σ H R I h
 refine thn (hl pins s σ H _ I h) fun v s1 ⟨x,H1,I1,r1,q1⟩=>?_
 obtain ⟨a,e,⟨xs,hq⟩,q⟩:=q1
 subst e
 cases r1
 obtain ⟨its,rv,p,hz⟩:=I1.tuple hq
 refine wpAny_pyIter_tuple (show s1.heap.IsTuple a its.toArray from p) ?_
 refine ⟨s1.heap.objs.size,[s1.heap.objs.size],_,_,H1,rfl,I1.kept (t':=s1.toks) fun b o e=>Q2 _ e,zfN a _,⟨_,Qk _ rfl,rfl,rfl⟩,fun b hb=>?_,q⟩
 have e:b = s1.heap.objs.size:=by simpa using hb
 subst e
 exact I1.fpOk (Q3 _) (I1.hok.fresh (Q3 _))
theorem zey {R:It->Hp->Prop} {lo hi:Int} {t u v:Tok} {tk:Nat} (I:Inv X pins σ H s) (h1:-(2 ^ 62)<=lo) (h2:lo < 2 ^ 62) (h3:-(2 ^ 62)<=hi) (h4:hi < 2 ^ 62)
 (q:R (Itr lo (hi - lo).toNat) H):wpAny (model X.prog X.w) X.A (pyIter (.ref s.heap.objs.size)) (PIE X pins σ tg R) E { s with heap:=s.heap.push { cls:=.type "range",data:=.fields #[.int lo t,.int hi u,.int 1 v] },toks:=tk }:=by
 refine wpAny_pyIter_range (IsRange.new ..) (small_one h1 h2 h3 h4) ?_
 have I1:Inv X pins σ H { s with heap:=s.heap.push { cls:=.type "range",data:=.fields #[.int lo t,.int hi u,.int 1 v] },toks:=tk }:=I.kept fun b o e=>Q2 _ e
 refine ⟨(s.heap.push { cls:=.type "range",data:=.fields #[.int lo t,.int hi u,.int 1 v] }).objs.size,[(s.heap.push { cls:=.type "range",data:=.fields #[.int lo t,.int hi u,.int 1 v] }).objs.size],_,_,H,rfl,
  I1.kept (t':=tk) fun b o e=>Q2 _ e,zfO _ lo (hi - lo).toNat,?_,fun b hb=>?_,q⟩
 ·have e1:lo + ((0:Nat):Int) * 1 = lo:=by simp
  have e2:(((hi - lo).toNat:Nat):Int) - ((0:Nat):Int) = Builtin.Range.rangeSize lo hi 1:=by rw [rangeSize_one];split <;> omega
  show IsRangeIter _ _ (lo + ((0:Nat):Int) * 1) ((((hi - lo).toNat:Nat):Int) - ((0:Nat):Int)) 1
  rw [e1,e2]
  exact Qk _ rfl
 ·have e:b = (s.heap.push { cls:=.type "range",data:=.fields #[.int lo t,.int hi u,.int 1 v] }).objs.size:=by simpa using hb
  subst e
  exact I1.fpOk (Q3 _) (I1.hok.fresh (Q3 _))
noncomputable def zmg (ta:TA):TI:=fun σ H R=>ta σ H fun vs H1=>∃ j:Int,vs = [.int j]/\-(2 ^ 62)<=j/\j < 2 ^ 62/\R (Itr 0 j.toNat) H1
noncomputable def zmf (ta:TA):TI:=fun σ H R=>ta σ H fun vs H1=>∃ i j:Int,vs = [.int i,.int j]/\(-(2 ^ 62)<=i/\i < 2 ^ 62/\-(2 ^ 62)<=j/\j < 2 ^ 62)/\R (Itr i (j - i).toNat) H1
theorem zgD {a:Expr} {ta:TA} (hg:Gl X "range") (hm:X.mg "range" = none) (ha:PA X [a] ta) (hs:starEach [a] X.env = [(false,eval a X.env)]:=by rfl):PI X tg (.Call (.Name "range" p) [a] [] pos) (zmg ta):=by
 intro pins s σ H R I h
 refine Call_ (zbu I hg hm boot_range (PyProof.Rows.callWith_type1 (thn (ha pos pins s σ H _ I h) fun us s1 ⟨vs,H1,I1,r1,q1⟩=>?_) hs rfl))
 obtain ⟨j,e,q1,q2,q⟩:=q1
 subst e
 cases r1 with
 | cons r rr=>
  cases rr
  obtain ⟨t,rfl⟩:=r
  exact call_range_1 (zey I1 (by omega) (by omega) q1 q2 (by simpa using q))
theorem zgC {a b:Expr} {ta:TA} (hg:Gl X "range") (hm:X.mg "range" = none) (ha:PA X [a,b] ta) (hs:starEach [a,b] X.env = [(false,eval a X.env),(false,eval b X.env)]:=by rfl) (hs2:starEach [b] X.env = [(false,eval b X.env)]:=by rfl) :
  PI X tg (.Call (.Name "range" p) [a,b] [] pos) (zmf ta):=by
 intro pins s σ H R I h
 refine Call_ (zbu I hg hm boot_range (PyProof.Rows.callWith_type1 (thn (ha pos pins s σ H _ I h) fun us s1 ⟨vs,H1,I1,r1,q1⟩=>?_) (by rw [hs,hs2]) (by rw [hs2];rfl)))
 obtain ⟨i,j,e,⟨q1,q2,q3,q4⟩,q⟩:=q1
 subst e
 cases r1 with
 | cons r rr=>
  cases rr with
  | cons r' rr=>
   cases rr
   obtain ⟨t,rfl⟩:=r
   obtain ⟨t',rfl⟩:=r'
   exact call_range_2 (zey I1 q1 q2 q3 q4 q)
noncomputable def zmK (wi:TI) (g:TG) (tb:TS):TS:=fun D σ H=>wi σ H fun J H1=>∃ W:Nat->Nat->St->Hp->Prop,(∃ m,W 0 m σ H1)/\∀ i m σ H,W i m σ H->
 (J.stop i H/\D.nx σ H)\/(J.go i H/\∃ N:St->Hp->Prop,(∀ σ' H',N σ' H'->∃ m',m' < m/\W (i + 1) m' σ' H')/\∀ x H',J.yld i H x H'->g x σ H' fun σ2 H2=>tb { D with nx:=N,ct:=N,bk:=D.nx } σ2 H2)
noncomputable def zbn (fp:List Addr) (h:Heap):List (Addr × Obj):=fp.filterMap fun b=>(h.get? b).map fun o=>(b,o)
theorem qU {b:Addr} {o:Obj} (hb:b ∈ fp) (e:h.get? b = some o):(b,o) ∈ zbn fp h:=List.mem_filterMap.mpr ⟨b,hb,by rw [e];rfl⟩
theorem zgL {p:Addr × Obj} (hp:p ∈ zbn fp h):p.1 ∈ fp/\h.get? p.1 = some p.2:=by
 obtain ⟨b,hb,e⟩:=List.mem_filterMap.mp hp
 cases q:h.get? b with
 | none=>rw [q] at e;cases e
 | some o=>
  rw [q] at e
  have e':(b,o) = p:=Qc e
  subst e'
  exact ⟨hb,q⟩
theorem Inv.pinned (I:Inv X pins σ H s) (hf:∀ b ∈ fp,zbk X pins H b) (ho:∀ b ∈ fp,∃ o,s.heap.get? b = some o/\∀ v,o.data ≠ .cell v):Inv X (pins ++ zbn fp s.heap) σ H s:=
 I.pins_of fun p hp=>(mem_append.mp hp).elim (fun z=>I.pin p (Ql _ z)) fun z=>by
  obtain ⟨hb,e⟩:=zgL z
  obtain ⟨f0,f1,f2,_⟩:=hf p.1 hb
  obtain ⟨o,e',d⟩:=ho p.1 hb
  rw [e] at e';cases e'
  exact ⟨e,f0,f1,f2,d⟩
theorem Inv.unpinned {pl:List (Addr × Obj)} (I:Inv X (pins ++ pl) σ H s):Inv X pins σ H s:=I.pins_of fun p hp=>I.pin p (Ql _ (List.mem_append_left _ hp))
theorem zgA {iter:Expr} {wi:TI} {tb:TS} (hp:PassesOwn (model X.prog X.w) X.A X.env X.xe) (hc:X.calm = true) (hi:PI X tg iter wi) (hg:PG X tg g) (hb:PSs X body tb)
 (hs:∀ x,foldedSetIterable iter X.env x = pure x:=by intro _;rfl):PS X (.For tg iter body [] pos) (zmK wi g tb):=by
 intro pins s σ H D I h
 refine wpAny_For (thn (hi pins s σ H _ I h) fun v s1 h1=>thn h1 fun itv s2 h2=>?_) hs
 obtain ⟨it,fp,tn,J,H2,e,I2,T,st2,f2,W,⟨m0,w0⟩,turn⟩:=h2
 subst e
 -- what stays true of the iterator's objects through the loop
 have stat:∀ {H':Hp},(∀ b ∈ fp,H' b = none)->∀ b ∈ fp,zbk X pins H' b:=fun hn b hb=>⟨hn b hb,(f2 b hb).2⟩
 refine codeAny_forLoop_any (fun n s'=>∃ i σ' H',Inv X pins σ' H' s'/\tn i s'.heap/\(∀ b ∈ fp,H' b = none)/\W i n σ' H') ?_ m0 ⟨0,σ,H2,I2,st2,fun b hb=>(f2 b hb).1,w0⟩
 rintro n s3 ⟨i,σ3,H3,I3,st3,fr3,w3⟩
 rcases turn i n σ3 H3 w3 with ⟨stop,qn⟩ | ⟨go,N,hN,step⟩
 ·refine wpAny_passesOwn hp (thn (T.done X rfl rfl rfl hc i pins s3 σ3 H3 X.xe I3 (stat fr3) st3 stop) fun r s4 ⟨hr,I4⟩=>?_)
  subst hr
  exact wpAny_execs_nil ⟨σ3,H3,I4,qn⟩
 ·refine wpAny_passesOwn hp (thn (T.item X rfl rfl rfl hc i pins s3 σ3 H3 X.xe I3 (stat fr3) st3 go) fun r s4 ⟨u,hr,h4⟩=>?_)
  subst hr
  refine wpAny_passesOwn hp (thn h4 fun _ s5 ⟨x,H5,I5,r5,y5,st5,fr5⟩=>?_)
  have I5':=I5.pinned (stat fr5) (T.obj _ _ st5)
  refine wpAny_passesOwn hp (thn (hg _ s5 σ3 H5 x u _ I5' r5 (step x H5 y5)) fun _ s6 ⟨σ6,H6,I6,q6⟩=>?_)
  refine wpAny_passesOwn hp (thn (hb _ s6 σ6 H6 _ I6 q6) fun f s7 q7=>?_)
  have again:∀ {σ7:St} {H7:Hp},Inv X (pins ++ zbn fp s5.heap) σ7 H7 s7->N σ7 H7->∃ m,m < n/\∃ i σ' H',Inv X pins σ' H' s7/\tn i s7.heap/\(∀ b ∈ fp,H' b = none)/\W i m σ' H':=fun {σ7 H7} I7 n7=>by
   obtain ⟨m',hm,w7⟩:=hN σ7 H7 n7
   refine ⟨m',hm,i + 1,σ7,H7,I7.unpinned,T.keep _ _ _ st5 fun b hb o e=>(I7.pin (b,o) (Ql _ (Ql _ (qU hb e)))).1,fun b hb=>?_,w7⟩
   obtain ⟨o,e,d⟩:=T.obj _ _ st5 b hb
   exact (I7.pin (b,o) (Ql _ (Ql _ (qU hb e)))).2.1
  cases f with
  | next=>obtain ⟨σ7,H7,I7,n7⟩:=q7;exact again I7 n7
  | cont=>obtain ⟨σ7,H7,I7,n7⟩:=q7;exact again I7 n7
  | brk=>obtain ⟨σ7,H7,I7,q7⟩:=q7;exact ⟨σ7,H7,I7.unpinned,q7⟩
  | ret v=>obtain ⟨x7,σ7,H7,I7,r7,q7⟩:=q7;exact ⟨x7,σ7,H7,I7.unpinned,r7,q7⟩
end
noncomputable abbrev R2:=V->V->Hp->VK->Prop
def OpR (X:Cx) (f:Value->Value->Sem Value) (r:R2):Prop:=
 ∀ (pins:List (Addr × Obj)) (s:Shared) (σ:St) (H:Hp) (x y:V) (v u:Value) (Q:VK),Inv X pins σ H s->RelV x v->RelV y u->r x y H Q->
  wpAny (model X.prog X.w) X.A (f v u) (EP X pins σ Q) X.xe s
def UnR (X:Cx) (f:Value->Sem Value) (r:V->Hp->VK->Prop):Prop:=
 ∀ (pins:List (Addr × Obj)) (s:Shared) (σ:St) (H:Hp) (x:V) (v:Value) (Q:VK),Inv X pins σ H s->RelV x v->r x H Q->
  wpAny (model X.prog X.w) X.A (f v) (EP X pins σ Q) X.xe s
def CallR (X:Cx) (f:Value) (r:List V->Hp->VK->Prop):Prop:=
 ∀ (pins:List (Addr × Obj)) (s:Shared) (σ:St) (H:Hp) (xs:List V) (us:List Value) (Q:VK),Inv X pins σ H s->Vals xs us->r xs H Q->
  wpAny (model X.prog X.w) X.A (call f us) (EP X pins σ Q) X.xe s
noncomputable def tOp (r:R2) (ta tb:TE):TE:=fun σ H Q=>ta σ H fun x H1=>tb σ H1 fun y H2=>r x y H2 Q
noncomputable def tUn (r:V->Hp->VK->Prop) (ta:TE):TE:=fun σ H Q=>ta σ H fun x H1=>r x H1 Q
noncomputable def rI (C:Int->Int->Prop) (g:Int->Int->V):R2:=fun x y H Q=>∃ i j,x = .int i/\y = .int j/\C i j/\Q (g i j) H
noncomputable def rI0 (g:Int->Int->V):R2:=fun x y H Q=>∃ i j,x = .int i/\y = .int j/\Q (g i j) H
noncomputable def rU (g:Int->V):V->Hp->VK->Prop:=fun x H Q=>∃ i,x = .int i/\Q (g i) H
variable {r:R2} {tc:TE} {f:Value->Value->Sem Value}
section
variable {a b:Expr}
theorem ziy (ha:PE X a ta) (hb:PE X b tb) (I:Inv X pins σ H s)
 (h:ta σ H fun x H1=>tb σ H1 fun y H2=>R x y H2) 
 (hf:∀ v u s2 x y H2,Inv X pins σ H2 s2->RelV x v->RelV y u->R x y H2->wpAny (model X.prog X.w) X.A (f v u) Q X.xe s2) :
  wpAny (model X.prog X.w) X.A (eval a X.env) (fun v s₁=>wpAny (model X.prog X.w) X.A (eval b X.env) (fun u s₂=>wpAny (model X.prog X.w) X.A (f v u) Q X.xe s₂) X.xe s₁) X.xe s:=by
 refine thn (ha pins s σ H _ I h) fun v s1 ⟨x,H1,I1,r1,q1⟩=>?_
 refine thn (hb pins s1 σ H1 _ I1 q1) fun u s2 ⟨y,H2,I2,r2,q2⟩=>?_
 exact hf v u s2 x y H2 I2 r1 r2 q2
theorem ziD {op:Operator} (ho:OpR X (binaryOp op) r) (ha:PE X a ta) (hb:PE X b tb):PE X (.BinOp a op b pos) (tOp r ta tb):=by
 intro pins s σ H Q I h
 exact wpAny_BinOp (ziy ha hb I h fun v u s2 x y H2 I2 rx ry q=>ho pins s2 σ H2 x y v u Q I2 rx ry q)
theorem zl5 {op:UnaryOp} {r:V->Hp->VK->Prop} (ho:UnR X (unaryOp op) r) (ha:PE X a ta):PE X (.UnaryOp op a pos) (tUn r ta):=by
 intro pins s σ H Q I h
 exact UnaryOp_ (thn (ha pins s σ H _ I h) fun v s1 ⟨x,H1,I1,r1,q1⟩=>ho pins s1 σ H1 x v Q I1 r1 q1)
theorem opI {C:Int->Int->Prop} {g:Int->Int->Int}
 (rule:∀ (i j:Int) (t u:Tok) (s:Shared) (Q:Value->Shared->Prop) (E:Value->Shared->Prop),C i j->Q (.int (g i j) s.toks) { s with toks:=s.toks + 1 }->wpAny (model X.prog X.w) X.A (f (.int i t) (.int j u)) Q E s) :
  OpR X f (rI C fun i j=>.int (g i j)):=by
 intro pins s σ H x y v u Q I rx ry h
 obtain ⟨i,j,rfl,rfl,hc,q⟩:=h
 obtain ⟨t,rfl⟩:=rx
 obtain ⟨t',rfl⟩:=ry
 exact rule i j t t' s _ _ hc ⟨.int (g i j),H,I.tok _,⟨_,rfl⟩,q⟩
theorem zkQ {g:Int->Int->Int}
 (rule:∀ (i j:Int) (t u:Tok) (s:Shared) (Q:Value->Shared->Prop) (E:Value->Shared->Prop),Q (.int (g i j) s.toks) { s with toks:=s.toks + 1 }->wpAny (model X.prog X.w) X.A (f (.int i t) (.int j u)) Q E s) :
  OpR X f (rI0 fun i j=>.int (g i j)):=by
 intro pins s σ H x y v u Q I rx ry h
 obtain ⟨i,j,rfl,rfl,q⟩:=h
 obtain ⟨t,rfl⟩:=rx
 obtain ⟨t',rfl⟩:=ry
 exact rule i j t t' s _ _ ⟨.int (g i j),H,I.tok _,⟨_,rfl⟩,q⟩
theorem zhV {g:Int->Int->Bool}
 (rule:∀ (i j:Int) (t u:Tok) (s:Shared) (Q:Value->Shared->Prop) (E:Value->Shared->Prop),Q (.bool (g i j)) s->wpAny (model X.prog X.w) X.A (f (.int i t) (.int j u)) Q E s) :
  OpR X f (rI0 fun i j=>.bl (g i j)):=by
 intro pins s σ H x y v u Q I rx ry h
 obtain ⟨i,j,rfl,rfl,q⟩:=h
 obtain ⟨t,rfl⟩:=rx
 obtain ⟨t',rfl⟩:=ry
 exact rule i j t t' s _ _ ⟨.bl (g i j),H,I,rfl,q⟩
def znf (i j:Int):Prop:=0<=j/\j<=1000000/\i.natAbs < 2 ^ 64
def CMul (i j:Int):Prop:=(-(2 ^ 64) < i/\i < 2 ^ 64)\/(-(2 ^ 64) < j/\j < 2 ^ 64)
theorem CMul.ok {i j:Int} (h:CMul i j):IntMulOk i j:=by
 rcases h with ⟨h1,h2⟩ | ⟨h1,h2⟩
 ·exact .of_left (intBits_le_64 h1 h2)
 ·exact .of_right (intBits_le_64 h1 h2)
theorem zkP:OpR X (binaryOp .Add) (rI0 fun i j=>.int (i + j)):=zkQ fun _ _ _ _ _ _ _ q=>add_int q
theorem zkK:OpR X (binaryOp .Sub) (rI0 fun i j=>.int (i - j)):=zkQ fun _ _ _ _ _ _ _ q=>sub_int q
theorem zjl:OpR X (binaryOp .Mod) (rI (fun _ j=>j ≠ 0) fun i j=>.int (i.fmod j)):=opI fun _ _ _ _ _ _ _ hc q=>mod_int' hc q
theorem zkL:OpR X (binaryOp .Pow) (rI znf fun i j=>.int (i ^ j.toNat)):=opI fun _ _ _ _ _ _ _ hc q=>pow_int_small hc.1 hc.2.1 hc.2.2 q
theorem unI {f:Value->Sem Value} {g:Int->Int}
  (rule:∀ (i:Int) (t:Tok) (s:Shared) (Q:Value->Shared->Prop) (E:Value->Shared->Prop),Q (.int (g i) s.toks) { s with toks:=s.toks + 1 }->wpAny (model X.prog X.w) X.A (f (.int i t)) Q E s) :
  UnR X f (rU fun i=>.int (g i)):=by
 intro pins s σ H x v Q I rx h
 obtain ⟨i,rfl,q⟩:=h
 obtain ⟨t,rfl⟩:=rx
 exact rule i t s _ _ ⟨.int (g i),H,I.tok _,⟨_,rfl⟩,q⟩
theorem zka:UnR X (unaryOp .USub) (rU fun i=>.int (-i)):=unI fun _ _ _ _ _ q=>neg_int q
end
variable {op':CmpOp} {r':R2}
section
variable {a b:Expr}
theorem zha {Q:VK} {k k':Bool} (I:Inv X pins σ H s) (q:Q (.bl k) H) (e:k = k'):EP X pins σ Q (.bool k') s:=by
 subst e
 exact ⟨.bl k,H,I,rfl,q⟩
theorem zl9:OpR X (compareOp .Lt) (rI0 fun i j=>.bl (decide (i < j))):=zhV fun _ _ _ _ _ _ _ q=>lt_int q
theorem ziE:OpR X (compareOp .LtE) (rI0 fun i j=>.bl (decide (i<=j))):=zhV fun _ _ _ _ _ _ _ q=>le_int q
theorem zma:OpR X (compareOp .Gt) (rI0 fun i j=>.bl (decide (j < i))):=zhV fun _ _ _ _ _ _ _ q=>gt_int q
theorem zji:OpR X (compareOp .IsNot) (fun x y H Q=>y = .non/\Q (.bl (!decide (x = .non))) H):=by
 intro pins s σ H x y v u Q I rx ry h
 obtain ⟨rfl,q⟩:=h
 cases ry
 refine isnot_none_gen (zha I q ?_)
 cases x <;> first
  | (cases rx;rfl)
  | (obtain ⟨t,rfl⟩:=rx;rfl)
theorem qJ (b:Expr) (h:op ≠ .In:=by decide) (h2:op ≠ .NotIn:=by decide):behindInMarks op b = false:=by
 have e1:(op == CmpOp.In) = false:=by cases op <;> first | rfl | exact absurd rfl h
 have e2:(op == CmpOp.NotIn) = false:=by cases op <;> first | rfl | exact absurd rfl h2
 cases b <;> simp [behindInMarks,e1,e2]
theorem zjc (ho:OpR X (compareOp op) r) (ha:PE X a ta) (hb:PE X b tb) (hm:behindInMarks op b = false):PE X (.Compare a [op] [b] pos) (tOp r ta tb):=by
 intro pins s σ H Q I h
 exact wpAny_Compare1 (ziy ha hb I h fun v u s2 x y H2 I2 rx ry q=>ho pins s2 σ H2 x y v u Q I2 rx ry q) hm
noncomputable def ziz (t:TE):TT:=fun σ H Q=>t σ H fun x H'=>∃ k,x = .bl k/\Q k H'
theorem zi3 (ho:OpR X (compareOp op) r) (ha:PE X a ta) (hb:PE X b tb) (hm:behindInMarks op b = false):PT X (.Compare a [op] [b] pos) (ziz (tOp r ta tb)):=by
 intro pins s σ H Q I h
 refine wpAny_isTrue_Compare1 (thn (ha pins s σ H _ I h) fun v s1 ⟨x,H1,I1,r1,q1⟩=>thn (hb pins s1 σ H1 _ I1 q1) fun u s2 ⟨y,H2,I2,r2,q2⟩=>
  thn (ho pins s2 σ H2 x y v u _ I2 r1 r2 q2) fun c s3 ⟨z,H3,I3,r3,k,e,q3⟩=>?_) hm
 subst e
 cases r3
 exact wpAny_truthy_bool ⟨H3,I3,q3⟩
noncomputable def zel (r r':R2) (ta tb tc:TE):TE:=fun σ H Q=>ta σ H fun x H1=>tb σ H1 fun y H2=>r x y H2 fun z H3=>∃ k,z = .bl k /\
 (if k = true then tc σ H3 fun w' H4=>r' y w' H4 Q else Q (.bl false) H3)
theorem zhT (ho:OpR X (compareOp op) r) (ho':OpR X (compareOp op') r') (ha:PE X a ta) (hb:PE X b tb) (hc:PE X c tc)
 (hm:lastMarks [op,op'] [b,c] = false:=by with_unfolding_all rfl):PE X (.Compare a [op,op'] [b,c] pos) (zel r r' ta tb tc):=by
 intro pins s σ H Q I h
 refine Compare_chain (thn (ha pins s σ H _ I h) fun v s1 ⟨x,H1,I1,r1,q1⟩=>chain_link (thn (hb pins s1 σ H1 _ I1 q1) fun u s2 ⟨y,H2,I2,r2,q2⟩=>
  thn (ho pins s2 σ H2 x y v u _ I2 r1 r2 q2) fun d s3 ⟨z,H3,I3,r3,k,e,q3⟩=>?_)) hm
 subst e
 cases r3
 refine wpAny_truthy_bool ?_
 cases k with
 | false=>exact ite_ff ⟨.bl false,H3,I3,rfl,q3⟩
 | true=>exact ite_tt (chain_last (thn (hc pins s3 σ H3 _ I3 q3) fun w' s4 ⟨z',H4,I4,r4,q4⟩=>ho' pins s4 σ H4 y z' u w' Q I4 r2 r4 q4))
theorem zhP (ho:OpR X (compareOp op) r) (ho':OpR X (compareOp op') r') (ha:PE X a ta) (hb:PE X b tb) (hc:PE X c tc)
 (hm:lastMarks [op,op'] [b,c] = false:=by with_unfolding_all rfl):PT X (.Compare a [op,op'] [b,c] pos) (ziz (zel r r' ta tb tc)):=by
 intro pins s σ H Q I h
 refine isTrue_chain (thn (ha pins s σ H _ I h) fun v s1 ⟨x,H1,I1,r1,q1⟩=>test_link (thn (hb pins s1 σ H1 _ I1 q1) fun u s2 ⟨y,H2,I2,r2,q2⟩=>
  thn (ho pins s2 σ H2 x y v u _ I2 r1 r2 q2) fun d s3 ⟨z,H3,I3,r3,k,e,q3⟩=>?_)) hm
 subst e
 cases r3
 refine wpAny_truthy_bool ?_
 cases k with
 | false=>
  obtain ⟨k',e',q'⟩:=q3
  cases e'
  exact ite_ff ⟨H3,I3,q'⟩
 | true=>
  refine ite_tt (test_last (thn (hc pins s3 σ H3 _ I3 q3) fun w' s4 ⟨z',H4,I4,r4,q4⟩=>thn (ho' pins s4 σ H4 y z' u w' _ I4 r2 r4 q4) fun d' s5 ⟨z2,H5,I5,r5,k2,e2,q5⟩=>?_))
  subst e2
  cases r5
  exact wpAny_truthy_bool ⟨H5,I5,q5⟩
theorem zbt:(sizeLine:Nat) < 2 ^ 63:=by rw [sizeLine_eq];decide
theorem zf2:OpR X (binaryOp .Add) (fun x y H Q=>∃ i j,x = .str i/\y = .str j/\i.length + j.length<=sizeLine/\Q (.str (i ++ j)) H):=by
 intro pins s σ H x y v u Q I rx ry h
 obtain ⟨i,j,rfl,rfl,hz,q⟩:=h
 obtain ⟨t,rfl⟩:=rx
 obtain ⟨t',rfl⟩:=ry
 exact add_str (fun t' tk=>⟨.str (i ++ j),H,I.tok _,⟨_,rfl⟩,q⟩) hz
theorem vals1 {x:V} (r:Vals [x] us):∃ u,us = [u]/\RelV x u:=by
 cases r with
 | cons r1 r2=>cases r2;exact ⟨_,rfl,r1⟩
theorem vals2 {x:V} (r:Vals [x,y] us):∃ u w',us = [u,w']/\RelV x u/\RelV y w':=by
 cases r with
 | cons r1 r2=>
  cases r2 with
  | cons r3 r4=>cases r4;exact ⟨_,_,rfl,r1,r3⟩
theorem zhm (hc:X.calm = true):CallR X (.builtin "max") (fun xs H Q=>∃ i j,xs = [.int i,.int j]/\Q (.int (if j > i then j else i)) H):=by
 intro pins s σ H xs us Q I r h
 obtain ⟨i,j,rfl,q⟩:=h
 obtain ⟨u,w',rfl,⟨t,rfl⟩,⟨t',rfl⟩⟩:=vals2 r
 refine max_two_ints (I.ok.hd hc) fun h' tk k=>⟨_,H,I.kept k,?_,q⟩
 by_cases hj:j > i
 ·rw [if_pos hj,if_pos hj];exact ⟨_,rfl⟩
 ·rw [if_neg hj,if_neg hj];exact ⟨_,rfl⟩
theorem zhl (hc:X.calm = true):CallR X (.builtin "min") (fun xs H Q=>∃ i j,xs = [.int i,.int j]/\Q (.int (if j < i then j else i)) H):=by
 intro pins s σ H xs us Q I r h
 obtain ⟨i,j,rfl,q⟩:=h
 obtain ⟨u,w',rfl,⟨t,rfl⟩,⟨t',rfl⟩⟩:=vals2 r
 refine min_two_ints (I.ok.hd hc) fun h' tk k=>⟨_,H,I.kept k,?_,q⟩
 by_cases hj:j < i
 ·rw [if_pos hj,if_pos hj];exact ⟨_,rfl⟩
 ·rw [if_neg hj,if_neg hj];exact ⟨_,rfl⟩
end
structure ObjM (h:Heap) (x dx C:Addr) (mA:Str->Option Value):Prop where
 obj:h.get? x = some (PySem.W.instObj C dx)
 ns:h.Ns1 dx mA
 ne:dx ≠ x
variable {dx:Addr} {mA:Str->Option Value}
theorem zgT (n:h.Ns1 dx mA):∃ od,h.get? dx = some od/\∀ name,PySem.W.lookIn name od = some (mA name):=by
 obtain ⟨o,es,ep,ho,hd,hk,_,hm⟩:=n
 refine ⟨o,ho,fun name=>?_⟩
 have e:=hm name
 unfold nsFind findBy at e
 rw [← Array.find?_toList] at e
 unfold PySem.W.lookIn
 rw [hd]
 dsimp only
 split
 ·rename_i y q
  rw [q] at e
  exact congrArg some e
 ·rename_i q
  rw [q] at e
  have a:es.toList.any (·.refKey) = false:=by
   rw [List.any_eq_false]
   intro y hy
   obtain ⟨z,t,hkey⟩:=hk y (Array.mem_toList_iff.mp hy)
   simp [DictEntry.refKey,hkey]
  have a':¬ es.toList.any (·.refKey) = true:=by rw [a];exact Q4
  rw [if_neg a']
  exact congrArg some e
variable {C:Addr}
theorem ObjM.look {x:Addr} (I:ObjM h x dx C mA):∃ od,PySem.W.InstAt h x (PySem.W.instObj C dx) C (some od)/\∀ name,PySem.W.lookIn name od = some (mA name):=
 let ⟨od,ho,hl⟩:=zgT I.ns
 ⟨od,⟨I.obj,rfl,rfl,ho⟩,hl⟩
noncomputable def zhO (f:Str) (v:V):List (Str × V)->List (Str × V)
 | []=>[(f,v)]
 | (g,x) :: r=>if g = f then (g,v) :: r else (g,x) :: zhO f v r
structure Cls (K:Frag) (C:Addr):Prop where
 pg:PySem.W.plainGet K C Str.empty = true
 hd:PySem.W.hasDictIn K C = true
 po:PySem.W.plainOver K C = true
 sa:PySem.W.findIn K (.ref C) "__setattr__" = some (some (.builtin "object.__setattr__"))
structure Con (K:Frag) (C:Addr) (f:Str) (v:V) (u:Value):Prop where
 at_:PySem.W.findIn K (.ref C) f = some (some u)
 rel:RelV v u
 get:PySem.W.specialIn K u "__get__" = some none
 cp:PySem.W.copiedNames.contains f = false
structure Meth (K:Frag) (C:Addr) (m:Str) (f:Addr):Prop where
 at_:PySem.W.findIn K (.ref C) m = some (some (.ref f))
 fn:PySem.W.isFn K (.ref f) = true
 kp:PySem.W.keepIn K (.ref f) = true
section
variable {c:Value} {b:Bool}
inductive TyOf (K:Frag) (H:Hp):V->Value->Prop where
 | non:TyOf K H .non (.type "NoneType")
 | bl (x:Bool):TyOf K H (.bl x) (.type "bool")
 | int (i:Int):TyOf K H (.int i) (.type "int")
 | str (x:Str):TyOf K H (.str x) (.type "str")
 | flt (x:UInt64):TyOf K H (.flt x) (.type "float")
 | lst {a:Addr} {xs:List V} (e:H a = some (.lst xs)):TyOf K H (.ref a) (.type "list")
 | frz {a:Addr} {o:Obj} {xs:List V} (e:H a = some (.frz o (.lst xs))):TyOf K H (.ref a) (.type "list")
 | tup {a:Addr} {xs:List V} (e:H a = some (.tup xs)):TyOf K H (.ref a) (.type "tuple")
 | dK {a:Addr} {kvs:List (Key × V)} (e:H a = some (.dK kvs)):TyOf K H (.ref a) (.type "dict")
 | dT {a:Addr} {kvs:List (List Key × V)} (e:H a = some (.dT kvs)):TyOf K H (.ref a) (.type "dict")
 | ins {a C dx:Addr} {fs:List (Str × V)} (e:H a = some (.ins C dx fs)) (cl:Cls K C) (ha:PySem.W.findIn K (.ref C) "__class__" = some (some (.builtin "object.__class__")))
   (hn:PySem.W.specialIn K (.builtin "object.__class__") "__get__" = some (some (.builtin "getset_descriptor.__get__"))) (htk:PySem.W.takesIn K (.builtin "object.__class__") = some true)
   (hm:PySem.W.mroIn K C (.type "object") = some true):TyOf K H (.ref a) (.ref C)
end
structure Room (k:Nat) (A:Around):Prop where
 hd:A.handled = none
 dp:A.depth + 3 * k + 5 < recursionLimit
 un:A.units + 16 * k + 200 < cLine
theorem Room.mono (r:Room k A) (h:j<=k):Room j A:=⟨r.hd,by have:=r.dp;omega,by have:=r.un;omega⟩
theorem Room.deeper (r:Room (k + 1) A) (env:Env):Room k (A.deeper env):=
 ⟨r.hd,by have:=r.dp;show A.depth + 1 + 3 * k + 5 < _;omega,by have:=r.un;show A.units + 3 + 16 * k + 200 < _;omega⟩
theorem Room.in1 (r:Room (k + 1) A):Room k A.in1:=
 ⟨r.hd,by have:=r.dp;show A.depth + 3 * k + 5 < _;omega,by have:=r.un;show A.units + 1 + 16 * k + 200 < _;omega⟩
variable {kw:List (Str × Value)}
theorem zf6:(A.under (.builtin "type.__call__" ⟨.ref C :: us,kw⟩)).depth = A.depth + 1:=by
 first | rfl | simp [Around.under,Code.weight,Code.isCreation,Code.isGuard,Code.isCaller,Code.frames,Code.isFrame,guardIds]
theorem zf5:(A.under (.builtin "type.__call__" ⟨.ref C :: us,kw⟩)).units = A.units + 1:=by
 first | rfl | simp [Around.under,Code.cUnits,Code.frames,Code.isFrame]
theorem Room.make (r:Room (k + 1) A) (C:Addr) (us:List Value) (kw:List (Str × Value)):Room k (A.under (.builtin "type.__call__" ⟨.ref C :: us,kw⟩)):=
 ⟨r.hd,by have:=r.dp;rw [zf6];omega,by have:=r.un;rw [zf5];omega⟩
theorem Room.depth (r:Room k A):A.depth < recursionLimit:=by have:=r.dp;omega
theorem Room.units (r:Room k A):A.units + 64 < cLine:=by have:=r.un;omega
theorem Room.units0 (r:Room k A):A.units < cLine:=by have:=r.un;omega
noncomputable def zmH:TA:=fun _ H Q=>Q [] H
noncomputable def zlS (ta:TE) (tr:TA):TA:=fun σ H Q=>ta σ H fun x H1=>tr σ H1 fun xs H2=>Q (x :: xs) H2
section
variable {t:TA}
theorem zgF:PA X [] zmH:=fun _ _ _ _ H Q I h=>Calls.spliced_nil ⟨[],H,I,.nil,h⟩
theorem zfv (ha:PE X e te) (hr:PA X es t) (hs:starEach (e :: es) X.env = (false,eval e X.env) :: starEach es X.env:=by rfl):PA X (e :: es) (zlS te t):=by
 intro pos pins s σ H Q I h
 rw [hs]
 show wpAny _ _ (spliced ((false,eval e X.env) :: backTo pos (starEach es X.env))) _ _ s
 refine Calls.spliced_cons (thn (ha pins s σ H _ I h) fun u s1 ⟨x,H1,I1,r1,q1⟩=>?_)
 exact thn (hr pos pins s1 σ H1 _ I1 q1) fun us s2 ⟨xs,H2,I2,r2,q2⟩=>⟨x :: xs,H2,I2,.cons r1 r2,q2⟩
noncomputable def zmD (t:TA):TE:=fun σ H Q=>t σ H fun xs H1=>xs.length<=sizeLine/\∀ p,H1 p = none->Q (.ref p) (upd H1 p (.tup xs))
noncomputable def zmI (t:TA):TE:=fun σ H Q=>t σ H fun xs H1=>xs.length<=sizeLine/\∀ p,H1 p = none->Q (.ref p) (upd H1 p (.lst xs))
theorem zkz {x1} (h:PA X es t):PE X (.Tuple es x1 pos) (zmD t):=by
 intro pins s σ H Q I hq
 refine wpAny_Tuple_spliced (thn (h pos pins s σ H _ I hq) fun us s1 ⟨xs,H1,I1,r,z,q⟩=>⟨by rw [← r.length];exact z,?_⟩)
 have hf:H1 s1.heap.objs.size = none:=I1.hok.fresh (Q3 _)
 refine ⟨.ref s1.heap.objs.size,upd H1 s1.heap.objs.size (.tup xs),I1.laid (t':=s1.toks) (fun b u e=>Q2 _ e) (Q3 _) ?_,rfl,q _ hf⟩
 exact ⟨z,us,r,⟨_,Qk _ rfl,rfl,_,rfl⟩,NoDict.new⟩
theorem zkF (h:PA X es t):PE X (.List es pos) (zmI t):=by
 intro pins s σ H Q I hq
 refine wpAny_List_spliced (thn (h pos pins s σ H _ I hq) fun us s1 ⟨xs,H1,I1,r,z,q⟩=>⟨by rw [← r.length];exact z,?_⟩)
 have hf:H1 s1.heap.objs.size = none:=I1.hok.fresh (Q3 _)
 refine ⟨.ref s1.heap.objs.size,upd H1 s1.heap.objs.size (.lst xs),I1.laid (t':=s1.toks) (fun b u e=>Q2 _ e) (Q3 _) ?_,rfl,q _ hf⟩
 exact ⟨z,us,0,r,Qk _ rfl⟩
end
noncomputable abbrev Sp:=List V->Hp->VK->XK->Prop
noncomputable abbrev CXT:=List Env->Hp->Shared->XK->Value->Shared->Prop
structure Env0 (P:Program) (w:World) (K:Frag) (mg:Str->Option Value) (base:Heap) (A:Around) (outer:List Env) (s:Shared) (H:Hp):Prop where
 frames:A.frames = some outer
 mod:Mod K mg base
 bs:∀ b o,base.get? b = some o->s.heap.get? b = some o/\H b = none
 bsz:base.objs.size<=s.heap.objs.size
 funs:s.heap.FunFrames base outer
 frf:∀ b ∈ frs outer,H b = none
 hok:HOk P w H s.heap
 bare:AllBare s.gens
def CE (outer:List Env) (P:Program) (w:World) (H:Hp) (s:Shared) (Q:VK) (u:Value) (s':Shared):Prop:=
 ∃ v H',s'.os = s.os/\AllBare s'.gens/\Un (frs outer) [] H H' s.heap s'.heap/\HOk P w H' s'.heap/\RelV v u/\Q v H'
def CR (CX:CXT) (outer:List Env) (P:Program) (w:World) (H:Hp) (s:Shared) (Q:VK) (E:XK) (r:Result) (s':Shared):Prop:=
 match r with
 | .ok (.ret u)=>CE outer P w H s Q u s'
 | .ok _=>False
 | .error e=>CX outer H s E e s'
structure FnOk (P:Program) (w:World) (K:Frag) (mg:Str->Option Value) (base:Heap) (CX:CXT) (k:Nat) (f:Addr) (fd:FuncData) (ps:List Str) (sp:Sp):Prop where
 len:∀ vs H Q E,sp vs H Q E->vs.length = ps.length
 run:∀ (A:Around) (outer:List Env) (s:Shared) (H:Hp) (args:Args) (us:List Value) (vs:List V) (Q:VK) (E:XK),Room k A->Env0 P w K mg base A outer s H->BindsTo s fd args (ps.zip us)->Vals vs us->sp vs H Q E->
  codeAny (model P w) A (.call (.ref f) args) (CR CX outer P w H s Q E) s
variable {CX:CXT} {fd:FuncData} {base:Heap} {ps:List Str} {sp:Sp} {mg:Str->Option Value}
theorem FnOk.mono {f:Addr} (F:FnOk P w K mg base CX j f fd ps sp) (h:j<=k) :
  FnOk P w K mg base CX k f fd ps sp:=⟨F.len,fun A outer s H args us vs Q E hr=>F.run A outer s H args us vs Q E (hr.mono h)⟩
section
theorem Inv.env0 (I:Inv X pins σ H s):Env0 X.prog X.w X.K X.mg X.base X.A X.stack s H:=
 ⟨I.ok.frames,I.ok.mod,I.bs,Qi I.ok.bsz I.sz,I.stack,I.stkFree,I.hok,I.bare⟩
theorem Inv.after {Q:VK} (I:Inv X pins σ H s) (h:CE X.stack X.prog X.w H s Q u s'):EP X pins σ Q u s':=by
 obtain ⟨v,H',os,bare,un,hok,r,q⟩:=h
 obtain ⟨hh,g,d,t,os'⟩:=s'
 obtain rfl:os' = s.os:=os
 exact ⟨v,H',I.call (h':=hh) (g':=g) (d':=d) (t':=t) (ch:=[]) un hok bare (fun b z=>absurd z (by simp)),r,q⟩
end
noncomputable def ziA (sp:Sp) (dvs:List V) (E:XK) (t:TA):TE:=fun σ H Q=>t σ H fun vs H1=>sp (vs ++ dvs) H1 Q E
def Binds (K:Frag) (fd:FuncData) (ps:List Str) (ds:List Value):Prop:=
 ∀ (s:Shared) (us:List Value),K.In s.heap->(us ++ ds).length = ps.length->BindsTo s fd ⟨us,[]⟩ (ps.zip (us ++ ds))
theorem Binds.all (h:∀ us:List Value,us.length = ps.length->bindArgs fd ⟨us,[]⟩ = pure (ps.zip us)):Binds K fd ps []:=fun s us _ hl=>by
 rw [append_nil] at hl ⊢
 exact .of_eq (h us hl)
def Passes (CX:CXT) (X:Cx) (E:XK):Prop:=∀ (pins:List (Addr × Obj)) (σ:St) (H:Hp) (s:Shared) (e:Value) (s':Shared),Inv X pins σ H s->CX X.stack H s E e s'->X.xe e s'
variable {vs:List V} {apos:Pos} {m:Str}
section
variable {f:Addr} {dvs:List V} {ds:List Value} {E:XK} {o:Expr} {t:TA}
theorem zkj {Q:VK} (F:FnOk X.prog X.w X.K X.mg X.base CX k f fd ps sp) (hr:Room k X.A) (hb:Binds X.K fd ps ds) (hd:Vals dvs ds) (hx:Passes CX X E)
 (I:Inv X pins σ H s) (r:Vals vs us) (h:sp (vs ++ dvs) H Q E):wpAny (model X.prog X.w) X.A (call (.ref f) us) (EP X pins σ Q) X.xe s:=by
 have r2:Vals (vs ++ dvs) (us ++ ds):=r.append hd
 have hl:(us ++ ds).length = ps.length:=by rw [← r2.length];exact F.len _ _ _ _ h
 refine wpAny_call (codeAny_mono (F.run X.A X.stack s H ⟨us,[]⟩ (us ++ ds) (vs ++ dvs) Q E hr I.env0 (hb s us I.kIn hl) r2 h) fun r s' hq=>?_)
 cases r with
 | error e=>exact hx pins σ H s e s' I hq
 | ok fl=>
  cases fl with
  | ret u=>exact I.after hq
  | next=>exact False.elim hq
  | brk=>exact False.elim hq
  | cont=>exact False.elim hq
theorem zjd (F:FnOk X.prog X.w X.K X.mg X.base CX k f fd ps sp) (hr:Room k X.A) (hg:Gl X x) (hm:X.mg x = some (.ref f)) (hk:PySem.W.keepIn X.K (.ref f) = true) (hb:Binds X.K fd ps ds) (hd:Vals dvs ds) (hx:Passes CX X E)
  (ha:PA X (e :: es) t) (hdb:(x == ("__debug__":Str)) = false:=by decide) (he:starEach (e :: es) X.env = (false,eval e X.env) :: starEach es X.env:=by rfl) (hpl:(backTo pos (starEach es X.env)).any (·.1) = false:=by rfl) :
  PE X (.Call (.Name x p) (e :: es) [] pos) (ziA sp dvs E t):=by
 intro pins s σ H Q I h
 refine wpAny_Call_Name_kw (zfC I hg hm ?_ hdb)
 refine PySem.W.callWith_K (h₀:=X.base) I.ok.mod.kin hk (thn (ha pos pins s σ H _ I h) fun us s1 ⟨vs,H1,I1,r,q⟩=>⟨I1.kIn,?_⟩) he hpl
 exact zkj F hr hb hd hx I1 r q
structure Mk (K:Frag) (C f:Addr):Prop where
 makes:PySem.W.makesIn K C = true
 init:PySem.W.findIn K (.ref C) "__init__" = some (some (.ref f))
 fn:PySem.W.isFn K (.ref f) = true
 kp:PySem.W.keepIn K (.ref C) = true
end
section
variable {f:Addr} {ks:List Str} {E:XK} {kpos:Pos} {o:Expr} {kws:List Keyword} {t tk:TA} {nm:Option Str}
structure KBinds (K:Frag) (fd:FuncData) (ps ks:List Str) (g:List Value->List Value->List Value) (gV:List V->List V->List V):Prop where
 to:∀ (s:Shared) (us ws:List Value),K.In s.heap->(g us ws).length = ps.length->BindsTo s fd ⟨us,ks.zip ws⟩ (ps.zip (g us ws))
 rel:∀ {vs:List V} {us:List Value} {zs:List V} {ws:List Value},Vals vs us->Vals zs ws->Vals (gV vs zs) (g us ws)
end
structure FnScope (N P:List Str) (sc:Scope):Prop where
 kind:sc.kind = .function
 co:sc.isCoroutine = false
 gen:sc.isGenerator = false
 nd:N.Nodup
 pre:N.take P.length = P
 par:∀ x ∈ P,sc.names.lookup x = some .local\/sc.names.lookup x = some .cell
 nofree:∀ y ∈ sc.names,y.2 ≠ .free
theorem zdS {kindOf:Str->Option NameKind} {x:Str}:∀ {binds:List (Str × Value)} {m:Str->Option Value},(∀ v,(x,v) ∉ binds)->bindL kindOf binds m x = m x
 | [],_,_=>rfl
 | (n,v) :: r,m,h=>by
  unfold bindL
  rw [zdS fun w hw=>h w (mem_cons_of_mem _ hw)]
  split
  ·have:x ≠ n:=by rintro rfl;exact h v mem_cons_self
   simp [this]
  ·rfl
theorem zdU {kindOf:Str->Option NameKind} {x:Str}:∀ {binds:List (Str × Value)} {m:Str->Option Value},(∀ v,(x,v) ∉ binds)->bindC kindOf binds m x = m x
 | [],_,_=>rfl
 | (n,v) :: r,m,h=>by
  unfold bindC
  rw [zdU fun w hw=>h w (mem_cons_of_mem _ hw)]
  split
  ·rfl
  ·have:x ≠ n:=by rintro rfl;exact h v mem_cons_self
   simp [this]
theorem zdT {kindOf:Str->Option NameKind} {x:Str} {v:Value}:∀ {P:List Str} {vs:List Value} {i:Nat} {m:Str->Option Value},P.Nodup->P[i]? = some x->vs[i]? = some v->kindOf x = some .local->
  bindL kindOf (P.zip vs) m x = some v
 | [],_,_,_,_,h,_,_=>by simp at h
 | _ :: _,[],_,_,_,_,h,_=>by simp at h
 | p :: P,w :: vs,0,m,nd,h1,h2,hk=>by
  simp at h1 h2;subst h1;subst h2
  show bindL kindOf ((p,w) :: P.zip vs) m p = _
  unfold bindL
  rw [zdS fun v hv=>(nodup_cons.mp nd).1 (of_mem_zip hv).1,if_pos hk]
  simp
 | p :: P,w :: vs,i + 1,m,nd,h1,h2,hk=>by
  show bindL kindOf ((p,w) :: P.zip vs) m x = _
  unfold bindL
  exact zdT (i:=i) (nodup_cons.mp nd).2 (by simpa using h1) (by simpa using h2) hk
theorem zdV {kindOf:Str->Option NameKind} {x:Str} {v:Value}:∀ {P:List Str} {vs:List Value} {i:Nat} {m:Str->Option Value},P.Nodup->P[i]? = some x->vs[i]? = some v->kindOf x ≠ some .local->
  bindC kindOf (P.zip vs) m x = some v
 | [],_,_,_,_,h,_,_=>by simp at h
 | _ :: _,[],_,_,_,_,h,_=>by simp at h
 | p :: P,w :: vs,0,m,nd,h1,h2,hk=>by
  simp at h1 h2;subst h1;subst h2
  show bindC kindOf ((p,w) :: P.zip vs) m p = _
  unfold bindC
  rw [zdU fun v hv=>(nodup_cons.mp nd).1 (of_mem_zip hv).1,if_neg hk]
  simp
 | p :: P,w :: vs,i + 1,m,nd,h1,h2,hk=>by
  show bindC kindOf ((p,w) :: P.zip vs) m x = _
  unfold bindC
  exact zdV (i:=i) (nodup_cons.mp nd).2 (by simpa using h1) (by simpa using h2) hk
noncomputable def start (N:List Str) (vs:List V):St:=vs.map some ++ List.replicate (N.length - vs.length) none
noncomputable def za1 (CX:CXT) (P:Program) (w:World) (K:Frag) (mg:Str->Option Value) (base:Heap) (N:List Str) (qual:Str) (scope:Scope) (f:Addr) (cd:Value) (A:Around) (outer:List Env) (s:Shared) (H:Hp) (E:XK):Cx where
 prog:=P
 w:=w
 K:=K
 mg:=mg
 base:=base
 A:=A.deeper (envOfC qual scope s.heap.objs.size f cd)
 N:=N
 s₀:=s
 H₀:=H
 env:=envOfC qual scope s.heap.objs.size f cd
 outer:=outer
 stack:=envOfC qual scope s.heap.objs.size f cd :: outer
 ex:=[]
 calm:=true
 fn:=fun _=>true
 pn:=[]
 xe:=fun e s'=>wpAny (model P w) (A.deeper (envOfC qual scope s.heap.objs.size f cd)) (leaving (envOfC qual scope s.heap.objs.size f cd) e) (fun _ s''=>CX outer H s E e s'') (fun e' s''=>CX outer H s E e' s'') s'
theorem ze1 {sc:Scope} (h:sc.names.lookup x = some .cell):∃ c,(cellsFrom n sc.names []).lookup x = some c:=by
 have q:=PySem.W.cellsFrom_some sc.names n [] (.inl h)
 exact Option.isSome_iff_exists.mp q
variable {scope:Scope} {qual:Str}
theorem zgY {f:Addr} {cd:Value} {outer:List Env} {s1:Shared} {E:XK} 
 (S:FnScope N ps scope) (hd:A.handled = none) (e0:Env0 P w K mg base A outer s H) (hl:vs.length = ps.length) (r:Vals vs us)
 (x:InCallC s s.heap.objs.size (bindL (envOfC qual scope s.heap.objs.size f cd).kindOf (ps.zip us) fun _=>none) (cellsFrom (s.heap.objs.size + 1) scope.names []) (bindC (envOfC qual scope s.heap.objs.size f cd).kindOf (ps.zip us) fun _=>none) s1) :
  Inv (za1 CX P w K mg base N qual scope f cd A outer s H E) [] (start N vs) H s1:=by
 have hpl:ps.length<=N.length:=by have:=congrArg List.length S.pre;rw [Qp] at this;omega
 obtain ⟨h1,tk,rfl,hk⟩:=x.done
 have noA:∀ b:Addr,b ∉ (za1 CX P w K mg base N qual scope f cd A outer s H E).ex:=fun b z=>absurd (show b ∈ ([]:List Addr) from z) (by simp)
 refine ⟨⟨e0.mod,S.kind,rfl,rfl,Q3 _,fun y z c h1 h2=>?_,fun y hy=>?_,fun y c _ h=>?_,fun _=>hd,Around.frames_deeper e0.frames,.inr ⟨rfl,rfl⟩,fun b z=>absurd z (noA b),e0.bs,e0.bsz,fun b _ _=>noA b,fun b z=>absurd z (noA b),e0.funs,e0.frf⟩,
  rfl,e0.bare,Un.kept hk,⟨_,x.toInCall.ns,fun i y v h1 h2 h3=>?_⟩,fun y c h=>⟨_,x.cell y c h⟩,e0.hok.fresh (Q3 _),fun y c h=>?_,fun p hp=>absurd (show p ∈ ([]:List (Addr × Obj)) from hp) (by simp),e0.hok.kept hk,?_⟩
 ·exact name_of_addr x.apart (PySem.mem_of_lookup h1) (PySem.mem_of_lookup h2)
 ·have hy:scope.names.lookup y = some .cell\/scope.names.lookup y = some .free:=hy
  rcases hy with hy | hy
  ·exact ze1 hy
  ·exact absurd rfl (S.nofree _ (PySem.mem_of_lookup hy))
 ·exact Nat.le_of_lt (x.above y c (PySem.mem_of_lookup h))
 ·have hi:i < vs.length:=by
   unfold start at h2
   by_cases hi:i < vs.length
   ·exact hi
   ·rw [Q7 (by simpa using hi)] at h2
    rw [List.getElem?_replicate] at h2
    split at h2 <;> cases h2
  have ha:vs[i]? = some v:=by
   unfold start at h2
   rw [Q6 (by simpa using hi),Qa] at h2
   cases e:vs[i]? with
   | none=>rw [e] at h2;cases h2
   | some a=>rw [e] at h2;cases h2;rfl
  obtain ⟨u,hu,rv⟩:=r.get ha
  have hp:ps[i]? = some y:=by
   rw [← S.pre,List.getElem?_take_of_lt (by omega)];exact h1
  have ndP:ps.Nodup:=by rw [← S.pre];exact S.nd.sublist (List.take_sublist _ _)
  refine ⟨u,rv,?_⟩
  rcases S.par y (Q9 hp) with k | k
  ·exact .inl ⟨k,zdT ndP hp hu k⟩
  ·obtain ⟨c,e⟩:=ze1 (n:=s.heap.objs.size + 1) k
   refine .inr ⟨.inl k,c,e,?_⟩
   have q:=x.cell y c e
   rw [zdV ndP hp hu (by show scope.names.lookup y ≠ _;rw [k];decide)] at q
   exact q
 ·exact e0.hok.fresh (Nat.le_of_lt (x.above y c (PySem.mem_of_lookup h)))
 ·unfold start
  show _ = N.length
  rw [Qm,Qg,List.length_replicate]
  omega
theorem zmt {f:Addr} {name:Str} {params:Arguments} {dV kV doc pm cdv ct oc:Value} {an od:Option Addr}
 {osl:Array (Option Value)} (lk:K.lookup f = some ⟨oc,od,.func (PySem.W.fnOf name qual params body scope dV kV doc pm an cdv ct),osl⟩) (hcd:PySem.W.codeIn K cdv qual = true) (S:FnScope N ps scope)
 (len:∀ vs H Q E,sp vs H Q E->vs.length = ps.length)
 (hbody:∀ (A:Around) (outer:List Env) (s:Shared) (H:Hp) (vs:List V) (Q:VK) (E:XK),Room k (A.deeper (envOfC qual scope s.heap.objs.size f cdv))->sp vs H Q E->
 ∃ t,PSs (za1 CX P w K mg base N qual scope f cdv A outer s H E) body t/\t { nx:=fun _ H'=>Q .non H',rt:=Q } (start N vs) H) :
  FnOk P w K mg base CX (k + 1) f (PySem.W.fnOf name qual params body scope dV kV doc pm an cdv ct) ps sp:=by
 refine ⟨len,fun A outer s H args us vs Q E hr e0 hb r hsp=>?_⟩
 have hl:=len _ _ _ _ hsp
 have KX:K.In s.heap:=e0.mod.kin.keeps fun b o e=>(e0.bs b o e).1
 have lim:s.heap.NoLimit:=e0.mod.nolimit.keeps fun b o e=>(e0.bs b o e).1
 have hkind:∀ y ∈ ps.zip us,scope.names.lookup y.1 = some .local\/(scope.names.lookup y.1 = some .cell/\((cellsFrom (s.heap.objs.size + 1) scope.names []).lookup y.1).isSome = true):=fun ⟨n,v⟩ hy=>by
  rcases S.par n (of_mem_zip hy).1 with q | q
  ·exact .inl q
  ·exact .inr ⟨q,PySem.W.cellsFrom_some _ _ _ (.inl q)⟩
 refine codeAny_call_function hr.depth (KX _ _ lk) rfl S.co S.gen rfl (PySem.W.codeRec_of KX hcd) (hb _ _ _ _ ?_)
 refine wpAny_newFunctionEnv_cells S.kind hkind fun env he s1 x=>?_
 subst he
 refine ⟨lim.keeps x.toInCall.keep,codeAny_func ?_⟩
 obtain ⟨t,ht,hq⟩:=hbody A outer s H vs Q E (hr.deeper _) hsp
 have I:Inv (za1 CX P w K mg base N qual scope f cdv A outer s H E) [] (start N vs) H s1:=zgY S hr.hd e0 hl r x
 refine Qf (ht [] s1 (start N vs) H _ I hq) (fun fl s' hs=>?_) fun e s' hs=>hs
 have fin:∀ {σ':St} {H':Hp} {v:V} {u:Value},Inv (za1 CX P w K mg base N qual scope f cdv A outer s H E) [] σ' H' s'->RelV v u->Q v H'->CE outer P w H s Q u s':=
  fun {σ' H' v u} J rv q=>⟨v,H',J.os,J.bare,J.base,J.hok,rv,q⟩
 cases fl with
 | ret u=>
  obtain ⟨v,σ',H',J,rv,q⟩:=hs
  exact fin J rv q
 | next=>
  obtain ⟨σ',H',J,q⟩:=hs
  exact fin (v:=V.non) (u:=Value.none) J rfl q
 | brk=>
  obtain ⟨_,_,_,q⟩:=hs
  exact False.elim q
 | cont=>
  obtain ⟨_,_,_,q⟩:=hs
  exact False.elim q
section
variable {t:TA} {id T:String} {r:List V->Hp->VK->Prop}
noncomputable def tCB (r:List V->Hp->VK->Prop) (t:TA):TE:=fun σ H Q=>t σ H fun vs H1=>r vs H1 Q
theorem zeA (hc:CallR X (.builtin id) r) (hg:Gl X x) (hm:X.mg x = none) (hv:bootBuiltins x = some (.builtin id)) (ha:PA X (e :: es) t) (hn:x ≠ "__name__":=by decide) (hdb:(x == ("__debug__":Str)) = false:=by decide)
  (he:starEach (e :: es) X.env = (false,eval e X.env) :: starEach es X.env:=by rfl) (hpl:(backTo pos (starEach es X.env)).any (·.1) = false:=by rfl):PE X (.Call (.Name x p) (e :: es) [] pos) (tCB r t):=by
 intro pins s σ H Q I h
 refine wpAny_Call_Name_kw (zbu I hg hm hv ?_ hn hdb)
 exact PyProof.Rows.callWith_builtin1 (thn (ha pos pins s σ H _ I h) fun us s1 ⟨vs,H1,I1,r1,q1⟩=>hc pins s1 σ H1 vs us Q I1 r1 q1) he hpl
theorem zb3 (hc:CallR X (.type T) r) (hg:Gl X x) (hm:X.mg x = none) (hv:bootBuiltins x = some (.type T)) (ha:PA X (e :: es) t) (hn:x ≠ "__name__":=by decide) (hdb:(x == ("__debug__":Str)) = false:=by decide)
  (he:starEach (e :: es) X.env = (false,eval e X.env) :: starEach es X.env:=by rfl) (hpl:(backTo pos (starEach es X.env)).any (·.1) = false:=by rfl):PE X (.Call (.Name x p) (e :: es) [] pos) (tCB r t):=by
 intro pins s σ H Q I h
 refine wpAny_Call_Name_kw (zbu I hg hm hv ?_ hn hdb)
 exact PyProof.Rows.callWith_type1 (thn (ha pos pins s σ H _ I h) fun us s1 ⟨vs,H1,I1,r1,q1⟩=>hc pins s1 σ H1 vs us Q I1 r1 q1) he hpl
end
end L2
namespace HT
open PySem PyProof.Rows
variable {sl t:Addr} {vl vu:Value} {Q:Value->Shared->Prop}
section
variable {prog:Program} {w:World} {A:Around} {E:Value->Shared->Prop} {s:Shared}
theorem zjW {b:Addr} {vs ws:List Value} (ht:IsTup s.heap t vs.toArray) (hb:IsTup s.heap b ws.toArray) (hv:vs ≠ [])
 (h1:ws = []->Q (.ref t) s) (h2:ws ≠ []->Q (.ref s.heap.objs.size) { s with heap:=s.heap.push { cls:=.type "tuple",data:=.seq (vs ++ ws).toArray } })
 (hsz:vs.length + ws.length<=sizeLine):wpAny (model prog w) A (binaryOp .Add (.ref t) (.ref b)) Q E s:=by
 obtain ⟨⟨cls,dd,data,sl⟩,ho,hc,n,hd⟩:=id ht
 obtain ⟨⟨cls2,dd2,data2,sl2⟩,ho2,hc2,n2,hd2⟩:=id hb
 simp only at hc hd hc2 hd2
 subst hc hd hc2 hd2
 have e:vs.toArray ++ ws.toArray = (vs ++ ws).toArray:=by simp
 by_cases hw:ws = []
 ·exact concat_meets ⟨_,ho,rfl⟩ ⟨_,ho2,rfl⟩ noFill_tuple_add seq_tuple_add PySem.F.slot_tuple_add PySem.F.entry_tuple_add (PySem.F.args_tuple_add_2 _ _)
   (tuple_addW1 t b vs.toArray ws.toArray n n2 dd dd2 sl sl2 (by simpa using hv) (by simp [hw])) ⟨ho,ho2,h1 hw⟩
 ·refine concat_meets ⟨_,ho,rfl⟩ ⟨_,ho2,rfl⟩ noFill_tuple_add seq_tuple_add PySem.F.slot_tuple_add PySem.F.entry_tuple_add (PySem.F.args_tuple_add_2 _ _)
   (tuple_addW2 t b vs.toArray ws.toArray n n2 dd dd2 sl sl2 (by simpa using hv) (by simpa using hw) (by rw [Qh,Qh];exact hsz)) ⟨ho,ho2,?_⟩
  rw [e]
  exact h2 hw
noncomputable def sIx (n d:Nat):Option Int->Nat
 | none=>d
 | some v=>if v < 0 then (v + (n:Int)).toNat else min v.toNat n
theorem zew (n d:Nat):sIx n d none = d:=rfl
theorem zfq (n d k:Nat):sIx n d (some (k:Int)) = min k n:=by
 show (if (k:Int) < 0 then ((k:Int) + (n:Int)).toNat else min (k:Int).toNat n) = min k n
 rw [if_neg (by omega),Int.toNat_natCast]
theorem zki (n d:Nat) (hd:d<=n) (o:Option Int):sIx n d o<=n:=by
 cases o with
 | none=>exact hd
 | some v=>
  show (if v < 0 then (v + (n:Int)).toNat else min v.toNat n)<=n
  by_cases hv:v < 0
  ·rw [if_pos hv];omega
  ·rw [if_neg hv];exact Nat.min_le_right _ _
theorem zfJ (v:Int) (n d:Nat):(if v < 0 then max (v + (n:Int)) 0 else min v (n:Int)) = ((sIx n d (some v):Nat):Int):=by
 show (if v < 0 then max (v + (n:Int)) 0 else min v (n:Int)) = (((if v < 0 then (v + (n:Int)).toNat else min v.toNat n):Nat):Int)
 by_cases hv:v < 0
 ·simp only [if_pos hv];omega
 ·simp only [if_neg hv];omega
theorem zgl (lo hi:Option Int) (n:Nat):Builtin.Slice.sliceAdjust lo hi 1 (n:Int) = (((sIx n 0 lo:Nat):Int),((sIx n n hi:Nat):Int)):=by
 have h1:¬ ((1:Int) < 0):=by omega
 unfold Builtin.Slice.sliceAdjust
 simp only [h1,if_false]
 refine Prod.ext ?_ ?_
 ·cases lo with
  | none=>rfl
  | some v=>exact zfJ v n 0
 ·cases hi with
  | none=>rfl
  | some v=>exact zfJ v n n
theorem zf0 (i j:Nat):Builtin.Slice.slicePlaces (i:Int) (j:Int) 1 = j - i:=by
 unfold Builtin.Slice.slicePlaces
 have h1:(1:Int) > 0:=by omega
 simp only [h1,if_true,Int.ediv_one]
 split <;> omega
theorem zcY {v:Value} {o:Option Int} {Q:Option Int->Shared->Prop} (p:IsPart v o) (h:Q o s):wpAny (model prog w) A (Builtin.Slice.slicePartIndex v) Q E s:=by
 cases p with
 | none=>exact slicePart_none h
 | int i t=>exact slicePart_int h
theorem zaU {lo hi:Option Int} {n:Nat} {Q:Int × Int × Nat->Shared->Prop} (hs:s.heap.IsSliceOf sl vl vu .none) (pl:IsPart vl lo) (pu:IsPart vu hi)
 (h:Q (((sIx n 0 lo:Nat):Int),1,sIx n n hi - sIx n 0 lo) s):wpAny (model prog w) A (Builtin.Slice.sliceApplied (.ref sl) (pure (n:Int))) Q E s:=by
 obtain ⟨os,hos,hcs,hds⟩:=id hs
 unfold Builtin.Slice.sliceApplied Builtin.Slice.sliceFields
 refine Q1 (Q1 (wpAny_field hos hds (x:=vl) rfl (Q1 (wpAny_field hos hds (x:=vu) rfl (Q1 (wpAny_field hos hds (x:=.none) rfl (Qe ?_)))))))
 refine Q1 (slicePart_none ?_)
 show wpAny _ _ (if ((1:Int) == 0) = true then _ else _) _ _ s
 rw [if_neg (by decide)]
 refine Q1 (zcY pl (Q1 (zcY pu (Q1 (Qe ?_)))))
 show wpAny _ _ (match Builtin.Slice.sliceAdjust lo hi 1 (n:Int) with | (lo,hi)=>pure (lo,(1:Int),Builtin.Slice.slicePlaces lo hi 1)) _ _ s
 rw [zgl lo hi n]
 show wpAny _ _ (pure (((sIx n 0 lo:Nat):Int),(1:Int),Builtin.Slice.slicePlaces ((sIx n 0 lo:Nat):Int) ((sIx n n hi:Nat):Int) 1)) _ _ s
 rw [zf0]
 exact Qe h
theorem zhR (xs:Array Value) (i k:Nat):((List.range k).filterMap fun (m:Nat)=>xs[((i:Int) + (m:Int) * 1).toNat]?).toArray = ((xs.toList.drop i).take k).toArray:=by
 have e:(fun (m:Nat)=>xs[((i:Int) + (m:Int) * 1).toNat]?) = fun m=>xs[i + m]?:=by
  funext m
  have:((i:Int) + (m:Int) * 1).toNat = i + m:=by omega
  rw [this]
 rw [e]
 have:=pick_run xs i k
 rw [List.filterMap_map] at this
 have e2:((fun x=>xs[x]?) ∘ fun x=>i + x) = fun m=>xs[i + m]?:=rfl
 rw [e2] at this
 rw [this]
theorem zct {items:Array Value} {lo hi:Option Int} (ht:IsTup s.heap t items) (hs:s.heap.IsSliceOf sl vl vu .none) (pl:IsPart vl lo) (pu:IsPart vu hi)
 (hw:¬ (sIx items.size 0 lo = 0/\sIx items.size items.size hi = items.size))
 (h:Q (.ref s.heap.objs.size) { s with heap:=s.heap.push { cls:=.type "tuple",data:=.seq ((items.toList.drop (sIx items.size 0 lo)).take (sIx items.size items.size hi - sIx items.size 0 lo)).toArray } })
 (hsz:items.size<=sizeLine):wpAny (model prog w) A (getItem (.ref t) (.ref sl)) Q E s:=by
 have htake:sizeOk (.seq ((items.toList.drop (sIx items.size 0 lo)).take (sIx items.size items.size hi - sIx items.size 0 lo)).toArray):=by
  show ((items.toList.drop (sIx items.size 0 lo)).take (sIx items.size items.size hi - sIx items.size 0 lo)).toArray.size<=sizeLine
  rw [Qh,Qp,length_drop,Array.length_toList]
  omega
 have hj:sIx items.size items.size hi<=items.size:=zki _ _ (Q3 _) hi
 obtain ⟨os,hos,hcs,hds⟩:=id hs
 have hTs:s.TypeIs (.ref sl) "slice":=⟨os,hos,hcs⟩
 unfold getItem
 try with_reducible refine wpAny_holding ?_
 first | refine Q1 (Qe ?_) | skip
 refine Q1 (wpAny_sequenceKey ht.typeIs (by decide) ?_)
 refine Q1 (wpAny_callSpecial?_slot (name:=Str.ofString "__getitem__") ht.typeIs PyProof.Rows.slot_tuple_getitem
  (wpAny_call_entry PyProof.Rows.slot_tuple_getitem ht.typeIs entry_tuple_getitem ?_ (args_tuple_getitem _ _)))
 show wpAny _ _ (Builtin.Tuple.tupleItemsOf (.ref t) >>= _) _ _ s
 refine Q1 (tupleItemsOf_ ht ?_)
 refine Q1 (wpAny_typeOf hTs ?_)
 rw [if_pos (by decide)]
 refine Q1 (zaU hs pl pu ?_)
 have hno:¬ ((((sIx items.size 0 lo:Nat):Int) == 0 && (1:Int) == 1 && (sIx items.size items.size hi - sIx items.size 0 lo) == items.size) = true):=by
  intro q
  rw [Qq,Qq] at q
  have q1:((sIx items.size 0 lo:Nat):Int) = 0:=eq_of_beq q.1.1
  have q2:sIx items.size items.size hi - sIx items.size 0 lo = items.size:=eq_of_beq q.2
  exact hw ⟨by omega,by omega⟩
 show wpAny _ _ (if (((sIx items.size 0 lo:Nat):Int) == 0 && (1:Int) == 1 && (sIx items.size items.size hi - sIx items.size 0 lo) == items.size) = true then _ else _) _ _ s
 rw [if_neg hno,zhR]
 first
  | exact Q1 (m:=Builtin.Tuple.tupleExact _) (Qr (Qe ⟨_,rfl,Qe h⟩) htake)
  | exact Q1 (m:=Builtin.Tuple.tupleExact _) (Qr (Q1 (Qe (Qe ⟨_,rfl,Qe h⟩))) htake)
  | exact Q1 (Q1 (m:=Builtin.Tuple.tupleExact _) (Qr (Qe (Qe ⟨_,rfl,Qe h⟩)) htake))
  | exact Q1 (Q1 (m:=Builtin.Tuple.tupleExact _) (Qr (Qe ⟨_,rfl,Qe h⟩) htake))
end
end HT
namespace L2
open PySem PySem.Spec PyProof.Rows
noncomputable abbrev TO:=St->Hp->(Option Int->Hp->Prop)->Prop
def PO (X:Cx) (e:Option Expr) (t:TO):Prop:=
 ∀ (pins:List (Addr × Obj)) (s:Shared) (σ:St) (H:Hp) (Q:Option Int->Hp->Prop),Inv X pins σ H s->t σ H Q->
  wpAny (model X.prog X.w) X.A (evalPart e X.env) (fun u s'=>∃ o H',Inv X pins σ H' s'/\IsPart u o/\Q o H') X.xe s
noncomputable def ziV:TO:=fun _ H Q=>Q none H
noncomputable def zlO (t:TE):TO:=fun σ H Q=>t σ H fun x H1=>∃ i,x = .int i/\Q (some i) H1
variable {X:Cx} {e:Expr} {xs:List V} {us:List Value} {pos:Pos}
section
variable {te:TE} {lo hi:Option Expr} {tl th:TO} {p2:Pos}
theorem zi8:PO X none ziV:=by
 intro pins s σ H Q I h
 rw [evalPart_none]
 exact Qe ⟨none,H,I,.none,h⟩
theorem zi7 (h:PE X e te):PO X (some e) (zlO te):=by
 intro pins s σ H Q I hw
 rw [evalPart_some]
 refine thn (h pins s σ H _ I hw) fun u s1 ⟨x,H1,I1,r1,q1⟩=>?_
 obtain ⟨i,rfl,q⟩:=q1
 obtain ⟨t,rfl⟩:=r1
 exact ⟨some i,H1,I1,.int i t,q⟩
def SlR (X:Cx) (r:V->Option Int->Option Int->Hp->VK->Prop):Prop:=
 ∀ (pins:List (Addr × Obj)) (s:Shared) (σ:St) (H:Hp) (x:V) (v vl vu:Value) (lo hi:Option Int) (sl:Addr) (Q:VK),Inv X pins σ H s->RelV x v->s.heap.IsSliceOf sl vl vu .none->IsPart vl lo->IsPart vu hi->r x lo hi H Q->
  ∃ T id,typeLookup (.type T) "__getitem__" = pure (some (.builtin id))/\s.TypeIs v T/\wpAny (model X.prog X.w) X.A (getItem v (.ref sl)) (EP X pins σ Q) X.xe s
noncomputable def tSl (r:V->Option Int->Option Int->Hp->VK->Prop) (te:TE) (tl th:TO):TE:=fun σ H Q=>te σ H fun x H1=>tl σ H1 fun l H2=>th σ H2 fun u H3=>r x l u H3 Q
theorem zez {r:V->Option Int->Option Int->Hp->VK->Prop} (hr:SlR X r) (he:PE X e te) (hl:PO X lo tl) (hu:PO X hi th):PE X (.Subscript e (.Slice lo hi none p2) pos) (tSl r te tl th):=by
 intro pins s σ H Q I h
 refine Subscript_ (thn (he pins s σ H _ I h) fun v s1 ⟨x,H1,I1,r1,q1⟩=>?_)
 refine wpAny_Slice (thn (hl pins s1 σ H1 _ I1 q1) fun vl s2 ⟨l,H2,I2,pl,q2⟩=>thn (hu pins s2 σ H2 _ I2 q2) fun vu s3 ⟨u,H3,I3,pu,q3⟩=>?_)
 rw [evalPart_none]
 refine Qe ?_
 have I4:Inv X pins σ H3 { s3 with heap:=s3.heap.push { cls:=.type "slice",data:=.fields #[vl,vu,.none] } }:=I3.kept (t':=s3.toks) fun b ob q=>Q2 _ q
 obtain ⟨T,id,hT,ht,hg⟩:=hr pins { s3 with heap:=s3.heap.push { cls:=.type "slice",data:=.fields #[vl,vu,.none] } } σ H3 x v vl vu l u s3.heap.objs.size Q I4 r1 (Heap.IsSliceOf.new ..) pl pu q3
 show wpAny (model X.prog X.w) X.A (subscriptTail e (.Slice lo hi none p2) v (.ref s3.heap.objs.size)) (EP X pins σ Q) X.xe { s3 with heap:=s3.heap.push { cls:=.type "slice",data:=.fields #[vl,vu,.none] } }
 exact tail_any (ops:=[.ref s3.heap.objs.size,v]) ht hT hg (by with_unfolding_all rfl)
noncomputable def cutV (xs:List V) (lo hi:Option Int):List V:=(xs.drop (HT.sIx xs.length 0 lo)).take (HT.sIx xs.length xs.length hi - HT.sIx xs.length 0 lo)
theorem zcy (xs:List V) (lo hi:Option Int):(cutV xs lo hi).length<=xs.length:=by
 unfold cutV
 rw [Qp,length_drop]
 omega
noncomputable def zmO (K:Frag):V->Option Int->Option Int->Hp->VK->Prop:=fun x lo hi H Q=>∃ a xs,x = .ref a/\SqT K H a xs /\
 ¬ (HT.sIx xs.length 0 lo = 0/\HT.sIx xs.length xs.length hi = xs.length)/\∀ p,H p = none->Q (.ref p) (upd H p (.tup (cutV xs lo hi)))
theorem zkf:SlR X (zmO X.K):=by
 intro pins s σ H x v vl vu lo hi sl Q I rx hs pl pu h
 obtain ⟨a,xs,rfl,hx,hw,q⟩:=h
 cases rx
 obtain ⟨its,r,ht,hz⟩:=I.tuple hx
 have hlen:its.toArray.size = xs.length:=by rw [Qh];exact r.length.symm
 refine ⟨"tuple",_,PyProof.Rows.slot_tuple_getitem.lookup,ht.typeIs,?_⟩
 refine HT.zct ht hs pl pu (by rw [hlen];exact hw) ?_ (by rw [hlen];exact hz)
 rw [hlen]
 refine ⟨.ref s.heap.objs.size,_,I.laid (t':=s.toks) (o:=.tup (cutV xs lo hi)) (fun b ob q=>Q2 _ q) (Q3 _) ?_,rfl,q _ (I.hok.fresh (Q3 _))⟩
 exact ⟨Qi (zcy xs lo hi) hz,_,(r.drop (HT.sIx xs.length 0 lo)).take (HT.sIx xs.length xs.length hi - HT.sIx xs.length 0 lo),IsTup.new _ _,NoDict.new⟩
noncomputable def zlZ (K:Frag):R2:=fun x y H Q=>∃ a b xs ys,x = .ref a/\y = .ref b/\SqT K H a xs/\SqT K H b ys/\xs ≠ []/\xs.length + ys.length<=sizeLine /\
 (ys = []->Q (.ref a) H)/\(ys ≠ []->∀ p,H p = none->Q (.ref p) (upd H p (.tup (xs ++ ys))))
theorem Vals.nil_iff (r:Vals xs us):us = [] ↔ xs = []:=by
 cases r with
 | nil=>simp
 | cons _ _=>simp
theorem zjm:OpR X (binaryOp .Add) (zlZ X.K):=by
 intro pins s σ H x y v u Q I rx ry h
 obtain ⟨a,b,xs,ys,rfl,rfl,ha,hb,hx,hz,q1,q2⟩:=h
 cases rx
 cases ry
 obtain ⟨its,r1,p1,_⟩:=I.tuple ha
 obtain ⟨its2,r2,p2,_⟩:=I.tuple hb
 refine HT.zjW p1 p2 (fun z=>hx (r1.nil_iff.mp z)) (fun z=>⟨.ref a,H,I,rfl,q1 (r2.nil_iff.mp z)⟩) (fun z=>?_) (by rw [← r1.length,← r2.length];exact hz)
 refine ⟨.ref s.heap.objs.size,_,I.laid (t':=s.toks) (o:=.tup (xs ++ ys)) (fun b ob q=>Q2 _ q) (Q3 _) ?_,rfl,q2 (fun w=>z (r2.nil_iff.mpr w)) _ (I.hok.fresh (Q3 _))⟩
 exact ⟨by rw [Qm];exact hz,_,r1.append r2,IsTup.new _ _,NoDict.new⟩
end
noncomputable def ixN (n:Nat) (i:Int):Option Nat:=if 0<=i then (if i < n then some i.toNat else none) else if -(n:Int)<=i then some (i + n).toNat else none
noncomputable def atI {α:Type} (xs:List α) (i:Int):Option α:=(ixN xs.length i).bind fun j=>xs[j]?
variable {i:Int} {j n:Nat}
theorem zfD (h:ixN n i = some j):seqIndex? i n = some j/\j < n/\-(n:Int)<=i/\i < n:=by
 unfold ixN at h
 by_cases h0:0<=i
 ·rw [if_pos h0] at h
  by_cases h1:i < n
  ·rw [if_pos h1] at h
   have e:i.toNat = j:=Qc h
   exact ⟨by rw [seqIndex_of h0 h1,e],by omega,by omega,h1⟩
  ·rw [if_neg h1] at h;cases h
 ·rw [if_neg h0] at h
  by_cases h1:-(n:Int)<=i
  ·rw [if_pos h1] at h
   have e:(i + n).toNat = j:=Qc h
   exact ⟨by rw [seqIndex_neg (by omega) h1,e],by omega,h1,by omega⟩
  ·rw [if_neg h1] at h;cases h
theorem zdG {α:Type} {xs:List α} {v:α} (h:atI xs i = some v):∃ j,seqIndex? i xs.length = some j/\xs[j]? = some v/\j < xs.length/\-(xs.length:Int)<=i/\i < xs.length:=by
 unfold atI at h
 cases e:ixN xs.length i with
 | none=>rw [e] at h;cases h
 | some j=>
  rw [e] at h
  obtain ⟨h1,h2,h3,h4⟩:=zfD e
  exact ⟨j,h1,h,h2,h3,h4⟩
theorem yL {α:Type} {xs:List α} {v:α} (h:xs[j]? = some v):atI xs (j:Int) = some v:=by
 have hj:j < xs.length:=(List.getElem?_eq_some_iff.mp h).1
 have e:ixN xs.length (j:Int) = some j:=by
  unfold ixN
  rw [if_pos (by omega),if_pos (by omega)];simp
 unfold atI;rw [e];exact h
def zdH (b:Expr):Prop:=∀ o i,subscripted b false o i = operate [o,i] (getItem o i)
def IxR (X:Cx) (r:R2):Prop:=
 ∀ (value slice:Expr) (pins:List (Addr × Obj)) (s:Shared) (σ:St) (H:Hp) (x y:V) (v u:Value) (Q:VK),Inv X pins σ H s->RelV x v->RelV y u->r x y H Q->
  subscripted slice false v u = operate [v,u] (getItem v u)->wpAny (model X.prog X.w) X.A (subscriptTail value slice v u) (EP X pins σ Q) X.xe s
def MtR (X:Cx) (id:String) (r:V->List V->Hp->VK->Prop):Prop:=
 ∀ (pins:List (Addr × Obj)) (s:Shared) (σ:St) (H:Hp) (x:V) (xs:List V) (v:Value) (us:List Value) (Q:VK),Inv X pins σ H s->RelV x v->Vals xs us->r x xs H Q->
  wpAny (model X.prog X.w) X.A (call (.builtin id) (v :: us)) (EP X pins σ Q) X.xe s
variable {p:Addr} {H:Hp} {pins:List (Addr × Obj)} {ys:List V} {its its':List Value} {r:R2} {s:Shared} {σ:St} {x y:V} {u:Value}
section
variable {a b:Expr} {ta tb:TE}
theorem IxR.or {r':R2} (h:IxR X r) (h':IxR X r'):IxR X (fun x y H Q=>r x y H Q\/r' x y H Q):=by
 intro value slice pins s σ H x y v u Q I rx ry q hs
 rcases q with q | q
 ·exact h value slice pins s σ H x y v u Q I rx ry q hs
 ·exact h' value slice pins s σ H x y v u Q I rx ry q hs
theorem zl6 (hr:IxR X r) (ha:PE X a ta) (hb:PE X b tb) (hs:zdH b):PE X (.Subscript a b pos) (tOp r ta tb):=by
 intro pins s σ H Q I h
 exact Subscript_ (ziy ha hb I h fun v u s2 x y H2 I2 rx ry q=>hr a b pins s2 σ H2 x y v u Q I2 rx ry q (hs _ _))
noncomputable def zkn (K:Frag):R2:=fun x y H Q=>∃ p xs i v,x = .ref p/\y = .int i/\SqL K H p xs/\atI xs i = some v/\Q v H
noncomputable def zkl (K:Frag):R2:=fun x y H Q=>∃ p xs i v,x = .ref p/\y = .int i/\SqT K H p xs/\atI xs i = some v/\Q v H
noncomputable def zkm:R2:=fun x y H Q=>∃ z i c,x = .str z/\y = .int i/\z.length<=sizeLine/\atI z.cps.toList i = some c/\Q (.str ⟨#[c]⟩) H
theorem zjz:IxR X (zkn X.K):=by
 intro value slice pins s σ H x y v u Q I rx ry h hs
 obtain ⟨p,xs,i,z,rfl,rfl,hq,he,q⟩:=h
 cases rx
 obtain ⟨t,rfl⟩:=ry
 obtain ⟨its,r,pl,hz⟩:=I.list hq
 obtain ⟨j,h1,h2,h3,h4,h5⟩:=zdG he
 obtain ⟨w,ew,rw'⟩:=r.get h2
 have hl:=r.length
 have hn:=zbt
 have fin:EP X pins σ Q w s:=⟨z,H,I,rw',q⟩
 by_cases h0:0<=i
 ·have hj:i.toNat = j:=by
   rw [seqIndex_of h0 h5] at h1
   exact Qc h1
  exact item_listR pl.isList h0 (by omega) (by rw [hj];simpa using ew) fin hs
 ·have hj:(i + (its.toArray.size:Int)).toNat = j:=by
   rw [seqIndex_neg (by omega) h4] at h1
   rw [Qh,← hl]
   exact Qc h1
  exact subscriptTail_builtinR (x:=w) pl.isList.typeIs slot_list_getitem.lookup
   (wpAny_getItem_list_neg (Q:=fun r s'=>r = w/\EP X pins σ Q r s') pl.isList (by omega) (by rw [Qh] <;> omega) (by omega) (by rw [hj];simpa using ew) ⟨rfl,fin⟩) hs
theorem zk9:IxR X (zkl X.K):=by
 intro value slice pins s σ H x y v u Q I rx ry h hs
 obtain ⟨p,xs,i,z,rfl,rfl,hq,he,q⟩:=h
 cases rx
 obtain ⟨t,rfl⟩:=ry
 obtain ⟨its,r,pl,hz⟩:=I.tuple hq
 obtain ⟨j,h1,h2,h3,h4,h5⟩:=zdG he
 obtain ⟨w,ew,rw'⟩:=r.get h2
 have hl:=r.length
 have hn:=zbt
 have fin:EP X pins σ Q w s:=⟨z,H,I,rw',q⟩
 exact subscriptTail_builtinR (x:=w) pl.typeIs slot_tuple_getitem.lookup
  (getItem_tuple (j:=j) (Q:=fun r s'=>r = w/\EP X pins σ Q r s') pl (by omega) (by omega) (by rw [Qh,← hl];exact h1) (by simpa using ew) ⟨rfl,fin⟩) hs
theorem zgW:IxR X zkm:=by
 intro value slice pins s σ H x y v u Q I rx ry h hs
 obtain ⟨z,i,c,rfl,rfl,hz,he,q⟩:=h
 obtain ⟨t,rfl⟩:=rx
 obtain ⟨t',rfl⟩:=ry
 obtain ⟨j,h1,h2,h3,h4,h5⟩:=zdG he
 have hl:z.cps.toList.length = z.length:=by simp [Str.length]
 rw [hl] at h1 h4 h5
 have hn:=zbt
 exact tail_any (typeIs_str s z t) slot_str_getitem.lookup (getItem_str (c:=c) (by
  have e1:decide (i < -(2 ^ 63:Int)) = false:=Qu (by omega)
  have e2:decide (i ≥ 2 ^ 63) = false:=Qu (by omega)
  rw [e1,e2,Bool.or_false]) (by rw [h1];simpa using h2) ⟨.str ⟨#[c]⟩,H,I.tok _,⟨_,rfl⟩,q⟩) hs
noncomputable def rIx (K:Frag):R2:=fun x y H Q=>zkn K x y H Q\/zkl K x y H Q\/zkm x y H Q
theorem zla:IxR X (rIx X.K):=zjz.or (zk9.or zgW)
theorem zf4 (its:List Value) (n j:Nat) (u:Value):Obj.mapSeq (·.setIfInBounds j u) { cls:=.type "list",data:=.seq its.toArray n } = { cls:=.type "list",data:=.seq (its.set j u).toArray n }:=by
 simp [Obj.mapSeq]
theorem Inv.lst (I:Inv X pins σ H s) (h:H p = some (.lst xs)) :
  ∃ (its:List Value) (n:Nat),Vals xs its/\s.heap.get? p = some { cls:=.type "list",data:=.seq its.toArray n }/\xs.length<=sizeLine:=by
 obtain ⟨z,its,n,r,e⟩:=I.hok p _ h
 exact ⟨its,n,r,e,z⟩
theorem Inv.lstUpd {n':Nat} {f:Obj->Obj} (I:Inv X pins σ H s) (h:H p = some (.lst xs))
 (ho:s.heap.get? p = some { cls:=.type "list",data:=.seq its.toArray n }) (hf:f { cls:=.type "list",data:=.seq its.toArray n } = { cls:=.type "list",data:=.seq its'.toArray n' }) (r:Vals ys its') (hz:ys.length<=sizeLine) (t:Nat) :
  Inv X pins σ (upd H p (.lst ys)) { s with heap:=s.heap.update p f,toks:=t }:=by
 have e:(s.heap.update p f).get? p = some { cls:=.type "list",data:=.seq its'.toArray n' }:=by
  rw [Heap.get?_update_self f ho (by rw [hf] <;> rfl),hf]
 refine I.write (x:=p) (e:=p) (by rw [h];trivial) (.inl rfl) (fun b u hb q=>(Heap.get?_update_other _ _ (Ne.symm hb)).trans q) ⟨_,e⟩ ?_
 exact ⟨hz,its',n',r,e⟩
noncomputable def zlX:V->V->V->Hp->(Hp->Prop)->Prop:=fun o i v H Q=>∃ p xs k j,o = .ref p/\i = .int k/\H p = some (.lst xs)/\ixN xs.length k = some j/\Q (upd H p (.lst (xs.set j v)))
theorem set_list:zfc X zlX:=by
 intro pins s σ H o i v ov iv u Q I ro ri rv h
 obtain ⟨p,xs,k,j,rfl,rfl,hp,hj,q⟩:=h
 cases ro
 obtain ⟨t,rfl⟩:=ri
 obtain ⟨its,n,r,ho,hz⟩:=I.lst hp
 obtain ⟨h1,h2,h3,h4⟩:=zfD hj
 have hl:=r.length
 have hn:=zbt
 have I':Inv X pins σ (upd H p (.lst (xs.set j v))) { s with heap:=s.heap.update p (Obj.mapSeq (·.setIfInBounds j u)) }:=
  I.lstUpd hp ho (zf4 its n j u) (r.set rv j) (by rw [length_set];exact hz) s.toks
 by_cases h0:0<=k
 ·have hk:k.toNat = j:=by
   rw [seqIndex_of h0 h4] at h1
   exact Qc h1
  exact PySem.W.ki_setAt ho h0 (by omega) (by rw [Qh,← hl];exact h4) (by rw [hk];exact ⟨_,I',q⟩)
 ·have hk:(k + (its.toArray.size:Int)).toNat = j:=by
   rw [seqIndex_neg (by omega) h3] at h1
   rw [Qh,← hl]
   exact Qc h1
  exact PySem.W.ki_setBack ho (by omega) (by rw [Qh,← hl];exact h3) (by omega) (by rw [hk];exact ⟨_,I',q⟩)
theorem zeq (lo hi:Option Int) (n:Nat):(sliceBounds lo hi none n).1 = ((HT.sIx n 0 lo:Nat):Int)/\(sliceBounds lo hi none n).2.1 = ((HT.sIx n n hi:Nat):Int)/\(sliceBounds lo hi none n).2.2 = 1:=by
 refine ⟨?_,?_,rfl⟩
 ·cases lo with
  | none=>simp [sliceBounds,HT.sIx]
  | some i=>
   simp only [sliceBounds,HT.sIx,Option.getD_none,show (1:Int) > 0 by decide,if_true]
   by_cases h:i < 0
   ·simp only [h,if_true] <;> omega
   ·simp only [h,if_false] <;> omega
 ·cases hi with
  | none=>simp [sliceBounds,HT.sIx]
  | some i=>
   simp only [sliceBounds,HT.sIx,Option.getD_none,show (1:Int) > 0 by decide,if_true]
   by_cases h:i < 0
   ·simp only [h,if_true] <;> omega
   ·simp only [h,if_false] <;> omega
theorem zdZ (its:List Value) (lo hi:Option Int):slicePick its.toArray lo hi none = ((its.drop (HT.sIx its.length 0 lo)).take (HT.sIx its.length its.length hi - HT.sIx its.length 0 lo)).toArray:=by
 obtain ⟨h1,h2,h3⟩:=zeq lo hi its.toArray.size
 unfold slicePick
 rw [h1,h2,h3]
 simp only [sliceRange_one,pick_run,Qh] <;> rfl
noncomputable def zmP (K:Frag):V->Option Int->Option Int->Hp->VK->Prop:=fun x lo hi H Q=>∃ a xs,x = .ref a/\SqL K H a xs/\∀ p,H p = none->Q (.ref p) (upd H p (.lst (cutV xs lo hi)))
theorem ziX:SlR X (zmP X.K):=by
 intro pins s σ H x v vl vu lo hi sl Q I rx hs pl pu h
 obtain ⟨a,xs,rfl,hx,q⟩:=h
 cases rx
 obtain ⟨its,r,ht,hz⟩:=I.list hx
 have hlen:=r.length
 refine ⟨"list",_,slot_list_getitem.lookup,ht.isList.typeIs,?_⟩
 refine wpAny_getItem_list_slice ht.isList hs pl pu .none (by simp) ?_ (by rw [Qh] <;> omega)
 rw [zdZ,← hlen]
 refine ⟨.ref s.heap.objs.size,_,I.laid (t':=s.toks) (o:=.lst (cutV xs lo hi)) (fun b ob q=>Q2 _ q) (Q3 _) ?_,rfl,q _ (I.hok.fresh (Q3 _))⟩
 exact ⟨Qi (zcy xs lo hi) hz,_,0,(r.drop (HT.sIx xs.length 0 lo)).take (HT.sIx xs.length xs.length hi - HT.sIx xs.length 0 lo),Qk _ rfl⟩
noncomputable def zL:V->Bool
 | .non=>true
 | .bl _=>true
 | .int _=>true
 | .str _=>true
 | _=>false
noncomputable def eqV:V->V->Bool
 | .non,.non=>true
 | .bl a,.bl b=>a == b
 | .bl a,.int b=>(if a then 1 else 0) == b
 | .int a,.bl b=>a == (if b then 1 else 0)
 | .int a,.int b=>a == b
 | .str a,.str b=>a == b
 | _,_=>false
theorem zcb {A:Around} {v:Value} (ry:RelV y u) (rx:RelV x v) (fy:zL y = true) (fx:zL x = true):SeqAt.EqAt A s u v (eqV y x):=by
 cases y with
 | non=>
  cases ry
  cases x with
  | non=>cases rx;exact SeqAt.EqAt.same _
  | bl b=>cases rx;exact SeqAt.EqAt.none_bool b
  | int b=>obtain ⟨t,rfl⟩:=rx;exact SeqAt.EqAt.none_int b t
  | str b=>obtain ⟨t,rfl⟩:=rx;exact SeqAt.EqAt.none_str b t
  | _=>exact absurd (show false = true from fx) Q4
 | bl a=>
  cases ry
  cases x with
  | non=>cases rx;exact SeqAt.EqAt.bool_none a
  | bl b=>cases rx;exact SeqAt.EqAt.bool_bool a b
  | int b=>obtain ⟨t,rfl⟩:=rx;exact SeqAt.EqAt.bool_int a b t
  | str b=>obtain ⟨t,rfl⟩:=rx;exact SeqAt.EqAt.bool_str a b t
  | _=>exact absurd (show false = true from fx) Q4
 | int a=>
  obtain ⟨t',rfl⟩:=ry
  cases x with
  | non=>cases rx;exact SeqAt.EqAt.int_none a t'
  | bl b=>cases rx;exact SeqAt.EqAt.int_bool a t' b
  | int b=>obtain ⟨t,rfl⟩:=rx;exact SeqAt.EqAt.int_int a t' b t
  | str b=>obtain ⟨t,rfl⟩:=rx;exact SeqAt.EqAt.int_str a t' b t
  | _=>exact absurd (show false = true from fx) Q4
 | str a=>
  obtain ⟨t',rfl⟩:=ry
  cases x with
  | non=>cases rx;exact SeqAt.EqAt.str_none a t'
  | bl b=>cases rx;exact SeqAt.EqAt.str_bool a t' b
  | int b=>obtain ⟨t,rfl⟩:=rx;exact SeqAt.EqAt.str_int a t' b t
  | str b=>obtain ⟨t,rfl⟩:=rx;exact SeqAt.EqAt.str_str a t' b t
  | _=>exact absurd (show false = true from fx) Q4
 | _=>exact absurd (show false = true from fy) Q4
noncomputable def eqU (x:V) (u:Value):Bool:=match u with
 | .none=>eqV .non x
 | .bool b=>eqV (.bl b) x
 | .int i _=>eqV (.int i) x
 | .str z _=>eqV (.str z) x
 | _=>false
theorem zhb (r:RelV y u) (f:zL y = true):eqU x u = eqV y x:=by
 cases y with
 | non=>cases r;rfl
 | bl b=>cases r;rfl
 | int i=>obtain ⟨t,rfl⟩:=r;rfl
 | str z=>obtain ⟨t,rfl⟩:=r;rfl
 | _=>exact absurd (show false = true from f) Q4
theorem zbz {x:V}:∀ {xs:List V} {us:List Value},Vals xs us->xs.all zL = true->us.any (eqU x) = xs.any fun y=>eqV y x
 | _,_,.nil,_=>rfl
 | y :: xs,u :: us,.cons r t,f=>by
  rw [all_cons,Qq] at f
  rw [any_cons,any_cons,zhb r f.1,zbz t f.2]
theorem zaZ {A:Around} {s:Shared} {x:V} {v:Value} (rx:RelV x v) (fx:zL x = true):∀ {xs:List V} {us:List Value},Vals xs us->xs.all zL = true->∀ u ∈ us,SeqAt.EqAt A s u v (eqU x u)
 | _,_,.nil,_=>fun u hu=>by cases hu
 | y :: xs,u :: us,.cons r t,f=>fun u' hu=>by
  rw [all_cons,Qq] at f
  rcases mem_cons.mp hu with rfl | hu
  ·rw [zhb r f.1];exact zcb r rx f.1 fx
  ·exact zaZ rx fx t f.2 u' hu
noncomputable def inV (x:V) (xs:List V):Bool:=xs.any fun y=>eqV y x
noncomputable def rIn (K:Frag) (neg:Bool):R2:=fun x y H Q=>∃ p xs,y = .ref p/\(SqL K H p xs\/SqT K H p xs)/\zL x = true/\xs.all zL = true/\Q (.bl (if neg then !inV x xs else inV x xs)) H
theorem zgJ:OpR X (compareOp .In) (rIn X.K false):=by
 intro pins s σ H x y v u Q I rx ry h
 obtain ⟨p,xs,rfl,hq,fx,fs,q⟩:=h
 cases ry
 rcases hq with hq | hq
 ·obtain ⟨its,r,pl,hz⟩:=I.list hq
  refine SeqAt.in_listAt (eqU x) pl.isList (fun w hw=>zaZ rx fx r fs w (by simpa using hw)) ⟨.bl _,H,I,rfl,?_⟩
  rw [show its.toArray.any (eqU x) = its.any (eqU x) by simp,zbz r fs]
  exact q
 ·obtain ⟨its,r,pl,hz⟩:=I.tuple hq
  refine SeqAt.in_tupleAt (eqU x) pl (fun w hw=>zaZ rx fx r fs w (by simpa using hw)) ⟨.bl _,H,I,rfl,?_⟩
  rw [show its.toArray.any (eqU x) = its.any (eqU x) by simp,zbz r fs]
  exact q
theorem zeC:OpR X (compareOp .NotIn) (rIn X.K true):=by
 intro pins s σ H x y v u Q I rx ry h
 obtain ⟨p,xs,rfl,hq,fx,fs,q⟩:=h
 cases ry
 rcases hq with hq | hq
 ·obtain ⟨its,r,pl,hz⟩:=I.list hq
  refine SeqAt.notIn_listAt (eqU x) pl.isList (fun w hw=>zaZ rx fx r fs w (by simpa using hw)) ⟨.bl _,H,I,rfl,?_⟩
  rw [show its.toArray.any (eqU x) = its.any (eqU x) by simp,zbz r fs]
  exact q
 ·obtain ⟨its,r,pl,hz⟩:=I.tuple hq
  refine SeqAt.notIn_tupleAt (eqU x) pl (fun w hw=>zaZ rx fx r fs w (by simpa using hw)) ⟨.bl _,H,I,rfl,?_⟩
  rw [show its.toArray.any (eqU x) = its.any (eqU x) by simp,zbz r fs]
  exact q
theorem ze4:CallR X (.builtin "len") (fun xs H Q=>∃ p ys,xs = [.ref p]/\(SqL X.K H p ys\/SqT X.K H p ys)/\Q (.int ys.length) H):=by
 intro pins s σ H xs us Q I r h
 obtain ⟨p,ys,rfl,hq,q⟩:=h
 obtain ⟨u,rfl,rx⟩:=vals1 r
 cases rx
 have hn:=zbt
 rcases hq with hq | hq
 ·obtain ⟨its,r',pl,hz⟩:=I.list hq
  have hlen:=r'.length
  exact Calls.call_len_list pl.isList (by simp only [Qh] <;> omega) ⟨.int ys.length,H,I.tok _,⟨s.toks + 1,by rw [Qh,hlen]⟩,q⟩
 ·obtain ⟨its,r',pl,hz⟩:=I.tuple hq
  have hlen:=r'.length
  exact len_tuple pl (by simp only [Qh] <;> omega) ⟨.int ys.length,H,I.tok _,⟨s.toks + 1,by rw [Qh,hlen]⟩,q⟩
theorem ze3:CallR X (.builtin "len") (fun xs H Q=>∃ z,xs = [.str z]/\z.length<=sizeLine/\Q (.int z.length) H):=by
 intro pins s σ H xs us Q I r h
 obtain ⟨z,rfl,hz,q⟩:=h
 obtain ⟨u,rfl,t,rfl⟩:=vals1 r
 have hn:=zbt
 exact len_str (by omega) ⟨.int z.length,H,I.tok _,⟨_,rfl⟩,q⟩
theorem ze2:CallR X (.type "list") (fun xs H Q=>∃ p ys,xs = [.ref p]/\(SqL X.K H p ys\/SqT X.K H p ys)/\∀ l,H l = none->Q (.ref l) (upd H l (.lst ys))):=by
 intro pins s σ H xs us Q I r h
 obtain ⟨p,ys,rfl,hq,q⟩:=h
 obtain ⟨u,rfl,rx⟩:=vals1 r
 cases rx
 have fin:∀ (its:List Value),Vals ys its->ys.length<=sizeLine->∀ (h':Heap) (c':Nat),(∀ b o',s.heap.get? b = some o'->h'.get? b = some o')->
   h'.get? s.heap.objs.size = some { cls:=.type "list",dict:=none,data:=.seq its.toArray c',slots:=#[] }->EP X pins σ Q (.ref s.heap.objs.size) { s with heap:=h' }:=fun its r' hz h' c' kp e=>
  ⟨.ref s.heap.objs.size,_,I.laid (t':=s.toks) kp (Q3 _) (show ObjOk X.prog X.w _ h' _ (.lst ys) from ⟨hz,its,c',r',e⟩),rfl,q _ (I.hok.fresh (Q3 _))⟩
 rcases hq with hq | hq
 ·obtain ⟨its,r',pl,hz⟩:=I.list hq
  have hlen:=r'.length
  obtain ⟨o,ho,hc,n,hd⟩:=pl.isList
  exact call_list_seq p (.inl rfl) ho hc hd (fun h' c' kp e=>fin its r' hz h' c' kp e) (by simp only [Qh] <;> omega)
 ·obtain ⟨its,r',pl,hz⟩:=I.tuple hq
  have hlen:=r'.length
  obtain ⟨o,ho,hc,n,hd⟩:=pl
  exact call_list_seq p (.inr rfl) ho hc hd (fun h' c' kp e=>fin its r' hz h' c' kp e) (by simp only [Qh] <;> omega)
theorem zd0:CallR X (.type "tuple") (fun xs H Q=>∃ p ys,xs = [.ref p]/\((SqL X.K H p ys/\∀ l,H l = none->Q (.ref l) (upd H l (.tup ys)))\/(SqT X.K H p ys/\Q (.ref p) H))):=by
 intro pins s σ H xs us Q I r h
 obtain ⟨p,ys,rfl,h⟩:=h
 obtain ⟨u,rfl,rx⟩:=vals1 r
 cases rx
 rcases h with ⟨hq,q⟩ | ⟨hq,q⟩
 ·obtain ⟨its,r',pl,hz⟩:=I.list hq
  have hlen:=r'.length
  refine call_tuple_list pl.isList (fun h' kp=>?_) (by simp only [Qh] <;> omega)
  have I1:Inv X pins σ H { s with heap:=h' }:=I.kept (t':=s.toks) kp
  have I2:Inv X pins σ (upd H h'.objs.size (.tup ys)) { s with heap:=h'.push { cls:=.type "tuple",data:=.seq its.toArray } }:=
   I1.laid (t':=s.toks) (fun b o e=>Q2 _ e) (Q3 _) (show ObjOk X.prog X.w _ _ _ (.tup ys) from ⟨hz,its,r',IsTup.new _ _,NoDict.new⟩)
  exact ⟨.ref h'.objs.size,_,I2,rfl,q _ (I1.hok.fresh (Q3 _))⟩
 ·obtain ⟨its,r',pl,hz⟩:=I.tuple hq
  exact call_tuple_same pl ⟨.ref p,H,I,rfl,q⟩
def tyV (K:Frag) (T:String) (x:V) (H:Hp):Prop:=match x with
 | .str _=>T = "str"
 | .int _=>T = "int"
 | .ref p=>(T = "list"/\∃ xs,SqL K H p xs)\/(T = "tuple"/\∃ o,K.lookup p = some o/\o.cls = .type "tuple"/\o.dict = none) \/
   (T = "dict"/\((∃ kvs,Rd H p (.dK kvs))\/∃ kvs,H p = some (.dT kvs)))\/(T = "set"/\∃ S n,H p = some (.set S n))
 | _=>False
theorem zkb {pins:List (Addr × Obj)} {σ:St} {H:Hp} {s:Shared} {T:String} {x:V} {v:Value} (I:Inv X pins σ H s) (r:RelV x v) (ty:tyV X.K T x H) :
  s.TypeIs v T/\∀ a,v = .ref a->∃ ob,s.heap.get? a = some ob/\ob.dict = none:=by
 cases x with
 | str z=>
  obtain ⟨t,rfl⟩:=r
  cases (show T = "str" from ty)
  exact ⟨typeIs_str s z t,fun _ e=>nomatch e⟩
 | int i=>
  obtain ⟨t,rfl⟩:=r
  cases (show T = "int" from ty)
  exact ⟨typeIs_int s i t,fun _ e=>nomatch e⟩
 | ref p=>
  cases r
  rcases ty with ⟨rfl,xs,hq⟩ | ⟨rfl,o,hk,hc,hd⟩ | ⟨rfl,hk⟩ | ⟨rfl,S,n,hk⟩
  ·obtain ⟨its,_,pl,_⟩:=I.list hq
   refine ⟨pl.isList.typeIs,fun a e=>?_⟩
   cases e
   obtain ⟨o,n,e,c,hd,_⟩:=pl
   exact ⟨o,e,hd⟩
  ·refine ⟨⟨o,I.kIn p o hk,hc⟩,fun a e=>?_⟩
   cases e
   exact ⟨o,I.kIn _ o hk,hd⟩
  ·have z:∃ o,s.heap.get? p = some o/\o.ExactDict:=by
    rcases hk with ⟨kvs,hk⟩ | ⟨kvs,hk⟩
    ·obtain ⟨_,_,_,_,o,_,_,e,ex,_⟩:=(show ObjOk X.prog X.w H s.heap p (.dK kvs) from hk.ok I.hok)
     exact ⟨o,e,ex⟩
    ·obtain ⟨_,_,_,_,o,_,_,e,ex,_⟩:=I.hok p _ hk
     exact ⟨o,e,ex⟩
   obtain ⟨o,e,ex⟩:=z
   refine ⟨⟨o,e,ex.1⟩,fun a e2=>?_⟩
   cases e2
   exact ⟨o,e,ex.2.1⟩
  ·obtain ⟨o,_,_,_,e,ex,_⟩:=I.hok p _ hk
   refine ⟨⟨o,e,ex.1⟩,fun a e2=>?_⟩
   cases e2
   exact ⟨o,e,ex.2.1⟩
 | _=>exact False.elim ty
noncomputable def tBM (K:Frag) (T:String) (r:V->List V->Hp->VK->Prop) (to:TE) (t:TA):TE:=fun σ H Q=>to σ H fun x H1=>tyV K T x H1/\t σ H1 fun xs H2=>r x xs H2 Q
variable {o:Expr} {es:List Expr} {to:TE} {t:TA} {name:Str} {apos cpos:Pos} {T id:String} {r:V->List V->Hp->VK->Prop}
theorem y9 (pa:PlainAttrs T) (slot:Slot T name id) (hty:typeOf (.builtin id) = pure (.type "method_descriptor")) (hm:MtR X id r) (ho:PE X o to) (ha:PA X (e :: es) t)
  (hbase:attributeBase o name X.env (eval o X.env) = eval o X.env:=by rfl)
  (hfew:((backTo cpos (starEach (e :: es) X.env)).all (fun x=>!x.1) && (backToKw cpos (keywordEach [] X.env)).all (fun x=>x.1.isSome)
   && decide ((e :: es).length + ([]:List Keyword).length + (if ([]:List Keyword).isEmpty then 0 else 1) < 30)) = true:=by rfl)
  (hline:(apos.endLine == cpos.line) = true:=by rfl) (hs:starEach (e :: es) X.env = (false,eval e X.env) :: starEach es X.env:=by rfl) (hplain:(backTo cpos (starEach es X.env)).any (·.1) = false:=by rfl) :
  PE X (.Call (.Attribute o name apos) (e :: es) [] cpos) (tBM X.K T r to t):=by
 intro pins s σ H Q I h
 refine wpAny_Call_method_late hbase hfew hline rfl (thn (ho pins s σ H _ I h) fun v s1 ⟨x,H1,I1,r1,ty,q1⟩=>?_)
 obtain ⟨h1,h2⟩:=zkb I1 r1 ty
 refine ⟨T,id,pa,slot,hty,h1,h2,?_⟩
 have hA:=ha cpos pins s1 σ H1 _ I1 q1
 rw [hs] at hA ⊢
 refine Calls.callWith_builtin (by show (false || (backTo cpos (starEach es X.env)).any (·.1)) = false;rw [hplain] <;> rfl) (Calls.evalArgs_plain ?_)
 exact thn hA fun us s2 ⟨vs,H2,I2,r2,q2⟩=>hm pins s2 σ H2 x vs v us Q I2 r1 r2 q2
end
def MtM (X:Cx) (id:String) (r:V->List V->Hp->VK->Prop):Prop:=
 ∀ (pins:List (Addr × Obj)) (s:Shared) (σ:St) (H:Hp) (x:V) (xs:List V) (v:Value) (us:List Value) (Q:VK),Inv X pins σ H s->RelV x v->Vals xs us->r x xs H Q->
  wpAny (model X.prog X.w) X.A (call (.builtin id) (v :: us)) (EP X pins σ Q) X.xe s
theorem Vals.one:∀ {x:V} {us:List Value},Vals [x] us->∃ u,us = [u]/\RelV x u
 | _,_,.cons r .nil=>⟨_,rfl,r⟩
theorem Vals.two:∀ {x y:V} {us:List Value},Vals [x,y] us->∃ u v,us = [u,v]/\RelV x u/\RelV y v
 | _,_,_,.cons r (.cons q .nil)=>⟨_,_,rfl,r,q⟩
theorem Vals.zero:∀ {us:List Value},Vals [] us->us = []
 | _,.nil=>rfl
theorem Vals.eraseIdx:∀ {xs:List V} {us:List Value} (i:Nat),Vals xs us->Vals (xs.eraseIdx i) (us.eraseIdx i)
 | _,_,_,.nil=>.nil
 | _,_,0,.cons _ t=>t
 | _,_,i + 1,.cons r t=>.cons r (Vals.eraseIdx i t)
theorem Vals.reverse (h:Vals xs us):Vals xs.reverse us.reverse:=by
 induction h with
 | nil=>exact .nil
 | cons r t ih=>rw [List.reverse_cons,List.reverse_cons];exact Vals.append ih (.cons r .nil)
theorem Vals.rep {xs:List V} {us:List Value} (h:Vals xs us):∀ k:Nat,Vals (List.replicate k xs).flatten (List.replicate k us).flatten
 | 0=>.nil
 | k + 1=>by
  rw [replicate_succ,replicate_succ,flatten_cons,flatten_cons]
  exact Vals.append h (Vals.rep h k)
theorem foldl_rep (its:List Value):∀ (k:Nat) (acc:List Value),
  List.foldl (fun x1 x2=>x1 ++ x2) acc.toArray (List.replicate k its.toArray) = (acc ++ (List.replicate k its).flatten).toArray
 | 0,acc=>by simp
 | k + 1,acc=>by
  have e:acc.toArray ++ its.toArray = (acc ++ its).toArray:=by simp
  have e2:(acc ++ its) ++ (List.replicate k its).flatten = acc ++ (List.replicate (k + 1) its).flatten:=by
   rw [replicate_succ,flatten_cons,List.append_assoc]
  rw [← e2,← foldl_rep its k (acc ++ its),← e,replicate_succ,foldl_cons]
variable {t':Nat}
section
variable {l b:Addr} {zs:List V}
theorem Inv.lset {f:Array Value->Array Value} {t':Nat} (I:Inv X pins σ H s) (hH:H l = some (.lst xs))
 (e:s.heap.get? l = some { cls:=.type "list",data:=.seq its.toArray n }) (hf:f its.toArray = its'.toArray) (hv:Vals ys its') (hz:ys.length<=sizeLine) :
  Inv X pins σ (upd H l (.lst ys)) { s with heap:=s.heap.update l (Obj.mapSeq f),toks:=t' }:=by
 have q:=PySem.IsL.update e f
 rw [hf] at q
 refine I.write (x:=l) (e:=l) (by rw [hH];exact trivial) (.inl rfl) (fun b' u hb hu=>(Heap.get?_update_other s.heap (Obj.mapSeq f) (Ne.symm hb)).trans hu) ⟨_,q⟩ ?_
 exact ⟨hz,its',_,hv,q⟩
theorem Inv.lnew {t':Nat} (I:Inv X pins σ H s) (hv:Vals ys its) (hz:ys.length<=sizeLine) :
  Inv X pins σ (upd H s.heap.objs.size (.lst ys)) { s with heap:=s.heap.push { cls:=.type "list",data:=.seq its.toArray },toks:=t' }:=
 I.laid (fun _ _ q=>Q2 _ q) (Q3 _) ⟨hz,its,0,hv,Qk _ rfl⟩
theorem Inv.fresh (I:Inv X pins σ H s):H s.heap.objs.size = none:=I.hok.fresh (Q3 _)
theorem Inv.lstM (I:Inv X pins σ H s) (hH:H l = some (.lst xs)):xs.length<=sizeLine/\∃ (its:List Value) (n:Nat),Vals xs its/\xs.length = its.length/\s.heap.get? l = some { cls:=.type "list",data:=.seq its.toArray n }:=by
 obtain ⟨z,its,n,r,e⟩:=I.hok l _ hH
 exact ⟨z,its,n,r,r.length,e⟩
theorem zhW (h:n<=sizeLine):Builtin.List.listTooLong n = false:=by
 unfold Builtin.List.listTooLong
 exact Qu (by omega)
end
section
noncomputable def zdp:V->List V->Hp->VK->Prop:=fun x vs H Q=>∃ l xs y,x = .ref l/\vs = [y]/\H l = some (.lst xs)/\xs.length < sizeLine/\Q .non (upd H l (.lst (xs ++ [y])))
theorem yC:MtM X "list.append" zdp:=by
 intro pins s σ H x vs v us Q I rx rv h
 obtain ⟨l,xs,y,rfl,rfl,hH,hz,q⟩:=h
 cases rx
 obtain ⟨u,rfl,ru⟩:=rv.one
 obtain ⟨z,its,n,r,hl,e⟩:=I.lstM hH
 refine call_meets F.slot_list_append ⟨_,e,rfl⟩ F.entry_list_append (F.args_list_append_2 _ _) (PySem.list_append l its.toArray n u (by rw [Qh];omega)) ⟨e,?_⟩
 refine ⟨.non,_,I.lset (its':=its ++ [u]) hH e (by simp) (r.append (.cons ru .nil)) ?_,rfl,q⟩
 rw [Qm,Qs]
 omega
theorem len_rep {α:Type} (xs:List α) (k:Nat):(List.replicate k xs).flatten.length = k * xs.length:=by
 induction k with
 | zero=>simp
 | succ k ih=>rw [replicate_succ,flatten_cons,Qm,ih,Nat.succ_mul,Nat.add_comm]
end
end L2
namespace Att
open PySem PySem.W PySem.Calls PyProof.Rows
variable {h:Heap} {P:Params}
theorem zc7:∀ (ns:List Int) (vs:List Value),WellAll P h vs (ns.map WData.int)->IntsAre vs ns:=by
 intro ns
 induction ns with
 | nil=>
  intro vs w
  rw [map_nil] at w
  cases w
  exact .nil
 | cons n ns ih=>
  intro vs w
  rw [map_cons] at w
  cases w with
  | cons a b=>
   cases a
   exact .cons _ _ (ih _ b)
variable {n:Nat} {l:OpenLaw}
theorem zgu (hn:l.most = some n) {args:List WData} {vals:List Value}
 (hpre:l.row.toRowW.claim.pre args = true) (hwl:WellAll P h vals args) :
  ∃ a vs ns,vals = [Value.ref a]/\args = [WData.list (ns.map WData.int)]/\h.get? a = some { cls:=.type "list",data:=.seq vs.toArray }/\IntsAre vs ns/\ns.length<=n:=by
 have hsh:WShape.hasAll [] args [.list .int] = true:=(pre_splitW hpre).1
 have hc:l.pre.holds [] { args:=args } = true:=(pre_splitW hpre).2
 obtain ⟨d,r,rfl,h1,h2⟩:=hasAllW_cons hsh
 obtain rfl:=hasAllW_nil h2
 obtain ⟨xs,rfl,h3⟩:=hasW_list h1
 obtain ⟨ns,rfl⟩:=items_int h3
 have hlen:ns.length<=n:=by
  unfold OpenLaw.pre at hc
  have h4:(WTm.not (.lt (.lit (.int (n:Int))) (.len (.arg 0)))).holds [] { args:=[.list (ns.map .int)] } = true:=by
   have h4:=(holds_andW hc).1
   rw [hn] at h4
   exact h4
  have h5:=condW_of h4 (w_not (w_lt w_lit (w_len_list (w_arg rfl))))
  rw [Qg] at h5
  refine Nat.le_of_not_lt fun q=>?_
  have q':(n:Int) < ((ns.length:Nat):Int):=by omega
  first
   | (rw [Qt q'] at h5;exact absurd h5 (by decide))
   | (simp at h5;omega)
 cases hwl with
 | cons w1 w2=>
  cases w2
  cases w1 with
  | list ho hall=>exact ⟨_,_,ns,rfl,rfl,ho,zc7 ns _ hall,hlen⟩
theorem zgB (l:OpenLaw) (args:List WData):l.row.toRowW.claim.post args (.bool true) args = true:=
 postW_of (r:=l.row.toRowW) (X:=(true == true))
  (show WShape.has [] (.bool true) .bool = true by first | rfl | decide | simp [WShape.has,WShape.arms,WShape.armsAll])
  (show (WTm.eq .res (.lit (.bool true))).value [] { args:=args,res:=some (.bool true),after:=args } = some (.bool (true == true)) from w_eq_bool (w_res rfl) w_lit) rfl
theorem zfj {q:Program} {loose:List Str} {XP:(Str->Option Value)->Heap->Prop} {YP:World->Heap->Prop} {d:DefRec}
 (hn:l.most = some n) (hdf:d.params.defaults = [])
 (call:∀ (w:World) (s₀ s₁:Shared) (mg mb:Str->Option Value) (fa:Addr) (o:Obj) (pm cd doc:Value) (a:Addr) (vs:List Value) (ns:List Int),
 Ground q loose [] XP w s₀ mg mb s₁.heap->YP w s₁.heap->
 s₁.heap.get? fa = some o->o.data = .func (docDef d.name d.params d.body d.scope pm cd doc)->s₁.heap.CodeRec cd d.name->mg d.name = some (.ref fa)->
 s₁.heap.get? a = some { cls:=.type "list",data:=.seq vs.toArray }->IntsAre vs ns->ns.length<=n->s₁.gens = #[]->
 codeAny (model l.prog w) callerA (.call (.ref fa) ⟨[.ref a],[]⟩) (fun r s'=>r = .ok (.ret (.bool true))/\OldK s₁.heap s'.heap/\s'.os = s₁.os/\AllBare s'.gens) s₁) :
  WalkO q loose XP YP l.row.toRowW d [] (fun f vs=>PySem.call f vs):=by
 intro w s₀ s₁ mg mb G Y fa o pm cd doc dV kV ho hd hcd hD hmg hg args vals as hpre hlay hrd hwl hlo
 obtain rfl:dV = .none:=Dflts.none hD hdf
 obtain rfl:kV = .none:=Dflts.noKw hD
 obtain ⟨a,vs,ns,rfl,rfl,hobj,hints,hlen⟩:=zgu hn hpre hwl
 refine enter_call (codeAny_mono (call w s₀ s₁ mg mb fa o pm cd doc a vs ns G Y ho (fd_plain hd) hcd hmg hobj hints hlen hg) fun r s' hq=>?_)
 obtain ⟨rfl,h2,h3,h4⟩:=hq
 exact ⟨.inl ⟨.bool true,.bool true,[],rfl,fun _=>rfl,.bool true,zgB l _,fun _=>⟨List.Pairwise.nil,fun _ hm=>(nomatch hm)⟩⟩,h2,h3,h4⟩
end Att
namespace L2
open PySem PySem.Spec PyProof.Rows
theorem zdM:∀ {vs:List Value} {ns:List Int},IntsAre vs ns->Vals (ns.map V.int) vs
 | _,_,.nil=>.nil
 | _,_,.cons n t h=>.cons ⟨t,rfl⟩ (zdM h)
def zgo (H:Hp):Prop:=∀ b,H b = none\/∃ o xs,H b = some (.frz o (.lst xs))
variable {CX:CXT} {K:Frag} {fd:FuncData} {k:Nat} {P:Program} {sp:Sp} {x:Str} {mg:Str->Option Value} {w:World}
theorem zh3 {mb:Str->Option Value} {fa a:Addr} {s₁:Shared} {vs:List Value} {ns:List Int}
 (KX:K.In s₁.heap) (hns:s₁.heap.Ns mainGlobals mg) (hb:s₁.heap.Ns builtinsNs mb) (hbb:∀ x:Str,x ≠ "__name__"->mb x = bootBuiltins x) (hlim:s₁.heap.NoLimit) (hg:s₁.gens = #[])
 (ha:s₁.heap.get? a = some { cls:=.type "list",data:=.seq vs.toArray }) (hi:IntsAre vs ns) (hl:ns.length<=sizeLine) (hr:Room k callerA)
 (F:∀ base:Heap,K.In base->base.Ns mainGlobals mg->FnOk P w K mg base CX k fa fd [x] sp) (hbind:∀ (s:Shared) (u:Value),BindsTo s fd ⟨[u],[]⟩ [(x,u)])
 (hsp:∀ H:Hp,zgo H->SqL K H a (ns.map V.int)->sp [.ref a] H (fun v _=>v = .bl true) fun _ _ _=>False)
 (hCX:∀ H e s',CX [] H s₁ (fun _ _ _=>False) e s'->False) :
  codeAny (model P w) callerA (.call (.ref fa) ⟨[.ref a],[]⟩) (fun r s'=>r = .ok (.ret (.bool true))/\OldK s₁.heap s'.heap/\s'.os = s₁.os/\AllBare s'.gens) s₁:=by
 have rv:=zdM hi
 have lenV:=hi.length
 -- from an abstract heap in which nothing but the script may be tracked
 have core:∀ H:Hp,zgo H->SqL K H a (ns.map V.int)->HOk P w H s₁.heap->(∀ b,H b ≠ none->b = a)->(H a ≠ none->K.lookup a = none)->
   codeAny (model P w) callerA (.call (.ref fa) ⟨[.ref a],[]⟩) (fun r s'=>r = .ok (.ret (.bool true))/\OldK s₁.heap s'.heap/\s'.os = s₁.os/\AllBare s'.gens) s₁:=by
  intro H hO hS hok hA hK
  have base_of:∀ {b:Addr} {o:Obj},s₁.heap.get? b = some o->H b = none->(zbN s₁.heap H).get? b = some o:=fun e n=>zic e n
  have noA:∀ {b:Addr} {o:Obj} {es:Array DictEntry} {ep:Nat},s₁.heap.get? b = some o->o.data = .dict es ep->H b = none:=fun {b o es ep} e d=>by
   cases q:H b with
   | none=>rfl
   | some u=>
    have e':b = a:=hA b (by rw [q];simp)
    subst e'
    rw [ha] at e;cases e
    have d':Data.seq vs.toArray _ = Data.dict es ep:=d
    cases d'
  have nsK:∀ {b:Addr} {m:Str->Option Value},s₁.heap.Ns b m->(zbN s₁.heap H).Ns b m:=fun {b m} ⟨o,es,ep,e,d,r⟩=>⟨o,es,ep,base_of e (noA e d),d,r⟩
  have hKb:K.In (zbN s₁.heap H):=fun b o e=>base_of (KX b o e) (by
   cases q:H b with
   | none=>rfl
   | some u=>
    have e':b = a:=hA b (by rw [q];simp)
    subst e'
    rw [hK (by rw [q];simp)] at e;cases e)
  have hM:Mod K mg (zbN s₁.heap H):=⟨hKb,nsK hns,⟨mb,nsK hb,hbb⟩,let ⟨mc,h1,h2⟩:=hlim;⟨mc,nsK h1,h2⟩⟩
  have e0:Env0 P w K mg (zbN s₁.heap H) callerA [] s₁ H:=⟨rfl,hM,fun b o e=>zjo e,Nat.le_of_eq (zgZ _ _),trivial,fun b hb=>absurd (show b ∈ ([]:List Addr) from hb) (by simp),hok,.of_eq hg⟩
  refine codeAny_mono ((F _ hKb (nsK hns)).run callerA [] s₁ H ⟨[.ref a],[]⟩ [.ref a] [.ref a] _ _ hr e0 (hbind s₁ (.ref a)) (.cons rfl .nil) (hsp H hO hS)) fun r s' h=>?_
  cases r with
  | error e=>exact (hCX H e s' h).elim
  | ok fl=>
   cases fl with
   | next=>exact False.elim h
   | brk=>exact False.elim h
   | cont=>exact False.elim h
   | ret u=>
    obtain ⟨v,H',os,bare,un,hok',r',q⟩:=h
    have q':v = .bl true:=q
    subst q'
    obtain rfl:u = Value.bool true:=r'
    refine ⟨rfl,OldK.of_keep fun b o e=>?_,os,bare⟩
    cases q:H b with
    | none=>exact un.keep b o e q (by intro z;exact absurd (show b ∈ ([]:List Addr) from z) (by simp)) (by simp)
    | some u=>
     rcases hO b with z | ⟨ob,xs,z⟩
     ·rw [q] at z;cases z
     ·have z2:=un.frzs b ob _ z
      obtain ⟨e1,_⟩:=hok b _ z
      obtain ⟨e2,_⟩:=hok' b _ z2
      rw [e] at e1;cases e1
      exact e2
 cases hk:K.lookup a with
 | some o=>
  -- the script is one of the module's own objects
  have e:=KX a o hk
  rw [ha] at e
  cases e
  refine core (fun _=>none) (fun _=>.inl rfl) (.inr ⟨_,vs.toArray,_,hk,rfl,rfl,rfl,by rw [Qh,lenV];exact hl,by simpa using rv⟩) (fun b u z=>by have z':(none:Option HO) = some u:=z;cases z') (fun b z=>absurd rfl z) fun z=>absurd rfl z
 | none=>
  refine core (fun b=>if b = a then some (.frz { cls:=.type "list",data:=.seq vs.toArray } (.lst (ns.map V.int))) else none) (fun b=>?_) (.inl (.inr ⟨{ cls:=.type "list",data:=.seq vs.toArray },if_pos rfl⟩)) (fun b u z=>?_) (fun b z=>?_) fun _=>hk
  ·by_cases hb:b = a
   ·exact .inr ⟨_,_,if_pos hb⟩
   ·exact .inl (if_neg hb)
  ·by_cases hb:b = a
   ·have z':=(if_pos hb).symm.trans z
    cases z'
    subst hb
    exact ⟨ha,by rw [Qg];exact hl,vs,_,rv,ha⟩
   ·have z':=(if_neg hb).symm.trans z
    cases z'
  ·by_cases hb:b = a
   ·exact hb
   ·exact absurd (if_neg hb) z
noncomputable abbrev KOf {K:Frag} {h:Heap} (_:K.In h):Frag:=K
variable {XP:(Str->Option Value)->Heap->Prop} {d:DefRec} {loose:List Str} {n:Nat} {q:Program} {l:PySem.W.OpenLaw} {YP:World->Heap->Prop}
theorem ziT {K:Params->Frag} {CX:World->CXT} {sp:World->Sp} 
 (hn:l.most = some n) (hn2:n<=sizeLine) (hdf:d.params.defaults = []) (hr:Room k callerA)
 (hY:∀ (w:World) (h:Heap),YP w h->(K w.params).In h)
 (F:∀ (w:World) (mg:Str->Option Value) (fa:Addr) (h:Heap),(K w.params).In h->h.Ns mainGlobals mg->mg d.name = some (.ref fa)->
 ∃ fd:FuncData,(∀ (s:Shared) (u:Value),BindsTo s fd ⟨[u],[]⟩ [(x,u)]) /\
 ∀ base:Heap,(K w.params).In base->base.Ns mainGlobals mg->FnOk l.prog w (K w.params) mg base (CX w) k fa fd [x] (sp w))
 (hsp:∀ (w:World) (H:Hp) (a:Addr) (ns:List Int),ns.length<=n->zgo H->SqL (K w.params) H a (ns.map V.int)->sp w [.ref a] H (fun v _=>v = .bl true) fun _ _ _=>False)
 (hCX:∀ (w:World) (H:Hp) (s:Shared) (e:Value) (s':Shared),CX w [] H s (fun _ _ _=>False) e s'->False) :
  PySem.W.WalkO q loose XP YP l.row.toRowW d [] (fun f vs=>PySem.call f vs):=by
 refine Att.zfj hn hdf fun w s₀ s₁ mg mb fa o pm cd doc a vs ns G Y ho hd hcd hmg hobj hints hlen hg=>?_
 have KX:=hY w _ Y
 obtain ⟨fd,hb,hF⟩:=F w mg fa _ KX G.T.g hmg
 exact zh3 KX G.T.g G.T.b G.T.builtins G.T.nolimit hg hobj hints (Qi hlen hn2) hr hF hb (fun H hO hS=>hsp w H a ns hlen hO hS) fun H e s'=>hCX w H s₁ e s'
theorem zhB {K:Params->Frag} {sp:Frag->Sp} 
 (hn:l.most = some n) (hn2:n<=sizeLine) (hdf:d.params.defaults = []) (hr:Room k callerA)
 (hY:∀ (w:World) (h:Heap),YP w h->(K w.params).In h)
 (F:∀ (w:World) (mg:Str->Option Value) (fa:Addr) (h:Heap),(K w.params).In h->h.Ns mainGlobals mg->mg d.name = some (.ref fa)->
 ∃ fd:FuncData,(∀ (s:Shared) (u:Value),BindsTo s fd ⟨[u],[]⟩ [(x,u)]) /\
 ∀ base:Heap,(K w.params).In base->base.Ns mainGlobals mg->FnOk l.prog w (K w.params) mg base CX k fa fd [x] (sp (K w.params)))
 (hsp:∀ (K:Frag) (H:Hp) (a:Addr) (ns:List Int),ns.length<=n->zgo H->SqL K H a (ns.map V.int)->sp K [.ref a] H (fun v _=>v = .bl true) fun _ _ _=>False)
 (hCX:∀ (H:Hp) (s:Shared) (e:Value) (s':Shared),CX [] H s (fun _ _ _=>False) e s'->False) :
  PySem.W.WalkO q loose XP YP l.row.toRowW d [] (fun f vs=>PySem.call f vs):=
 ziT (K:=K) (CX:=fun _=>CX) (sp:=fun w=>sp (K w.params)) hn hn2 hdf hr hY F (fun w H a ns h1 h2 h3=>hsp (K w.params) H a ns h1 h2 h3) fun _ H s e s'=>hCX H s e s'
noncomputable def z7 (s:Stmt):Arguments:=match s with
 | .FunctionDef _ a _ _ _ _ _ _ _ _=>a
 | _=>{ posonlyargs:=[],args:=[],vararg:=none,kwonlyargs:=[],kw_defaults:=[],kwarg:=none,defaults:=[] }
noncomputable def zF (s:Stmt):List Stmt:=match s with
 | .FunctionDef _ _ b _ _ _ _ _ _ _=>b
 | _=>[]
noncomputable def qg (s:Stmt):Scope:=match s with
 | .FunctionDef _ _ _ _ _ _ sc _ _ _=>sc
 | _=>{ kind:=.function,names:=[],isGenerator:=false,isCoroutine:=false }
noncomputable abbrev CX0:CXT:=fun _ _ _ _ _ _=>False
noncomputable abbrev E0:XK:=fun _ _ _=>False
variable {X:Cx}
theorem zl8:Passes CX0 X E0:=fun _ _ _ _ _ _ _ h=>h.elim
structure Fun (K:Frag) (x qual:Str) (st:Stmt) (f:Addr) (fd:FuncData):Prop where
 ex:∃ (oc:Value) (od:Option Addr) (kV doc pm:Value) (an:Option Addr) (cdv ct:Value) (osl:Array (Option Value)),
  fd = PySem.W.fnOf x qual (z7 st) (zF st) (qg st) .none kV doc pm an cdv ct/\K.lookup f = some ⟨oc,od,.func fd,osl⟩/\PySem.W.codeIn K cdv qual = true
 kp:PySem.W.keepIn K (.ref f) = true
variable {f:Addr} {ps:List Str} {st:Stmt} {qual:Str}
section
variable {base:Heap}
theorem Fun.ok {N:List Str} (F:Fun K x qual st f fd) (S:FnScope N ps (qg st)) (len:∀ vs H Q E,sp vs H Q E->vs.length = ps.length)
 (hbody:∀ (cdv:Value) (A:Around) (outer:List Env) (s:Shared) (H:Hp) (vs:List V) (Q:VK) (E:XK),Room k (A.deeper (envOfC qual (qg st) s.heap.objs.size f cdv))->sp vs H Q E->
 ∃ t,PSs (za1 CX0 P w K mg base N qual (qg st) f cdv A outer s H E).nox (zF st) t/\t { nx:=fun _ H'=>Q .non H',rt:=Q } (start N vs) H):FnOk P w K mg base CX0 (k + 1) f fd ps sp:=by
 obtain ⟨oc,od,kV,doc,pm,an,cdv,ct,osl,rfl,lk,hcd⟩:=F.ex
 refine zmt lk hcd S len fun A outer s H vs Q E hr hsp=>?_
 obtain ⟨t,h,q⟩:=hbody cdv A outer s H vs Q E hr hsp
 exact ⟨t,h.nox,q⟩
theorem Fun.binds (F:Fun K x qual st f fd)
 (h:∀ (kV doc pm:Value) (an:Option Addr) (cdv ct:Value) (us:List Value),us.length = ps.length->bindArgs (PySem.W.fnOf x qual (z7 st) (zF st) (qg st) .none kV doc pm an cdv ct) ⟨us,[]⟩ = pure (ps.zip us)):Binds K fd ps []:=by
 obtain ⟨oc,od,kV,doc,pm,an,cdv,ct,osl,rfl,lk,hcd⟩:=F.ex
 exact .all (h kV doc pm an cdv ct)
theorem zg6 {oc:Value} {od an:Option Addr} {osl:Array (Option Value)} {kV doc pm cdv ct:Value} (l:K.lookup f = some ⟨oc,od,.func (PySem.W.fnOf x qual (z7 st) (zF st) (qg st) .none kV doc pm an cdv ct),osl⟩)
 (c:PySem.W.codeIn K cdv qual = true) (k:PySem.W.keepIn K (.ref f) = true):Fun K x qual st f (PySem.W.fnOf x qual (z7 st) (zF st) (qg st) .none kV doc pm an cdv ct):=⟨⟨oc,od,kV,doc,pm,an,cdv,ct,osl,rfl,l,c⟩,k⟩
end
section
theorem pv (i:Nat) {pos:Pos} (hN:X.N[i]? = some x:=by rfl) (hv:Vis X.env.scope x:=by first | exact Or.inl rfl | exact Or.inr (Or.inl rfl) | exact Or.inr (Or.inr rfl)) (hd:(x == ("__debug__":Str)) = false:=by decide)
 (hcd:(x == ("__classdict__":Str)) = false:=by decide):PE X (.Name x pos) (zfT i):=zky hN hv hd hcd
end
end L2
set_option maxHeartbeats 4000000
namespace L2
open PySem PySem.Spec PyProof.Rows
variable {y:V} {u:Value}
section
variable {κ:Type} [DecidableEq κ]
noncomputable def zaT (kvs:List (κ × V)) (k:κ):Option V:=(kvs.find? fun kv=>decide (kv.1 = k)).map (·.2)
noncomputable def putK (kvs:List (κ × V)) (k:κ) (v:V):List (κ × V):=
 if (kvs.any fun kv=>decide (kv.1 = k)) = true then kvs.map (fun kv=>if kv.1 = k then (kv.1,v) else kv) else kvs ++ [(k,v)]
noncomputable def znL (kvs:List (κ × V)) (k:κ):List (κ × V):=kvs.filter fun kv=>decide (kv.1 ≠ k)
theorem zmz {p:κ × V} {r:List (κ × V)} {k:κ} (e:p.1 = k):zaT (p :: r) k = some p.2:=by simp [zaT,find?_cons,e]
theorem zmA {p:κ × V} {r:List (κ × V)} {k:κ} (e:¬ p.1 = k):zaT (p :: r) k = zaT r k:=by simp [zaT,find?_cons,e]
theorem KV.any {kvs:List (κ × V)} {vs:List (κ × Value)} (r:KV kvs vs) (k:κ):(kvs.any fun kv=>decide (kv.1 = k)) = vs.any fun kv=>decide (kv.1 = k):=by
 unfold KV at r
 induction r with
 | nil=>rfl
 | cons h t ih=>rw [any_cons,any_cons,ih,h.1]
theorem KV.repl {kvs:List (κ × V)} {vs:List (κ × Value)} (r:KV kvs vs) (k:κ) (ry:RelV y u) :
  KV (kvs.map fun kv=>if kv.1 = k then (kv.1,y) else kv) (vs.map fun kv=>if kv.1 = k then (kv.1,u) else kv):=by
 unfold KV at r ⊢
 induction r with
 | nil=>exact .nil
 | @cons p q ps qs h t ih=>
  rw [map_cons,map_cons]
  refine .cons ?_ ih
  obtain ⟨h1,h2⟩:=h
  by_cases e:p.1 = k
  ·rw [if_pos e,if_pos (h1.symm.trans e)];exact ⟨h1,ry⟩
  ·rw [if_neg e,if_neg (fun z=>e (h1.trans z))];exact ⟨h1,h2⟩
theorem KV.put {kvs:List (κ × V)} {vs:List (κ × Value)} (r:KV kvs vs) (k:κ) (ry:RelV y u):KV (putK kvs k y) (stored vs k u):=by
 unfold putK stored
 rw [r.any k]
 by_cases e:(vs.any fun kv=>decide (kv.1 = k)) = true
 ·rw [if_pos e,if_pos e];exact r.repl k ry
 ·rw [if_neg e,if_neg e];exact Paired.snoc r ⟨rfl,ry⟩
end
noncomputable def zgP (kvs more:List (Key × V)):List (Key × V):=more.foldl (fun acc kv=>putK acc kv.1 kv.2) kvs
structure M1 (X:Cx) (o:Expr) (m:Str) (apos:Pos) (e:Expr) (cpos:Pos):Prop where
 base:attributeBase o m X.env (eval o X.env) = eval o X.env
 few:((backTo cpos (starEach [e] X.env)).all (fun x=>!x.1) && (backToKw cpos (keywordEach [] X.env)).all (fun x=>x.1.isSome)
  && decide (([e]:List Expr).length + ([]:List Keyword).length + (if ([]:List Keyword).isEmpty then 0 else 1) < 30)) = true
 line:(apos.endLine == cpos.line) = true
 trees:backTo cpos (starEach [e] X.env) = [(false,eval e X.env)]
structure M2 (X:Cx) (o:Expr) (m:Str) (apos:Pos) (e f:Expr) (cpos:Pos):Prop where
 base:attributeBase o m X.env (eval o X.env) = eval o X.env
 few:((backTo cpos (starEach [e,f] X.env)).all (fun x=>!x.1) && (backToKw cpos (keywordEach [] X.env)).all (fun x=>x.1.isSome)
  && decide (([e,f]:List Expr).length + ([]:List Keyword).length + (if ([]:List Keyword).isEmpty then 0 else 1) < 30)) = true
 line:(apos.endLine == cpos.line) = true
 trees:backTo cpos (starEach [e,f] X.env) = [(false,eval e X.env),(false,eval f X.env)]
def Bnd (n:Nat) (i:Int):Prop:=i.natAbs < 10 ^ n
instance (n:Nat) (i:Int):Decidable (Bnd n i):=inferInstanceAs (Decidable (i.natAbs < 10 ^ n))
variable {i j:Int} {n:Nat}
theorem Bnd.add (h:Bnd n i) (k:Bnd n j):Bnd (n + 1) (i + j):=by
 unfold Bnd at *
 have h1:=Int.natAbs_add_le i j
 rw [Nat.pow_succ]
 omega
theorem Bnd.neg (h:Bnd n i):Bnd n (-i):=by
 unfold Bnd at *
 rw [Int.natAbs_neg];exact h
theorem zfK (h:Bnd n i) (hn:n<=3000):Builtin.Int.intBits i<=2 ^ 20:=by
 unfold Builtin.Int.intBits
 split
 ·exact Nat.zero_le _
 ·rename_i h0
  have h1:i.natAbs ≠ 0:=by
   intro z
   have:i = 0:=Int.natAbs_eq_zero.mp z
   subst this
   exact h0 rfl
  have h2:i.natAbs < 2 ^ (4 * n):=by
   have e:(2:Nat) ^ (4 * n) = 16 ^ n:=by rw [Nat.pow_mul]
   rw [e]
   exact Q5 h (Nat.pow_le_pow_left (by decide) n)
  have h3:i.natAbs.log2 < 4 * n:=(Nat.log2_lt h1).mpr h2
  have:(2:Nat) ^ 20 = 1048576:=by decide
  omega
def CMulB (i j:Int):Prop:=(∃ m n,Bnd m i/\Bnd n j/\m<=3000/\n<=3000)\/CMul i j
theorem CMulB.ok (h:CMulB i j):IntMulOk i j:=by
 rcases h with ⟨m,n,h1,h2,h3,h4⟩ | h
 ·exact IntMulOk.of_bits (zfK h1 h3) (zfK h2 h4)
 ·exact h.ok
variable {X:Cx}
section
theorem zjk:OpR X (binaryOp .Mult) (rI CMulB fun i j=>.int (i * j)):=opI fun _ _ _ _ _ _ _ hc q=>mul_int q hc.ok
noncomputable def zl0 (K:Frag):R2:=fun x y H Q=>∃ l b xs zs,x = .ref l/\y = .ref b/\SqL K H l xs/\SqL K H b zs/\xs.length + zs.length<=sizeLine/\∀ p,H p = none->Q (.ref p) (upd H p (.lst (xs ++ zs)))
theorem zfz:OpR X (binaryOp .Add) (zl0 X.K):=by
 intro pins s σ H x y v u Q I rx ry h
 obtain ⟨l,b,xs,zs,rfl,rfl,hH,hB,hz,q⟩:=h
 cases rx
 cases ry
 obtain ⟨its,r,pl,z⟩:=I.list hH
 obtain ⟨its2,r2,pl2,z2⟩:=I.list hB
 obtain ⟨⟨cls,dd,data,sl⟩,n,ho,hc,hdi,hd⟩:=pl
 obtain ⟨⟨cls2,dd2,data2,sl2⟩,n2,ho2,hc2,hdi2,hd2⟩:=pl2
 simp only at hc hd hc2 hd2
 subst hc hd hc2 hd2
 have e1:=r.length
 have e2:=r2.length
 refine concat_meets ⟨_,ho,rfl⟩ ⟨_,ho2,rfl⟩ noFill_list_add seq_list_add PySem.F.slot_list_add PySem.F.entry_list_add (PySem.F.args_list_add_2 _ _) (list_addW l b its.toArray its2.toArray n n2 dd dd2 sl sl2 (by rw [Qh,Qh];omega)) ⟨ho,ho2,?_⟩
 have ea:its.toArray ++ its2.toArray = (its ++ its2).toArray:=by simp
 rw [ea]
 exact ⟨.ref _,_,I.lnew (t':=s.toks) (r.append r2) (by rw [Qm];omega),rfl,q _ I.fresh⟩
end
structure Df (K:Frag) (mg:Str->Option Value) (x:Str) (st:Stmt) (ps:List Str):Prop where
 ex:∃ (f:Addr) (fd:FuncData),Fun K x x st f fd/\Binds K fd ps []/\mg x = some (.ref f)
structure Cal (P:Program) (w:World) (K:Frag) (mg:Str->Option Value) (base:Heap) (k:Nat) (x:Str) (ps:List Str) (sp:Sp):Prop where
 ex:∃ (f:Addr) (fd:FuncData),FnOk P w K mg base CX0 k f fd ps sp/\PySem.W.keepIn K (.ref f) = true/\Binds K fd ps []/\mg x = some (.ref f)
variable {f:Addr} {sl:Array (Option Value)} {K:Frag} {h:Heap} {ps:List Str} {k:Nat} {an od:Option Addr} {P:Program} {sp:Sp} {st:Stmt} {x:Str} {mg:Str->Option Value} {cd dc oc pm:Value} {w:World}
section
variable {base:Heap}
theorem Df.ok {N:List Str} (D:Df K mg x st ps) (S:FnScope N ps (qg st)) (len:∀ vs H Q E,sp vs H Q E->vs.length = ps.length)
 (hbody:∀ (f:Addr) (cdv:Value) (A:Around) (outer:List Env) (s:Shared) (H:Hp) (vs:List V) (Q:VK) (E:XK),Room k (A.deeper (envOfC x (qg st) s.heap.objs.size f cdv))->sp vs H Q E->
 ∃ t,PSs (za1 CX0 P w K mg base N x (qg st) f cdv A outer s H E).nox (zF st) t/\t { nx:=fun _ H'=>Q .non H',rt:=Q } (start N vs) H):Cal P w K mg base (k + 1) x ps sp:=by
 obtain ⟨f,fd,F,b,g⟩:=D.ex
 exact ⟨⟨f,fd,F.ok S len (hbody f),F.kp,b,g⟩⟩
theorem zK (X:K.In h) (G:h.Ns mainGlobals mg) {kV ct:Value}
 (a:PySem.W.nsIn K mainGlobals x = some (some (.ref f)))
 (l:K.lookup f = some ⟨oc,od,.func (PySem.W.fnOf x x (z7 st) (zF st) (qg st) .none kV dc pm an cd ct),sl⟩) (c:PySem.W.codeIn K cd x = true) (k:PySem.W.keepIn K (.ref f) = true)
 (hb:∀ (kV doc pm:Value) (an:Option Addr) (cdv ct:Value) (us:List Value),us.length = ps.length->bindArgs (PySem.W.fnOf x x (z7 st) (zF st) (qg st) .none kV doc pm an cdv ct) ⟨us,[]⟩ = pure (ps.zip us)):Df K mg x st ps:=by
 have F:=zg6 (st:=st) l c k
 exact ⟨⟨f,_,F,F.binds hb,PySem.W.mg_of X G a⟩⟩
end
section
theorem zk2 (X:K.In h) (G:h.Ns mainGlobals mg) {kV ct:Value}
 (a:PySem.W.nsIn K mainGlobals "law" = some (some (.ref f)))
 (l:K.lookup f = some ⟨oc,od,.func (PySem.W.fnOf "law" "law" (z7 st) (zF st) (qg st) .none kV dc pm an cd ct),sl⟩) (c:PySem.W.codeIn K cd "law" = true) (k:PySem.W.keepIn K (.ref f) = true)
 (hb:∀ (kV dc pm:Value) (an:Option Addr) (cd ct:Value) (s:Shared) (u:Value),BindsTo s (PySem.W.fnOf "law" "law" (z7 st) (zF st) (qg st) .none kV dc pm an cd ct) ⟨[u],[]⟩ [("script",u)]) :
  ∃ (f:Addr) (fd:FuncData),Fun K "law" "law" st f fd/\mg "law" = some (.ref f)/\∀ (s:Shared) (u:Value),BindsTo s fd ⟨[u],[]⟩ [("script",u)]:=
 ⟨f,_,zg6 (st:=st) l c k,PySem.W.mg_of X G a,fun s u=>hb _ _ _ _ _ _ s u⟩
end
variable {pos:Pos}
section
variable {p:Pos} {e:Expr} {es:List Expr} {t:TA}
theorem zkH (C:Cal X.prog X.w X.K X.mg X.base k x ps sp) (hr:Room k X.A) (hg:Gl X x) (ha:PA X (e :: es) t) (hdb:(x == ("__debug__":Str)) = false:=by decide)
  (he:starEach (e :: es) X.env = (false,eval e X.env) :: starEach es X.env:=by rfl) (hpl:(backTo pos (starEach es X.env)).any (·.1) = false:=by rfl) :
  PE X (.Call (.Name x p) (e :: es) [] pos) (ziA sp [] E0 t):=by
 obtain ⟨f,fd,F,kp,b,g⟩:=C.ex
 exact zjd F hr hg g kp b .nil zl8 ha hdb he hpl
end
theorem Bnd.of (h1:-(10 ^ n:Int) < i) (h2:i < 10 ^ n):Bnd n i:=by
 unfold Bnd
 have:((10 ^ n:Nat):Int) = (10:Int) ^ n:=by simp
 omega
theorem Bnd.hi (h:Bnd n i):i < 10 ^ n:=by
 unfold Bnd at h
 have:((10 ^ n:Nat):Int) = (10:Int) ^ n:=by simp
 omega
theorem Bnd.lo (h:Bnd n i):-(10 ^ n:Int) < i:=by
 unfold Bnd at h
 have:((10 ^ n:Nat):Int) = (10:Int) ^ n:=by simp
 omega
theorem Bnd.gcd {a b:Int} (h:0 < b) (k:Bnd n b):Bnd n ((Int.gcd a b:Nat):Int):=by
 unfold Bnd at *
 have h1:((Int.gcd a b:Nat):Int) ∣ b:=Int.gcd_dvd_right ..
 have h2:((Int.gcd a b:Nat):Int)<=b:=Int.le_of_dvd h h1
 omega
noncomputable abbrev zdF:List Value:=[.type "ValueError",.type "Exception",.type "BaseException",.type "object"]
structure ExcAt (K:Frag) (mg:Str->Option Value) (x:Str) (C:Addr):Prop where
 bound:mg x = some (.ref C)
 obj:∀ h:Heap,K.In h->∃ bm N nm q bs hdct sn sub ab col dd k0 k1 k2 k3 k5 mN,h.get? C = some (excClassObj nm q C N bs bm hdct sn sub ab col dd k0 k1 k2 k3 k5 "ValueError.__new__")/\h.Ns N mN/\mN "__init__" = none/\OwnTail h zdF bm
variable {H:Hp}
theorem ObjOk.there {a:Addr} {o:HO} (x:ObjOk P w H h a o):∃ u,h.get? a = some u:=by
 cases o with
 | lst xs=>obtain ⟨_,_,_,_,e⟩:=x;exact ⟨_,e⟩
 | tup xs=>obtain ⟨_,_,_,⟨ob,e,_⟩,_⟩:=x;exact ⟨_,e⟩
 | dK kvs=>obtain ⟨_,_,_,_,o,_,_,e,_⟩:=x;exact ⟨_,e⟩
 | dT kvs=>obtain ⟨_,_,_,_,o,_,_,e,_⟩:=x;exact ⟨_,e⟩
 | set S n=>obtain ⟨o,_,_,_,e,_⟩:=x;exact ⟨_,e⟩
 | ins C dx fs=>obtain ⟨_,_,_,e,_⟩:=x;exact ⟨_,e⟩
 | own y=>obtain ⟨_,e⟩:=x;exact ⟨_,e⟩
 | xd fs=>obtain ⟨_,⟨_,_,_,e,_⟩,_⟩:=x;exact ⟨_,e⟩
 | rng lo hi=>obtain ⟨_,_,_,e⟩:=x;exact ⟨_,e⟩
 | frz ob u=>obtain ⟨e,_⟩:=x;exact ⟨_,e⟩
 | tbl ps=>exact ⟨_,(show h.get? a = some _ from x)⟩
 | met f y=>exact ⟨_,(show h.get? a = some _ from x)⟩
 | ext φ=>obtain ⟨_,⟨_,e⟩,_⟩:=x;exact ⟨_,e⟩
noncomputable def CXC (P:Program) (w:World) (C:Addr):CXT:=fun l H s E ev s'=>∃ (e t:Addr) (B:Heap) (H':Hp),ev = .ref e/\Heap.FlyingW B l e (.ref C) (.ref t) s'.heap/\s'.os = s.os/\AllBare s'.gens /\
 Un (frs l) [] H H' s.heap s'.heap/\HOk P w H' s'.heap/\(∀ b o,s'.heap.get? b = some o->b ∉ frs l->(H' b ≠ none\/∃ o',s.heap.get? b = some o')->B.get? b = some o)/\(∀ b ∈ frs l,H' b = none)/\E (.ref C) none H'
noncomputable abbrev Cx.suite (X:Cx) (ev:Addr):Cx:={ X with A:=X.A.mark (some (.ref ev)),calm:=false,xe:=fun _ _=>False }
variable {s:Shared}
section
variable {pins:List (Addr × Obj)} {σ:St} {ev:Addr}
theorem Inv.unsuite (ok:X.Ok) (I:Inv (X.suite ev) pins σ H s):Inv X pins σ H s:=⟨ok,I.os,I.bare,I.base,I.loc,I.cell,I.free,I.freeC,I.pin,I.hok,I.len⟩
end
theorem zir (x:V) (f:zL x = true):eqV x x = true:=by
 cases x with
 | non=>rfl
 | bl b=>simp [eqV]
 | int i=>simp [eqV]
 | str z=>simp [eqV]
 | _=>exact absurd (show false = true from f) Q4
section
def CDivS (_ j:Int):Prop:=j ≠ 0/\∃ n,Bnd n j/\n<=2000
theorem CDivS.ok (h:CDivS i j):Builtin.divisionGoesByPylong i j = false:=by
 obtain ⟨h0,n,h1,h2⟩:=h
 refine PyProof.noPylong_of_log2 ?_
 have hz:j.natAbs ≠ 0:=by omega
 have e:(2:Nat) ^ (4 * n) = 16 ^ n:=by rw [Nat.pow_mul]
 have h3:j.natAbs < 2 ^ (4 * n):=by
  rw [e]
  exact Q5 h1 (Nat.pow_le_pow_left (by decide) n)
 have h4:j.natAbs.log2 < 4 * n:=(Nat.log2_lt hz).mpr h3
 omega
theorem zhU:OpR X (binaryOp .FloorDiv) (rI CDivS fun i j=>.int (i.fdiv j)):=opI fun _ _ _ _ _ _ _ hc q=>floordiv_int hc.1 q (.inl hc.ok)
end
structure CalX (P:Program) (w:World) (K:Frag) (mg:Str->Option Value) (base:Heap) (C:Addr) (k:Nat) (x:Str) (ps:List Str) (sp:Sp):Prop where
 ex:∃ (f:Addr) (fd:FuncData),FnOk P w K mg base (CXC P w C) k f fd ps sp/\PySem.W.keepIn K (.ref f) = true/\Binds K fd ps []/\mg x = some (.ref f)
theorem zaP {name:Str} {acc:List (Str × Addr)} {c:Addr} (e:((name,n) :: acc).lookup x = some c):(x = name/\c = n)\/acc.lookup x = some c:=by
 rw [lookup_cons] at e
 split at e
 ·rename_i h;cases e;exact .inl ⟨eq_of_beq h,rfl⟩
 ·exact .inr e
theorem zde:∀ (names:List (Str × NameKind)) (n:Nat) (acc:List (Str × Addr)),(∀ x y c,acc.lookup x = some c->acc.lookup y = some c->x = y)->(∀ x c,acc.lookup x = some c->c < n)->∀ x y c,(cellsFrom n names acc).lookup x = some c->(cellsFrom n names acc).lookup y = some c->x = y
 | [],_,_,h,_,x,y,c,e1,e2=>h x y c e1 e2
 | (name,kind) :: r,n,acc,h,lt,x,y,c,e1,e2=>by
  unfold cellsFrom at e1 e2
  split at e1
  ·rename_i hk
   rw [if_pos hk] at e2
   refine zde r (n + 1) ((name,n) :: acc) (fun x y c f1 f2=>?_) (fun x c f=>?_) x y c e1 e2
   ·rcases zaP f1 with ⟨g1,g2⟩ | g1 <;> rcases zaP f2 with ⟨g3,g4⟩ | g3
    ·rw [g1,g3]
    ·subst g2;exact absurd (lt _ _ g3) (Qn _)
    ·subst g4;exact absurd (lt _ _ g1) (Qn _)
    ·exact h x y c g1 g3
   ·rcases zaP f with ⟨g1,g2⟩ | g1
    ·subst g2;exact Nat.lt_succ_self _
    ·exact Nat.lt_succ_of_lt (lt _ _ g1)
  ·rename_i hk
   rw [if_neg hk] at e2
   exact zde r n acc h lt x y c e1 e2
theorem zec {x:Str} {c:Addr}:∀ (names:List (Str × NameKind)) (n:Nat) (acc:List (Str × Addr)),(cellsFrom n names acc).lookup x = some c->acc.lookup x = some c\/n<=c
 | [],_,_,e=>.inl e
 | (name,kind) :: r,n,acc,e=>by
  unfold cellsFrom at e
  split at e
  ·rcases zec r (n + 1) _ e with f | f
   ·rcases zaP f with ⟨_,g⟩ | g
    ·exact .inr (Nat.le_of_eq g.symm)
    ·exact .inl g
   ·exact .inr (by omega)
  ·exact zec r n acc e
theorem zgf {x:Str} {c:Addr} {lo:Nat}:∀ (names:List (Str × NameKind)) (n:Nat) (acc:List (Str × Addr)),lo<=n->(∀ c,acc.lookup x = some c->lo<=c)->(cellsFrom n names acc).lookup x = some c->lo<=c
 | [],_,_,_,h,e=>h _ e
 | (name,kind) :: r,n,acc,hn,h,e=>by
  unfold cellsFrom at e
  split at e
  ·refine zgf r (n + 1) _ (Nat.le_succ_of_le hn) (fun c f=>?_) e
   rcases zaP f with ⟨_,g⟩ | g
   ·subst g;exact hn
   ·exact h _ g
  ·exact zgf r n acc hn h e
theorem zdc {x:Str} {c:Addr}:∀ (names:List (Str × NameKind)) (n:Nat) (acc:List (Str × Addr)),names.lookup x = some .cell->(cellsFrom n names acc).lookup x = some c->n<=c
 | [],_,_,h,_=>by cases h
 | (name,kind) :: r,n,acc,h,e=>by
  unfold cellsFrom at e
  rw [lookup_cons] at h
  split at h
  ·rename_i hx
   cases h
   rw [if_pos (show (NameKind.cell == NameKind.cell) = true from rfl)] at e
   refine zgf r (n + 1) _ (Nat.le_succ _) (fun c f=>?_) e
   rw [lookup_cons,hx] at f
   cases f;exact Q3 _
  ·split at e
   ·exact Nat.le_of_succ_le (zdc r (n + 1) _ h e)
   ·exact zdc r n acc h e
theorem zdd {x:Str}:∀ (names:List (Str × NameKind)) (n:Nat) (acc:List (Str × Addr)),(∀ y ∈ names,y.2 = .cell->y.1 ≠ x)->(cellsFrom n names acc).lookup x = acc.lookup x
 | [],_,_,_=>rfl
 | (name,kind) :: r,n,acc,h=>by
  unfold cellsFrom
  split
  ·rename_i hk
   rw [zdd r (n + 1) _ fun y hy=>h y (mem_cons_of_mem _ hy),lookup_cons]
   have:(x == name) = false:=by
    cases q:x == name with
    | false=>rfl
    | true=>exact absurd (eq_of_beq q).symm (h (name,kind) mem_cons_self (eq_of_beq hk))
   rw [this]
  ·exact zdd r n acc fun y hy=>h y (mem_cons_of_mem _ hy)
theorem zcs:∀ (names:List (Str × NameKind)) (h:Heap) (acc:List (Str × Addr)),(∀ x c,acc.lookup x = some c->∃ v,h.IsCell c v)->∀ x c,(cellsFrom h.objs.size names acc).lookup x = some c->∃ v,(pushCells h names).IsCell c v
 | [],_,_,k,x,c,e=>k x c e
 | (name,kind) :: r,h,acc,k,x,c,e=>by
  unfold cellsFrom at e
  unfold pushCells
  split at e
  ·rename_i hk
   rw [if_pos hk]
   refine zcs r (h.push { cls:=.type "cell",data:=.cell none }) ((name,h.objs.size) :: acc) (fun x c f=>?_) x c (by rw [Heap.size_push];exact e)
   rcases zaP f with ⟨_,g⟩ | g
   ·subst g;exact ⟨none,_,Qk _ rfl,rfl⟩
   ·obtain ⟨v,q⟩:=k x c g
    exact ⟨v,q.keeps fun b o e=>Q2 _ e⟩
  ·rename_i hk
   rw [if_neg hk]
   exact zcs r h acc k x c e
variable {A:Around} {cl:List (Str × Addr)} {scope:Scope}
theorem yO {M:Model} {E:Value->Shared->Prop} {globals:Addr} {qual:Str} {env:Env} {builtins:Addr} {Q:Env->Shared->Prop}
 (hQ:∀ h',h'.Ns s.heap.objs.size (fun _=>none)->h' = pushCells (s.heap.push { cls:=.type "dict",data:=.dict #[] }) scope.names->
 Q (newEnv scope s.heap.objs.size globals (cellsFrom (s.heap.objs.size + 1) scope.names cl) qual none .none (some env) builtins) { s with heap:=h' }) :
  wpAny M A (newFunctionEnv scope globals cl [] qual none .none (some env) builtins) Q E s:=by
 simp only [newFunctionEnv,Option.isSome_some,if_true]
 refine Q1 (wpAny_alloc ?_)
 refine Q1 (wpAny_layCells _ (fun name kind cells=>by cases hkc:kind == NameKind.cell <;> simp [hkc]) _ _ _ _ ?_)
 rw [show ({ s with heap:=s.heap.push { cls:=.type "dict",data:=.dict #[] } }:Shared).heap.objs.size = s.heap.objs.size + 1 from Heap.size_push ..]
 refine Q1 ?_
 rw [List.forIn_nil]
 exact Qe (Qe (hQ _ ((Heap.Ns.new s.heap (.type "dict")).keeps (pushCells_keeps _ _)) rfl))
noncomputable def zcT (scope:Scope) (cl:List (Str × Addr)) (C:Addr) (env:Env):Env:={ compEnvC scope cl C env with cells:=cellsFrom (C + 1) scope.names cl }
noncomputable def Cx.block (X:Cx) (scope:Scope) (cl:List (Str × Addr)) (N:List Str) (ex:List Addr) (s0:Shared) (H0:Hp):Cx where
 prog:=X.prog
 w:=X.w
 K:=X.K
 mg:=X.mg
 base:=X.base
 A:=X.A
 N:=N
 s₀:=s0
 H₀:=H0
 env:=zcT scope cl s0.heap.objs.size X.env
 outer:=X.stack
 stack:=X.stack
 ex:=ex
 fn:=fun x=>scope.names.lookup x == some .cell
 calm:=X.calm
 pn:=[]
 xe:=fun _ _=>False
def PTs (X:Cx) (ifs:List Expr) (t:TT):Prop:=
 ∀ (pins:List (Addr × Obj)) (s:Shared) (σ:St) (H:Hp) (Q:Bool->Hp->Prop),Inv X pins σ H s->t σ H Q->
  wpAny (model X.prog X.w) X.A (forIn ifs true fun c r=>if r = true then do let ok ← isTrue c X.env (eval c X.env);pure (ForInStep.yield ok) else pure (ForInStep.yield r)) (TP X pins σ Q) X.xe s
noncomputable def zlN:TT:=fun _ H Q=>Q true H
theorem zi2:PTs X [] zlN:=fun _ _ _ H _ I h=>wpAny_tests_nil ⟨H,I,h⟩
theorem zi1 {c:Expr} {t:TT} (h:PT X c t):PTs X [c] t:=fun pins s σ H Q I hq=>wpAny_tests_one (h pins s σ H Q I hq)
noncomputable def yW (tgs:List Str) (caps:List (Str × Nat)) (σ:St):St:=tgs.map (fun _=>none) ++ caps.map fun c=>(σ[c.2]?).join
noncomputable def zfU (wi:TI) (g:TG) (tc:TT) (te:TE) (σ0:St->St):TE:=fun σ H Q=>wi σ H fun J H1=>∀ D,H1 D = none->∃ W:Nat->Nat->St->Hp->Prop,(∃ m,W 0 m (σ0 σ) (upd H1 D (.lst [])))/\∀ i m σ' H',W i m σ' H'->
 (J.stop i H'/\Q (.ref D) H')\/(J.go i H'/\∃ N:St->Hp->Prop,(∀ σ'' H'',N σ'' H''->∃ m',m' < m/\W (i + 1) m' σ'' H'')/\∀ x H2,J.yld i H' x H2->g x σ' H2 fun σ2 H3=>tc σ2 H3 fun b H4=>
  if b = true then te σ2 H4 fun v H5=>∃ ys,H5 D = some (.lst ys)/\ys.length < sizeLine/\N σ2 (upd H5 D (.lst (ys ++ [v]))) else N σ2 H4)
variable {elt iter:Expr} {ifs:List Expr}
theorem zad {prog:Program} {R:Result->Shared->Prop} {target:Expr} {it acc:Value} {env:Env} (I:Nat->Shared->Prop)
 (turn:∀ n s,I n s->wpAny (model prog w) A (pyNext it) (fun r s₁=>match r with
 | none=>R (.ok .next) s₁
 | some v=>wpAny (model prog w) A (letOwnedTupleGo target it v) (fun _ s₁'=>wpAny (model prog w) A (assign target env v) (fun _ s₂=>
 wpAny (model prog w) A (forIn ifs true fun c r=>if r = true then do let ok ← isTrue c env (eval c env);pure (ForInStep.yield ok) else pure (ForInStep.yield r)) (fun ok s₃=>
 if ok = true then wpAny (model prog w) A (eval elt env) (fun x s₄=>
 wpAny (model prog w) A (call (.builtin "list.append") [acc,x]) (fun _ s₅=>∃ m,m < n/\I m s₅) (notedBy (model prog w) A env fun e s'=>R (.error e) s') s₄) (notedBy (model prog w) A env fun e s'=>R (.error e) s') s₃
 else ∃ m,m < n/\I m s₃) (notedBy (model prog w) A env fun e s'=>R (.error e) s') s₂) (notedBy (model prog w) A env fun e s'=>R (.error e) s') s₁') (notedBy (model prog w) A env fun e s'=>R (.error e) s') s₁) (notedBy (model prog w) A env fun e s'=>R (.error e) s') s)
 (n:Nat) (h:I n s):codeAny (model prog w) A (.compLoop (.ListComp elt [⟨target,iter,ifs,0⟩] scope pos) 0 it acc env) R s:=by
 refine codeAny_loop rfl I (fun n s hI=>?_) n h
 show wpAny _ A ((compTurn (.ListComp elt [⟨target,iter,ifs,0⟩] scope pos) 0 it acc env).onRaise (fun x=>do noteFrame x env;theTreesLotGoes x)) _ _ s
 refine wpAny_noted ?_
 rw [compTurn_list]
 refine Q1 (wpAny_standAt (Q1 (Qf (turn n s hI) (fun r s₁ h₁=>?_) fun _ _ h'=>h')))
 cases r with
 | none=>exact Qe h₁
 | some v=>
  refine Q1 (Qf h₁ (fun _ s₁' h₁'=>?_) fun _ _ h'=>h')
  refine Q1 (Qf h₁' (fun _ s₂ h₂=>Q1 (Qf h₂ (fun ok s₃ h₃=>?_) fun _ _ h'=>h')) fun _ _ h'=>h')
  cases ok with
  | false=>exact Qe ⟨rfl,h₃⟩
  | true=>
   exact Q1 (Q1 (Qf h₃ (fun x s₄ h₄=>Q1 (Qf h₄ (fun _ s₅ h₅=>Qe (Qe ⟨rfl,h₅⟩)) fun _ _ h'=>h')) fun _ _ h'=>h'))
variable {tg:Expr} {wi:TI}
section
theorem zjb {tgs:List Str} {caps:List (Str × Nat)} {g:TG} {tc:TT} {te:TE}
 (hc:X.calm = true) (hi:PI X tg iter wi) (hclos:closureFor scope X.env = pure cl) (hcell:∀ y ∈ scope.names,y.2 = .cell->y.1 ∉ caps.map (·.1)) (hkind:scope.kind = .function)
 (hnames:∀ y ∈ scope.names,y.2 = .local->scope.names.lookup y.1 = some .local)
 (hcl:∀ y c,cl.lookup y = some c->X.env.cells.lookup y = some c)
 (hhas:∀ n y,((relabel scope X.env).names.lookup y = some .cell\/(relabel scope X.env).names.lookup y = some .free)->∃ c,(cellsFrom n scope.names cl).lookup y = some c)
 (hcap:∀ c ∈ caps,X.N[c.2]? = some c.1/\X.env.kindOf c.1 = some .cell/\((relabel scope X.env).names.lookup c.1 = some .cell\/(relabel scope X.env).names.lookup c.1 = some .free))
 (hg:∀ ex s0 H0,PG (X.block scope cl (tgs ++ caps.map (·.1)) ex s0 H0) tg g) (hif:∀ ex s0 H0,PTs (X.block scope cl (tgs ++ caps.map (·.1)) ex s0 H0) ifs tc) (hel:∀ ex s0 H0,PE (X.block scope cl (tgs ++ caps.map (·.1)) ex s0 H0) elt te)
 (hs:∀ x,foldedSetIterable iter X.env x = pure x:=by intro _;rfl) :
  PE X (.ListComp elt [⟨tg,iter,ifs,0⟩] scope pos) (zfU wi g tc te (yW tgs caps)):=by
 intro pins s σ H Q I h
 rw [eval_ListComp]
 refine wpAny_comprehension_free (use:=none) rfl hs hclos hkind hnames (thn (hi pins s σ H _ I h) fun v s1 h1=>thn h1 fun itv s2 h2=>?_)
 obtain ⟨it,fp,tn,J,H2,e,I2,T,st2,f2,hrest⟩:=h2
 subst e
 -- the new list
 have hD:H2 s2.heap.objs.size = none:=I2.fresh
 obtain ⟨W,⟨m0,w0⟩,turn⟩:=hrest _ hD
 refine Qr ?_ (by show 0<=sizeLine;decide)
 have I3:Inv X pins σ (upd H2 s2.heap.objs.size (.lst [])) { s2 with heap:=s2.heap.push { cls:=.type "list",data:=.seq ([]:List Value).toArray } }:=I2.lnew (t':=s2.toks) (ys:=[]) (its:=[]) .nil (by show 0<=sizeLine;decide)
 generalize hs3:({ s2 with heap:=s2.heap.push { cls:=.type "list",data:=.seq ([]:List Value).toArray } }:Shared) = s3 at I3
 have lt2:∀ b o,s2.heap.get? b = some o->s3.heap.get? b = some o:=fun b o e=>by rw [← hs3];exact Q2 _ e
 have sz3:s2.heap.objs.size < s3.heap.objs.size:=by rw [← hs3];show _ < (s2.heap.push _).objs.size;rw [Heap.size_push];exact Nat.lt_succ_self _
 have st3:tn 0 s3.heap:=T.keep 0 _ _ st2 fun b _ o e=>lt2 b o e
 have fplt:∀ b ∈ fp,b < s2.heap.objs.size:=fun b hb=>by
  obtain ⟨o,e,_⟩:=T.obj 0 _ st2 b hb
  exact Qd e
 generalize hH3:upd H2 s2.heap.objs.size (.lst []) = H3 at I3 w0
 have fr3:∀ b ∈ fp,H3 b = none:=fun b hb=>by rw [← hH3,yj (Qj (fplt b hb))];exact (f2 b hb).1
 have nstk:∀ b ∈ fp,b ∉ frs X.stack:=fun b hb z=>by
  obtain ⟨_,n1,n2,_⟩:=f2 b hb
  rcases mem_cons.mp (I2.stkSub b z) with z | z
  ·exact n1 z
  ·exact n2 z
 refine yO fun h4 ns4 sb4=>?_
 have keep4:∀ b o,s3.heap.get? b = some o->h4.get? b = some o:=fun b o e=>by rw [sb4];exact pushCells_keeps _ _ b o (Q2 _ e)
 have clt:∀ x c,cl.lookup x = some c->c < s3.heap.objs.size:=fun x c e=>by
  obtain ⟨v,q⟩:=I3.cell x c (hcl x c e)
  exact q.lt
 have cor:∀ x c,(cellsFrom (s3.heap.objs.size + 1) scope.names cl).lookup x = some c->cl.lookup x = some c\/s3.heap.objs.size + 1<=c:=fun x c e=>zec _ _ _ e
 have cne:∀ b ∈ fp,∀ x c,(cellsFrom (s3.heap.objs.size + 1) scope.names cl).lookup x = some c->c ≠ b:=fun b hb x c e=>by
  rcases cor x c e with e | e
  ·exact (f2 b hb).2.2.2.2.1 x c (hcl x c e)
  ·exact Nat.ne_of_gt (Q5 (Nat.lt_trans (fplt b hb) sz3) (Nat.le_of_succ_le e))
 have neC:∀ b ∈ fp,b ≠ s3.heap.objs.size:=fun b hb=>Qj (Nat.lt_trans (fplt b hb) sz3)
 have ok':(X.block scope cl (tgs ++ caps.map (·.1)) fp s3 H3).Ok:=
  ⟨I.ok.mod,hkind,I.ok.glob,I.ok.blt,Q3 _,zde _ _ _ (fun x y c e1 e2=>I.ok.inj x y c (hcl x c e1) (hcl y c e2)) (fun x c e=>Nat.lt_succ_of_lt (clt x c e)),hhas _,(fun x c z e=>Nat.le_of_succ_le (zdc _ _ _ (eq_of_beq z) e)),I.ok.hd,I.ok.frames,.inl rfl,
   fun b hb=>⟨neC b hb,cne b hb⟩,I3.bs,Qi I.ok.bsz I3.sz,fun b o e hb=>by
    rcases (f2 b hb).2.2.2.1 with z | z
    ·exact I.ok.noex b o e z
    ·exact absurd (Q5 (Qd e) (Qi I.ok.bsz z)) (Qn _),
   nstk,I3.stack,I3.stkFree⟩
 have I4:Inv (X.block scope cl (tgs ++ caps.map (·.1)) fp s3 H3) [] (yW tgs caps σ) H3 { s3 with heap:=h4 }:=by
  refine ⟨ok',rfl,I3.bare,Un.kept keep4,⟨_,ns4,fun i x v e1 e2 e3=>?_⟩,fun x c e=>?_,I3.hok.fresh (Q3 _),fun x c e=>(cor x c e).elim (fun e=>I3.freeC x c (hcl x c e)) (fun e=>I3.hok.fresh (Nat.le_of_succ_le e)),fun p hp=>by simp [Cx.block] at hp,I3.hok.kept keep4,by simp [yW,Cx.block]⟩
  ·-- a captured name
   have hlen:(tgs.map (fun _=>(none:Option V))).length = tgs.length:=by simp
   by_cases hi:i < tgs.length
   ·have:(yW tgs caps σ)[i]? = some none:=by
     unfold yW
     rw [Q6 (by simpa using hi)]
     simp [hi]
    rw [this] at e2
    cases e2
   ·have e1':(tgs ++ caps.map (·.1))[i]? = some x:=e1
    rw [Q7 (by omega),Qa] at e1'
    have e2':=e2
    unfold yW at e2'
    rw [Q7 (by simpa using hi),hlen,Qa] at e2'
    cases hcq:caps[i - tgs.length]? with
    | none=>rw [hcq] at e1';cases e1'
    | some cq=>
     rw [hcq] at e1' e2'
     have ex:cq.1 = x:=Qc e1'
     have ev:(σ[cq.2]?).join = some v:=Qc e2'
     obtain ⟨c1,c2,c3⟩:=hcap cq (Q9 hcq)
     have ev':σ[cq.2]? = some (some v):=by
      cases q:σ[cq.2]? with
      | none=>rw [q] at ev;cases ev
      | some o=>rw [q] at ev;cases o with
       | none=>cases ev
       | some v'=>rw [show v' = v from Qc ev]
     obtain ⟨m,hn,hl⟩:=I3.loc
     obtain ⟨u,r,lk⟩:=hl cq.2 cq.1 v c1 ev' (.inr (.inl c2))
     rcases lk with ⟨k1,_⟩ | ⟨_,c,ec,icl⟩
     ·rw [c2] at k1;cases k1
     ·obtain ⟨c',ec'⟩:=hhas (s3.heap.objs.size + 1) cq.1 c3
      have ec2:=ec'
      rw [zdd _ _ _ fun y hy hk hyx=>hcell y hy hk (by rw [hyx];exact List.mem_map_of_mem (Q9 hcq))] at ec2
      have:=hcl _ _ ec2
      rw [ec] at this
      cases this
      refine ⟨u,r,.inr ⟨?_,c,?_,?_⟩⟩
      ·rw [← ex];exact c3
      ·rw [← ex];exact ec'
      ·obtain ⟨o,ho,hd⟩:=icl
       exact ⟨o,keep4 _ _ ho,hd⟩
  ·show ∃ v,h4.IsCell c v
   rw [sb4]
   refine zcs scope.names _ cl (fun x c f=>?_) x c (by rw [Heap.size_push];exact e)
   obtain ⟨v,o,ho,hd⟩:=I3.cell x c (hcl x c f)
   exact ⟨v,o,Q2 _ ho,hd⟩
 have stat:∀ {H':Hp},(∀ b ∈ fp,H' b = none)->∀ b ∈ fp,zbk (X.block scope cl (tgs ++ caps.map (·.1)) fp s3 H3) [] H' b:=fun hn b hb=>
  ⟨hn b hb,neC b hb,nstk b hb,.inl hb,cne b hb,fun p hp=>by simp [Cx.block] at hp⟩
 have st4:tn 0 h4:=T.keep 0 _ _ st3 fun b _ o e=>keep4 b o e
 have loop:codeAny (model X.prog X.w) X.A (.compLoop (.ListComp elt [⟨tg,iter,ifs,0⟩] scope pos) 0 (.ref it) (.ref s2.heap.objs.size) (zcT scope cl s3.heap.objs.size X.env))
   (compPost (model X.prog X.w) X.A X.xe none (EP X pins σ Q) (.ref s2.heap.objs.size) s3.heap.objs.size) { s3 with heap:=h4 }:=by
  refine zad (fun n s'=>∃ i σ' H',Inv (X.block scope cl (tgs ++ caps.map (·.1)) fp s3 H3) [] σ' H' s'/\tn i s'.heap/\(∀ b ∈ fp,H' b = none)/\W i n σ' H') ?_ m0 ⟨0,_,H3,I4,st4,fr3,w0⟩
  rintro n s5 ⟨i,σ5,H5,I5,st5,fr5,w5⟩
  rcases turn i n σ5 H5 w5 with ⟨stop,qn⟩ | ⟨go,N,hN,step⟩
  ·refine Qf (T.done (X.block scope cl (tgs ++ caps.map (·.1)) fp s3 H3) rfl rfl rfl hc i [] s5 σ5 H5 (fun _ _=>False) I5 (stat fr5) st5 stop) (fun r s6 ⟨hr,I6⟩=>?_) fun _ _ z=>False.elim z
   subst hr
   obtain ⟨m6,hn6,_⟩:=I6.loc
   refine ⟨m6,hn6,fun h' sb=>?_⟩
   have nb:∀ b o,s3.heap.get? b = some o->b ≠ s3.heap.objs.size:=fun b o e=>Qj (Qd e)
   have eqb:∀ b,b ≠ s3.heap.objs.size->h'.get? b = s6.heap.get? b:=fun b hb=>sb.2 b hb
   have uX:Un (frs X.stack) fp H3 H5 s3.heap h':=by
    have u:=I6.base
    refine ⟨fun b o e a1 a2 a3=>?_,fun b o e a1 a2 a3=>?_,u.free,fun b o e a3=>?_,u.tups,u.frzs,u.tbls⟩
    ·rw [eqb b (nb b o e)];exact u.keep b o e a1 a2 a3
    ·rw [eqb b (nb b o e)];exact u.slot b o e a1 a2 a3
    ·rw [eqb b (nb b o e)];exact u.there b o e a3
   have hokX:HOk X.prog X.w H5 h':=fun a o e=>(I6.hok a o e).stay (fun b u hb eu=>by
    have hbC:b ≠ s3.heap.objs.size:=fun z=>by
     have hfC:H5 s3.heap.objs.size = none:=I6.free
     rcases hb with rfl | hb
     ·rw [z,hfC] at e;cases e
     ·rw [z,hfC] at hb;cases hb
    rw [eqb b hbC];exact eu) (fun _ q=>q) fun _ _ q=>q
   have os6:s6.os = s3.os:=I6.os
   exact ⟨.ref s2.heap.objs.size,H5,I3.call' (s':={ s6 with heap:=h' }) (ch:=fp) os6 uX hokX I6.bare (fun b hb=>⟨(f2 b hb).2.2.2.1,(f2 b hb).2.1,(f2 b hb).2.2.2.2.1,(f2 b hb).2.2.2.2.2⟩),rfl,qn⟩
  ·refine Qf (T.item (X.block scope cl (tgs ++ caps.map (·.1)) fp s3 H3) rfl rfl rfl hc i [] s5 σ5 H5 (fun _ _=>False) I5 (stat fr5) st5 go) (fun r s6 ⟨u,hr,h6⟩=>?_) fun _ _ z=>False.elim z
   subst hr
   refine Qf h6 (fun _ s7 ⟨x,H7,I7,r7,y7,st7,fr7⟩=>?_) fun _ _ z=>False.elim z
   have I7':=I7.pinned (stat fr7) (T.obj _ _ st7)
   have again:∀ {s9:Shared} {σ9:St} {H9:Hp},Inv (X.block scope cl (tgs ++ caps.map (·.1)) fp s3 H3) ([] ++ zbn fp s7.heap) σ9 H9 s9->N σ9 H9->
     ∃ m,m < n/\∃ i σ' H',Inv (X.block scope cl (tgs ++ caps.map (·.1)) fp s3 H3) [] σ' H' s9/\tn i s9.heap/\(∀ b ∈ fp,H' b = none)/\W i m σ' H':=fun {s9 σ9 H9} I9 n9=>by
    obtain ⟨m',hm,w9⟩:=hN σ9 H9 n9
    refine ⟨m',hm,i + 1,σ9,H9,I9.unpinned,T.keep _ _ _ st7 fun b hb o e=>(I9.pin (b,o) (Ql _ (Ql _ (qU hb e)))).1,fun b hb=>?_,w9⟩
    obtain ⟨o,e,d⟩:=T.obj _ _ st7 b hb
    exact (I9.pin (b,o) (Ql _ (Ql _ (qU hb e)))).2.1
   refine Qf (hg fp s3 H3 _ s7 σ5 H7 x u _ I7' r7 (step x H7 y7)) (fun _ s8 ⟨σ8,H8,I8,q8⟩=>?_) fun _ _ z=>False.elim z
   refine Qf (hif fp s3 H3 _ s8 σ8 H8 _ I8 q8) (fun b s9 ⟨H9,I9,q9⟩=>?_) fun _ _ z=>False.elim z
   cases b with
   | false=>
    rw [if_neg Q4] at q9
    rw [if_neg Q4]
    exact again I9 q9
   | true=>
    rw [if_pos rfl] at q9
    rw [if_pos rfl]
    refine Qf (hel fp s3 H3 _ s9 σ8 H9 _ I9 q9) (fun xv s10 ⟨v,H10,I10,rv,ys,hy,hl,q10⟩=>?_) fun _ _ z=>False.elim z
    refine Qf (yC (X:=X.block scope cl (tgs ++ caps.map (·.1)) fp s3 H3) _ s10 σ8 H10 (.ref s2.heap.objs.size) [v] (.ref s2.heap.objs.size) [xv] (fun _ H11=>N σ8 H11) I10 rfl (.cons rv .nil) ⟨_,ys,v,rfl,rfl,hy,hl,q10⟩) (fun _ s11 ⟨_,H11,I11,_,q11⟩=>again I11 q11) fun _ _ z=>False.elim z
 exact codeAny_compStart_list loop (T.self _ 0 _ _ _ st4 loop)
end
noncomputable def Each {α:Type} (P:α->Prop):List α->Prop
 | []=>True
 | a :: l=>P a/\Each P l
theorem Each.of {α:Type} {P:α->Prop}:∀ {l:List α},Each P l->∀ a ∈ l,P a
 | _ :: _,⟨h,_⟩,_,.head _=>h
 | _ :: _,⟨_,h⟩,_,.tail _ m=>Each.of h _ m
variable {l:List (Str × NameKind)}
theorem lookup_mem {y:Str} {k:NameKind} (h:l.lookup y = some k):(y,k) ∈ l:=by
 induction l with
 | nil=>cases h
 | cons p l ih=>
  obtain ⟨n,k'⟩:=p
  rw [lookup_cons] at h
  cases e:y == n with
  | true=>
   rw [e] at h
   cases h
   rw [eq_of_beq e]
   exact .head _
  | false=>
   rw [e] at h
   exact .tail _ (ih h)
theorem zld (h:Each (fun p=>(p.2 = .cell\/p.2 = .free)->∃ c,cl.lookup p.1 = some c) l) (y:Str) (q:l.lookup y = some .cell\/l.lookup y = some .free):∃ c,cl.lookup y = some c:=by
 rcases q with q | q
 ·exact h.of _ (lookup_mem q) (.inl rfl)
 ·exact h.of _ (lookup_mem q) (.inr rfl)
theorem PI.or {wi':TI} (h:PI X tg iter wi) (h':PI X tg iter wi'):PI X tg iter (fun σ H R=>wi σ H R\/wi' σ H R):=fun pins s σ H R I q=>q.elim (h pins s σ H R I) (h' pins s σ H R I)
theorem zjX {bs:List Bool} {its:List Value} (r:Vals (bs.map V.bl) its) {i:Nat} {v:Value} (e:its[i]? = some v):∃ b,bs[i]? = some b/\v = .bool b:=by
 have hl:=r.length
 rw [Qg] at hl
 have hi:i < its.length:=(List.getElem?_eq_some_iff.mp e).1
 have eb:bs[i]? = some bs[i]:=by simp [show i < bs.length by omega]
 have em:(bs.map V.bl)[i]? = some (V.bl bs[i]):=by rw [Qa,eb];rfl
 obtain ⟨u,e2,q⟩:=Vals.get r em
 rw [e] at e2
 cases e2
 exact ⟨_,eb,q⟩
theorem range_all (bs:List Bool):(List.range bs.length).all (fun i=>bs.getD i false) = bs.all id:=by
 rw [Bool.eq_iff_iff,all_eq_true,all_eq_true]
 constructor
 ·intro h b hb
  obtain ⟨i,hi,rfl⟩:=getElem_of_mem hb
  have:=h i (mem_range.mpr hi)
  simpa [List.getD,hi] using this
 ·intro h i hi
  have hi':=mem_range.mp hi
  have:=h bs[i] (getElem_mem hi')
  simpa [List.getD,hi'] using this
section
theorem zho (hc:X.calm = true):CallR X (.builtin "all") (fun xs H Q=>∃ (p:Addr) (bs:List Bool),xs = [.ref p]/\SqL X.K H p (bs.map V.bl)/\Q (.bl (bs.all id)) H):=by
 intro pins s σ H xs us Q I r h
 obtain ⟨p,bs,rfl,hq,q⟩:=h
 obtain ⟨u,rfl,rx⟩:=vals1 r
 cases rx
 obtain ⟨its,r',pl,hz⟩:=I.list hq
 have hlen:=r'.length
 rw [Qg] at hlen
 refine call_all_walk (wpAny_pyIter_list pl.isList ?_)
 have hlt:p < s.heap.objs.size:=by
  obtain ⟨o,n,ho,_⟩:=pl
  exact Qd ho
 refine ⟨s.heap.objs.size,_,_,_,_,_,fun i=>bs.getD i false,rfl,Walks.list (by exact I.ok.hd hc) _ p (Qj hlt) its.toArray,⟨⟨_,Qk _ rfl,rfl,rfl⟩,?_⟩,?_,fun h' tk hk=>?_⟩
 ·obtain ⟨o,ho,c⟩:=pl.isList
  exact ⟨o,Q2 _ ho,c⟩
 ·intro i v s' Q' E' e hq'
  obtain ⟨b,eb,rfl⟩:=zjX r' (show its[i]? = some v by simpa using e)
  have:bs.getD i false = b:=by simp [List.getD,eb]
  have hq2:Q' (bs.getD i false) s':=hq'
  rw [this] at hq2
  exact wpAny_truthy_bool hq2
 ·have e:(List.range its.toArray.size).all (fun i=>bs.getD i false) = bs.all id:=by
   rw [← range_all bs,show its.toArray.size = bs.length by simp [hlen]]
  rw [e]
  refine ⟨.bl (bs.all id),H,I.kept (t':=tk) (fun b o eb=>hk b o (fun z=>?_) (Q2 _ eb)),rfl,q⟩
  have z':b = s.heap.objs.size:=by simpa using z
  exact absurd (Qd eb) (by rw [z'];exact Qn _)
end
section
noncomputable def zl1 (K:Frag):R2:=fun x y H Q=>∃ a b xs ys,x = .ref a/\y = .ref b/\SqT K H a xs/\SqT K H b ys/\xs.length + ys.length<=sizeLine /\
 (xs = []->Q (.ref b) H)/\(xs ≠ []->ys = []->Q (.ref a) H)/\(xs ≠ []->ys ≠ []->∀ p,H p = none->Q (.ref p) (upd H p (.tup (xs ++ ys))))
theorem zjn:OpR X (binaryOp .Add) (zl1 X.K):=by
 intro pins s σ H x y v u Q I rx ry h
 obtain ⟨a,b,xs,ys,rfl,rfl,ha,hb,hz,q0,q1,q2⟩:=h
 by_cases hx:xs = []
 ·cases rx
  cases ry
  obtain ⟨its,r1,p1,_⟩:=I.tuple ha
  obtain ⟨its2,r2,p2,_⟩:=I.tuple hb
  obtain ⟨⟨cls,dd,data,sl⟩,ho,hc,n,hd⟩:=id p1
  obtain ⟨⟨cls2,dd2,data2,sl2⟩,ho2,hc2,n2,hd2⟩:=id p2
  simp only at hc hd hc2 hd2
  subst hc hd hc2 hd2
  have e:its = []:=r1.nil_iff.mpr hx
  exact concat_meets ⟨_,ho,rfl⟩ ⟨_,ho2,rfl⟩ noFill_tuple_add seq_tuple_add PySem.F.slot_tuple_add PySem.F.entry_tuple_add (PySem.F.args_tuple_add_2 _ _)
   (tuple_addW0 a b its.toArray its2.toArray n n2 dd dd2 sl sl2 (by simp [e])) ⟨ho,ho2,⟨.ref b,H,I,rfl,q0 hx⟩⟩
 ·exact zjm pins s σ H _ _ v u Q I rx ry ⟨a,b,xs,ys,rfl,rfl,ha,hb,hx,hz,q1 hx,q2 hx⟩
end
end L2
namespace HT
open PySem PySem.Spec PyProof.Rows
section
variable {prog:Program} {w:World} {A:Around} {E:Value->Shared->Prop} {s:Shared}
theorem zbV {t sl:Addr} {items:Array Value} {vl vu:Value} {lo hi:Option Int} {Q:Value->Shared->Prop} (ht:IsTup s.heap t items) (hs:s.heap.IsSliceOf sl vl vu .none) (pl:IsPart vl lo) (pu:IsPart vu hi)
  (hw:sIx items.size 0 lo = 0/\sIx items.size items.size hi = items.size) (h:Q (.ref t) s):wpAny (model prog w) A (getItem (.ref t) (.ref sl)) Q E s:=by
 obtain ⟨os,hos,hcs,hds⟩:=id hs
 have hTs:s.TypeIs (.ref sl) "slice":=⟨os,hos,hcs⟩
 unfold getItem
 try with_reducible refine wpAny_holding ?_
 first | refine Q1 (Qe ?_) | skip
 refine Q1 (wpAny_sequenceKey ht.typeIs (by decide) ?_)
 refine Q1 (wpAny_callSpecial?_slot (name:=Str.ofString "__getitem__") ht.typeIs PyProof.Rows.slot_tuple_getitem
  (wpAny_call_entry PyProof.Rows.slot_tuple_getitem ht.typeIs entry_tuple_getitem ?_ (args_tuple_getitem _ _)))
 show wpAny _ _ (Builtin.Tuple.tupleItemsOf (.ref t) >>= _) _ _ s
 refine Q1 (tupleItemsOf_ ht ?_)
 refine Q1 (wpAny_typeOf hTs ?_)
 rw [if_pos (by decide)]
 refine Q1 (zaU hs pl pu ?_)
 have hyes:(((sIx items.size 0 lo:Nat):Int) == 0 && (1:Int) == 1 && (sIx items.size items.size hi - sIx items.size 0 lo) == items.size) = true:=by
  rw [hw.1,hw.2];simp
 show wpAny _ _ (if (((sIx items.size 0 lo:Nat):Int) == 0 && (1:Int) == 1 && (sIx items.size items.size hi - sIx items.size 0 lo) == items.size) = true then _ else _) _ _ s
 rw [if_pos hyes]
 refine Q1 ?_
 unfold Builtin.Tuple.tupleIsExact
 refine Q1 (wpAny_typeOf ht.typeIs (Qe ?_))
 rw [if_pos (by decide)]
 exact Q1 (wpAny_rule (Qe ⟨_,rfl,Qe h⟩))
end
end HT
namespace L2
open PySem PySem.Spec PyProof.Rows
variable {X:Cx}
section
noncomputable def zmQ (K:Frag):V->Option Int->Option Int->Hp->VK->Prop:=fun x lo hi H Q=>∃ a xs,x = .ref a/\SqT K H a xs /\
 ((HT.sIx xs.length 0 lo = 0/\HT.sIx xs.length xs.length hi = xs.length)->Q (.ref a) H)/\(¬ (HT.sIx xs.length 0 lo = 0/\HT.sIx xs.length xs.length hi = xs.length)->∀ p,H p = none->Q (.ref p) (upd H p (.tup (cutV xs lo hi))))
theorem ziW:SlR X (zmQ X.K):=by
 intro pins s σ H x v vl vu lo hi sl Q I rx hs pl pu h
 obtain ⟨a,xs,rfl,hx,q1,q2⟩:=h
 by_cases hw:HT.sIx xs.length 0 lo = 0/\HT.sIx xs.length xs.length hi = xs.length
 ·cases rx
  obtain ⟨its,r,ht,hz⟩:=I.tuple hx
  have hlen:its.toArray.size = xs.length:=by rw [Qh];exact r.length.symm
  refine ⟨"tuple",_,PyProof.Rows.slot_tuple_getitem.lookup,ht.typeIs,?_⟩
  refine HT.zbV ht hs pl pu (by rw [hlen];exact hw) ⟨.ref a,H,I,rfl,q1 hw⟩
 ·exact zkf pins s σ H _ v vl vu lo hi sl Q I rx hs pl pu ⟨a,xs,rfl,hx,hw,q2 hw⟩
theorem yY:fillsNumberSlot (.type "tuple") "mul" = pure false:=
 PySem.fillsNumberSlot_seq (id:="tuple.__mul__") (r:=some (.builtin "tuple.__rmul__")) PySem.F.slot_tuple_mul.lookup (by decide +kernel) PySem.F.slot_tuple_rmul.lookup (by decide +kernel)
theorem zaV:seqRepeat? (.type "tuple") = pure (some (.builtin "tuple.__mul__")):=by
 unfold seqRepeat?
 rw [PySem.seqSlot_of (T:="tuple") (name:="__mul__") (id:="tuple.__mul__") PySem.F.slot_tuple_mul.lookup (by decide +kernel),PySem.seqSlot_of (T:="tuple") (name:="__rmul__") (id:="tuple.__rmul__") PySem.F.slot_tuple_rmul.lookup (by decide +kernel)]
 rfl
theorem zaj (a:Int) (t:Tok) (l:Addr) (items:Array Value) (n:Nat) (dd:Option Addr) (sl:Array (Option Value)) :
  Meets (Builtin.«int.__rmul__» ⟨[.int a t,.ref l],[]⟩) (fun _ R s=>s.heap.get? l = some { cls:=.type "tuple",dict:=dd,data:=.seq items n,slots:=sl }/\R (.ok (.ret Value.notImplemented)) s):=
 .of_wp fun prog w A R s h=>by obtain ⟨hp,g,d,tk,os⟩:=s;obtain ⟨hl,h⟩:=h;wp_walk;exact ⟨_,rfl,h⟩
theorem zfQ (l:Addr) (items:Array Value) (n:Nat) (x:Int) (u:Tok) (dd:Option Addr) (sl:Array (Option Value)) (h0:items.isEmpty = false) (h1:2<=x) (h2:x < 2 ^ 63) (h3:items.size * x.toNat<=sizeLine) :
  Meets (Builtin.«tuple.__mul__» ⟨[.ref l,.int x u],[]⟩) (fun _ R s=>s.heap.get? l = some { cls:=.type "tuple",dict:=dd,data:=.seq items n,slots:=sl }/\R (.ok (.ret (Value.ref s.heap.objs.size))) { s with heap:=s.heap.push { cls:=Value.type "tuple",data:=Data.seq (List.foldl (fun x1 x2=>x1 ++ x2) #[] (List.replicate x.toNat items)) },toks:=s.toks }):=
 .of_wp fun prog w A R s h=>by
  obtain ⟨hp,g,d,tk,os⟩:=s;obtain ⟨hl,h⟩:=h
  have f1:=AutoSeq1.idx_int
  have hA:¬(decide (x < -2 ^ 63) || decide (x ≥ 2 ^ 63)) = true:=by simp;omega
  have hB:¬(items.isEmpty || x == 1) = true:=by rw [h0];simp;omega
  have hC:¬(decide (x<=0) || items.isEmpty) = true:=by rw [h0];simp;omega
  have hm:((items.size:Nat):Int) * x = ((items.size * x.toNat:Nat):Int):=by
   rw [Int.natCast_mul,Int.toNat_of_nonneg (by omega)]
  have hs2:(sizeLine:Nat)<=(2 ^ 63 - 1) / 8:=by decide
  have hD:¬((items.size:Nat):Int) * x > (2 ^ 63 - 1) / 8:=by rw [hm];omega
  have hE:¬Builtin.Tuple.tupleTooMany (((items.size:Nat):Int) * x) = true:=by
   rw [hm]
   show ¬ decide (((items.size * x.toNat:Nat):Int) > ((sizeLine:Nat):Int)) = true
   rw [decide_eq_true_iff];omega
  have hT:IsTup hp l items:=⟨_,hl,rfl,n,rfl⟩
  wp_walk using wpAny_loadPart' hl
  rw [if_neg hA]
  refine Q1 (tupleItemsOf_ hT ?_)
  show wpAny _ _ (if (items.isEmpty || x == 1) = true then _ else _) _ _ _
  rw [if_neg hB]
  show wpAny _ _ (if (decide (x<=0) || items.isEmpty) = true then _ else _) _ _ _
  rw [if_neg hC]
  show wpAny _ _ (if ((items.size:Nat):Int) * x > (2 ^ 63 - 1) / 8 then _ else _) _ _ _
  rw [if_neg hD]
  show wpAny _ _ (if Builtin.Tuple.tupleTooMany (((items.size:Nat):Int) * x) = true then _ else _) _ _ _
  rw [if_neg hE]
  have hj:(List.foldl (fun x1 x2=>x1 ++ x2) #[] (List.replicate x.toNat items)).size<=sizeLine:=by
   have:=foldl_rep items.toList x.toNat []
   rw [nil_append,Array.toArray_toList] at this
   rw [this,Qh,len_rep,Nat.mul_comm,Array.length_toList]
   exact h3
  exact Q1 (m:=Builtin.Tuple.tupleExact _) (Qr (Qe ⟨_,rfl,h⟩) hj)
noncomputable def zlY (K:Frag):R2:=fun x y H Q=>∃ l k xs,x = .ref l/\y = .int k/\SqT K H l xs/\xs ≠ []/\2<=k/\k < 2 ^ 63/\xs.length * k.toNat<=sizeLine /\
 ∀ p,H p = none->Q (.ref p) (upd H p (.tup (List.replicate k.toNat xs).flatten))
theorem zfw:OpR X (binaryOp .Mult) (zlY X.K):=by
 intro pins s σ H x y v u Q I rx ry h
 obtain ⟨l,k,xs,rfl,rfl,hH,hx,h1,h2,hz,q⟩:=h
 cases rx
 obtain ⟨t,rfl⟩:=ry
 obtain ⟨its,r,pl,_⟩:=I.tuple hH
 have hl:=r.length
 obtain ⟨⟨cls,dd,data,sl⟩,ho,hc,n,hd⟩:=id pl
 simp only at hc hd
 subst hc hd
 have hlen:its.toArray.size * k.toNat<=sizeLine:=by rw [Qh,← hl];exact hz
 have hne:its.toArray.isEmpty = false:=by
  cases its with
  | nil=>exact absurd (r.nil_iff.mp rfl) hx
  | cons a b=>rfl
 have hnew:List.foldl (fun x1 x2=>x1 ++ x2) #[] (List.replicate k.toNat its.toArray) = (List.replicate k.toNat its).flatten.toArray:=by
  have:=foldl_rep its k.toNat []
  rw [nil_append] at this
  exact this
 refine wpAny_binaryOp_repeat_ref (T:="tuple") (U:="int") (by decide) ⟨_,ho,rfl⟩ (fun s'=>typeIs_int s' k t) yY F.fills_int_mul F.slot_int_rmul zaV F.slot_int_index.lookup
  (call_meets F.slot_int_rmul (typeIs_int s k t) F.entry_int_rmul (F.args_int_rmul_2 _ _) (zaj k t l its.toArray n dd sl)
   ⟨ho,rfl,⟨_,ho,rfl⟩,call_meets F.slot_tuple_mul ⟨_,ho,rfl⟩ F.entry_tuple_mul (F.args_tuple_mul_2 _ _) (zfQ l its.toArray n k t dd sl hne h1 h2 hlen) ⟨ho,?_⟩⟩)
 rw [hnew]
 refine ⟨.ref s.heap.objs.size,_,I.laid (t':=s.toks) (o:=.tup (List.replicate k.toNat xs).flatten) (fun b ob q=>Q2 _ q) (Q3 _) ?_,rfl,q _ (I.hok.fresh (Q3 _))⟩
 exact ⟨by rw [len_rep,Nat.mul_comm];exact hz,_,r.rep k.toNat,IsTup.new _ _,NoDict.new⟩
end
section
theorem zfY {i0:Nat} {y0:Str} {py spos:Pos} {tg elt iter:Expr} {ifs:List Expr} {scope:Scope} {cl:List (Str × Addr)} {pos:Pos} {tgs:List Str} {caps:List (Str × Nat)} {wi:TI} {g:TG} {tc:TT} {te:TE}
  (hc:X.calm = true) (hi:PI X tg iter wi) (hclos:closureFor scope X.env = pure cl) (hcell:∀ y ∈ scope.names,y.2 = .cell->y.1 ∉ caps.map (·.1)) (hkind:scope.kind = .function)
  (hnames:∀ y ∈ scope.names,y.2 = .local->scope.names.lookup y.1 = some .local)
  (hcl:∀ y c,cl.lookup y = some c->X.env.cells.lookup y = some c)
  (hhas:∀ n y,((relabel scope X.env).names.lookup y = some .cell\/(relabel scope X.env).names.lookup y = some .free)->∃ c,(cellsFrom n scope.names cl).lookup y = some c)
  (hcap:∀ c ∈ caps,X.N[c.2]? = some c.1/\X.env.kindOf c.1 = some .cell/\((relabel scope X.env).names.lookup c.1 = some .cell\/(relabel scope X.env).names.lookup c.1 = some .free))
  (hg:∀ ex s0 H0,PG (X.block scope cl (tgs ++ caps.map (·.1)) ex s0 H0) tg g) (hif:∀ ex s0 H0,PTs (X.block scope cl (tgs ++ caps.map (·.1)) ex s0 H0) ifs tc) (hel:∀ ex s0 H0,PE (X.block scope cl (tgs ++ caps.map (·.1)) ex s0 H0) elt te)
  (hN0:X.N.Nodup) (hi0:X.N[i0]? = some y0) (hx0:Loc X.env.scope y0)
  (hsw:swapsWith (.ListComp elt [⟨tg,iter,ifs,0⟩] scope pos) (some (.Name y0 py)) spos.line X.env = pure true:=by rfl)
  (hf0:X.fn y0 = true\/X.env.scope.names.lookup y0 = some .local:=by first | exact .inl rfl | exact .inr rfl | assumption)
  (hs:∀ x,foldedSetIterable iter X.env x = pure x:=by intro _;rfl) :
  PS X (.Assign [.Name y0 py] (.ListComp elt [⟨tg,iter,ifs,0⟩] scope pos) spos) (fun D σ H=>zfU wi g tc te (yW tgs caps) σ H fun v H'=>D.nx (σ.set i0 (some v)) H'):=by
 intro pins s σ H DD I h
 rw [exec_Assign_Name_used _ _ _ _ hsw]
 refine Q1 (wpAny_standAt (Q1 ?_))
 show wpAny _ X.A (do let _ ← comprehension (.ListComp elt [⟨tg,iter,ifs,0⟩] scope pos) scope X.env _ (newList []) false (eval iter X.env) (some (assign (.Name y0 py) X.env))) _ _ s
 refine Q1 (Qf (wpAny_comprehension_free (use:=some (assign (.Name y0 py) X.env)) (Q:=fun _ s'=>SP X pins DD .next s') rfl hs hclos hkind hnames
  (thn (hi pins s σ H _ I h) fun v s1 h1=>thn h1 fun itv s2 h2=>?_)) (fun _ s' hq=>Qe (Qe hq)) fun _ _ e=>e)
 obtain ⟨it,fp,tn,J,H2,e,I2,T,st2,f2,hrest⟩:=h2
 subst e
 -- the new list
 have hD:H2 s2.heap.objs.size = none:=I2.fresh
 obtain ⟨W,⟨m0,w0⟩,turn⟩:=hrest _ hD
 refine Qr ?_ (by show 0<=sizeLine;decide)
 have I3:Inv X pins σ (upd H2 s2.heap.objs.size (.lst [])) { s2 with heap:=s2.heap.push { cls:=.type "list",data:=.seq ([]:List Value).toArray } }:=I2.lnew (t':=s2.toks) (ys:=[]) (its:=[]) .nil (by show 0<=sizeLine;decide)
 generalize hs3:({ s2 with heap:=s2.heap.push { cls:=.type "list",data:=.seq ([]:List Value).toArray } }:Shared) = s3 at I3
 have lt2:∀ b o,s2.heap.get? b = some o->s3.heap.get? b = some o:=fun b o e=>by rw [← hs3];exact Q2 _ e
 have sz3:s2.heap.objs.size < s3.heap.objs.size:=by rw [← hs3];show _ < (s2.heap.push _).objs.size;rw [Heap.size_push];exact Nat.lt_succ_self _
 have st3:tn 0 s3.heap:=T.keep 0 _ _ st2 fun b _ o e=>lt2 b o e
 have fplt:∀ b ∈ fp,b < s2.heap.objs.size:=fun b hb=>by
  obtain ⟨o,e,_⟩:=T.obj 0 _ st2 b hb
  exact Qd e
 generalize hH3:upd H2 s2.heap.objs.size (.lst []) = H3 at I3 w0
 have fr3:∀ b ∈ fp,H3 b = none:=fun b hb=>by rw [← hH3,yj (Qj (fplt b hb))];exact (f2 b hb).1
 have nstk:∀ b ∈ fp,b ∉ frs X.stack:=fun b hb z=>by
  obtain ⟨_,n1,n2,_⟩:=f2 b hb
  rcases mem_cons.mp (I2.stkSub b z) with z | z
  ·exact n1 z
  ·exact n2 z
 refine yO fun h4 ns4 sb4=>?_
 have keep4:∀ b o,s3.heap.get? b = some o->h4.get? b = some o:=fun b o e=>by rw [sb4];exact pushCells_keeps _ _ b o (Q2 _ e)
 have clt:∀ x c,cl.lookup x = some c->c < s3.heap.objs.size:=fun x c e=>by
  obtain ⟨v,q⟩:=I3.cell x c (hcl x c e)
  exact q.lt
 have cor:∀ x c,(cellsFrom (s3.heap.objs.size + 1) scope.names cl).lookup x = some c->cl.lookup x = some c\/s3.heap.objs.size + 1<=c:=fun x c e=>zec _ _ _ e
 have cne:∀ b ∈ fp,∀ x c,(cellsFrom (s3.heap.objs.size + 1) scope.names cl).lookup x = some c->c ≠ b:=fun b hb x c e=>by
  rcases cor x c e with e | e
  ·exact (f2 b hb).2.2.2.2.1 x c (hcl x c e)
  ·exact Nat.ne_of_gt (Q5 (Nat.lt_trans (fplt b hb) sz3) (Nat.le_of_succ_le e))
 have neC:∀ b ∈ fp,b ≠ s3.heap.objs.size:=fun b hb=>Qj (Nat.lt_trans (fplt b hb) sz3)
 have ok':(X.block scope cl (tgs ++ caps.map (·.1)) fp s3 H3).Ok:=
  ⟨I.ok.mod,hkind,I.ok.glob,I.ok.blt,Q3 _,zde _ _ _ (fun x y c e1 e2=>I.ok.inj x y c (hcl x c e1) (hcl y c e2)) (fun x c e=>Nat.lt_succ_of_lt (clt x c e)),hhas _,(fun x c z e=>Nat.le_of_succ_le (zdc _ _ _ (eq_of_beq z) e)),I.ok.hd,I.ok.frames,.inl rfl,
   fun b hb=>⟨neC b hb,cne b hb⟩,I3.bs,Qi I.ok.bsz I3.sz,fun b o e hb=>by
    rcases (f2 b hb).2.2.2.1 with z | z
    ·exact I.ok.noex b o e z
    ·exact absurd (Q5 (Qd e) (Qi I.ok.bsz z)) (Qn _),
   nstk,I3.stack,I3.stkFree⟩
 have I4:Inv (X.block scope cl (tgs ++ caps.map (·.1)) fp s3 H3) [] (yW tgs caps σ) H3 { s3 with heap:=h4 }:=by
  refine ⟨ok',rfl,I3.bare,Un.kept keep4,⟨_,ns4,fun i x v e1 e2 e3=>?_⟩,fun x c e=>?_,I3.hok.fresh (Q3 _),fun x c e=>(cor x c e).elim (fun e=>I3.freeC x c (hcl x c e)) (fun e=>I3.hok.fresh (Nat.le_of_succ_le e)),fun p hp=>by simp [Cx.block] at hp,I3.hok.kept keep4,by simp [yW,Cx.block]⟩
  ·-- a captured name
   have hlen:(tgs.map (fun _=>(none:Option V))).length = tgs.length:=by simp
   by_cases hi:i < tgs.length
   ·have:(yW tgs caps σ)[i]? = some none:=by
     unfold yW
     rw [Q6 (by simpa using hi)]
     simp [hi]
    rw [this] at e2
    cases e2
   ·have e1':(tgs ++ caps.map (·.1))[i]? = some x:=e1
    rw [Q7 (by omega),Qa] at e1'
    have e2':=e2
    unfold yW at e2'
    rw [Q7 (by simpa using hi),hlen,Qa] at e2'
    cases hcq:caps[i - tgs.length]? with
    | none=>rw [hcq] at e1';cases e1'
    | some cq=>
     rw [hcq] at e1' e2'
     have ex:cq.1 = x:=Qc e1'
     have ev:(σ[cq.2]?).join = some v:=Qc e2'
     obtain ⟨c1,c2,c3⟩:=hcap cq (Q9 hcq)
     have ev':σ[cq.2]? = some (some v):=by
      cases q:σ[cq.2]? with
      | none=>rw [q] at ev;cases ev
      | some o=>rw [q] at ev;cases o with
       | none=>cases ev
       | some v'=>rw [show v' = v from Qc ev]
     obtain ⟨m,hn,hl⟩:=I3.loc
     obtain ⟨u,r,lk⟩:=hl cq.2 cq.1 v c1 ev' (.inr (.inl c2))
     rcases lk with ⟨k1,_⟩ | ⟨_,c,ec,icl⟩
     ·rw [c2] at k1;cases k1
     ·obtain ⟨c',ec'⟩:=hhas (s3.heap.objs.size + 1) cq.1 c3
      have ec2:=ec'
      rw [zdd _ _ _ fun y hy hk hyx=>hcell y hy hk (by rw [hyx];exact List.mem_map_of_mem (Q9 hcq))] at ec2
      have:=hcl _ _ ec2
      rw [ec] at this
      cases this
      refine ⟨u,r,.inr ⟨?_,c,?_,?_⟩⟩
      ·rw [← ex];exact c3
      ·rw [← ex];exact ec'
      ·obtain ⟨o,ho,hd⟩:=icl
       exact ⟨o,keep4 _ _ ho,hd⟩
  ·show ∃ v,h4.IsCell c v
   rw [sb4]
   refine zcs scope.names _ cl (fun x c f=>?_) x c (by rw [Heap.size_push];exact e)
   obtain ⟨v,o,ho,hd⟩:=I3.cell x c (hcl x c f)
   exact ⟨v,o,Q2 _ ho,hd⟩
 have stat:∀ {H':Hp},(∀ b ∈ fp,H' b = none)->∀ b ∈ fp,zbk (X.block scope cl (tgs ++ caps.map (·.1)) fp s3 H3) [] H' b:=fun hn b hb=>
  ⟨hn b hb,neC b hb,nstk b hb,.inl hb,cne b hb,fun p hp=>by simp [Cx.block] at hp⟩
 have st4:tn 0 h4:=T.keep 0 _ _ st3 fun b _ o e=>keep4 b o e
 have loop:codeAny (model X.prog X.w) X.A (.compLoop (.ListComp elt [⟨tg,iter,ifs,0⟩] scope pos) 0 (.ref it) (.ref s2.heap.objs.size) (zcT scope cl s3.heap.objs.size X.env))
   (compPost (model X.prog X.w) X.A X.xe (some (assign (.Name y0 py) X.env)) (fun _ s'=>SP X pins DD .next s') (.ref s2.heap.objs.size) s3.heap.objs.size) { s3 with heap:=h4 }:=by
  refine zad (fun n s'=>∃ i σ' H',Inv (X.block scope cl (tgs ++ caps.map (·.1)) fp s3 H3) [] σ' H' s'/\tn i s'.heap/\(∀ b ∈ fp,H' b = none)/\W i n σ' H') ?_ m0 ⟨0,_,H3,I4,st4,fr3,w0⟩
  rintro n s5 ⟨i,σ5,H5,I5,st5,fr5,w5⟩
  rcases turn i n σ5 H5 w5 with ⟨stop,qn⟩ | ⟨go,N,hN,step⟩
  ·refine Qf (T.done (X.block scope cl (tgs ++ caps.map (·.1)) fp s3 H3) rfl rfl rfl hc i [] s5 σ5 H5 (fun _ _=>False) I5 (stat fr5) st5 stop) (fun r s6 ⟨hr,I6⟩=>?_) fun _ _ z=>False.elim z
   subst hr
   obtain ⟨m6,hn6,_⟩:=I6.loc
   have nb:∀ b o,s3.heap.get? b = some o->b ≠ s3.heap.objs.size:=fun b o e=>Qj (Qd e)
   have uX:Un (frs X.stack) fp H3 H5 s3.heap s6.heap:=I6.base
   have os6:s6.os = s3.os:=I6.os
   have I6X:Inv X pins σ H5 s6:=I3.call' (s':=s6) (ch:=fp) os6 uX I6.hok I6.bare (fun b hb=>⟨(f2 b hb).2.2.2.1,(f2 b hb).2.1,(f2 b hb).2.2.2.2.1,(f2 b hb).2.2.2.2.2⟩)
   have hfC:H5 s3.heap.objs.size = none:=I6.free
   show wpAny _ X.A (assign (.Name y0 py) X.env (.ref s2.heap.objs.size)) _ _ s6
   refine wpAny_assign_Name (zdO I6X hN0 hi0 hx0 (v:=.ref s2.heap.objs.size) rfl (fun s7 I7 ⟨a,sa,ha⟩=>?_) hf0)
   have aC:s3.heap.objs.size ≠ a:=fun z=>by
    rcases ha with ha | ha
    ·have h3:=I3.lt
     rw [ha] at z
     rw [← z] at h3
     exact Qn _ h3
    ·obtain ⟨v,q⟩:=I3.cell _ _ ha
     have:=q.lt
     rw [← z] at this
     exact Qn _ this
   refine ⟨m6,hn6.sameBut sa aC,fun h' sb=>?_⟩
   have eqb:∀ b,b ≠ s3.heap.objs.size->h'.get? b = s7.heap.get? b:=fun b hb=>sb.2 b hb
   have uY:Un (frs X.stack) [s3.heap.objs.size] H5 H5 s7.heap h':=by
    refine ⟨fun b o e a1 a2 a3=>?_,fun b o e a1 a2 a3=>?_,fun _ _ _ q _=>q,fun b o e a3=>?_,fun _ _ q=>q,fun _ _ _ q=>q,fun b ps q=>⟨#[],by simpa using q⟩⟩
    ·rw [eqb b (fun z=>a3 (by rw [z];exact .head _))];exact e
    ·exact ⟨o.slots,by rw [eqb b (fun z=>a3 (by rw [z];exact .head _))];exact e⟩
    ·exact ⟨o,by rw [eqb b (fun z=>a3 (by rw [z];exact .head _))];exact e⟩
   have hokY:HOk X.prog X.w H5 h':=fun a o e=>(I7.hok a o e).stay (fun b u hb eu=>by
    have hbC:b ≠ s3.heap.objs.size:=fun z=>by
     rcases hb with rfl | hb
     ·rw [z,hfC] at e;cases e
     ·rw [z,hfC] at hb;cases hb
    rw [eqb b hbC];exact eu) (fun _ q=>q) fun _ _ q=>q
   refine ⟨σ.set i0 (some (.ref s2.heap.objs.size)),H5,I7.call' (s':={ s7 with heap:=h' }) (ch:=[s3.heap.objs.size]) rfl uY hokY I7.bare (fun b hb=>?_),qn⟩
   rw [mem_singleton.mp hb]
   refine ⟨.inr I3.sz,Nat.ne_of_gt I3.lt,fun x c e z=>?_,fun p hp z=>?_⟩
   ·obtain ⟨v,q⟩:=I3.cell x c e
    have:=q.lt
    rw [z] at this
    exact Qn _ this
   ·have:=Qd (I3.pin p hp).1
    rw [z] at this
    exact Qn _ this
  ·refine Qf (T.item (X.block scope cl (tgs ++ caps.map (·.1)) fp s3 H3) rfl rfl rfl hc i [] s5 σ5 H5 (fun _ _=>False) I5 (stat fr5) st5 go) (fun r s6 ⟨u,hr,h6⟩=>?_) fun _ _ z=>False.elim z
   subst hr
   refine Qf h6 (fun _ s7 ⟨x,H7,I7,r7,y7,st7,fr7⟩=>?_) fun _ _ z=>False.elim z
   have I7':=I7.pinned (stat fr7) (T.obj _ _ st7)
   have again:∀ {s9:Shared} {σ9:St} {H9:Hp},Inv (X.block scope cl (tgs ++ caps.map (·.1)) fp s3 H3) ([] ++ zbn fp s7.heap) σ9 H9 s9->N σ9 H9->
     ∃ m,m < n/\∃ i σ' H',Inv (X.block scope cl (tgs ++ caps.map (·.1)) fp s3 H3) [] σ' H' s9/\tn i s9.heap/\(∀ b ∈ fp,H' b = none)/\W i m σ' H':=fun {s9 σ9 H9} I9 n9=>by
    obtain ⟨m',hm,w9⟩:=hN σ9 H9 n9
    refine ⟨m',hm,i + 1,σ9,H9,I9.unpinned,T.keep _ _ _ st7 fun b hb o e=>(I9.pin (b,o) (Ql _ (Ql _ (qU hb e)))).1,fun b hb=>?_,w9⟩
    obtain ⟨o,e,d⟩:=T.obj _ _ st7 b hb
    exact (I9.pin (b,o) (Ql _ (Ql _ (qU hb e)))).2.1
   refine Qf (hg fp s3 H3 _ s7 σ5 H7 x u _ I7' r7 (step x H7 y7)) (fun _ s8 ⟨σ8,H8,I8,q8⟩=>?_) fun _ _ z=>False.elim z
   refine Qf (hif fp s3 H3 _ s8 σ8 H8 _ I8 q8) (fun b s9 ⟨H9,I9,q9⟩=>?_) fun _ _ z=>False.elim z
   cases b with
   | false=>
    rw [if_neg Q4] at q9
    rw [if_neg Q4]
    exact again I9 q9
   | true=>
    rw [if_pos rfl] at q9
    rw [if_pos rfl]
    refine Qf (hel fp s3 H3 _ s9 σ8 H9 _ I9 q9) (fun xv s10 ⟨v,H10,I10,rv,ys,hy,hl,q10⟩=>?_) fun _ _ z=>False.elim z
    refine Qf (yC (X:=X.block scope cl (tgs ++ caps.map (·.1)) fp s3 H3) _ s10 σ8 H10 (.ref s2.heap.objs.size) [v] (.ref s2.heap.objs.size) [xv] (fun _ H11=>N σ8 H11) I10 rfl (.cons rv .nil) ⟨_,ys,v,rfl,rfl,hy,hl,q10⟩) (fun _ s11 ⟨_,H11,I11,_,q11⟩=>again I11 q11) fun _ _ z=>False.elim z
 exact codeAny_compStart_list loop (T.self _ 0 _ _ _ st4 loop)
end
theorem zcv (ns:List Int):∀ j,j<=ns.length->preSum (fun i=>ns.getD i 0) j = (ns.take j).sum
 | 0,_=>by simp [preSum]
 | j + 1,h=>by
  have hj:j < ns.length:=h
  unfold preSum
  rw [zcv ns j (Nat.le_of_lt hj),show ns.take (j + 1) = ns.take j ++ [ns[j]] from (by rw [List.take_succ_eq_append_getElem hj]),List.sum_append]
  simp [List.getD,hj]
theorem ints_get {ns:List Int} {its:List Value} (r:Vals (ns.map V.int) its) {i:Nat} {v:Value} (e:its[i]? = some v):∃ t,v = .int (ns.getD i 0) t:=by
 have hl:=r.length
 rw [Qg] at hl
 have hi:i < its.length:=(List.getElem?_eq_some_iff.mp e).1
 have eb:ns[i]? = some ns[i]:=by simp [show i < ns.length by omega]
 have em:(ns.map V.int)[i]? = some (V.int ns[i]):=by rw [Qa,eb];rfl
 obtain ⟨u,e2,t,q⟩:=Vals.get r em
 rw [e] at e2
 cases e2
 exact ⟨t,by rw [q];simp [List.getD,eb]⟩
section
theorem zhj (hc:X.calm = true):CallR X (.builtin "sum") (fun xs H Q=>∃ (p:Addr) (ns:List Int),xs = [.ref p]/\SqL X.K H p (ns.map V.int)/\Q (.int ns.sum) H):=by
 intro pins s σ H xs us Q I r h
 obtain ⟨p,ns,rfl,hq,q⟩:=h
 obtain ⟨u,rfl,rx⟩:=vals1 r
 cases rx
 obtain ⟨its,r',pl,hz⟩:=I.list hq
 have hlen:=r'.length
 rw [Qg] at hlen
 refine call_sum_walkAnyS (wpAny_pyIter_list pl.isList ?_)
 have hlt:p < s.heap.objs.size:=by
  obtain ⟨o,n,ho,_⟩:=pl
  exact Qd ho
 refine ⟨s.heap.objs.size,_,_,_,_,_,_,fun i=>ns.getD i 0,rfl,(Walks.list (by exact I.ok.hd hc) _ p (Qj hlt) its.toArray).toS,⟨⟨_,Qk _ rfl,rfl,rfl⟩,?_⟩,?_,fun i v e=>ints_get r' (show its[i]? = some v by simpa using e),fun s' t' hm=>?_⟩
 ·obtain ⟨o,ho,c⟩:=pl.isList
  exact ⟨o,Q2 _ ho,c⟩
 ·intro b hb
  rw [show ({ s with heap:=s.heap.push _ }:Shared).heap.objs.size = s.heap.objs.size + 1 from Heap.size_push ..]
  rcases mem_cons.mp hb with rfl | hb
  ·exact Nat.lt_succ_self _
  ·rw [mem_singleton.mp hb];exact Nat.lt_succ_of_lt hlt
 ·obtain ⟨h',g',d',tk,o'⟩:=s'
  have e1:g' = s.gens:=hm.gens
  have e2:d' = s.drawn:=hm.drawn
  have e3:o' = s.os:=hm.os
  subst e1;subst e2;subst e3
  have e:preSum (fun i=>ns.getD i 0) its.toArray.size = ns.sum:=by
   rw [show its.toArray.size = ns.length by simp [hlen],zcv ns _ (Q3 _),take_length]
  rw [e]
  refine ⟨.int ns.sum,H,I.kept (t':=tk) (fun b o eb=>hm.heap b o (fun z=>?_) (Q2 _ eb)),⟨t',rfl⟩,q⟩
  have z':b = s.heap.objs.size:=by simpa using z
  exact absurd (Qd eb) (by rw [z'];exact Qn _)
end
end L2
namespace L2
open PySem PySem.Spec PyProof.Rows PySem.Builtin PySem.Builtin.ObjectAttr
inductive Tl (h:Heap) (bmB:List Value) (ns:List Str):List Value->Prop
 | base:Tl h bmB ns bmB
 | own {a:Addr} {c:Value} {dd:Option Addr} {cd:ClassData} {sl:Array (Option Value)} {mA:Str->Option Value} {tl:List Value} (e:h.get? a = some ⟨c,dd,.cls cd,sl⟩) (hn:h.Ns cd.ns mA) (no:∀ n ∈ ns,mA n = none) (t:Tl h bmB ns tl):Tl h bmB ns (.ref a :: tl)
section
variable {h h':Heap} {bmB tl:List Value} {ns:List Str}
theorem Tl.tail (T:Tl h bmB ns tl) (hi:("__init__":Str) ∈ ns):OwnTail h bmB tl:=by
 induction T with
 | base=>exact .base
 | own e hn no _ ih=>exact .own e hn (no _ hi) ih
end
noncomputable abbrev zlC (C:Addr) (t:Addr) (od:Option Addr):Obj:=⟨.ref C,od,.fields #[.ref t,.none,.none,.none,.bool false,.none],#[]⟩
noncomputable def ExO (e C:Addr) (od:Option Addr):Heap->Prop:=fun h=>∃ ob,h.get? e = some ob/\ob.cls = .ref C/\ob.dict = od/\∀ c,ob.data ≠ .cls c
noncomputable def ExN (e C t:Addr) (od:Option Addr):Heap->Prop:=fun h=>h.get? e = some (zlC C t od)
noncomputable def zbW (H:Hp) (e:Addr):Hp:=fun b=>if b = e then none else H b
variable {e:Addr} {H:Hp}
theorem zaN {b:Addr} (h:b ≠ e):zbW H e b = H b:=if_neg h
theorem zgp:zbW H e e = none:=if_pos rfl
section
variable {X:Cx} {pins:List (Addr × Obj)} {σ:St} {s:Shared}
theorem Inv.let {φ:Heap->Prop} (I:Inv X pins σ H s) (he:H e = some (.ext φ)):Inv X pins σ (zbW H e) s:=by
 have nh:∀ b u,H b = some u->(∀ ψ,u ≠ .ext ψ)->b ≠ e:=fun b u q n z=>by rw [z,he] at q;cases q;exact n φ rfl
 have nn:∀ b,H b = none->zbW H e b = none:=fun b q=>by
  unfold zbW
  split
  ·rfl
  ·exact q
 refine ⟨I.ok,I.os,I.bare,⟨I.base.keep,I.base.slot,fun b ob q n x=>nn b (I.base.free b ob q n x),I.base.there,fun b xs q=>?_,fun b u xs q=>?_,fun b ps q=>?_⟩,I.loc,I.cell,nn _ I.free,fun x c q=>nn _ (I.freeC x c q),fun p q=>?_,?_,I.len⟩
 ·have:=I.base.tups b xs q;rw [zaN (nh b _ this (fun _ z=>by cases z))];exact this
 ·have:=I.base.frzs b u xs q;rw [zaN (nh b _ this (fun _ z=>by cases z))];exact this
 ·obtain ⟨m,this⟩:=I.base.tbls b ps q;exact ⟨m,by rw [zaN (nh b _ this (fun _ z=>by cases z))];exact this⟩
 ·obtain ⟨a,b,c⟩:=I.pin p q
  exact ⟨a,nn _ b,c⟩
 ·intro b u q
  by_cases hb:b = e
  ·subst hb;rw [zgp] at q;cases q
  ·rw [zaN hb] at q
   exact (I.hok b u q).stay (fun _ _ _ z=>z) (fun c z=>by rw [zaN (nh c _ z (fun _ y=>by cases y))];exact z) fun c xs z=>by rw [zaN (nh c _ z (fun _ y=>by cases y))];exact z
end
noncomputable def CXX (P:Program) (w:World):CXT:=fun l H s E ev s'=>∃ (e t C:Addr) (oe:Obj) (B:Heap) (H':Hp),ev = .ref e/\Heap.FlyingW B l e (.ref C) (.ref t) s'.heap/\s'.heap.get? e = some oe/\s'.os = s.os/\AllBare s'.gens /\
 Un (frs l) [] H H' s.heap s'.heap/\HOk P w H' s'.heap/\(∀ b o,s'.heap.get? b = some o->b ∉ frs l->(H' b ≠ none\/∃ o',s.heap.get? b = some o')->B.get? b = some o)/\(∀ b ∈ frs l,H' b = none)/\E (.ref C) oe.dict H'
noncomputable abbrev xns:List Str:=["__setattr__","at","__getattribute__","__getattr__"]
structure XcAt (K:Frag) (mg:Str->Option Value) (x:Str) (C fI:Addr):Prop where
 bound:mg x = some (.ref C)
 obj:∀ h:Heap,K.In h->∃ bm N nm q bs sn sub ab col dd k0 k1 k2 k3 k5 mN,h.get? C = some (excClassObj nm q C N bs bm true sn sub ab col dd k0 k1 k2 k3 k5 "ValueError.__new__")/\h.Ns N mN/\mN "__init__" = some (.ref fI)/\(∀ n ∈ xns,mN n = none)/\Tl h zdF ("__init__" :: xns) bm
 fn:∃ oI,K.lookup fI = some oI/\oI.cls = .type "function"
structure Sup (K:Frag) (mg:Str->Option Value) (y:Str) (C C':Addr):Prop where
 bound:mg y = some (.ref C)
 obj:∀ h:Heap,K.In h->(∃ bm N nm q bs hdct sn sub ab col dd k0 k1 k2 k3 k5,h.get? C = some (excClassObj nm q C N bs bm hdct sn sub ab col dd k0 k1 k2 k3 k5 "ValueError.__new__")/\bm.contains (.type "BaseException") = true) /\
  ∃ bm N nm q bs hdct sn sub ab col dd k0 k1 k2 k3 k5,h.get? C' = some (excClassObj nm q C' N bs bm hdct sn sub ab col dd k0 k1 k2 k3 k5 "ValueError.__new__")/\(Value.ref C' :: bm).contains (.ref C) = true
def PX (X:Cx) (sts:List Stmt) (t:XK->TS):Prop:=
 ∀ (E:XK) (pins:List (Addr × Obj)) (s:Shared) (σ:St) (H:Hp) (D:Ends),Inv X pins σ H s->t E D σ H->
  wpAny (model X.prog X.w) X.A (execs sts X.env) (SP X pins D) (fun ev s'=>∃ H1 s1,Inv X pins σ H1 s1/\CXX X.prog X.w X.stack H1 s1 E ev s') s
end L2
namespace FT
open PySem PySem.Spec PyProof.Rows L2
noncomputable def noStar:Expr->Bool
 | .Starred _ _=>false
 | _=>true
variable {e:Expr} {es:List Expr}
theorem yM {env:PySem.Env} (h:noStar e = true):starEach (e :: es) env = (false,eval e env) :: starEach es env:=by
 cases e <;> first | rfl | cases h
variable {pos:Pos}
theorem zbF {env:PySem.Env} :∀ {es:List Expr},es.all noStar = true->(backTo pos (starEach es env)).any (·.1) = false:=by
 intro es h
 have h1:(starEach es env).any (·.1) = false:=by
  induction es with
  | nil=>rfl
  | cons e es ih=>
   rw [all_cons,Qq] at h
   rw [yM h.1,any_cons,ih h.2]
   rfl
 have h2:∀ l:List (Bool × Sem Value),l.any (·.1) = false->(backTo pos l).any (·.1) = false:=by
  intro l hl
  unfold backTo
  rw [List.any_map]
  exact hl
 exact h2 _ h1
inductive T where
 | non | bl (b:Bool) | int (i:Int) | str (x:Str) | ty (n:String) | tup (xs:List T) | lst (xs:List T) | ref (a:Nat) | dct (kvs:List (Key × T)) | exc (C:Addr) (fs:List (Str × T))
inductive Cell where
 | lst (xs:List T) | dic (kvs:List (Key × T)) | ins (C:Addr) (fs:List (Str × T))
noncomputable abbrev Mem:=List Cell
noncomputable abbrev Ev:=List (Option T)
inductive Out (β:Type) where
 | ok (b:β) (M:Mem) | exn (C:Addr) (fs:List (Str × T)) (M:Mem) | bad
noncomputable def Out.bind {β γ:Type} (o:Out β) (k:β->Mem->Out γ):Out γ:=match o with
 | .ok b M=>k b M
 | .exn C fs M=>.exn C fs M
 | .bad=>.bad
theorem znp {β γ:Type} (b:β) (M:Mem) (k:β->Mem->Out γ):(Out.ok b M).bind k = k b M:=rfl
theorem znb {β γ:Type} (k:β->Mem->Out γ):(Out.bad:Out β).bind k = .bad:=rfl
structure Sit where
 α:Nat->Addr
 M:Mem
 H:Hp
 hid:List Addr
def Sit.off (S:Sit) (p:Addr):Prop:=(∀ a,a < S.M.length->S.α a ≠ p)/\p ∉ S.hid
def KL (K:Frag) (a:Addr) (xs:List V):Prop:=
 ∃ (o:Obj) (its:Array Value) (n:Nat),K.lookup a = some o/\o.cls = .type "list"/\o.dict = none/\o.data = .seq its n/\its.size<=sizeLine/\Vals xs its.toList
inductive Rep (K:Frag) (S:Sit):T->V->Prop where
 | non:Rep K S .non .non
 | bl (b:Bool):Rep K S (.bl b) (.bl b)
 | int (i:Int):Rep K S (.int i) (.int i)
 | str (x:Str):Rep K S (.str x) (.str x)
 | ty (x:String):Rep K S (.ty x) (.ty x)
 | tup {ts:List T} {p:Addr} {vs:List V} (h:SqT K S.H p vs) (l:ts.length = vs.length) (r:∀ (i:Nat) t v,ts[i]? = some t->vs[i]? = some v->Rep K S t v):Rep K S (.tup ts) (.ref p)
 | lst {ts:List T} {p:Addr} {vs:List V} (h:(Rd S.H p (.lst vs)/\S.off p)\/KL K p vs) (l:ts.length = vs.length) (r:∀ (i:Nat) t v,ts[i]? = some t->vs[i]? = some v->Rep K S t v):Rep K S (.lst ts) (.ref p)
 | ref {a:Nat} (h:a < S.M.length):Rep K S (.ref a) (.ref (S.α a))
 | dct {kvs:List (Key × T)} {us:List (Key × V)} {p:Addr} {o:Obj} (h:S.H p = some (.frz o (.dK us))) (l:kvs.map (·.1) = us.map (·.1)) (r:∀ (i:Nat) t v,(kvs.map (·.2))[i]? = some t->(us.map (·.2))[i]? = some v->Rep K S t v):Rep K S (.dct kvs) (.ref p)
 | exc {C:Addr} {fs:List (Str × T)} {us:List (Str × V)} {p:Addr} {od:Option Addr} (h:S.H p = some (.ext (ExO p C od))) (hd:(od = none/\us = [])\/∃ d,od = some d/\S.H d = some (.xd us)) (l:fs.map (·.1) = us.map (·.1)) (r:∀ (i:Nat) t v,(fs.map (·.2))[i]? = some t->(us.map (·.2))[i]? = some v->Rep K S t v):Rep K S (.exc C fs) (.ref p)
def Reps (K:Frag) (S:Sit) (ts:List T) (vs:List V):Prop:=ts.length = vs.length/\∀ (i:Nat) t v,ts[i]? = some t->vs[i]? = some v->Rep K S t v
def RepF (K:Frag) (S:Sit) (fs:List (Str × T)) (us:List (Str × V)):Prop:=fs.map (·.1) = us.map (·.1)/\Reps K S (fs.map (·.2)) (us.map (·.2))
def RepK (K:Frag) (S:Sit) (fs:List (Key × T)) (us:List (Key × V)):Prop:=fs.map (·.1) = us.map (·.1)/\Reps K S (fs.map (·.2)) (us.map (·.2))
noncomputable def CellOk (K:Frag) (S:Sit) (p:Addr):Cell->Prop
 | .lst ts=>∃ vs,S.H p = some (.lst vs)/\Reps K S ts vs
 | .dic kvs=>∃ us,S.H p = some (.dK us)/\RepK K S kvs us
 | .ins C fs=>∃ dx us,S.H p = some (.ins C dx us)/\RepF K S fs us
structure MemOk (K:Frag) (S:Sit):Prop where
 cell:∀ a c,S.M[a]? = some c->CellOk K S (S.α a) c
 inj:∀ a b,a < S.M.length->b < S.M.length->S.α a = S.α b->a = b
 hd:∀ p ∈ S.hid,(∀ a,a < S.M.length->S.α a ≠ p)/\∃ vs,S.H p = some (.lst vs)
structure Grow (S S':Sit):Prop where
 le:S.M.length<=S'.M.length
 al:∀ a,a < S.M.length->S'.α a = S.α a
 fr:∀ a,S.M.length<=a->a < S'.M.length->S.H (S'.α a) = none
 kp:∀ b o,S.H b = some o->S.off b->S'.H b = some o
 hk:∀ p ∈ S.hid,p ∈ S'.hid/\S'.H p = S.H p
 hf:∀ p ∈ S'.hid,p ∈ S.hid\/S.H p = none
structure Stp (K:Frag) (S S':Sit):Prop extends Grow S S' where
 mok:MemOk K S'
variable {p:Addr} {c:Cell} {K:Frag} {ts:List T} {vs:List V} {S':Sit} {t:T} {v:V}
section
variable {S S'':Sit}
theorem MemOk.some (m:MemOk K S) {a:Nat} (h:a < S.M.length):∃ o,S.H (S.α a) = Option.some o/\Mut (Option.some o):=by
 have e:S.M[a]? = Option.some S.M[a]:=by simp [h]
 have c:=m.cell a _ e
 cases q:S.M[a] with
 | lst ts=>rw [q] at c;obtain ⟨vs,e,_⟩:=c;exact ⟨_,e,trivial⟩
 | dic ts=>rw [q] at c;obtain ⟨vs,e,_⟩:=c;exact ⟨_,e,trivial⟩
 | ins C fs=>rw [q] at c;obtain ⟨dx,vs,e,_⟩:=c;exact ⟨_,e,trivial⟩
theorem MemOk.off_of (m:MemOk K S) {o:Option HO} (e:S.H p = o) (h:¬ Mut o):S.off p:=by
 refine ⟨fun a ha z=>?_,fun z=>?_⟩
 ·obtain ⟨o',e',mu⟩:=m.some ha
  rw [z,e] at e'
  rw [e'] at h
  exact h mu
 ·obtain ⟨_,vs,q⟩:=m.hd p z
  rw [e] at q
  rw [q] at h
  exact h trivial
theorem MemOk.off_ext (m:MemOk K S) {φ:Heap->Prop} (e:S.H p = Option.some (.ext φ)):S.off p:=by
 refine ⟨fun a ha z=>?_,fun z=>?_⟩
 ·have ea:S.M[a]? = Option.some S.M[a]:=by simp [ha]
  have c:=m.cell a _ ea
  cases q:S.M[a] with
  | lst ts=>rw [q] at c;obtain ⟨vs,e',_⟩:=c;rw [z,e] at e';cases e'
  | dic ts=>rw [q] at c;obtain ⟨vs,e',_⟩:=c;rw [z,e] at e';cases e'
  | ins C fs=>rw [q] at c;obtain ⟨dx,vs,e',_⟩:=c;rw [z,e] at e';cases e'
 ·obtain ⟨_,vs,q⟩:=m.hd p z
  rw [e] at q;cases q
theorem MemOk.off_none (m:MemOk K S) (e:S.H p = none):S.off p:=m.off_of e (fun z=>z)
theorem Grow.tup (g:Grow S S') (m:MemOk K S) (h:SqT K S.H p vs):SqT K S'.H p vs:=by
 rcases h with (h | ⟨o,h⟩) | h
 ·exact .inl (.inl (g.kp _ _ h (m.off_of h (fun z=>z))))
 ·exact .inl (.inr ⟨o,g.kp _ _ h (m.off_of h (fun z=>z))⟩)
 ·exact .inr h
theorem Grow.off (g:Grow S S') {o:HO} (h:S.H p = some o) (f:S.off p):S'.off p:=by
 refine ⟨fun a ha z=>?_,fun z=>?_⟩
 ·by_cases hl:a < S.M.length
  ·rw [g.al a hl] at z;exact f.1 a hl z
  ·have:=g.fr a (Nat.le_of_not_lt hl) ha
   rw [z,h] at this
   cases this
 ·rcases g.hf p z with q | q
  ·exact f.2 q
  ·rw [h] at q;cases q
theorem Grow.rd (g:Grow S S') {u:HO} (h:Rd S.H p u) (f:S.off p):Rd S'.H p u/\S'.off p:=by
 rcases h with h | ⟨o,h⟩
 ·exact ⟨.inl (g.kp _ _ h f),g.off h f⟩
 ·exact ⟨.inr ⟨o,g.kp _ _ h f⟩,g.off h f⟩
theorem Rep.grow (m:MemOk K S) (g:Grow S S') (r:Rep K S t v):Rep K S' t v:=by
 induction r with
 | non=>exact .non
 | bl b=>exact .bl b
 | int b=>exact .int b
 | str b=>exact .str b
 | ty b=>exact .ty b
 | tup h l _ ih=>exact .tup (g.tup m h) l ih
 | lst h l _ ih=>
  refine .lst ?_ l ih
  rcases h with ⟨h,f⟩ | h
  ·exact .inl (g.rd h f)
  ·exact .inr h
 | ref h=>rw [← g.al _ h];exact .ref (Q5 h g.le)
 | dct h l _ ih=>exact .dct (g.kp _ _ h (m.off_of h (fun z=>z))) l ih
 | exc h hd l _ ih=>exact .exc (g.kp _ _ h (m.off_ext h)) (hd.imp (fun z=>z) fun ⟨d,a,b⟩=>⟨d,a,g.kp _ _ b (m.off_of b (fun z=>z))⟩) l ih
theorem Reps.grow (m:MemOk K S) (g:Grow S S') (r:Reps K S ts vs):Reps K S' ts vs:=⟨r.1,fun i t v e1 e2=>(r.2 i t v e1 e2).grow m g⟩
theorem RepF.grow (m:MemOk K S) (g:Grow S S') {ts:List (Str × T)} {vs:List (Str × V)} (r:RepF K S ts vs):RepF K S' ts vs:=⟨r.1,r.2.grow m g⟩
theorem RepK.grow (m:MemOk K S) (g:Grow S S') {ts:List (Key × T)} {vs:List (Key × V)} (r:RepK K S ts vs):RepK K S' ts vs:=⟨r.1,r.2.grow m g⟩
theorem Reps.nil:Reps K S [] []:=⟨rfl,fun _ _ _ e _=>by simp at e⟩
theorem Reps.cons (r:Rep K S t v) (rs:Reps K S ts vs):Reps K S (t :: ts) (v :: vs):=by
 refine ⟨by simp [rs.1],fun i a b e1 e2=>?_⟩
 cases i with
 | zero=>simp at e1 e2;subst e1;subst e2;exact r
 | succ i=>exact rs.2 i a b (by simpa using e1) (by simpa using e2)
theorem Reps.nil_inv (r:Reps K S ts []):ts = []:=List.length_eq_zero_iff.mp (by rw [r.1];rfl)
theorem Reps.consT (r:Reps K S (t :: ts) vs):∃ v vs',vs = v :: vs'/\Rep K S t v/\Reps K S ts vs':=by
 cases vs with
 | nil=>have:=r.1;simp at this
 | cons v vs'=>exact ⟨v,vs',rfl,r.2 0 t v rfl rfl,by have:=r.1;simpa using this,fun i a b e1 e2=>r.2 (i + 1) a b (by simpa using e1) (by simpa using e2)⟩
theorem Reps.nilT (r:Reps K S [] vs):vs = []:=List.length_eq_zero_iff.mp (by rw [← r.1];rfl)
theorem Reps.app {ts':List T} {vs':List V} (r:Reps K S ts vs) (r':Reps K S ts' vs'):Reps K S (ts ++ ts') (vs ++ vs'):=by
 induction ts generalizing vs with
 | nil=>rw [r.nilT];exact r'
 | cons t ts ih=>
  obtain ⟨v,vs1,rfl,r1,r2⟩:=r.consT
  exact (ih r2).cons r1
theorem Reps.get (r:Reps K S ts vs) {i:Nat} (e:ts[i]? = some t):∃ v,vs[i]? = some v/\Rep K S t v:=by
 have hi:i < vs.length:=by rw [← r.1];exact (List.getElem?_eq_some_iff.mp e).1
 have e2:vs[i]? = some vs[i]:=by simp [hi]
 exact ⟨_,e2,r.2 i t _ e e2⟩
theorem Reps.set (r:Reps K S ts vs) (q:Rep K S t v) (j:Nat):Reps K S (ts.set j t) (vs.set j v):=by
 refine ⟨by simp [r.1],fun i a b e1 e2=>?_⟩
 rw [Qb] at e1 e2
 by_cases h:j = i
 ·subst h
  by_cases hl:j < ts.length
  ·rw [if_pos rfl,if_pos hl] at e1
   rw [if_pos rfl,if_pos (by rw [← r.1];exact hl)] at e2
   cases e1;cases e2;exact q
  ·rw [if_pos rfl,if_neg hl] at e1;cases e1
 ·rw [if_neg h] at e1 e2
  exact r.2 i a b e1 e2
theorem Reps.sub (r:Reps K S ts vs) (a b:Nat):Reps K S ((ts.drop a).take b) ((vs.drop a).take b):=by
 refine ⟨by simp [r.1],fun i x y e1 e2=>?_⟩
 rw [List.getElem?_take] at e1 e2
 split at e1
 ·rename_i h
  rw [if_pos h] at e2
  rw [List.getElem?_drop] at e1 e2
  exact r.2 _ x y e1 e2
 ·cases e1
theorem CellOk.grow (m:MemOk K S) (g:Grow S S') (e:S'.H p = S.H p) (h:CellOk K S p c):CellOk K S' p c:=by
 cases c with
 | lst ts=>obtain ⟨vs,q,r⟩:=h;exact ⟨vs,by rw [e];exact q,r.grow m g⟩
 | dic ts=>obtain ⟨vs,q,r⟩:=h;exact ⟨vs,by rw [e];exact q,r.grow m g⟩
 | ins C ts=>obtain ⟨dx,vs,q,r⟩:=h;exact ⟨dx,vs,by rw [e];exact q,r.grow m g⟩
theorem Stp.refl (m:MemOk K S):Stp K S S:=⟨⟨Q3 _,fun _ _=>rfl,fun a h1 h2=>absurd (Q5 h2 h1) (Qn _),fun _ _ e _=>e,fun _ h=>⟨h,rfl⟩,fun _ h=>.inl h⟩,m⟩
theorem Stp.trans (a:Stp K S S') (b:Stp K S' S''):Stp K S S'':=by
 have nn:∀ p,S'.H p = none->S.H p = none:=fun p hn=>by
  cases q:S.H p with
  | none=>rfl
  | some o=>
   by_cases f:S.off p
   ·rw [a.kp _ _ q f] at hn;cases hn
   ·exfalso
    apply f
    refine ⟨fun c hc z=>?_,fun z=>?_⟩
    ·have h3:c < S'.M.length:=Q5 hc a.le
     obtain ⟨o',e',_⟩:=a.mok.some h3
     rw [a.al c hc,z,hn] at e'
     cases e'
    ·rw [(a.hk p z).2,q] at hn;cases hn
 refine ⟨⟨Qi a.le b.le,fun i hi=>(b.al i (Q5 hi a.le)).trans (a.al i hi),fun i h1 h2=>?_,fun p o e f=>b.kp _ _ (a.kp _ _ e f) (a.off e f),fun p h=>⟨(b.hk p (a.hk p h).1).1,(b.hk p (a.hk p h).1).2.trans (a.hk p h).2⟩,fun p h=>?_⟩,b.mok⟩
 ·by_cases hl:i < S'.M.length
  ·rw [b.al i hl];exact a.fr i h1 hl
  ·exact nn _ (b.fr i (Nat.le_of_not_lt hl) h2)
 ·rcases b.hf p h with q | q
  ·exact a.hf p q
  ·exact .inr (nn p q)
theorem Stp.new (m:MemOk K S) (hp:S.H p = none) (o:HO):Stp K S ⟨S.α,S.M,upd S.H p o,S.hid⟩:=by
 have g:Grow S ⟨S.α,S.M,upd S.H p o,S.hid⟩:=⟨Q3 _,fun _ _=>rfl,fun a h1 h2=>absurd (Q5 h2 h1) (Qn _),fun b u e _=>by show upd S.H p o b = _;rw [yj (yt e hp)];exact e,fun q h=>⟨h,by obtain ⟨_,vs,e⟩:=m.hd q h;exact yj (yt e hp)⟩,fun q h=>.inl h⟩
 refine ⟨g,⟨fun a c e=>?_,m.inj,fun q h=>?_⟩⟩
 rotate_left
 ·obtain ⟨h1,vs,e⟩:=m.hd q h
  exact ⟨h1,vs,(yj (yt e hp)).trans e⟩
 refine (m.cell a c e).grow m g ?_
 have ha:a < S.M.length:=(List.getElem?_eq_some_iff.mp e).1
 exact yj ((m.off_none hp).1 a ha)
noncomputable def Sit.more (S:Sit) (p:Addr) (o:HO) (c:Cell):Sit:=⟨fun a=>if a = S.M.length then p else S.α a,S.M ++ [c],upd S.H p o,S.hid⟩
theorem Grow.more (m:MemOk K S) (hp:S.H p = none) (o:HO) (c:Cell):Grow S (S.more p o c):=by
 refine ⟨by show _<=(S.M ++ [c]).length;simp,fun a h=>if_neg (Qj h),fun a h1 h2=>?_,fun b u e _=>?_,fun q h=>⟨h,by obtain ⟨_,vs,e⟩:=m.hd q h;exact yj (yt e hp)⟩,fun q h=>.inl h⟩
 ·have h3:a < (S.M ++ [c]).length:=h2
  have:a = S.M.length:=by simp at h3;omega
  show S.H (if a = S.M.length then p else S.α a) = none
  rw [if_pos this];exact hp
 ·show upd S.H p o b = _;rw [yj (yt e hp)];exact e
theorem Stp.more (m:MemOk K S) (hp:S.H p = none) (o:HO) (c:Cell) (hc:CellOk K (S.more p o c) p c):Stp K S (S.more p o c):=by
 have g:=Grow.more m hp o c
 refine ⟨g,⟨fun a d e=>?_,fun a b h1 h2 e=>?_,fun q h=>?_⟩⟩
 rotate_right
 ·obtain ⟨h1,vs,e⟩:=m.hd q h
  refine ⟨fun a ha z=>?_,vs,(yj (yt e hp)).trans e⟩
  have z':(if a = S.M.length then p else S.α a) = q:=z
  by_cases hl:a = S.M.length
  ·rw [if_pos hl] at z';rw [← z',hp] at e;cases e
  ·rw [if_neg hl] at z'
   have h3:a < (S.M ++ [c]).length:=ha
   exact h1 a (by simp at h3;omega) z'
 ·have e':(S.M ++ [c])[a]? = some d:=e
  by_cases ha:a < S.M.length
  ·rw [Q6 ha] at e'
   show CellOk K _ (if a = S.M.length then p else S.α a) d
   rw [if_neg (Qj ha)]
   exact (m.cell a d e').grow m g (yj ((m.off_none hp).1 a ha))
  ·rw [Q7 (Nat.le_of_not_lt ha)] at e'
   have h3:a - S.M.length = 0:=by
    cases q:a - S.M.length with
    | zero=>rfl
    | succ k=>rw [q] at e';simp at e'
   rw [h3] at e'
   cases e'
   show CellOk K _ (if a = S.M.length then p else S.α a) c
   rw [if_pos (by omega)]
   exact hc
 ·have h1':a < (S.M ++ [c]).length:=h1
  have h2':b < (S.M ++ [c]).length:=h2
  have e':(if a = S.M.length then p else S.α a) = (if b = S.M.length then p else S.α b):=e
  simp at h1' h2'
  by_cases ha:a = S.M.length
  ·by_cases hb:b = S.M.length
   ·omega
   ·rw [if_pos ha,if_neg hb] at e'
    exact absurd e'.symm ((m.off_none hp).1 b (by omega))
  ·by_cases hb:b = S.M.length
   ·rw [if_neg ha,if_pos hb] at e'
    exact absurd e' ((m.off_none hp).1 a (by omega))
   ·rw [if_neg ha,if_neg hb] at e'
    exact m.inj a b (by omega) (by omega) e'
noncomputable def Sit.put (S:Sit) (a:Nat) (o:HO) (c:Cell):Sit:=⟨S.α,S.M.set a c,upd S.H (S.α a) o,S.hid⟩
theorem Grow.put (m:MemOk K S) {a:Nat} (ha:a < S.M.length) (o:HO) (c:Cell):Grow S (S.put a o c):=by
 refine ⟨by show _<=(S.M.set a c).length;simp,fun _ _=>rfl,fun b h1 h2=>?_,fun b u e f=>?_,fun q h=>⟨h,yj (Ne.symm ((m.hd q h).1 a ha))⟩,fun q h=>.inl h⟩
 ·have h3:b < (S.M.set a c).length:=h2
  simp at h3
  exact absurd (Q5 h3 h1) (Qn _)
 ·show upd S.H (S.α a) o b = _
  rw [yj (Ne.symm (f.1 a ha))];exact e
theorem Stp.put (m:MemOk K S) {a:Nat} (ha:a < S.M.length) (o:HO) (c:Cell) (hc:CellOk K (S.put a o c) (S.α a) c):Stp K S (S.put a o c):=by
 have g:=Grow.put m ha o c
 refine ⟨g,⟨fun b d e=>?_,fun i j h1 h2 e=>?_,fun q h=>?_⟩⟩
 rotate_right
 ·obtain ⟨h1,vs,e⟩:=m.hd q h
  refine ⟨fun b hb z=>?_,vs,(yj (Ne.symm (h1 a ha))).trans e⟩
  have h3:b < (S.M.set a c).length:=hb
  simp at h3
  exact h1 b h3 z
 ·have e':(S.M.set a c)[b]? = some d:=e
  rw [Qb] at e'
  by_cases h:a = b
  ·subst h
   rw [if_pos rfl,if_pos ha] at e'
   cases e'
   exact hc
  ·rw [if_neg h] at e'
   refine (m.cell b d e').grow m g (yj fun z=>h ?_)
   exact (m.inj b a (List.getElem?_eq_some_iff.mp e').1 ha z).symm
 ·have h1':i < (S.M.set a c).length:=h1
  have h2':j < (S.M.set a c).length:=h2
  simp at h1' h2'
  exact m.inj i j h1' h2' e
end
def EvR (K:Frag) (S:Sit) (στ:Ev) (σ:L2.St):Prop:=στ.length = σ.length/\∀ (i:Nat) t,στ[i]? = some (some t)->∃ v,σ[i]? = some (some v)/\Rep K S t v
class Mo (K:Frag) {β γ:Type} (R:Sit->β->γ->Prop):Prop where
 mo:∀ {S S' b c},MemOk K S->Stp K S S'->R S b c->R S' b c
noncomputable def UnR:Sit->Unit->Unit->Prop:=fun _ _ _=>True
noncomputable def EqR {β:Type}:Sit->β->β->Prop:=fun _ b c=>b = c
noncomputable def PrR {A AV B BV:Type} (RA:Sit->A->AV->Prop) (RB:Sit->B->BV->Prop):Sit->A × B->AV × BV->Prop:=fun S a v=>RA S a.1 v.1/\RB S a.2 v.2
instance (K):Mo K (Rep K):=⟨fun m s r=>r.grow m s.toGrow⟩
instance (K):Mo K (Reps K):=⟨fun m s r=>r.grow m s.toGrow⟩
instance (K):Mo K (EvR K):=⟨fun m s r=>⟨r.1,fun i t e=>let ⟨v,e',q⟩:=r.2 i t e;⟨v,e',q.grow m s.toGrow⟩⟩⟩
instance (K):Mo K UnR:=⟨fun _ _ r=>r⟩
instance (K) {β:Type}:Mo K (EqR (β:=β)):=⟨fun _ _ r=>r⟩
instance (K) {A AV B BV:Type} (RA:Sit->A->AV->Prop) (RB:Sit->B->BV->Prop) [Mo K RA] [Mo K RB]:Mo K (PrR RA RB):=⟨fun m s r=>⟨Mo.mo m s r.1,Mo.mo m s r.2⟩⟩
def zlL (K:Frag) (S:Sit) (fs:List (Str × T)) (od:Option Addr):Prop:=(fs = []/\od = none)\/∃ d us,od = some d/\S.H d = some (.xd us)/\RepF K S fs us
def Fin {β γ:Type} (XE:XK) (R:Sit->β->γ->Prop) (K:Frag) (S:Sit) (o:Out β) (Q:γ->Hp->Prop):Prop:=match o with
 | .ok b M'=>∀ S' c,S'.M = M'->Stp K S S'->R S' b c->Q c S'.H
 | .exn C fs M'=>∀ S' od,S'.M = M'->Stp K S S'->zlL K S' fs od->XE (.ref C) od S'.H
 | .bad=>False
variable {S1:Sit} {XE:XK}
theorem Fin.later {β γ:Type} {R:Sit->β->γ->Prop} {S:Sit} {o:Out β} {Q:γ->Hp->Prop} (s:Stp K S S1) (h:Fin XE R K S o Q):Fin XE R K S1 o Q:=by
 cases o with
 | ok b M'=>exact fun S' c e s' r=>h S' c e (s.trans s') r
 | exn C fs M'=>exact fun S' c e s' r=>h S' c e (s.trans s') r
 | bad=>exact h
theorem Fin.mono {β γ:Type} {R:Sit->β->γ->Prop} {S:Sit} {o:Out β} {Q Q':γ->Hp->Prop} (i:∀ c H,Q c H->Q' c H) (h:Fin XE R K S o Q):Fin XE R K S o Q':=by
 cases o with
 | ok b M'=>exact fun S' c e s' r=>i _ _ (h S' c e s' r)
 | exn C fs M'=>exact h
 | bad=>exact h
def LN {A AV β γ:Type} (XE:XK) (R:Sit->β->γ->Prop) (K:Frag) (RA:Sit->A->AV->Prop) (k:A->Ev->Mem->Out β) (av:AV) (σ:L2.St) (H:Hp) (Q:γ->Hp->Prop):Prop:=
 ∃ (S:Sit) (στ:Ev) (a:A),S.H = H/\MemOk K S/\EvR K S στ σ/\RA S a av/\Fin XE R K S (k a στ S.M) Q
def L0 {A AV β γ:Type} (XE:XK) (R:Sit->β->γ->Prop) (K:Frag) (RA:Sit->A->AV->Prop) (k:A->Mem->Out β) (av:AV) (H:Hp) (Q:γ->Hp->Prop):Prop:=
 ∃ (S:Sit) (a:A),S.H = H/\MemOk K S/\RA S a av/\Fin XE R K S (k a S.M) Q
variable {H:Hp} {σ:L2.St}
section
theorem LN.bind {A AV B BV β γ:Type} {R:Sit->β->γ->Prop} {RA:Sit->A->AV->Prop} {RB:Sit->B->BV->Prop} [Mo K RA] {f:A->Ev->Mem->Out B} {k:A->B->Ev->Mem->Out β} {av:AV} {Q:γ->Hp->Prop}
 (h:LN XE R K RA (fun a σ M=>(f a σ M).bind fun b M1=>k a b σ M1) av σ H Q) :
  LN XE RB K RA f av σ H (fun bv H1=>LN XE R K (PrR RA RB) (fun ab=>k ab.1 ab.2) (av,bv) σ H1 Q):=by
 obtain ⟨S,στ,a,e,m,ev,ra,fin⟩:=h
 refine ⟨S,στ,a,e,m,ev,ra,?_⟩
 replace fin:Fin XE R K S ((f a στ S.M).bind fun b M1=>k a b στ M1) Q:=fin
 cases q:f a στ S.M with
 | bad=>rw [q] at fin;exact fin
 | exn C fs M'=>rw [q] at fin;exact fin
 | ok b M1=>
  rw [q] at fin
  intro S1 c e1 s1 r1
  refine ⟨S1,στ,(a,b),rfl,s1.mok,Mo.mo m s1 ev,⟨Mo.mo m s1 ra,r1⟩,?_⟩
  rw [e1]
  exact fin.later s1
theorem LN.l0 {A AV β γ:Type} {R:Sit->β->γ->Prop} {RA:Sit->A->AV->Prop} {k:A->Mem->Out β} {av:AV} {Q:γ->Hp->Prop} (h:LN XE R K RA (fun a _ M=>k a M) av σ H Q):L0 XE R K RA k av H Q:=by
 obtain ⟨S,στ,a,e,m,ev,ra,fin⟩:=h
 exact ⟨S,a,e,m,ra,fin⟩
theorem LN.mono {A AV β γ:Type} {R:Sit->β->γ->Prop} {RA:Sit->A->AV->Prop} {k:A->Ev->Mem->Out β} {av:AV} {Q Q':γ->Hp->Prop} (h:LN XE R K RA k av σ H Q) (i:∀ c H,Q c H->Q' c H):LN XE R K RA k av σ H Q':=by
 obtain ⟨S,στ,a,e,m,ev,ra,fin⟩:=h
 exact ⟨S,στ,a,e,m,ev,ra,fin.mono i⟩
theorem LN.env {A AV β γ:Type} {R:Sit->β->γ->Prop} {RA:Sit->A->AV->Prop} {f:Ev->Mem->Out β} {av:AV} {Q:γ->Hp->Prop} (h:LN XE R K RA (fun _ σ M=>f σ M) av σ H Q):LN XE R K UnR (fun _ σ M=>f σ M) () σ H Q:=by
 obtain ⟨S,στ,a,e,m,ev,ra,fin⟩:=h
 exact ⟨S,στ,(),e,m,ev,trivial,fin⟩
end
noncomputable def lE (XE:XK) (K:Frag) (f:Ev->Mem->Out T):TE:=fun σ H Q=>LN XE (Rep K) K UnR (fun _ σ M=>f σ M) () σ H Q
noncomputable def lT (XE:XK) (K:Frag) (f:Ev->Mem->Out Bool):TT:=fun σ H Q=>LN XE EqR K UnR (fun _ σ M=>f σ M) () σ H Q
noncomputable def lA (XE:XK) (K:Frag) (f:Ev->Mem->Out (List T)):TA:=fun σ H Q=>LN XE (Reps K) K UnR (fun _ σ M=>f σ M) () σ H Q
def GE (X:Cx) (XE:XK) (e:Expr) (f:Ev->Mem->Out T):Prop:=PE X e (lE XE X.K f)
def GT (X:Cx) (XE:XK) (e:Expr) (f:Ev->Mem->Out Bool):Prop:=PT X e (lT XE X.K f)
def GW (X:Cx) (XE:XK) (e:Expr) (f:Ev->Mem->Out Bool):Prop:=PW X e (lT XE X.K f)
def GA (X:Cx) (XE:XK) (es:List Expr) (f:Ev->Mem->Out (List T)):Prop:=PA X es (lA XE X.K f)
variable {X:Cx}
theorem PE.imp {t t':TE} (h:PE X e t) (i:∀ σ H Q,t' σ H Q->t σ H Q):PE X e t':=fun pins s σ H Q I q=>h pins s σ H Q I (i σ H Q q)
variable {t':TT}
theorem PT.imp {t:TT} (h:PT X e t) (i:∀ σ H Q,t' σ H Q->t σ H Q):PT X e t':=fun pins s σ H Q I q=>h pins s σ H Q I (i σ H Q q)
theorem PW.imp {t:TT} (h:PW X e t) (i:∀ σ H Q,t' σ H Q->t σ H Q):PW X e t':=fun whole pins s σ H Q I q=>h whole pins s σ H Q I (i σ H Q q)
theorem PA.imp {e:List Expr} {t t':TA} (h:PA X e t) (i:∀ σ H Q,t' σ H Q->t σ H Q):PA X e t':=fun pos pins s σ H Q I q=>h pos pins s σ H Q I (i σ H Q q)
theorem PS.imp {e:Stmt} {t t':TS} (h:PS X e t) (i:∀ D σ H,t' D σ H->t D σ H):PS X e t':=fun pins s σ H D I q=>h pins s σ H D I (i D σ H q)
theorem PSs.imp {e:List Stmt} {t t':TS} (h:PSs X e t) (i:∀ D σ H,t' D σ H->t D σ H):PSs X e t':=fun pins s σ H D I q=>h pins s σ H D I (i D σ H q)
noncomputable def yb (i:Nat):Ev->Mem->Out T:=fun σ M=>match σ[i]? with
 | some (some t)=>.ok t M
 | _=>.bad
noncomputable def eC (t:T):Ev->Mem->Out T:=fun _ M=>.ok t M
noncomputable def eOp (o:T->T->Mem->Out T) (f g:Ev->Mem->Out T):Ev->Mem->Out T:=fun σ M=>(f σ M).bind fun x M1=>(g σ M1).bind fun y M2=>o x y M2
noncomputable def eUn (o:T->Mem->Out T) (f:Ev->Mem->Out T):Ev->Mem->Out T:=fun σ M=>(f σ M).bind fun x M1=>o x M1
noncomputable def blT {β:Type} (t:T) (M:Mem) (k:Bool->Mem->Out β):Out β:=match t with
 | .bl b=>k b M
 | _=>.bad
noncomputable def zu (f:Ev->Mem->Out T):Ev->Mem->Out Bool:=fun σ M=>(f σ M).bind fun x M1=>blT x M1 fun b M2=>.ok b M2
noncomputable def zd4 (f g:Ev->Mem->Out Bool):Ev->Mem->Out Bool:=fun σ M=>(f σ M).bind fun c M1=>if c = true then g σ M1 else .ok false M1
noncomputable def zbD (f g:Ev->Mem->Out Bool):Ev->Mem->Out Bool:=fun σ M=>(f σ M).bind fun c M1=>if c = true then .ok true M1 else g σ M1
noncomputable def qH (f:Ev->Mem->Out Bool):Ev->Mem->Out Bool:=fun σ M=>(f σ M).bind fun c M1=>.ok (!c) M1
noncomputable def yZ (f g:Ev->Mem->Out T):Ev->Mem->Out T:=fun σ M=>(f σ M).bind fun x M1=>blT x M1 fun b M2=>if b = true then g σ M2 else .ok (.bl false) M2
noncomputable def eOr (f g:Ev->Mem->Out T):Ev->Mem->Out T:=fun σ M=>(f σ M).bind fun x M1=>blT x M1 fun b M2=>if b = true then .ok (.bl true) M2 else g σ M2
noncomputable def ziv (f:Ev->Mem->Out T):Ev->Mem->Out T:=fun σ M=>(f σ M).bind fun x M1=>blT x M1 fun b M2=>.ok (.bl (!b)) M2
noncomputable def eIf (c:Ev->Mem->Out Bool) (f g:Ev->Mem->Out T):Ev->Mem->Out T:=fun σ M=>(c σ M).bind fun b M1=>if b = true then f σ M1 else g σ M1
noncomputable def qb:Ev->Mem->Out (List T):=fun _ M=>.ok [] M
noncomputable def ya (f:Ev->Mem->Out T) (g:Ev->Mem->Out (List T)):Ev->Mem->Out (List T):=fun σ M=>(f σ M).bind fun x M1=>(g σ M1).bind fun xs M2=>.ok (x :: xs) M2
noncomputable def qd (g:Ev->Mem->Out (List T)):Ev->Mem->Out T:=fun σ M=>(g σ M).bind fun xs M1=>if xs.length<=sizeLine then .ok (.tup xs) M1 else .bad
noncomputable def zl (g:Ev->Mem->Out (List T)):Ev->Mem->Out (List T):=fun σ M=>(g σ M).bind fun xs M1=>if xs.length<=sizeLine then .ok xs M1 else .bad
noncomputable def eFz (g:Ev->Mem->Out (List T)):Ev->Mem->Out T:=fun σ M=>(g σ M).bind fun xs M1=>.ok (.lst xs) M1
noncomputable def eTk (g:Ev->Mem->Out (List T)):Ev->Mem->Out T:=fun σ M=>(g σ M).bind fun xs M1=>.ok (.ref M1.length) (M1 ++ [.lst xs])
noncomputable def zd (f:List T->Mem->Out T) (g:Ev->Mem->Out (List T)):Ev->Mem->Out T:=fun σ M=>(g σ M).bind fun ts M1=>f ts M1
noncomputable def zT (o o':T->T->Mem->Out T) (f g h:Ev->Mem->Out T):Ev->Mem->Out T:=fun σ M=>(f σ M).bind fun x M1=>(g σ M1).bind fun y M2=>(o x y M2).bind fun z M3=>blT z M3 fun b M4=>if b = true then (h σ M4).bind fun w M5=>o' y w M5 else .ok (.bl false) M4
noncomputable def lR2 (XE:XK) (K:Frag) (o:T->T->Mem->Out T):R2:=fun x y H Q=>L0 XE (Rep K) K (PrR (Rep K) (Rep K)) (fun a M=>o a.1 a.2 M) (x,y) H Q
noncomputable def lR1 (XE:XK) (K:Frag) (o:T->Mem->Out T):V->Hp->VK->Prop:=fun x H Q=>L0 XE (Rep K) K (Rep K) o x H Q
noncomputable def lRN (XE:XK) (K:Frag) (o:List T->Mem->Out T):List V->Hp->VK->Prop:=fun xs H Q=>L0 XE (Rep K) K (Reps K) o xs H Q
def FinL (XE:XK) (K:Frag) (S:Sit) (o:Out (List T)) (Q:VK):Prop:=match o with
 | .ok xs M'=>∀ S' p vs,S'.M = M'->Stp K S S'->S.H p = none->p ∈ S'.hid->S'.H p = some (.lst vs)->Reps K S' xs vs->Q (.ref p) S'.H
 | .exn C fs M'=>∀ S' od,S'.M = M'->Stp K S S'->zlL K S' fs od->XE (.ref C) od S'.H
 | .bad=>False
variable {Q:VK}
theorem FinL.later {S:Sit} {o:Out (List T)} (s:Stp K S S1) (h:FinL XE K S o Q):FinL XE K S1 o Q:=by
 have nn:∀ p,S1.H p = none->S.H p = none:=fun p hn=>by
  cases q:S.H p with
  | none=>rfl
  | some o=>
   by_cases f:S.off p
   ·rw [s.kp _ _ q f] at hn;cases hn
   ·exfalso
    apply f
    refine ⟨fun c hc z=>?_,fun z=>?_⟩
    ·have h3:c < S1.M.length:=Q5 hc s.le
     obtain ⟨o',e',_⟩:=s.mok.some h3
     rw [s.al c hc,z,hn] at e'
     cases e'
    ·rw [(s.hk p z).2,q] at hn;cases hn
 cases o with
 | ok b M'=>exact fun S' p vs e s' f=>h S' p vs e (s.trans s') (nn p f)
 | exn C fs M'=>exact fun S' c e s' r=>h S' c e (s.trans s') r
 | bad=>exact h
noncomputable def lL (XE:XK) (K:Frag) (f:Ev->Mem->Out (List T)):TE:=fun σ H Q=>∃ (S:Sit) (στ:Ev),S.H = H/\MemOk K S/\EvR K S στ σ/\FinL XE K S (f στ S.M) Q
def GL (X:Cx) (XE:XK) (e:Expr) (f:Ev->Mem->Out (List T)):Prop:=PE X e (lL XE X.K f)
variable {q:Addr} {h hh:List Addr} {xs:List T}
section
variable {S:Sit}
noncomputable def Sit.show (S':Sit) (h:List Addr):Sit:=⟨S'.α,S'.M,S'.H,h⟩
theorem Rep.show (sub:∀ p ∈ h,p ∈ S'.hid) (r:Rep K S' t v):Rep K (S'.show h) t v:=by
 induction r with
 | non=>exact .non
 | bl b=>exact .bl b
 | int b=>exact .int b
 | str b=>exact .str b
 | ty b=>exact .ty b
 | tup h l _ ih=>exact .tup h l ih
 | lst h l _ ih=>
  refine .lst ?_ l ih
  rcases h with ⟨h,f⟩ | h
  ·exact .inl ⟨h,f.1,fun z=>f.2 (sub _ z)⟩
  ·exact .inr h
 | ref h=>exact .ref (S:=S'.show _) h
 | dct h l _ ih=>exact .dct h l ih
 | exc h hd l _ ih=>exact .exc h hd l ih
theorem Reps.show (sub:∀ p ∈ h,p ∈ S'.hid) (r:Reps K S' ts vs):Reps K (S'.show h) ts vs:=⟨r.1,fun i t v e1 e2=>(r.2 i t v e1 e2).show sub⟩
theorem CellOk.show (sub:∀ p ∈ h,p ∈ S'.hid) (q:CellOk K S' p c):CellOk K (S'.show h) p c:=by
 cases c with
 | lst ts=>obtain ⟨vs,q,r⟩:=q;exact ⟨vs,q,r.show sub⟩
 | dic ts=>obtain ⟨vs,q,r⟩:=q;exact ⟨vs,q,r.1,r.2.show sub⟩
 | ins C ts=>obtain ⟨dx,vs,q,r⟩:=q;exact ⟨dx,vs,q,r.1,r.2.show sub⟩
theorem Stp.show (s:Stp K S S'):Stp K S (S'.show S.hid):=by
 have sub:∀ p ∈ S.hid,p ∈ S'.hid:=fun p h=>(s.hk p h).1
 exact ⟨⟨s.le,s.al,s.fr,s.kp,fun p h=>⟨h,(s.hk p h).2⟩,fun p h=>.inl h⟩,⟨fun a c e=>(s.mok.cell a c e).show sub,s.mok.inj,fun p h=>s.mok.hd p (sub p h)⟩⟩
theorem zfE (s:Stp K S S') (hn:S.H p = none) (m:MemOk K S) (hp:p ∈ S'.hid) (e:S'.H p = some (.lst vs)) (r:Reps K S' xs vs):Rep K (S'.show S.hid) (.lst xs) (.ref p):=by
 have sub:∀ p ∈ S.hid,p ∈ S'.hid:=fun p h=>(s.hk p h).1
 refine .lst (.inl ⟨.inl e,(s.mok.hd p hp).1,fun z=>?_⟩) r.1 (r.show sub).2
 obtain ⟨_,us,q⟩:=m.hd p z
 rw [hn] at q
 cases q
noncomputable def Sit.track (S':Sit) (p:Addr) (xs:List T) (h:List Addr):Sit:=⟨fun a=>if a = S'.M.length then p else S'.α a,S'.M ++ [.lst xs],S'.H,h⟩
theorem Rep.track (hp:p ∈ S'.hid) (sub:∀ p ∈ hh,p ∈ S'.hid) (r:Rep K S' t v):Rep K (S'.track p xs hh) t v:=by
 induction r with
 | non=>exact .non
 | bl b=>exact .bl b
 | int b=>exact .int b
 | str b=>exact .str b
 | ty b=>exact .ty b
 | tup h l _ ih=>exact .tup h l ih
 | lst h l _ ih=>
  refine .lst ?_ l ih
  rcases h with ⟨h,f⟩ | h
  ·refine .inl ⟨h,fun a ha z=>?_,fun z=>f.2 (sub _ z)⟩
   have z':(if a = S'.M.length then p else S'.α a) = _:=z
   by_cases hl:a = S'.M.length
   ·rw [if_pos hl] at z';rw [← z'] at f;exact f.2 hp
   ·rw [if_neg hl] at z'
    have h3:a < (S'.M ++ [Cell.lst xs]).length:=ha
    exact f.1 a (by simp at h3;omega) z'
  ·exact .inr h
 | @ref a h=>
  have:S'.α a = (S'.track p xs hh).α a:=(if_neg (Qj h)).symm
  rw [this]
  exact .ref (by show a < (S'.M ++ [Cell.lst xs]).length;simp;omega)
 | dct h l _ ih=>exact .dct h l ih
 | exc h hd l _ ih=>exact .exc h hd l ih
theorem Reps.track (hp:p ∈ S'.hid) (sub:∀ p ∈ h,p ∈ S'.hid) (r:Reps K S' ts vs):Reps K (S'.track p xs h) ts vs:=⟨r.1,fun i t v e1 e2=>(r.2 i t v e1 e2).track hp sub⟩
theorem CellOk.track (hp:p ∈ S'.hid) (sub:∀ p ∈ h,p ∈ S'.hid) (o:CellOk K S' q c):CellOk K (S'.track p xs h) q c:=by
 cases c with
 | lst ts=>obtain ⟨vs,q,r⟩:=o;exact ⟨vs,q,r.track hp sub⟩
 | dic ts=>obtain ⟨vs,q,r⟩:=o;exact ⟨vs,q,r.1,r.2.track hp sub⟩
 | ins C ts=>obtain ⟨dx,vs,q,r⟩:=o;exact ⟨dx,vs,q,r.1,r.2.track hp sub⟩
theorem Stp.track (s:Stp K S S') (m:MemOk K S) (hn:S.H p = none) (hp:p ∈ S'.hid) (e:S'.H p = some (.lst vs)) (r:Reps K S' xs vs):Stp K S (S'.track p xs S.hid):=by
 have sub:∀ p ∈ S.hid,p ∈ S'.hid:=fun p h=>(s.hk p h).1
 have lt:∀ a,a < S'.M.length->(S'.track p xs S.hid).α a = S'.α a:=fun a h=>if_neg (Qj h)
 refine ⟨⟨Qi s.le (by show _<=(S'.M ++ [Cell.lst xs]).length;simp),fun a h=>(lt a (Q5 h s.le)).trans (s.al a h),fun a h1 h2=>?_,s.kp,fun p h=>⟨h,(s.hk p h).2⟩,fun p h=>.inl h⟩,⟨fun a c e2=>?_,fun a b h1 h2 e2=>?_,fun q h=>?_⟩⟩
 ·by_cases hl:a < S'.M.length
  ·rw [lt a hl];exact s.fr a h1 hl
  ·have h3:a < (S'.M ++ [Cell.lst xs]).length:=h2
   have:a = S'.M.length:=by simp at h3;omega
   show S.H (if a = S'.M.length then p else S'.α a) = none
   rw [if_pos this];exact hn
 ·have e':(S'.M ++ [Cell.lst xs])[a]? = some c:=e2
  by_cases ha:a < S'.M.length
  ·rw [Q6 ha] at e'
   rw [lt a ha]
   exact (s.mok.cell a c e').track hp sub
  ·rw [Q7 (Nat.le_of_not_lt ha)] at e'
   have h3:a - S'.M.length = 0:=by
    cases q:a - S'.M.length with
    | zero=>rfl
    | succ k=>rw [q] at e';simp at e'
   rw [h3] at e'
   cases e'
   show CellOk K _ (if a = S'.M.length then p else S'.α a) _
   rw [if_pos (by omega)]
   exact ⟨vs,e,r.track hp sub⟩
 ·have h1':a < (S'.M ++ [Cell.lst xs]).length:=h1
  have h2':b < (S'.M ++ [Cell.lst xs]).length:=h2
  have e':(if a = S'.M.length then p else S'.α a) = (if b = S'.M.length then p else S'.α b):=e2
  simp at h1' h2'
  by_cases ha:a = S'.M.length
  ·by_cases hb:b = S'.M.length
   ·omega
   ·rw [if_pos ha,if_neg hb] at e'
    exact absurd e'.symm ((s.mok.hd p hp).1 b (by omega))
  ·by_cases hb:b = S'.M.length
   ·rw [if_neg ha,if_pos hb] at e'
    exact absurd e' ((s.mok.hd p hp).1 a (by omega))
   ·rw [if_neg ha,if_neg hb] at e'
    exact s.mok.inj a b (by omega) (by omega) e'
 ·obtain ⟨h1,us,q1⟩:=s.mok.hd q (sub q h)
  refine ⟨fun a ha z=>?_,us,q1⟩
  have z':(if a = S'.M.length then p else S'.α a) = q:=z
  have h3:a < (S'.M ++ [Cell.lst xs]).length:=ha
  by_cases hl:a = S'.M.length
  ·rw [if_pos hl] at z'
   obtain ⟨_,us2,q2⟩:=m.hd q h
   rw [← z',hn] at q2
   cases q2
  ·rw [if_neg hl] at z'
   exact h1 a (by simp at h3;omega) z'
noncomputable def Sit.hide (S:Sit) (p:Addr) (vs:List V):Sit:=⟨S.α,S.M,upd S.H p (.lst vs),p :: S.hid⟩
theorem Stp.hide (m:MemOk K S) (hp:S.H p = none) (vs:List V):Stp K S (S.hide p vs):=by
 have g:Grow S (S.hide p vs):=⟨Q3 _,fun _ _=>rfl,fun a h1 h2=>absurd (Q5 h2 h1) (Qn _),fun b u e _=>by show upd S.H p _ b = _;rw [yj (yt e hp)];exact e,fun q h=>⟨.tail _ h,by obtain ⟨_,vs,e⟩:=m.hd q h;exact yj (yt e hp)⟩,fun q h=>by
  cases h with
  | head=>exact .inr hp
  | tail _ h=>exact .inl h⟩
 refine ⟨g,⟨fun a c e=>?_,m.inj,fun q h=>?_⟩⟩
 ·have ha:a < S.M.length:=(List.getElem?_eq_some_iff.mp e).1
  exact (m.cell a c e).grow m g (yj ((m.off_none hp).1 a ha))
 ·cases h with
  | head=>exact ⟨(m.off_none hp).1,vs,zy⟩
  | tail _ h=>
   obtain ⟨h1,us,e⟩:=m.hd q h
   exact ⟨h1,us,(yj (yt e hp)).trans e⟩
end
variable {op op':CmpOp} {ga:Ev->Mem->Out (List T)} {tf:Ev->Mem->Out Bool} {f:Ev->Mem->Out T} {i:Int} {M:Mem} {x:Str} {o o':T->T->Mem->Out T}
section
variable {a b c:Expr} {g h:Ev->Mem->Out T}
theorem zan (h:PE X e (tC v)) (r:∀ S,Rep X.K S t v):GE X XE e (eC t):=PE.imp h fun σ H Q h9=>by
 obtain ⟨S,στ,_,e,m,ev,_,fin⟩:=h9
 show Q v H
 rw [← e];exact fin S v rfl (.refl m) (r S)
theorem zed (h:lE XE K (eOp o f g) σ H Q):lE XE K f σ H fun x H1=>lE XE K g σ H1 fun y H2=>lR2 XE K o x y H2 Q:=
 LN.mono (LN.bind (f:=fun _ σ M=>f σ M) (k:=fun _ x σ M1=>(g σ M1).bind fun y M2=>o x y M2) (RB:=Rep K) h) fun v H1 h1=>
  LN.mono (LN.env (f:=g) (LN.bind (f:=fun _ σ M=>g σ M) (k:=fun (ax:Unit × T) y σ M2=>o ax.2 y M2) (RB:=Rep K) h1)) fun w H2 h2=>by
   obtain ⟨S,στ,a,e,m,ev,ra,fin⟩:=h2
   exact ⟨S,(a.1.2,a.2),e,m,⟨ra.1.2,ra.2⟩,fin⟩
theorem zdf {β γ:Type} {R:Sit->β->γ->Prop} {S:Sit} {k:Bool->Mem->Out β} {Q:γ->Hp->Prop} (r:Rep K S t v) (h:Fin XE R K S (blT t M k) Q):∃ b,v = .bl b/\t = .bl b/\Fin XE R K S (k b M) Q:=by
 cases r with
 | bl b=>exact ⟨b,rfl,rfl,h⟩
 | _=>exact h.elim
theorem tif {tg:Ev->Mem->Out Bool} {Q:Bool->Hp->Prop} {p:Bool->Ev->Mem->Out Bool} (h:LN XE EqR K UnR (fun _ σ M=>(tf σ M).bind fun c M1=>p c σ M1) () σ H Q):lT XE K tf σ H fun c H1=>lT XE K (fun σ M=>p c σ M) σ H1 Q:=
 LN.mono (LN.bind (f:=fun _ σ M=>tf σ M) (k:=fun _ c σ M1=>p c σ M1) (RB:=EqR) h) fun c H1 h2=>by
  obtain ⟨S,στ,a,e,m,ev,ra,fin⟩:=h2
  have:a.2 = c:=ra.2
  subst this
  exact ⟨S,στ,(),e,m,ev,trivial,fin⟩
theorem zd7 {Q:Bool->Hp->Prop} {d:Bool} (h:lT XE K (fun _ M=>.ok d M) σ H Q):Q d H:=by
 obtain ⟨S,στ,a,e,m,ev,ra,fin⟩:=h
 rw [← e];exact fin S d rfl (.refl m) rfl
theorem ziH {d:T} (h:lE XE K (fun _ M=>.ok d M) σ H Q) (r:∀ S,Rep K S d v):Q v H:=by
 obtain ⟨S,στ,a,e,m,ev,ra,fin⟩:=h
 rw [← e];exact fin S v rfl (.refl m) (r S)
variable {tg:Ev->Mem->Out Bool} {rest:List Expr}
theorem GW.gt (h:GW X XE e tf):GT X XE e tf:=PW.pt h
theorem eif {p:Bool->Ev->Mem->Out T} (h:LN XE (Rep K) K UnR (fun _ σ M=>(f σ M).bind fun x M1=>blT x M1 fun b M2=>p b σ M2) () σ H Q):lE XE K f σ H fun x H1=>∃ c,x = .bl c/\lE XE K (fun σ M=>p c σ M) σ H1 Q:=
 LN.mono (LN.bind (f:=fun _ σ M=>f σ M) (k:=fun _ x σ M1=>blT x M1 fun b M2=>p b σ M2) (RB:=Rep K) h) fun c H1 h2=>by
  obtain ⟨S,στ,a,e,m,ev,ra,fin⟩:=h2
  obtain ⟨b,e1,e2,fin⟩:=zdf ra.2 fin
  exact ⟨b,e1,S,στ,(),e,m,ev,trivial,fin⟩
theorem chain (hh:lE XE K (zT o o' f g h) σ H Q):zel (lR2 XE K o) (lR2 XE K o') (lE XE K f) (lE XE K g) (lE XE K h) σ H Q:=
 LN.mono (LN.bind (f:=fun _ σ M=>f σ M) (k:=fun _ x σ M1=>(g σ M1).bind fun y M2=>(o x y M2).bind fun z M3=>blT z M3 fun b M4=>if b = true then (h σ M4).bind fun w M5=>o' y w M5 else .ok (.bl false) M4) (RB:=Rep K) hh) fun x H1 h1=>
  LN.mono (LN.env (f:=g) (LN.bind (f:=fun _ σ M=>g σ M) (k:=fun (ax:Unit × T) y σ M2=>(o ax.2 y M2).bind fun z M3=>blT z M3 fun b M4=>if b = true then (h σ M4).bind fun w M5=>o' y w M5 else .ok (.bl false) M4) (RB:=Rep K) h1)) fun y H2 h2=>by
   have h3:=LN.bind (f:=fun (a:(Unit × T) × T) _ M=>o a.1.2 a.2 M) (k:=fun a z σ M3=>blT z M3 fun b M4=>if b = true then (h σ M4).bind fun w M5=>o' a.2 w M5 else .ok (.bl false) M4) (RB:=Rep K) h2
   obtain ⟨S,a,e,m,ra,fin⟩:=LN.l0 (k:=fun (a:(Unit × T) × T) M=>o a.1.2 a.2 M) h3
   refine ⟨S,(a.1.2,a.2),e,m,⟨ra.1.2,ra.2⟩,fin.mono fun z H3 h4=>?_⟩
   obtain ⟨S3,στ,a3,e3,m3,ev3,ra3,fin3⟩:=h4
   obtain ⟨b,e1,_,fin3⟩:=zdf ra3.2 fin3
   refine ⟨b,e1,?_⟩
   cases b with
   | false=>exact (if_neg Q4).mpr (by rw [← e3];exact fin3 S3 _ rfl (.refl m3) (.bl _))
   | true=>
    refine (if_pos rfl).mpr ?_
    have h5:LN XE (Rep K) K (Rep K) (fun y σ M4=>(h σ M4).bind fun w M5=>o' y w M5) y σ H3 Q:=⟨S3,στ,a3.1.2,e3,m3,ev3,ra3.1.2,fin3⟩
    refine LN.mono (LN.env (f:=h) (LN.bind (f:=fun _ σ M=>h σ M) (k:=fun y w σ M5=>o' y w M5) (RB:=Rep K) h5)) fun w H4 h6=>?_
    exact LN.l0 (k:=fun (a:T × T) M=>o' a.1 a.2 M) h6
end
inductive Fl where
 | nx (σ:Ev) | rt (t:T) | bk (σ:Ev) | ct (σ:Ev)
inductive FlV where
 | nx (σ:L2.St) | rt (v:V) | bk (σ:L2.St) | ct (σ:L2.St)
inductive FlR (K:Frag) (S:Sit):Fl->FlV->Prop where
 | nx {a b}:EvR K S a b->FlR K S (.nx a) (.nx b)
 | rt {a b}:Rep K S a b->FlR K S (.rt a) (.rt b)
 | bk {a b}:EvR K S a b->FlR K S (.bk a) (.bk b)
 | ct {a b}:EvR K S a b->FlR K S (.ct a) (.ct b)
noncomputable def yQ (D:Ends):FlV->Hp->Prop
 | .nx σ,H=>D.nx σ H
 | .rt v,H=>D.rt v H
 | .bk σ,H=>D.bk σ H
 | .ct σ,H=>D.ct σ H
noncomputable def lS (XE:XK) (K:Frag) (g:Ev->Mem->Out Fl):TS:=fun D σ H=>LN XE (FlR K) K UnR (fun _ σ M=>g σ M) () σ H (yQ D)
def GS (X:Cx) (XE:XK) (st:Stmt) (g:Ev->Mem->Out Fl):Prop:=PS X st (lS XE X.K g)
def GSs (X:Cx) (XE:XK) (st:List Stmt) (g:Ev->Mem->Out Fl):Prop:=PSs X st (lS XE X.K g)
variable {στ:Ev}
theorem EvR.set {S:Sit} (r:EvR K S στ σ) (q:Rep K S t v) (i:Nat):EvR K S (στ.set i (some t)) (σ.set i (some v)):=by
 refine ⟨by simp [r.1],fun j u e=>?_⟩
 rw [Qb] at e ⊢
 by_cases h:i = j
 ·subst h
  by_cases hl:i < στ.length
  ·rw [if_pos rfl,if_pos hl] at e
   cases e
   exact ⟨v,by rw [if_pos rfl,if_pos (by rw [← r.1];exact hl)],q⟩
  ·rw [if_pos rfl,if_neg hl] at e;cases e
 ·rw [if_neg h] at e
  obtain ⟨w,e2,q2⟩:=r.2 j u e
  exact ⟨w,by rw [if_neg h];exact e2,q2⟩
noncomputable def qK:Ev->Mem->Out Fl:=fun σ M=>.ok (.nx σ) M
noncomputable def zns:Ev->Mem->Out Fl:=fun σ M=>.ok (.bk σ) M
noncomputable def znH:Ev->Mem->Out Fl:=fun σ M=>.ok (.ct σ) M
noncomputable def zaq (k:Ev->Mem->Out Fl) (fl:Fl) (M:Mem):Out Fl:=match fl with
 | .nx σ=>k σ M
 | .rt t=>.ok (.rt t) M
 | .bk σ=>.ok (.bk σ) M
 | .ct σ=>.ok (.ct σ) M
noncomputable def zg (g h:Ev->Mem->Out Fl):Ev->Mem->Out Fl:=fun σ M=>(g σ M).bind (zaq h)
noncomputable def yv (f:Ev->Mem->Out T):Ev->Mem->Out Fl:=fun σ M=>(f σ M).bind fun t M1=>.ok (.rt t) M1
noncomputable def zaD (f:Ev->Mem->Out T):Ev->Mem->Out Fl:=fun σ M=>(f σ M).bind fun _ M1=>.ok (.nx σ) M1
noncomputable def sIf (c:Ev->Mem->Out Bool) (g h:Ev->Mem->Out Fl):Ev->Mem->Out Fl:=fun σ M=>(c σ M).bind fun b M1=>if b = true then g σ M1 else h σ M1
noncomputable def yk (i:Nat) (f:Ev->Mem->Out T):Ev->Mem->Out Fl:=fun σ M=>(f σ M).bind fun t M1=>.ok (.nx (σ.set i (some t))) M1
noncomputable def lG (XE:XK) (K:Frag) (bd:T->Ev->Mem->Out Ev):TG:=fun v σ H Q=>LN XE (EvR K) K (Rep K) bd v σ H Q
noncomputable def lGs (XE:XK) (K:Frag) (bd:List T->Ev->Mem->Out Ev):TGs:=fun v σ H Q=>LN XE (EvR K) K (Reps K) bd v σ H Q
def GG (X:Cx) (XE:XK) (tg:Expr) (bd:T->Ev->Mem->Out Ev):Prop:=PG X tg (lG XE X.K bd)
def GGs (X:Cx) (XE:XK) (tg:List Expr) (bd:List T->Ev->Mem->Out Ev):Prop:=PGs X tg (lGs XE X.K bd)
noncomputable def ye (i:Nat):T->Ev->Mem->Out Ev:=fun t σ M=>.ok (σ.set i (some t)) M
noncomputable def za9:List T->Ev->Mem->Out Ev:=fun ts σ M=>match ts with
 | []=>.ok σ M
 | _=>.bad
noncomputable def yA (b:T->Ev->Mem->Out Ev) (bs:List T->Ev->Mem->Out Ev):List T->Ev->Mem->Out Ev:=fun ts σ M=>match ts with
 | t :: r=>(b t σ M).bind fun σ1 M1=>bs r σ1 M1
 | _=>.bad
noncomputable def za8 (n:Nat) (bs:List T->Ev->Mem->Out Ev):T->Ev->Mem->Out Ev:=fun t σ M=>match t with
 | .tup xs=>if xs.length = n then bs xs σ M else .bad
 | _=>.bad
noncomputable def zb0 (f:Ev->Mem->Out T) (b:T->Ev->Mem->Out Ev):Ev->Mem->Out Fl:=fun σ M=>(f σ M).bind fun t M1=>(b t σ M1).bind fun σ1 M2=>.ok (.nx σ1) M2
def zaF (K:Frag) (S:Sit) (items:List T) (J:It):Prop:=∀ S',Stp K S S'->
 (∀ (i:Nat) t,items[i]? = some t->J.go i S'.H/\∀ x H',J.yld i S'.H x H'->∃ S'',S''.H = H'/\S''.M = S'.M/\Stp K S' S''/\Rep K S'' t x)/\∀ i,items.length<=i->J.stop i S'.H
instance (K):Mo K (zaF K):=⟨fun _ s r=>fun S' s'=>r S' (s.trans s')⟩
noncomputable def lI (XE:XK) (K:Frag) (f:Ev->Mem->Out (List T)):TI:=fun σ H R=>LN XE (zaF K) K UnR (fun _ σ M=>f σ M) () σ H R
def GI (X:Cx) (XE:XK) (tg iter:Expr) (f:Ev->Mem->Out (List T)):Prop:=PI X tg iter (lI XE X.K f)
noncomputable def zI (k:Ev->Mem->Out Fl) (fl:Fl) (M:Mem):Out Fl:=match fl with
 | .nx σ=>k σ M
 | .ct σ=>k σ M
 | .bk σ=>.ok (.nx σ) M
 | .rt t=>.ok (.rt t) M
noncomputable def forL (bd:T->Ev->Mem->Out Ev) (body:Ev->Mem->Out Fl):List T->Ev->Mem->Out Fl
 | [],σ,M=>.ok (.nx σ) M
 | x :: xs,σ,M=>(bd x σ M).bind fun σ1 M1=>(body σ1 M1).bind (zI (forL bd body xs))
noncomputable def zai (it:Ev->Mem->Out (List T)) (bd:T->Ev->Mem->Out Ev) (body:Ev->Mem->Out Fl):Ev->Mem->Out Fl:=fun σ M=>(it σ M).bind fun xs M1=>forL bd body xs σ M1
noncomputable def whileN (c:Ev->Mem->Out Bool) (body:Ev->Mem->Out Fl):Nat->Ev->Mem->Out Fl
 | 0,_,_=>.bad
 | n + 1,σ,M=>(c σ M).bind fun b M1=>if b = true then (body σ M1).bind (zI (whileN c body n)) else .ok (.nx σ) M1
open Classical in
noncomputable def zev (c:Ev->Mem->Out Bool) (body:Ev->Mem->Out Fl):Ev->Mem->Out Fl:=fun σ M=>if h:∃ n,whileN c body n σ M ≠ .bad then whileN c body h.choose σ M else .bad
theorem zbf {c:Ev->Mem->Out Bool} {body:Ev->Mem->Out Fl}:∀ {n:Nat} {σ:Ev} {M:Mem} {r:Out Fl},whileN c body n σ M = r->r ≠ .bad->whileN c body (n + 1) σ M = r
 | 0,_,_,_,e,h=>absurd e.symm h
 | n + 1,σ,M,r,e,h=>by
  unfold whileN at e ⊢
  cases q:c σ M with
  | bad=>rw [q] at e;exact absurd e.symm h
  | exn C fs M'=>rw [q] at e;exact e
  | ok b M1=>
   rw [q] at e
   replace e:(if b = true then (body σ M1).bind (zI (whileN c body n)) else Out.ok (.nx σ) M1) = r:=e
   show (if b = true then (body σ M1).bind (zI (whileN c body (n + 1))) else Out.ok (.nx σ) M1) = r
   cases b with
   | false=>exact e
   | true=>
    rw [if_pos rfl] at e ⊢
    cases q2:body σ M1 with
    | bad=>rw [q2] at e;exact absurd e.symm h
    | exn C fs M'=>rw [q2] at e;exact e
    | ok fl M2=>
     rw [q2] at e
     cases fl with
     | nx σ2=>exact zbf (n:=n) e h
     | ct σ2=>exact zbf (n:=n) e h
     | bk σ2=>exact e
     | rt t=>exact e
variable {body:Ev->Mem->Out Fl} {n:Nat} {r:Out Fl}
theorem zdJ {c:Ev->Mem->Out Bool} {k:Nat} {σ:Ev} (e:whileN c body n σ M = r) (h:r ≠ .bad):whileN c body (n + k) σ M = r:=by
 induction k with
 | zero=>exact e
 | succ k ih=>exact zbf ih h
theorem zgx {c:Ev->Mem->Out Bool} {σ:Ev} (n:Nat) (e:whileN c body n σ M = r) (h:r ≠ .bad):zev c body σ M = r:=by
 have ex:∃ n,whileN c body n σ M ≠ .bad:=⟨n,by rw [e];exact h⟩
 unfold zev
 rw [dif_pos ex]
 have h2:=ex.choose_spec
 have e1:=zdJ (k:=ex.choose) e h
 have e2:=zdJ (k:=n) rfl h2
 rw [Nat.add_comm] at e2
 rw [← e2,e1]
noncomputable def zh5 (XE:XK) (K:Frag) (st:T->T->T->Mem->Out Unit):zgm:=fun o i v H Q=>L0 XE UnR K (PrR (PrR (Rep K) (Rep K)) (Rep K)) (fun a M=>st a.1.1 a.1.2 a.2 M) ((o,i),v) H (fun _ H'=>Q H')
noncomputable def zgj (st:T->T->T->Mem->Out Unit) (f g:Ev->Mem->Out T):T->Ev->Mem->Out Ev:=fun t σ M=>(f σ M).bind fun o M1=>(g σ M1).bind fun i M2=>(st o i t M2).bind fun _ M3=>.ok σ M3
variable {D:Ends} {iter tg:Expr} {st:Stmt} {bd:T->Ev->Mem->Out Ev}
section
variable {a b c:Expr} {g h:Ev->Mem->Out T} {sts rest:List Stmt} {p q r:Ev->Mem->Out Fl}
theorem zk3 (hh:lS XE K (zg p q) D σ H):lS XE K p { D with nx:=lS XE K q D } σ H:=by
 obtain ⟨S,στ,_,e,m,ev,_,fin⟩:=hh
 refine ⟨S,στ,(),e,m,ev,trivial,?_⟩
 show Fin XE (FlR K) K S (p στ S.M) _
 replace fin:Fin XE (FlR K) K S ((p στ S.M).bind (zaq q)) (yQ D):=fin
 cases o:p στ S.M with
 | bad=>rw [o] at fin;exact fin
 | exn C fs M'=>rw [o] at fin;exact fin
 | ok fl M1=>
  rw [o] at fin
  intro S1 cc e1 s1 r1
  cases r1 with
  | nx r1=>exact ⟨S1,_,(),rfl,s1.mok,r1,trivial,by rw [e1];exact Fin.later s1 fin⟩
  | rt r1=>exact fin S1 _ e1 s1 (.rt r1)
  | bk r1=>exact fin S1 _ e1 s1 (.bk r1)
  | ct r1=>exact fin S1 _ e1 s1 (.ct r1)
theorem PG.imp {t t':TG} (h:PG X tg t) (i:∀ v σ H Q,t' v σ H Q->t v σ H Q):PG X tg t':=fun pins s σ H v u Q I r q=>h pins s σ H v u Q I r (i v σ H Q q)
theorem PGs.imp {tgs:List Expr} {t t':TGs} (h:PGs X tgs t) (i:∀ v σ H Q,t' v σ H Q->t v σ H Q):PGs X tgs t':=fun pins s σ H v u Q I r q=>h pins s σ H v u Q I r (i v σ H Q q)
theorem zmc (hh:LN XE (FlR K) K (Rep K) (fun t σ M=>(bd t σ M).bind fun σ1 M2=>.ok (Fl.nx σ1) M2) v σ H (yQ D)):lG XE K bd v σ H D.nx:=by
 obtain ⟨S,στ,t,e,m,ev,ra,fin⟩:=hh
 refine ⟨S,στ,t,e,m,ev,ra,?_⟩
 replace fin:Fin XE (FlR K) K S ((bd t στ S.M).bind fun σ1 M2=>.ok (Fl.nx σ1) M2) (yQ D):=fin
 cases o:bd t στ S.M with
 | bad=>rw [o] at fin;exact fin
 | exn C fs M'=>rw [o] at fin;exact fin
 | ok σ1 M1=>
  rw [o] at fin
  intro S1 cc e1 s1 ev1
  exact fin S1 (.nx cc) e1 s1 (.nx ev1)
theorem PI.imp {t t':TI} (h:PI X tg iter t) (i:∀ σ H R,t' σ H R->t σ H R):PI X tg iter t':=fun pins s σ H R I q=>h pins s σ H R I (i σ H R q)
end
noncomputable def startT (n:Nat) (ts:List T):Ev:=ts.map some ++ List.replicate (n - ts.length) none
noncomputable def qr (p n:Nat) (g:Ev->Mem->Out Fl):List T->Mem->Out T:=fun ts M=>if ts.length = p then match g (startT n ts) M with
 | .ok (.rt t) M'=>.ok t M'
 | .ok (.nx _) M'=>.ok .non M'
 | _=>.bad else .bad
noncomputable def spT (K:Frag) (f:List T->Mem->Out T):Sp:=fun vs H Q E=>L0 E (Rep K) K (Reps K) f vs H Q
structure CalT (P:Program) (w:World) (K:Frag) (mg:Str->Option Value) (base:Heap) (k:Nat) (x:Str) (ps:List Str) (f:List T->Mem->Out T):Prop where
 cal:Cal P w K mg base k x ps (spT K f)
 nox:∀ ts M C fs M',f ts M ≠ .exn C fs M'
theorem zfX (p n:Nat) (g:Ev->Mem->Out Fl):∀ ts M C fs M',qr p n g ts M ≠ .exn C fs M':=by
 intro ts M C fs M' z
 unfold qr at z
 split at z
 ·split at z <;> cases z
 ·cases z
variable {N:List Str}
theorem EvR.start {S:Sit} (r:Reps K S ts vs) (hn:N.length = n):EvR K S (startT n ts) (L2.start N vs):=by
 subst hn
 refine ⟨by simp [startT,L2.start,r.1],fun i t e=>?_⟩
 unfold startT at e
 unfold L2.start
 by_cases hi:i < ts.length
 ·rw [Q6 (by simpa using hi)] at e
  rw [Q6 (by simpa [← r.1] using hi)]
  rw [Qa] at e ⊢
  cases q:ts[i]? with
  | none=>rw [q] at e;cases e
  | some t'=>
   rw [q] at e
   have:t' = t:=Qc (Qc e)
   subst this
   obtain ⟨v,e2,r2⟩:=r.get q
   exact ⟨v,by rw [e2];rfl,r2⟩
 ·rw [Q7 (by simpa using hi)] at e
  rw [List.getElem?_replicate] at e
  split at e <;> cases e
variable {g:Ev->Mem->Out Fl} {base:Heap} {ps:List Str} {P:Program} {mg:Str->Option Value} {w:World}
section
theorem ze6 {st:List Stmt} {p:Nat} (hn:N.length = n) {E:XK} (hX:X.K = K) (h:spT K (qr p n g) vs H Q E) (hb:GSs X E0 st g) :
  ∃ t,PSs X st t/\t { nx:=fun _ H'=>Q .non H',rt:=Q } (start N vs) H:=by
 subst hX
 refine ⟨_,hb,?_⟩
 obtain ⟨S,ts,e,m,r,fin⟩:=h
 refine ⟨S,startT n ts,(),e,m,EvR.start r hn,trivial,?_⟩
 show Fin E0 (FlR X.K) X.K S (g (startT n ts) S.M) _
 unfold qr at fin
 by_cases hp:ts.length = p
 ·rw [if_pos hp] at fin
  cases o:g (startT n ts) S.M with
  | bad=>rw [o] at fin;exact fin
  | exn C fs M'=>rw [o] at fin;exact fin.elim
  | ok fl M1=>
   rw [o] at fin
   cases fl with
   | nx σ1=>
    intro S1 c e1 s1 r1
    cases r1 with
    | nx r1=>exact fin S1 .non e1 s1 .non
   | rt t=>
    intro S1 c e1 s1 r1
    cases r1 with
    | rt r1=>exact fin S1 _ e1 s1 r1
   | bk σ1=>exact fin.elim
   | ct σ1=>exact fin.elim
 ·rw [if_neg hp] at fin;exact fin.elim
theorem zgs {p:Nat} (hp:ps.length = p):∀ vs H Q E,spT K (qr p n g) vs H Q E->vs.length = ps.length:=by
 intro vs H Q E ⟨S,ts,e,m,r,fin⟩
 rw [← r.1,hp]
 unfold qr at fin
 by_cases h:ts.length = p
 ·exact h
 ·rw [if_neg h] at fin;exact fin.elim
theorem zhp {k p:Nat} (D:Df K mg x st ps) (Sc:FnScope N ps (qg st)) (hp:ps.length = p) (hn:N.length = n)
 (hb:∀ (f:Addr) (cdv:Value) (A:Around) (outer:List PySem.Env) (s:Shared) (H:Hp) (E:XK),Room k (A.deeper (envOfC x (qg st) s.heap.objs.size f cdv))->GSs (za1 CX0 P w K mg base N x (qg st) f cdv A outer s H E).nox E0 (zF st) g) :
  CalT P w K mg base (k + 1) x ps (qr p n g):=
 ⟨D.ok Sc (zgs hp) fun f cdv A outer s H vs Q E hr h=>ze6 hn rfl h (hb f cdv A outer s H E hr),zfX _ _ _⟩
theorem zk1 {qual:Str} {f:Addr} {fd:FuncData} {k p:Nat} (F:Fun K x qual st f fd) (Sc:FnScope N ps (qg st)) (hp:ps.length = p) (hn:N.length = n)
 (hb:∀ (cdv:Value) (A:Around) (outer:List PySem.Env) (s:Shared) (H:Hp) (E:XK),Room k (A.deeper (envOfC qual (qg st) s.heap.objs.size f cdv))->GSs (za1 CX0 P w K mg base N qual (qg st) f cdv A outer s H E).nox E0 (zF st) g) :
  FnOk P w K mg base CX0 (k + 1) f fd ps (spT K (qr p n g)):=
 F.ok Sc (zgs hp) fun cdv A outer s H vs Q E hr h=>ze6 hn rfl h (hb cdv A outer s H E hr)
theorem zjw {f:List T->Mem->Out T} {a:Addr} {ns:List Int} {M':Mem} (hS:SqL K H a (ns.map V.int)) (h:f [.lst (ns.map .int)] [] = .ok (.bl true) M'):spT K f [.ref a] H (fun v _=>v = .bl true) fun _ _ _=>False:=by
 refine ⟨⟨fun _=>0,[],H,[]⟩,[.lst (ns.map .int)],rfl,⟨fun a c e=>by simp at e,fun a b h=>absurd h (Nat.not_lt_zero _),fun p h=>by simp at h⟩,.cons (.lst (vs:=ns.map V.int) ?_ (by simp) ?_) .nil,?_⟩
 ·rcases hS with h | h
  ·exact .inl ⟨h,fun a h=>absurd h (Nat.not_lt_zero _),fun z=>by simp at z⟩
  ·exact .inr h
 ·intro i t v e1 e2
  rw [Qa] at e1 e2
  cases q:ns[i]? with
  | none=>rw [q] at e1;cases e1
  | some z=>rw [q] at e1 e2;cases e1;cases e2;exact .int z
 ·show Fin _ _ K _ (f [.lst (ns.map .int)] []) _
  rw [h]
  intro S' c e s r
  cases r
  rfl
end
section
variable {k:Nat} {p:Pos} {F:List T->Mem->Out T}
end
inductive T.lt (n:Nat):T->Prop where
 | non:T.lt n .non
 | bl (b:Bool):T.lt n (.bl b)
 | int (i:Int):T.lt n (.int i)
 | str (x:Str):T.lt n (.str x)
 | ty (x:String):T.lt n (.ty x)
 | tup {ts:List T} (h:∀ t ∈ ts,T.lt n t):T.lt n (.tup ts)
 | lst {ts:List T} (h:∀ t ∈ ts,T.lt n t):T.lt n (.lst ts)
 | ref {a:Nat} (h:a < n):T.lt n (.ref a)
 | dct {kvs:List (Key × T)} (h:∀ t ∈ kvs.map (·.2),T.lt n t):T.lt n (.dct kvs)
 | exc {C:Addr} {fs:List (Str × T)} (h:∀ t ∈ fs.map (·.2),T.lt n t):T.lt n (.exc C fs)
noncomputable def Cell.lt (n:Nat):Cell->Prop
 | .lst ts=>∀ t ∈ ts,T.lt n t
 | .dic kvs=>∀ k ∈ kvs,T.lt n k.2
 | .ins _ fs=>∀ k ∈ fs,T.lt n k.2
inductive Fz (M':Mem) (n:Nat):T->T->Prop where
 | same {t:T} (h:T.lt n t):Fz M' n t t
 | tup {ts us:List T} (l:ts.length = us.length) (h:∀ (i:Nat) t u,ts[i]? = some t->us[i]? = some u->Fz M' n t u):Fz M' n (.tup ts) (.tup us)
 | lst {ts us:List T} (l:ts.length = us.length) (h:∀ (i:Nat) t u,ts[i]? = some t->us[i]? = some u->Fz M' n t u):Fz M' n (.lst ts) (.lst us)
 | ref {a:Nat} {ts us:List T} (e:M'[a]? = some (.lst ts)) (g:n<=a) (l:ts.length = us.length) (h:∀ (i:Nat) t u,ts[i]? = some t->us[i]? = some u->Fz M' n t u):Fz M' n (.ref a) (.lst us)
theorem Rep.lt {S:Sit} (r:Rep K S t v):T.lt S.M.length t:=by
 induction r with
 | non=>exact .non
 | bl b=>exact .bl b
 | int b=>exact .int b
 | str b=>exact .str b
 | ty b=>exact .ty b
 | @tup ts p vs h l _ ih=>
  refine .tup fun t ht=>?_
  obtain ⟨i,hi,rfl⟩:=getElem_of_mem ht
  exact ih i _ vs[i] (by simp [hi]) (by simp [← l,hi])
 | @lst ts p vs h l _ ih=>
  refine .lst fun t ht=>?_
  obtain ⟨i,hi,rfl⟩:=getElem_of_mem ht
  exact ih i _ vs[i] (by simp [hi]) (by simp [← l,hi])
 | ref h=>exact .ref h
 | @dct kvs us p o h l _ ih=>
  refine .dct fun t ht=>?_
  obtain ⟨i,hi,rfl⟩:=getElem_of_mem ht
  have hl:i < us.length:=by have:=congrArg List.length l;simp at this hi;omega
  exact ih i _ (us[i]'hl).2 (Q0 hi) (by simp [hl])
 | @exc C fs us p od h hd l _ ih=>
  refine .exc fun t ht=>?_
  obtain ⟨i,hi,rfl⟩:=getElem_of_mem ht
  have hl:i < us.length:=by have:=congrArg List.length l;simp at this hi;omega
  exact ih i _ (us[i]'hl).2 (Q0 hi) (by simp [hl])
theorem Reps.lt {S:Sit} (r:Reps K S ts vs):∀ t ∈ ts,T.lt S.M.length t:=fun t ht=>by
 obtain ⟨i,hi,rfl⟩:=getElem_of_mem ht
 have hv:i < vs.length:=by rw [← r.1];exact hi
 exact (r.2 i _ vs[i] (by simp [hi]) (by simp [hv])).lt
theorem zfB {κ:Type} {fs:List (κ × T)} (h:∀ t ∈ fs.map (·.2),T.lt n t):∀ k ∈ fs,T.lt n k.2:=fun k hk=>h _ (List.mem_map_of_mem (f:=(·.2)) hk)
theorem CellOk.lt {S:Sit} (h:CellOk K S p c):Cell.lt S.M.length c:=by
 cases c with
 | lst ts=>obtain ⟨vs,_,r⟩:=h;exact r.lt
 | dic ts=>obtain ⟨vs,_,r⟩:=h;exact zfB r.2.lt
 | ins C ts=>obtain ⟨dx,vs,_,r⟩:=h;exact zfB r.2.lt
variable {m:Nat}
theorem T.lt.mono (h:n<=m) (r:T.lt n t):T.lt m t:=by
 induction r with
 | non=>exact .non
 | bl b=>exact .bl b
 | int b=>exact .int b
 | str b=>exact .str b
 | ty b=>exact .ty b
 | tup _ ih=>exact .tup ih
 | lst _ ih=>exact .lst ih
 | ref g=>exact .ref (Q5 g h)
 | dct _ ih=>exact .dct ih
 | exc _ ih=>exact .exc ih
noncomputable def Sit.cut (S:Sit) (n:Nat) (h:List Addr):Sit:=⟨S.α,S.M.take n,S.H,h⟩
variable {u:T}
section
variable {S:Sit}
theorem Rep.cut (hn:n<=S'.M.length) (sub:∀ p ∈ hh,p ∈ S'.hid) (r:Rep K S' t v) (l:T.lt n t):Rep K (S'.cut n hh) t v:=by
 have ln:(S'.cut n hh).M.length = n:=by show (S'.M.take n).length = n;simp;omega
 induction r with
 | non=>exact .non
 | bl b=>exact .bl b
 | int b=>exact .int b
 | str b=>exact .str b
 | ty b=>exact .ty b
 | @tup ts p vs h l2 _ ih=>
  cases l with
  | tup hl=>exact .tup h l2 fun i t v e1 e2=>ih i t v e1 e2 (hl t (Q9 e1))
 | @lst ts p vs h l2 _ ih=>
  cases l with
  | lst hl=>
   refine .lst ?_ l2 fun i t v e1 e2=>ih i t v e1 e2 (hl t (Q9 e1))
   rcases h with ⟨h,f⟩ | h
   ·exact .inl ⟨h,fun a ha z=>f.1 a (by rw [ln] at ha;omega) z,fun z=>f.2 (sub _ z)⟩
   ·exact .inr h
 | @ref a h=>
  cases l with
  | ref hl=>exact .ref (S:=S'.cut n hh) (by rw [ln];exact hl)
 | dct h l2 _ ih=>
  cases l with
  | dct hl=>exact .dct (S:=S'.cut n hh) h l2 fun i t v e1 e2=>ih i t v e1 e2 (hl t (Q9 e1))
 | exc h hd l2 _ ih=>
  cases l with
  | exc hl=>exact .exc (S:=S'.cut n hh) h hd l2 fun i t v e1 e2=>ih i t v e1 e2 (hl t (Q9 e1))
theorem Reps.cut (hn:n<=S'.M.length) (sub:∀ p ∈ hh,p ∈ S'.hid) {t:List T} {v:List V} (r:Reps K S' t v) (l:∀ x ∈ t,T.lt n x):Reps K (S'.cut n hh) t v:=⟨r.1,fun i t v e1 e2=>(r.2 i t v e1 e2).cut hn sub (l t (Q9 e1))⟩
theorem CellOk.cut (hn:n<=S'.M.length) (sub:∀ p ∈ hh,p ∈ S'.hid) (r:CellOk K S' p c) (l:Cell.lt n c):CellOk K (S'.cut n hh) p c:=by
 have ms:∀ {κ:Type} {fs:List (κ × T)},(∀ k ∈ fs,T.lt n k.2)->∀ t ∈ fs.map (·.2),T.lt n t:=fun h t ht=>by
  obtain ⟨k,hk,rfl⟩:=mem_map.mp ht
  exact h k hk
 cases c with
 | lst ts=>obtain ⟨vs,q,r⟩:=r;exact ⟨vs,q,r.cut hn sub l⟩
 | dic ts=>obtain ⟨vs,q,r⟩:=r;exact ⟨vs,q,r.1,r.2.cut hn sub (ms l)⟩
 | ins C ts=>obtain ⟨dx,vs,q,r⟩:=r;exact ⟨dx,vs,q,r.1,r.2.cut hn sub (ms l)⟩
theorem Stp.cut (s:Stp K S S') (h1:S.M.length<=n) (h2:n<=S'.M.length) (hl:∀ (i:Nat) c,i < n->S'.M[i]? = some c->Cell.lt n c):Stp K S (S'.cut n S.hid):=by
 have sub:∀ p ∈ S.hid,p ∈ S'.hid:=fun p h=>(s.hk p h).1
 have ln:(S'.cut n S.hid).M.length = n:=by show (S'.M.take n).length = n;simp;omega
 refine ⟨⟨by rw [ln];exact h1,s.al,fun a g1 g2=>s.fr a g1 (by rw [ln] at g2;omega),s.kp,fun p h=>⟨h,(s.hk p h).2⟩,fun p h=>.inl h⟩,⟨fun a c e=>?_,fun a b g1 g2 e=>s.mok.inj a b (by rw [ln] at g1;omega) (by rw [ln] at g2;omega) e,fun p h=>?_⟩⟩
 ·have e':(S'.M.take n)[a]? = some c:=e
  rw [List.getElem?_take] at e'
  split at e'
  ·rename_i hi
   exact (s.mok.cell a c e').cut h2 sub (hl a c hi e')
  ·cases e'
 ·obtain ⟨g1,vs,g2⟩:=s.mok.hd p (sub p h)
  exact ⟨fun a ha z=>g1 a (by rw [ln] at ha;omega) z,vs,g2⟩
theorem Rep.fz (m:MemOk K S') (hn:n<=S'.M.length) (sub:∀ p ∈ hh,p ∈ S'.hid) (z:Fz S'.M n t u):∀ {v:V},Rep K S' t v->Rep K (S'.cut n hh) u v:=by
 have ln:(S'.cut n hh).M.length = n:=by show (S'.M.take n).length = n;simp;omega
 induction z with
 | same h=>exact fun r=>r.cut hn sub h
 | @tup ts us l _ ih=>
  intro v r
  cases r with
  | @tup _ p vs h l2 rr=>
   refine .tup h (by rw [← l];exact l2) fun i t v e1 e2=>?_
   have hi:i < ts.length:=by rw [l];exact (List.getElem?_eq_some_iff.mp e1).1
   exact ih i ts[i] t (by simp [hi]) e1 (rr i _ v (by simp [hi]) e2)
 | @lst ts us l _ ih=>
  intro v r
  cases r with
  | @lst _ p vs h l2 rr=>
   refine .lst ?_ (by rw [← l];exact l2) fun i t v e1 e2=>?_
   ·rcases h with ⟨h,f⟩ | h
    ·exact .inl ⟨h,fun a ha z=>f.1 a (by rw [ln] at ha;omega) z,fun z=>f.2 (sub _ z)⟩
    ·exact .inr h
   ·have hi:i < ts.length:=by rw [l];exact (List.getElem?_eq_some_iff.mp e1).1
    exact ih i ts[i] t (by simp [hi]) e1 (rr i _ v (by simp [hi]) e2)
 | @ref a ts us e g l _ ih=>
  intro v r
  cases r with
  | ref ha=>
   obtain ⟨vs,q,rr⟩:=m.cell a _ e
   refine .lst (vs:=vs) (.inl ⟨.inl q,fun b hb z=>?_,fun z=>?_⟩) (by rw [← l];exact rr.1) fun i t v e1 e2=>?_
   ·rw [ln] at hb
    have:=m.inj b a (by omega) ha z
    omega
   ·exact (m.hd _ (sub _ z)).1 a ha rfl
   ·have hi:i < ts.length:=by rw [l];exact (List.getElem?_eq_some_iff.mp e1).1
    exact ih i ts[i] t (by simp [hi]) e1 (rr.2 i _ v (by simp [hi]) e2)
end
def Refines (f g:List T->Mem->Out T):Prop:=∀ ts M t' M1,(∀ c ∈ M,Cell.lt M.length c)->f ts M = .ok t' M1->∃ t M',g ts M = .ok t M'/\M.length<=M1.length/\M1.length<=M'.length/\M1 = M'.take M1.length/\(∀ (i:Nat) c,M1[i]? = some c->M[i]? = some c\/Cell.lt M1.length c)/\Fz M' M1.length t t'
theorem Cell.lt.mono (h:n<=m) (r:Cell.lt n c):Cell.lt m c:=by
 cases c with
 | lst ts=>exact fun t ht=>(r t ht).mono h
 | dic ts=>exact fun t ht=>(r t ht).mono h
 | ins C ts=>exact fun t ht=>(r t ht).mono h
theorem CalT.refine {k:Nat} {f g:List T->Mem->Out T} (C:CalT P w K mg base k x ps g) (h:Refines f g) (nox:∀ ts M C fs M',f ts M ≠ .exn C fs M'):CalT P w K mg base k x ps f:=by
 refine ⟨?_,nox⟩
 obtain ⟨⟨fa,fd,F,kp,b,gg⟩⟩:=C.cal
 have key:∀ vs H Q E,spT K f vs H Q E->spT K g vs H Q E:=by
  rintro vs H Q E ⟨S,ts,e,m,r,fin⟩
  refine ⟨S,ts,e,m,r,?_⟩
  have wf:∀ c ∈ S.M,Cell.lt S.M.length c:=fun c hc=>by
   obtain ⟨i,hi,rfl⟩:=getElem_of_mem hc
   exact (m.cell i _ (by simp [hi])).lt
  cases o:f ts S.M with
  | bad=>rw [o] at fin;exact fin.elim
  | exn C' fs M'=>exact absurd o (nox _ _ _ _ _)
  | ok t' M1=>
   rw [o] at fin
   obtain ⟨t,M',eg,l1,l2,eM,hc,z⟩:=h ts S.M t' M1 wf o
   rw [eg]
   intro S' v e1 s r1
   have hl:∀ (i:Nat) c,i < M1.length->S'.M[i]? = some c->Cell.lt M1.length c:=fun i c hi ec=>by
    have e2:M1[i]? = some c:=by
     rw [eM,List.getElem?_take,if_pos hi,← e1];exact ec
    rcases hc i c e2 with q | q
    ·exact (wf c (Q9 q)).mono l1
    ·exact q
   have sc:=s.cut l1 (by rw [e1];exact l2) hl
   refine fin (S'.cut M1.length S.hid) v ?_ sc ?_
   ·show S'.M.take M1.length = M1
    rw [e1];exact eM.symm
   ·exact Rep.fz s.mok (by rw [e1];exact l2) (fun p h=>(s.hk p h).1) (by rw [e1];exact z) r1
 refine ⟨⟨fa,fd,⟨fun vs H Q E q=>F.len vs H Q E (key _ _ _ _ q),?_⟩,kp,b,gg⟩⟩
 intro A outer s H args us vs Q E hr h0 hb hv hq
 exact F.run A outer s H args us vs Q E hr h0 hb hv (key _ _ _ _ hq)
noncomputable def qm (t:T) (M:Mem):Option (List T):=match t with
 | .lst xs=>some xs
 | .ref a=>match M[a]? with
  | some (.lst xs)=>some xs
  | _=>none
 | _=>none
noncomputable def zes (t:T):Option (List T):=match t with
 | .lst xs=>some xs
 | .tup xs=>some xs
 | _=>none
noncomputable def zbc (t:T) (M:Mem):Option (List T):=match t with
 | .tup xs=>some xs
 | t=>qm t M
section
variable {S:Sit}
theorem zb5 (h:(Rd S.H p (.lst vs)/\S.off p)\/KL K p vs):SqL K S.H p vs:=by
 rcases h with ⟨h,_⟩ | h
 ·exact .inl h
 ·exact .inr h
theorem zm (m:MemOk K S) (r:Rep K S t v) (e:qm t S.M = some xs):∃ p vs,v = .ref p/\SqL K S.H p vs/\Reps K S xs vs:=by
 cases r with
 | @lst ts p vs h l r=>cases e;exact ⟨p,vs,rfl,zb5 h,l,r⟩
 | @ref a h=>
  unfold qm at e
  dsimp only at e
  split at e
  ·rename_i ys q
   cases e
   obtain ⟨vs,q2,r2⟩:=m.cell a _ q
   exact ⟨_,vs,rfl,.inl (.inl q2),r2⟩
  ·cases e
 | _=>cases e
theorem zau (m:MemOk K S) (r:Rep K S t v) (e:zbc t S.M = some xs):∃ p vs,v = .ref p/\(SqL K S.H p vs\/SqT K S.H p vs)/\Reps K S xs vs:=by
 cases t with
 | tup ts=>
  cases e
  cases r with
  | @tup _ p vs h l r=>exact ⟨p,vs,rfl,.inr h,l,r⟩
 | lst ts=>obtain ⟨p,vs,e1,h,r2⟩:=zm m r e;exact ⟨p,vs,e1,.inl h,r2⟩
 | ref a=>obtain ⟨p,vs,e1,h,r2⟩:=zm m r e;exact ⟨p,vs,e1,.inl h,r2⟩
 | _=>cases e
end
noncomputable def yx (f:Ev->Mem->Out T):Ev->Mem->Out (List T):=fun σ M=>(f σ M).bind fun t M1=>match zes t with
 | some xs=>.ok xs M1
 | none=>.bad
noncomputable def zbi (lo:Int) (n:Nat):List T:=(List.range n).map fun (k:Nat)=>T.int (lo + (k:Int))
noncomputable def zcI (ts:List T) (M1:Mem):Out (List T):=match ts with
 | [.int j]=>@ite _ (-(2 ^ 62)<=j/\j < 2 ^ 62) (Classical.propDecidable _) (.ok (zbi 0 j.toNat) M1) .bad
 | _=>.bad
noncomputable def zdn (ts:List T) (M1:Mem):Out (List T):=match ts with
 | [.int i,.int j]=>@ite _ ((-(2 ^ 62)<=i/\i < 2 ^ 62)/\(-(2 ^ 62)<=j/\j < 2 ^ 62)) (Classical.propDecidable _) (.ok (zbi i (j - i).toNat) M1) .bad
 | _=>.bad
noncomputable def qI (f:Ev->Mem->Out (List T)):Ev->Mem->Out (List T):=fun σ M=>(f σ M).bind fun ts M1=>zcI ts M1
noncomputable def zdz (f:Ev->Mem->Out (List T)):Ev->Mem->Out (List T):=fun σ M=>(f σ M).bind fun ts M1=>zdn ts M1
theorem zeO (K:Frag) (S:Sit) (lo:Int) (n:Nat):zaF K S (zbi lo n) (Itr lo n):=fun S' s=>by
 refine ⟨fun i t e=>?_,fun i h=>?_⟩
 ·unfold zbi at e
  rw [Qa] at e
  cases q:(List.range n)[i]? with
  | none=>rw [q] at e;cases e
  | some k=>
   rw [q] at e
   cases e
   have hi:i < n:=by have:=(List.getElem?_eq_some_iff.mp q).1;simpa using this
   have hk:k = i:=by rw [getElem?_range hi] at q;exact (Qc q).symm
   subst hk
   refine ⟨hi,fun x H' hy=>?_⟩
   obtain ⟨e1,e2⟩:=hy
   exact ⟨S',e1.symm,rfl,.refl s.mok,by rw [e2];exact .int _⟩
 ·show n<=i
  simpa [zbi] using h
section
variable {a b c:Expr} {g h:Ev->Mem->Out T} {p:Pos}
theorem zlp (he:GE X XE e f):GI X XE tg e (yx f):=PI.imp (PI.or (zft he) (zkw he)) fun σ H R h9=>by
 obtain ⟨S,στ,_,e,m,ev,_,fin⟩:=h9
 replace fin:Fin XE (zaF X.K) X.K S ((f στ S.M).bind fun t M1=>match zes t with | some xs=>.ok xs M1 | none=>.bad) R:=fin
 cases o:f στ S.M with
 | bad=>rw [o] at fin;exact fin.elim
 | exn C fs M'=>
  rw [o] at fin
  refine .inl ⟨S,στ,(),e,m,ev,trivial,?_⟩
  show Fin XE (Rep X.K) X.K S (f στ S.M) _
  rw [o];exact fin
 | ok t M1=>
  rw [o] at fin
  cases t with
  | lst ts=>
   refine .inl ⟨S,στ,(),e,m,ev,trivial,?_⟩
   show Fin XE (Rep X.K) X.K S (f στ S.M) _
   rw [o]
   intro S1 v e1 s1 r1
   cases r1 with
   | @lst _ p vs h l r=>
    have r1:Reps X.K S1 ts vs:=⟨l,r⟩
    refine ⟨p,rfl,⟨vs,zb5 h⟩,fin S1 _ e1 s1 fun S3 s3=>?_⟩
    have g3:SqL X.K S3.H p vs:=by
     rcases h with ⟨h2,f2⟩ | h2
     ·exact .inl (s3.toGrow.rd h2 f2).1
     ·exact .inr h2
    refine ⟨fun i t et=>?_,fun i hi=>⟨vs,g3,by rw [← l];exact hi⟩⟩
    obtain ⟨v2,ev3,r3⟩:=r1.get et
    refine ⟨⟨vs,v2,g3,ev3⟩,fun x H' hy=>?_⟩
    obtain ⟨ey,hy⟩:=hy
    have:=hy vs g3
    rw [ev3] at this
    cases this
    exact ⟨S3,ey.symm,rfl,.refl s3.mok,r3.grow s1.mok s3.toGrow⟩
  | tup ts=>
   refine .inr ⟨S,στ,(),e,m,ev,trivial,?_⟩
   show Fin XE (Rep X.K) X.K S (f στ S.M) _
   rw [o]
   intro S1 v e1 s1 r1
   cases r1 with
   | @tup _ p vs h l r=>
    have r1:Reps X.K S1 ts vs:=⟨l,r⟩
    refine ⟨p,rfl,⟨vs,h⟩,fin S1 _ e1 s1 fun S3 s3=>?_⟩
    have g3:SqT X.K S3.H p vs:=s3.toGrow.tup s1.mok h
    refine ⟨fun i t et=>?_,fun i hi=>⟨vs,g3,by rw [← l];exact hi⟩⟩
    obtain ⟨v2,ev3,r3⟩:=r1.get et
    refine ⟨⟨vs,v2,g3,ev3⟩,fun x H' hy=>?_⟩
    obtain ⟨ey,hy⟩:=hy
    have:=hy vs g3
    rw [ev3] at this
    cases this
    exact ⟨S3,ey.symm,rfl,.refl s3.mok,r3.grow s1.mok s3.toGrow⟩
  | _=>exact fin.elim
end
noncomputable def ql (bd:T->Ev->Mem->Out Ev) (cond:Ev->Mem->Out Bool) (el:Ev->Mem->Out T):List T->Ev->Mem->List T->Out (List T)
 | [],_,M,acc=>.ok acc M
 | x :: xs,σ,M,acc=>(bd x σ M).bind fun σ1 M1=>(cond σ1 M1).bind fun b M2=>if b = true then (el σ1 M2).bind fun t M3=>if acc.length < sizeLine then ql bd cond el xs σ1 M3 (acc ++ [t]) else .bad else ql bd cond el xs σ1 M2 acc
noncomputable def zcc (tgs:List Str) (caps:List (Str × Nat)) (σ:Ev):Ev:=tgs.map (fun _=>none) ++ caps.map fun c=>(σ[c.2]?).join
noncomputable def zr (it:Ev->Mem->Out (List T)) (bd:T->Ev->Mem->Out Ev) (cond:Ev->Mem->Out Bool) (el:Ev->Mem->Out T) (tgs:List Str) (caps:List (Str × Nat)):Ev->Mem->Out (List T):=fun σ M=>(it σ M).bind fun xs M1=>ql bd cond el xs (zcc tgs caps σ) M1 []
noncomputable def zq:Ev->Mem->Out Bool:=fun _ M=>.ok true M
theorem EvR.cap {S:Sit} (r:EvR K S στ σ) (tgs:List Str) (caps:List (Str × Nat)):EvR K S (zcc tgs caps στ) (yW tgs caps σ):=by
 refine ⟨by simp [zcc,yW],fun i t e=>?_⟩
 unfold zcc at e
 unfold yW
 by_cases hi:i < tgs.length
 ·rw [Q6 (by simpa using hi)] at e
  rw [Qa] at e
  cases q:tgs[i]? with
  | none=>rw [q] at e;cases e
  | some x=>rw [q] at e;cases e
 ·rw [Q7 (by simpa using hi),Qa] at e
  rw [Q7 (by simpa using hi),Qa]
  simp only [Qg] at e ⊢
  cases q:caps[i - tgs.length]? with
  | none=>rw [q] at e;cases e
  | some cq=>
   rw [q] at e
   have e2:(στ[cq.2]?).join = some t:=Qc e
   have e3:στ[cq.2]? = some (some t):=by
    cases q2:στ[cq.2]? with
    | none=>rw [q2] at e2;cases e2
    | some o=>rw [q2] at e2;cases o with
     | none=>cases e2
     | some v'=>rw [show v' = t from Qc e2]
   obtain ⟨v,e4,r4⟩:=r.2 _ _ e3
   exact ⟨v,by show some ((σ[cq.2]?).join) = _;rw [e4];rfl,r4⟩
noncomputable def Sit.hput (S:Sit) (p:Addr) (vs:List V):Sit:=⟨S.α,S.M,upd S.H p (.lst vs),S.hid⟩
section
variable {S S0:Sit} {us:List V}
theorem Rep.hput (m:MemOk K S) (hp:p ∈ S.hid) (r:Rep K S t v):Rep K (S.hput p us) t v:=by
 obtain ⟨_,ws,ew⟩:=m.hd p hp
 induction r with
 | non=>exact .non
 | bl b=>exact .bl b
 | int b=>exact .int b
 | str b=>exact .str b
 | ty b=>exact .ty b
 | @tup ts q vs h l _ ih=>
  refine .tup ?_ l ih
  rcases h with (h | ⟨o,h⟩) | h
  ·exact .inl (.inl ((yj (zc5 h ew (by intro z;cases z))).trans h))
  ·exact .inl (.inr ⟨o,(yj (zc5 h ew (by intro z;cases z))).trans h⟩)
  ·exact .inr h
 | @lst ts q vs h l _ ih=>
  refine .lst ?_ l ih
  rcases h with ⟨h,f⟩ | h
  ·have hne:q ≠ p:=fun z=>f.2 (by rw [z];exact hp)
   refine .inl ⟨?_,f⟩
   rcases h with h | ⟨o,h⟩
   ·exact .inl ((yj hne).trans h)
   ·exact .inr ⟨o,(yj hne).trans h⟩
  ·exact .inr h
 | ref h=>exact .ref (S:=S.hput p us) h
 | dct h l _ ih=>exact .dct (S:=S.hput p us) ((yj (zc5 h ew (by intro z;cases z))).trans h) l ih
 | exc h hd l _ ih=>exact .exc (S:=S.hput p us) ((yj (zc5 h ew (by intro z;cases z))).trans h) (hd.imp (fun z=>z) fun ⟨d,a,b⟩=>⟨d,a,(yj (zc5 b ew (by intro z;cases z))).trans b⟩) l ih
theorem Reps.hput (m:MemOk K S) (hp:p ∈ S.hid) {t:List T} {v:List V} (r:Reps K S t v):Reps K (S.hput p us) t v:=⟨r.1,fun i a b e1 e2=>(r.2 i a b e1 e2).hput m hp⟩
theorem CellOk.hput (m:MemOk K S) (hp:p ∈ S.hid) (hq:q ≠ p) (r:CellOk K S q c):CellOk K (S.hput p us) q c:=by
 cases c with
 | lst ts=>obtain ⟨vs,q,r⟩:=r;exact ⟨vs,(yj hq).trans q,r.hput m hp⟩
 | dic ts=>obtain ⟨vs,q,r⟩:=r;exact ⟨vs,(yj hq).trans q,r.1,r.2.hput m hp⟩
 | ins C ts=>obtain ⟨dx,vs,q,r⟩:=r;exact ⟨dx,vs,(yj hq).trans q,r.1,r.2.hput m hp⟩
theorem Stp.hput (s:Stp K S0 S) (hp:p ∈ S.hid) (hn:S0.H p = none) (m0:MemOk K S0):Stp K S0 (S.hput p us):=by
 refine ⟨⟨s.le,s.al,s.fr,fun b o e f=>(yj (yt e hn)).trans (s.kp b o e f),fun q h=>⟨(s.hk q h).1,?_⟩,s.hf⟩,⟨fun a c e=>?_,s.mok.inj,fun q h=>?_⟩⟩
 ·obtain ⟨_,vs,e⟩:=m0.hd q h
  exact (yj (yt e hn)).trans (s.hk q h).2
 ·exact (s.mok.cell a c e).hput s.mok hp ((s.mok.hd p hp).1 a (List.getElem?_eq_some_iff.mp e).1)
 ·obtain ⟨h1,vs,e⟩:=s.mok.hd q h
  refine ⟨h1,?_⟩
  by_cases z:q = p
  ·exact ⟨us,by show upd S.H p _ q = _;rw [z];exact zy⟩
  ·exact ⟨vs,(yj z).trans e⟩
end
structure CB (X:Cx) (scope:Scope) (cl:List (Str × Addr)) (caps:List (Str × Nat)):Prop where
 hc:X.calm = true
 hclos:closureFor scope X.env = pure cl
 hcell:∀ y ∈ scope.names,y.2 = .cell->y.1 ∉ caps.map (·.1)
 hkind:scope.kind = .function
 hnames:∀ y ∈ scope.names,y.2 = .local->scope.names.lookup y.1 = some .local
 hcl:∀ y c,cl.lookup y = some c->X.env.cells.lookup y = some c
 hhas:∀ n y,((relabel scope X.env).names.lookup y = some .cell\/(relabel scope X.env).names.lookup y = some .free)->∃ c,(cellsFrom n scope.names cl).lookup y = some c
 hcap:∀ c ∈ caps,X.N[c.2]? = some c.1/\X.env.kindOf c.1 = some .cell/\((relabel scope X.env).names.lookup c.1 = some .cell\/(relabel scope X.env).names.lookup c.1 = some .free)
variable {cond:Ev->Mem->Out Bool} {elt:Expr} {cl:List (Str × Addr)} {caps:List (Str × Nat)} {ifs:List Expr} {tgs:List Str} {scope:Scope}
section
theorem ze0 (hh:lL XE X.K (zr ga bd cond f tgs caps) σ H Q) :
  zfU (lI XE X.K ga) (lG XE X.K bd) (lT XE X.K cond) (lE XE X.K f) (yW tgs caps) σ H Q:=by
 obtain ⟨S,στ,e,m,ev,fin⟩:=hh
 replace fin:FinL XE X.K S ((ga στ S.M).bind fun xs M1=>ql bd cond f xs (zcc tgs caps στ) M1 []) Q:=fin
 refine ⟨S,στ,(),e,m,ev,trivial,?_⟩
 show Fin XE (zaF X.K) X.K S (ga στ S.M) _
 cases o:ga στ S.M with
 | bad=>rw [o] at fin;exact fin
 | exn C fs M'=>rw [o] at fin;exact fin
 | ok items M1=>
  rw [o] at fin
  replace fin:FinL XE X.K S (ql bd cond f items (zcc tgs caps στ) M1 []) Q:=fin
  intro S0 J e0 s0 it0 D hD
  have m0:=s0.mok
  have fin0:=fin.later s0
  have s1:=Stp.hide (K:=X.K) m0 hD []
  refine ⟨fun i n σ' H'=>∃ S στ acc vs,S.H = H'/\EvR X.K S στ σ'/\n = items.length - i/\i<=items.length/\D ∈ S.hid/\S.H D = some (.lst vs)/\Reps X.K S acc vs/\Stp X.K S0 S/\FinL XE X.K S0 (ql bd cond f (items.drop i) στ S.M acc) Q,
   ⟨items.length - 0,S0.hide D [],zcc tgs caps στ,[],[],rfl,(Mo.mo (K:=X.K) m0 s1 (Mo.mo (K:=X.K) m s0 ev)).cap tgs caps,rfl,Nat.zero_le _,.head _,zy,.nil,s1,by show FinL XE X.K S0 (ql bd cond f items (zcc tgs caps στ) S0.M []) Q;rw [e0];exact fin0⟩,?_⟩
  rintro i n σ1 H1 ⟨S2,στ2,acc,vs,e2,ev2,en,hi2,hid2,hD2,racc,s2,fin2⟩
  subst e2
  have m2:=s2.mok
  obtain ⟨itg,its⟩:=it0 S2 s2
  by_cases hl:i < items.length
  ·have eq:items.drop i = items[i] :: items.drop (i + 1):=List.drop_eq_getElem_cons hl
   rw [eq] at fin2
   obtain ⟨go,yl⟩:=itg i items[i] (by simp [hl])
   refine .inr ⟨go,fun σ' H'=>∃ S στ acc vs,S.H = H'/\EvR X.K S στ σ'/\D ∈ S.hid/\S.H D = some (.lst vs)/\Reps X.K S acc vs/\Stp X.K S0 S/\FinL XE X.K S0 (ql bd cond f (items.drop (i + 1)) στ S.M acc) Q,?_,fun x H' hy=>?_⟩
   ·rintro σ' H' ⟨S,στ,acc,vs,a1,a2,a3,a4,a5,a6,a7⟩
    exact ⟨items.length - (i + 1),by omega,S,στ,acc,vs,a1,a2,rfl,hl,a3,a4,a5,a6,a7⟩
   ·obtain ⟨S3,e3,eM,s3,r3⟩:=yl x H' hy
    replace fin2:FinL XE X.K S0 ((bd items[i] στ2 S2.M).bind fun σ1 M1=>(cond σ1 M1).bind fun b M2=>if b = true then (f σ1 M2).bind fun t M3=>if acc.length < sizeLine then ql bd cond f (items.drop (i + 1)) σ1 M3 (acc ++ [t]) else .bad else ql bd cond f (items.drop (i + 1)) σ1 M2 acc) Q:=fin2
    refine ⟨S3,στ2,items[i],e3,s3.mok,Mo.mo m2 s3 ev2,r3,?_⟩
    show Fin XE (EvR X.K) X.K S3 (bd items[i] στ2 S3.M) _
    rw [eM]
    cases o1:bd items[i] στ2 S2.M with
    | bad=>rw [o1] at fin2;exact fin2
    | exn C fs M'=>rw [o1] at fin2;exact fun S' od a1 a2 a3=>fin2 S' od a1 ((s2.trans s3).trans a2) a3
    | ok σ4 M4=>
     rw [o1] at fin2
     intro S4 σ4v e4 s4 ev4
     have t4:=s3.trans s4
     replace fin2:FinL XE X.K S0 ((cond σ4 M4).bind fun b M2=>if b = true then (f σ4 M2).bind fun t M3=>if acc.length < sizeLine then ql bd cond f (items.drop (i + 1)) σ4 M3 (acc ++ [t]) else .bad else ql bd cond f (items.drop (i + 1)) σ4 M2 acc) Q:=fin2
     refine ⟨S4,σ4,(),rfl,s4.mok,ev4,trivial,?_⟩
     show Fin XE EqR X.K S4 (cond σ4 S4.M) _
     rw [e4]
     cases o2:cond σ4 M4 with
     | bad=>rw [o2] at fin2;exact fin2
     | exn C fs M'=>rw [o2] at fin2;exact fun S' od a1 a2 a3=>fin2 S' od a1 ((s2.trans t4).trans a2) a3
     | ok b M5=>
      rw [o2] at fin2
      intro S5 b5 e5 s5 eb
      have eb':b = b5:=eb
      subst eb'
      have t5:=t4.trans s5
      replace fin2:FinL XE X.K S0 (if b = true then (f σ4 M5).bind fun t M3=>if acc.length < sizeLine then ql bd cond f (items.drop (i + 1)) σ4 M3 (acc ++ [t]) else .bad else ql bd cond f (items.drop (i + 1)) σ4 M5 acc) Q:=fin2
      cases b with
      | false=>
       rw [if_neg Q4] at fin2
       refine (if_neg Q4).mpr ⟨S5,σ4,acc,vs,rfl,Mo.mo s4.mok s5 ev4,(t5.hk D hid2).1,by rw [(t5.hk D hid2).2];exact hD2,racc.grow m2 t5.toGrow,s2.trans t5,by rw [e5];exact fin2⟩
      | true=>
       rw [if_pos rfl] at fin2
       refine (if_pos rfl).mpr ⟨S5,σ4,(),rfl,s5.mok,Mo.mo s4.mok s5 ev4,trivial,?_⟩
       show Fin XE (Rep X.K) X.K S5 (f σ4 S5.M) _
       rw [e5]
       cases o3:f σ4 M5 with
       | bad=>rw [o3] at fin2;exact fin2
       | exn C fs M'=>rw [o3] at fin2;exact fun S' od a1 a2 a3=>fin2 S' od a1 ((s2.trans t5).trans a2) a3
       | ok t M6=>
        rw [o3] at fin2
        replace fin2:FinL XE X.K S0 (if acc.length < sizeLine then ql bd cond f (items.drop (i + 1)) σ4 M6 (acc ++ [t]) else .bad) Q:=fin2
        intro S6 v6 e6 s6 r6
        have t6:=t5.trans s6
        have hz:acc.length < sizeLine:=by
         by_cases hz:acc.length < sizeLine
         ·exact hz
         ·rw [if_neg hz] at fin2;exact fin2.elim
        rw [if_pos hz] at fin2
        have hid6:=(t6.hk D hid2).1
        have hD6:S6.H D = some (.lst vs):=by rw [(t6.hk D hid2).2];exact hD2
        refine ⟨vs,hD6,by rw [← racc.1];exact hz,S6.hput D (vs ++ [v6]),σ4,acc ++ [t],vs ++ [v6],rfl,?_,hid6,zy,?_,(s2.trans t6).hput hid6 hD m0,by show FinL XE X.K S0 (ql bd cond f (items.drop (i + 1)) σ4 S6.M (acc ++ [t])) Q;rw [e6];exact fin2⟩
        ·have ev6:EvR X.K S6 σ4 σ4v:=Mo.mo s4.mok (s5.trans s6) ev4
         exact ⟨ev6.1,fun i t e=>let ⟨v,e',q⟩:=ev6.2 i t e;⟨v,e',q.hput s6.mok hid6⟩⟩
        ·exact ((racc.grow m2 t6.toGrow).app (.cons r6 .nil)).hput s6.mok hid6
  ·rw [List.drop_eq_nil_of_le (by omega)] at fin2
   refine .inl ⟨its i (by omega),?_⟩
   exact fin2 S2 D vs rfl s2 hD hid2 hD2 racc
theorem zjE:PTs X [] (lT XE X.K zq):=fun pins s σ H Q I h=>zi2 pins s σ H Q I (zd7 h)
theorem zjD {c:Expr} (h:GT X XE c tf):PTs X [c] (lT XE X.K tf):=zi1 h
end
def LNL {A AV:Type} (XE:XK) (K:Frag) (RA:Sit->A->AV->Prop) (k:A->Ev->Mem->Out (List T)) (av:AV) (σ:L2.St) (H:Hp) (Q:VK):Prop:=
 ∃ (S:Sit) (στ:Ev) (a:A),S.H = H/\MemOk K S/\EvR K S στ σ/\RA S a av/\FinL XE K S (k a στ S.M) Q
theorem LNL.bind {A AV B BV:Type} {RA:Sit->A->AV->Prop} {RB:Sit->B->BV->Prop} [Mo K RA] {f:A->Ev->Mem->Out B} {k:A->B->Ev->Mem->Out (List T)} {av:AV} 
 (h:LNL XE K RA (fun a σ M=>(f a σ M).bind fun b M1=>k a b σ M1) av σ H Q):LN XE RB K RA f av σ H (fun bv H1=>LNL XE K (PrR RA RB) (fun ab=>k ab.1 ab.2) (av,bv) σ H1 Q):=by
 obtain ⟨S,στ,a,e,m,ev,ra,fin⟩:=h
 refine ⟨S,στ,a,e,m,ev,ra,?_⟩
 replace fin:FinL XE K S ((f a στ S.M).bind fun b M1=>k a b στ M1) Q:=fin
 cases q:f a στ S.M with
 | bad=>rw [q] at fin;exact fin
 | exn C fs M'=>rw [q] at fin;exact fin
 | ok b M1=>
  rw [q] at fin
  intro S1 c e1 s1 r1
  refine ⟨S1,στ,(a,b),rfl,s1.mok,Mo.mo m s1 ev,⟨Mo.mo m s1 ra,r1⟩,?_⟩
  rw [e1]
  exact fin.later s1
def L0L {A AV:Type} (XE:XK) (K:Frag) (RA:Sit->A->AV->Prop) (k:A->Mem->Out (List T)) (av:AV) (H:Hp) (Q:VK):Prop:=∃ (S:Sit) (a:A),S.H = H/\MemOk K S/\RA S a av/\FinL XE K S (k a S.M) Q
noncomputable def zf7 (XE:XK) (K:Frag) (o:T->T->Mem->Out (List T)):R2:=fun x y H Q=>L0L XE K (PrR (Rep K) (Rep K)) (fun a M=>o a.1 a.2 M) (x,y) H Q
noncomputable def zh6 (XE:XK) (K:Frag) (o:List T->Mem->Out (List T)):List V->Hp->VK->Prop:=fun xs H Q=>L0L XE K (Reps K) o xs H Q
noncomputable def lOp (o:T->T->Mem->Out (List T)) (f g:Ev->Mem->Out T):Ev->Mem->Out (List T):=fun σ M=>(f σ M).bind fun x M1=>(g σ M1).bind fun y M2=>o x y M2
noncomputable def zco (F:List T->Mem->Out (List T)) (g:Ev->Mem->Out (List T)):Ev->Mem->Out (List T):=fun σ M=>(g σ M).bind fun ts M1=>F ts M1
theorem zcL {S:Sit} (m:MemOk K S) (fin:FinL XE K S (.ok xs S.M) Q) (r:Reps K S xs vs):∀ p,S.H p = none->Q (.ref p) (upd S.H p (.lst vs)):=fun p hp=>
 fin (S.hide p vs) p vs rfl (Stp.hide m hp vs) hp (.head _) zy (r.grow m (Stp.hide m hp vs).toGrow)
section
variable {a b:Expr} {g:Ev->Mem->Out T} {p:Pos}
end
noncomputable def qY (k:Int->Int->Mem->Out T) (x y:T) (M:Mem):Out T:=match x,y with
 | .int i,.int j=>k i j M
 | _,_=>.bad
def Mo64 (i j:Int):Prop:=(i.natAbs < 10 ^ 3000/\j.natAbs < 10 ^ 3000)\/(-(2 ^ 64) < i/\i < 2 ^ 64)\/(-(2 ^ 64) < j/\j < 2 ^ 64)
instance (i j:Int):Decidable (Mo64 i j):=inferInstanceAs (Decidable (_\/_))
variable {j:Int}
theorem Mo64.ok (h:Mo64 i j):CMulB i j:=by
 rcases h with h | h
 ·exact .inl ⟨3000,3000,h.1,h.2,Q3 _,Q3 _⟩
 ·exact .inr h
noncomputable def zcz:T->T->Mem->Out T:=qY fun i j M=>.ok (.int (i - j)) M
noncomputable def zdB:T->T->Mem->Out T:=qY fun i j M=>if j ≠ 0/\j.natAbs < 10 ^ 2000 then .ok (.int (i.fdiv j)) M else .bad
noncomputable def zaY:T->T->Mem->Out T:=qY fun i j M=>if j ≠ 0 then .ok (.int (i.fmod j)) M else .bad
noncomputable def zfZ:T->T->Mem->Out T:=qY fun i j M=>if 0<=j/\j<=1000000/\i.natAbs < 2 ^ 64 then .ok (.int (i ^ j.toNat)) M else .bad
noncomputable def ltI:T->T->Mem->Out T:=qY fun i j M=>.ok (.bl (decide (i < j))) M
noncomputable def leI:T->T->Mem->Out T:=qY fun i j M=>.ok (.bl (decide (i<=j))) M
noncomputable def gtI:T->T->Mem->Out T:=qY fun i j M=>.ok (.bl (decide (j < i))) M
noncomputable def geI:T->T->Mem->Out T:=qY fun i j M=>.ok (.bl (decide (j<=i))) M
noncomputable def zcM:T->Mem->Out T:=fun x M=>match x with
 | .int i=>.ok (.int (-i)) M
 | _=>.bad
variable {y:V} {F:Value}
section
theorem zfr {S:Sit} (r:Rep K S (.int i) v):v = .int i:=by cases r;rfl
theorem zak {fn:Value->Value->Sem Value} {r:R2} {k:Int->Int->Mem->Out T} (ho:OpR X fn r)
  (h:∀ i j S Q,MemOk X.K S->Fin XE (Rep X.K) X.K S (k i j S.M) Q->r (.int i) (.int j) S.H Q):OpR X fn (lR2 XE X.K (qY k)):=by
 intro pins s σ H x y v u Q I rx ry ⟨S,⟨tx,ty⟩,e,m,⟨r1,r2⟩,fin⟩
 replace fin:Fin XE (Rep X.K) X.K S (qY k tx ty S.M) Q:=fin
 unfold qY at fin
 split at fin
 ·have e1:=zfr r1
  have e2:=zfr r2
  dsimp only at e1 e2
  subst e1;subst e2;subst e
  exact ho pins s σ S.H _ _ v u Q I rx ry (h _ _ S Q m fin)
 ·exact fin.elim
theorem zdr:OpR X (binaryOp .Sub) (lR2 XE X.K zcz):=zak zkK fun i j S Q m fin=>⟨i,j,rfl,rfl,fin S _ rfl (.refl m) (.int _)⟩
theorem zfy:OpR X (binaryOp .FloorDiv) (lR2 XE X.K zdB):=zak zhU fun i j S Q m fin=>by
 by_cases h:j ≠ 0/\j.natAbs < 10 ^ 2000
 ·rw [if_pos h] at fin
  exact ⟨i,j,rfl,rfl,⟨h.1,2000,h.2,Q3 _⟩,fin S _ rfl (.refl m) (.int _)⟩
 ·rw [if_neg h] at fin;exact fin.elim
theorem z6:OpR X (binaryOp .Mod) (lR2 XE X.K zaY):=zak zjl fun i j S Q m fin=>by
 by_cases h:j ≠ 0
 ·rw [if_pos h] at fin
  exact ⟨i,j,rfl,rfl,h,fin S _ rfl (.refl m) (.int _)⟩
 ·rw [if_neg h] at fin;exact fin.elim
theorem zfx:OpR X (binaryOp .Pow) (lR2 XE X.K zfZ):=zak zkL fun i j S Q m fin=>by
 by_cases h:0<=j/\j<=1000000/\i.natAbs < 2 ^ 64
 ·rw [if_pos h] at fin
  exact ⟨i,j,rfl,rfl,h,fin S _ rfl (.refl m) (.int _)⟩
 ·rw [if_neg h] at fin;exact fin.elim
theorem zkO:OpR X (compareOp .Lt) (lR2 XE X.K ltI):=zak zl9 fun i j S Q m fin=>⟨i,j,rfl,rfl,fin S _ rfl (.refl m) (.bl _)⟩
theorem zb4:OpR X (compareOp .LtE) (lR2 XE X.K leI):=zak ziE fun i j S Q m fin=>⟨i,j,rfl,rfl,fin S _ rfl (.refl m) (.bl _)⟩
theorem zeD:OpR X (compareOp .Gt) (lR2 XE X.K gtI):=zak zma fun i j S Q m fin=>⟨i,j,rfl,rfl,fin S _ rfl (.refl m) (.bl _)⟩
theorem zdh:L2.UnR X (unaryOp .USub) (lR1 XE X.K zcM):=by
 intro pins s σ H x v Q I rx ⟨S,t,e,m,r,fin⟩
 replace fin:Fin XE (Rep X.K) X.K S (zcM t S.M) Q:=fin
 unfold zcM at fin
 split at fin
 ·cases r
  subst e
  exact zka pins s σ S.H _ v Q I rx ⟨_,rfl,fin S _ rfl (.refl m) (.int _)⟩
 ·exact fin.elim
noncomputable def isB:T->T->Mem->Out T:=fun x y M=>match x,y with
 | .bl a,.bl b=>.ok (.bl (a == b)) M
 | _,_=>.bad
noncomputable def zme:T->T->Mem->Out T:=fun x y M=>match x,y with
 | .bl a,.bl b=>.ok (.bl (a != b)) M
 | _,_=>.bad
noncomputable def zal:T->Bool
 | .non=>true
 | _=>false
noncomputable def zc6:T->T->Mem->Out T:=fun x y M=>match y with
 | .non=>.ok (.bl (!zal x)) M
 | _=>.bad
theorem zhX {S:Sit} (r:Rep K S t v):decide (v = .non) = zal t:=by
 cases r <;> first | rfl | exact Qu (by intro z;cases z)
theorem zgI:OpR X (compareOp .IsNot) (lR2 XE X.K zc6):=by
 intro pins s σ H x y v u Q I rx ry ⟨S,⟨tx,ty⟩,e,m,⟨r1,r2⟩,fin⟩
 replace fin:Fin XE (Rep X.K) X.K S (zc6 tx ty S.M) Q:=fin
 unfold zc6 at fin
 split at fin
 ·cases r2;subst e
  exact zji pins s σ S.H _ _ v u Q I rx ry ⟨rfl,by rw [zhX r1];exact fin S _ rfl (.refl m) (.bl _)⟩
 ·exact fin.elim
noncomputable def zeQ (M:Mem):T->T->Option T
 | .tup xs,.int i=>atI xs i
 | .lst xs,.int i=>atI xs i
 | .ref a,.int i=>match M[a]? with
  | some (.lst xs)=>atI xs i
  | _=>none
 | _,_=>none
noncomputable def zeB (o:Option T) (M:Mem):Out T:=match o with
 | some t=>.ok t M
 | none=>.bad
noncomputable def ixT:T->T->Mem->Out T:=fun x y M=>zeB (zeQ M x y) M
theorem Reps.atI {S:Sit} (r:Reps K S ts vs) (e:L2.atI ts i = some t):∃ v,L2.atI vs i = some v/\Rep K S t v:=by
 unfold L2.atI at e ⊢
 rw [← r.1]
 cases q:ixN ts.length i with
 | none=>rw [q] at e;cases e
 | some j=>
  rw [q] at e
  obtain ⟨v,e2,r2⟩:=r.get (show ts[j]? = some t from e)
  exact ⟨v,e2,r2⟩
theorem zjQ {S:Sit} {tx ty:T} {x:V} (m:MemOk K S) (r1:Rep K S tx x) (r2:Rep K S ty y) (e:zeQ S.M tx ty = some t) :
  ∃ p vs i v,x = .ref p/\y = .int i/\(SqL K S.H p vs\/SqT K S.H p vs)/\L2.atI vs i = some v/\Rep K S t v:=by
 unfold zeQ at e
 split at e
 ·cases r2
  cases r1 with
  | @tup _ p vs h l r=>
   obtain ⟨v,e2,r3⟩:=Reps.atI ⟨l,r⟩ e
   exact ⟨p,vs,_,v,rfl,rfl,.inr h,e2,r3⟩
 ·cases r2
  cases r1 with
  | @lst _ p vs h l r=>
   obtain ⟨v,e2,r3⟩:=Reps.atI ⟨l,r⟩ e
   exact ⟨p,vs,_,v,rfl,rfl,.inl (zb5 h),e2,r3⟩
 ·split at e
  ·rename_i q
   cases r2
   cases r1 with
   | ref h=>
    obtain ⟨vs,q2,r⟩:=m.cell _ _ q
    obtain ⟨v,e2,r3⟩:=Reps.atI r e
    exact ⟨_,vs,_,v,rfl,rfl,.inl (.inl (.inl q2)),e2,r3⟩
  ·cases e
 ·cases e
theorem zjf {S:Sit} {o:Option T} (fin:Fin XE (Rep K) K S (zeB o S.M) Q):∃ t,o = some t/\Fin XE (Rep K) K S (.ok t S.M) Q:=by
 unfold zeB at fin
 split at fin
 ·exact ⟨_,rfl,fin⟩
 ·exact fin.elim
theorem zo:IxR X (lR2 XE X.K ixT):=by
 intro va sl pins s σ H x y v u Q I rx ry ⟨S,⟨tx,ty⟩,e,m,⟨r1,r2⟩,fin⟩ hs
 obtain ⟨t,et,fin⟩:=zjf (show Fin XE (Rep X.K) X.K S (zeB (zeQ S.M tx ty) S.M) Q from fin)
 obtain ⟨p,vs,i,w,e1,e2,hq,ea,r3⟩:=zjQ m r1 r2 et
 dsimp only at e1 e2
 subst e1;subst e2;subst e
 refine zla va sl pins s σ S.H _ _ v u Q I rx ry ?_ hs
 rcases hq with hq | hq
 ·exact .inl ⟨p,vs,i,w,rfl,rfl,hq,ea,fin S w rfl (.refl m) r3⟩
 ·exact .inr (.inl ⟨p,vs,i,w,rfl,rfl,hq,ea,fin S w rfl (.refl m) r3⟩)
noncomputable def yo (k:T->Mem->Out T) (ts:List T) (M:Mem):Out T:=match ts with
 | [t]=>k t M
 | _=>.bad
noncomputable def call2 (k:T->T->Mem->Out T) (ts:List T) (M:Mem):Out T:=match ts with
 | [t,u]=>k t u M
 | _=>.bad
theorem za2 {k:T->Mem->Out T} (h:∀ (pins:List (Addr × Obj)) (s:Shared) (σ:L2.St) (S:Sit) (t:T) (x:V) (v:Value) (Q:VK),Inv X pins σ S.H s->RelV x v->MemOk X.K S->Rep X.K S t x->Fin XE (Rep X.K) X.K S (k t S.M) Q->wpAny (model X.prog X.w) X.A (call F [v]) (EP X pins σ Q) X.xe s):CallR X F (lRN XE X.K (yo k)):=by
 intro pins s σ H xs us Q I r ⟨S,ts,e,m,rs,fin⟩
 subst e
 replace fin:Fin XE (Rep X.K) X.K S (yo k ts S.M) Q:=fin
 unfold yo at fin
 split at fin
 ·obtain ⟨v,vs,rfl,r1,r2⟩:=rs.consT
  rw [r2.nilT] at r
  obtain ⟨u,rfl,rx⟩:=vals1 r
  exact h pins s σ S _ v u Q I rx m r1 fin
 ·exact fin.elim
theorem zcS {k:T->T->Mem->Out T} (h:∀ (pins:List (Addr × Obj)) (s:Shared) (σ:L2.St) (S:Sit) (t1 t2:T) (x1 x2:V) (v1 v2:Value) (Q:VK),Inv X pins σ S.H s->RelV x1 v1->RelV x2 v2->MemOk X.K S->Rep X.K S t1 x1->Rep X.K S t2 x2->Fin XE (Rep X.K) X.K S (k t1 t2 S.M) Q->wpAny (model X.prog X.w) X.A (call F [v1,v2]) (EP X pins σ Q) X.xe s):CallR X F (lRN XE X.K (call2 k)):=by
 intro pins s σ H xs us Q I r ⟨S,ts,e,m,rs,fin⟩
 subst e
 replace fin:Fin XE (Rep X.K) X.K S (call2 k ts S.M) Q:=fin
 unfold call2 at fin
 split at fin
 ·obtain ⟨v,vs,rfl,r1,r2⟩:=rs.consT
  obtain ⟨v2,vs2,rfl,r3,r4⟩:=r2.consT
  rw [r4.nilT] at r
  obtain ⟨u,w,rfl,rx,ry⟩:=vals2 r
  exact h pins s σ S _ _ v v2 u w Q I rx ry m r1 r3 fin
 ·exact fin.elim
noncomputable def yy:T->Mem->Out T:=fun t M=>match t with
 | .str z=>if z.length<=sizeLine then .ok (.int z.length) M else .bad
 | t=>match zbc t M with
  | some xs=>.ok (.int xs.length) M
  | none=>.bad
theorem zt:CallR X (.builtin "len") (lRN XE X.K (yo yy)):=za2 fun pins s σ S t x v Q I rx m r fin=>by
 unfold yy at fin
 split at fin
 ·cases r
  split at fin
  ·rename_i hz
   exact ze3 pins s σ S.H _ _ Q I (.cons rx .nil) ⟨_,rfl,hz,fin S _ rfl (.refl m) (.int _)⟩
  ·exact fin.elim
 ·split at fin
  ·rename_i xs q
   obtain ⟨p,vs,rfl,hq,rs⟩:=zau m r q
   exact ze4 pins s σ S.H _ _ Q I (.cons rx .nil) ⟨p,vs,rfl,hq,by rw [← rs.1];exact fin S _ rfl (.refl m) (.int _)⟩
  ·exact fin.elim
noncomputable def zeI:T->T->Mem->Out T:=qY fun i j M=>.ok (.int (if j > i then j else i)) M
noncomputable def zdw:T->T->Mem->Out T:=qY fun i j M=>.ok (.int (if j < i then j else i)) M
theorem zdR (hc:X.calm = true):CallR X (.builtin "max") (lRN XE X.K (call2 zeI)):=zcS fun pins s σ S t1 t2 x1 x2 v1 v2 Q I rx ry m r1 r2 fin=>by
 unfold zeI qY at fin
 split at fin
 ·cases r1;cases r2
  exact zhm hc pins s σ S.H _ _ Q I (.cons rx (.cons ry .nil)) ⟨_,_,rfl,fin S _ rfl (.refl m) (.int _)⟩
 ·exact fin.elim
theorem zcd (hc:X.calm = true):CallR X (.builtin "min") (lRN XE X.K (call2 zdw)):=zcS fun pins s σ S t1 t2 x1 x2 v1 v2 Q I rx ry m r1 r2 fin=>by
 unfold zdw qY at fin
 split at fin
 ·cases r1;cases r2
  exact zhl hc pins s σ S.H _ _ Q I (.cons rx (.cons ry .nil)) ⟨_,_,rfl,fin S _ rfl (.refl m) (.int _)⟩
 ·exact fin.elim
noncomputable def zcU:List T->Option (List Bool)
 | []=>some []
 | .bl b :: r=>(zcU r).map (b :: ·)
 | _=>none
theorem ze7 {K:Frag} {S:Sit}:∀ {ts:List T} {vs:List V} {bs:List Bool},zcU ts = some bs->Reps K S ts vs->vs = bs.map V.bl
 | [],vs,bs,e,r=>by cases e;exact r.nilT
 | .bl b :: ts,vs,bs,e,r=>by
  unfold zcU at e
  obtain ⟨v,vs',rfl,r1,r2⟩:=r.consT
  cases q:zcU ts with
  | none=>rw [q] at e;cases e
  | some bs'=>
   rw [q] at e
   cases e
   cases r1
   rw [ze7 q r2];rfl
 | .non :: _,_,_,e,_=>by cases e
 | .int _ :: _,_,_,e,_=>by cases e
 | .str _ :: _,_,_,e,_=>by cases e
 | .ty _ :: _,_,_,e,_=>by cases e
 | .tup _ :: _,_,_,e,_=>by cases e
 | .lst _ :: _,_,_,e,_=>by cases e
 | .ref _ :: _,_,_,e,_=>by cases e
noncomputable def zbT:T->Mem->Out T:=fun t M=>match qm t M with
 | some xs=>match zcU xs with
  | some bs=>.ok (.bl (bs.all id)) M
  | none=>.bad
 | none=>.bad
theorem zaA (hc:X.calm = true):CallR X (.builtin "all") (lRN XE X.K (yo zbT)):=za2 fun pins s σ S t x v Q I rx m r fin=>by
 unfold zbT at fin
 split at fin
 ·rename_i xs q
  split at fin
  ·rename_i bs q2
   obtain ⟨p,vs,rfl,hq,rs⟩:=zm m r q
   rw [ze7 q2 rs] at hq
   exact zho hc pins s σ S.H _ _ Q I (.cons rx .nil) ⟨p,bs,rfl,hq,fin S _ rfl (.refl m) (.bl _)⟩
  ·exact fin.elim
 ·exact fin.elim
noncomputable def yR:T->Mem->Out T:=fun t M=>match zbc t M with
 | some xs=>.ok (.tup xs) M
 | none=>.bad
theorem zat:CallR X (.type "tuple") (lRN XE X.K (yo yR)):=za2 fun pins s σ S t x v Q I rx m r fin=>by
 unfold yR at fin
 split at fin
 ·rename_i xs q
  obtain ⟨p,vs,rfl,hq,rs⟩:=zau m r q
  refine zd0 pins s σ S.H _ _ Q I (.cons rx .nil) ⟨p,vs,rfl,?_⟩
  rcases hq with hq | hq
  ·refine .inl ⟨hq,fun l hl=>?_⟩
   have s2:=Stp.new m hl (.tup vs)
   exact fin ⟨S.α,S.M,upd S.H l (.tup vs),S.hid⟩ (.ref l) rfl s2 (.tup (.inl (.inl zy)) rs.1 (rs.grow m s2.toGrow).2)
  ·exact .inr ⟨hq,fin S _ rfl (.refl m) (.tup hq rs.1 rs.2)⟩
 ·exact fin.elim
noncomputable def zas:List T->Mem->Out (List T):=fun ts M=>match ts with
 | [t]=>match zbc t M with
  | some xs=>.ok xs M
  | none=>.bad
 | _=>.bad
theorem zaH:CallR X (.type "list") (zh6 XE X.K zas):=by
 intro pins s σ H xs us Q I r ⟨S,ts,e,m,rs,fin⟩
 subst e
 replace fin:FinL XE X.K S (zas ts S.M) Q:=fin
 unfold zas at fin
 split at fin
 ·split at fin
  ·rename_i t ys q
   obtain ⟨v,vs,rfl,r1,r2⟩:=rs.consT
   rw [r2.nilT] at r
   obtain ⟨p,ws,rfl,hq,rs2⟩:=zau m r1 q
   exact ze2 pins s σ S.H _ us Q I r ⟨p,ws,rfl,hq,zcL m fin rs2⟩
  ·exact fin.elim
 ·exact fin.elim
noncomputable def qZ:T->T->Mem->Out (List T):=fun x y M=>match qm x M,qm y M with
 | some xs,some ys=>if xs.length + ys.length<=sizeLine then .ok (xs ++ ys) M else .bad
 | _,_=>.bad
theorem zbq:OpR X (binaryOp .Add) (zf7 XE X.K qZ):=by
 intro pins s σ H x y v u Q I rx ry ⟨S,⟨tx,ty⟩,e,m,⟨r1,r2⟩,fin⟩
 subst e
 replace fin:FinL XE X.K S (qZ tx ty S.M) Q:=fin
 unfold qZ at fin
 split at fin
 ·rename_i xs ys q1 q2
  split at fin
  ·rename_i hz
   obtain ⟨p,vs,e1,h1,s1⟩:=zm m r1 q1
   obtain ⟨p2,vs2,e2,h2,s2⟩:=zm m r2 q2
   dsimp only at e1 e2
   subst e1;subst e2
   exact zfz pins s σ S.H _ _ v u Q I rx ry ⟨p,p2,vs,vs2,rfl,rfl,h1,h2,by rw [← s1.1,← s2.1];exact hz,zcL m fin (s1.app s2)⟩
  ·exact fin.elim
 ·exact fin.elim
noncomputable def qL (x:T) (ts:List T) (M:Mem):Out T:=match x,ts with
 | .ref a,[t]=>match M[a]? with
  | some (.lst xs)=>if xs.length < sizeLine then .ok .non (M.set a (.lst (xs ++ [t]))) else .bad
  | _=>.bad
 | _,_=>.bad
noncomputable def zer (o i t:T) (M:Mem):Out Unit:=match o,i with
 | .ref a,.int k=>match M[a]? with
  | some (.lst xs)=>match ixN xs.length k with
   | some j=>.ok () (M.set a (.lst (xs.set j t)))
   | none=>.bad
  | _=>.bad
 | _,_=>.bad
theorem zfs {S:Sit} (m:MemOk K S) {a:Nat} (e:S.M[a]? = some c) (r:Reps K S ts vs):Stp K S (S.put a (.lst vs) (.lst ts)):=by
 have ha:a < S.M.length:=(List.getElem?_eq_some_iff.mp e).1
 exact Stp.put m ha _ _ ⟨vs,zy,r.grow m (Grow.put m ha _ _)⟩
theorem ziB:zfc X (zh5 XE X.K zer):=by
 intro pins s σ H o i v ov iv u Q I ro ri rv ⟨S,⟨⟨to,ti⟩,tv⟩,e,m,⟨⟨r1,r2⟩,r3⟩,fin⟩
 subst e
 replace fin:Fin XE UnR X.K S (zer to ti tv S.M) (fun _ H'=>Q H'):=fin
 unfold zer at fin
 split at fin
 ·split at fin
  ·rename_i a k _ xs q
   split at fin
   ·rename_i j qj
    cases r1
    cases r2
    obtain ⟨vs,q2,rs⟩:=m.cell _ _ q
    refine set_list pins s σ S.H _ _ v ov iv u Q I ro ri rv ⟨S.α a,vs,k,j,rfl,rfl,q2,by rw [← rs.1];exact qj,?_⟩
    exact fin (S.put a (.lst (vs.set j v)) (.lst (xs.set j tv))) () rfl (zfs m q (rs.set r3 j)) trivial
   ·exact fin.elim
  ·exact fin.elim
 ·exact fin.elim
noncomputable def yE (x:T) (M:Mem):Out T:=match qm x M with
 | some _=>.ok x M
 | none=>.bad
noncomputable def zY (F:T->List T->Mem->Out T) (f:Ev->Mem->Out T) (g:Ev->Mem->Out (List T)):Ev->Mem->Out T:=fun σ M=>(f σ M).bind fun x M1=>(g σ M1).bind fun ts M2=>F x ts M2
end
noncomputable def zW (xs:List T) (lo hi:Option Int):List T:=(xs.drop (HT.sIx xs.length 0 lo)).take (HT.sIx xs.length xs.length hi - HT.sIx xs.length 0 lo)
theorem Reps.cutV {S:Sit} (r:Reps K S ts vs) (lo hi:Option Int):Reps K S (zW ts lo hi) (L2.cutV vs lo hi):=by
 unfold zW L2.cutV
 rw [← r.1]
 exact r.sub _ _
theorem zgd {lo hi:Option Int} (h:HT.sIx xs.length 0 lo = 0/\HT.sIx xs.length xs.length hi = xs.length):zW xs lo hi = xs:=by
 unfold zW
 rw [h.1,h.2]
 simp
theorem zbs {S:Sit} (m:MemOk K S) (fin:Fin XE (Rep K) K S (.ok (.tup xs) S.M) Q) (r:Reps K S xs vs):∀ p,S.H p = none->Q (.ref p) (upd S.H p (.tup vs)):=fun p hp=>by
 have s2:=Stp.new m hp (.tup vs)
 exact fin ⟨S.α,S.M,upd S.H p (.tup vs),S.hid⟩ (.ref p) rfl s2 (.tup (.inl (.inl zy)) r.1 (r.grow m s2.toGrow).2)
theorem zdt {S:Sit} (m:MemOk K S) (fin:Fin XE (Rep K) K S (.ok (.lst xs) S.M) Q) (r:Reps K S xs vs):∀ p,S.H p = none->Q (.ref p) (upd S.H p (.lst vs)):=fun p hp=>by
 have s2:=Stp.new m hp (.lst vs)
 exact fin ⟨S.α,S.M,upd S.H p (.lst vs),S.hid⟩ (.ref p) rfl s2 (.lst (.inl ⟨.inl zy,m.off_none hp⟩) r.1 (r.grow m s2.toGrow).2)
noncomputable def qo:T->T->Mem->Out T:=fun x y M=>match x,y with
 | .int i,.int j=>.ok (.int (i + j)) M
 | .str a,.str b=>if a.length + b.length<=sizeLine then .ok (.str (a ++ b)) M else .bad
 | .tup xs,.tup ys=>if xs.length + ys.length<=sizeLine then .ok (.tup (xs ++ ys)) M else .bad
 | x,y=>match qm x M,qm y M with
  | some xs,some ys=>if xs.length + ys.length<=sizeLine then .ok (.lst (xs ++ ys)) M else .bad
  | _,_=>.bad
noncomputable def yH:T->T->Mem->Out T:=fun x y M=>match x,y with
 | .int i,.int j=>if Mo64 i j then .ok (.int (i * j)) M else .bad
 | .tup xs,.int k=>if xs ≠ []/\2<=k/\k < 2 ^ 63/\xs.length * k.toNat<=sizeLine then .ok (.tup (List.replicate k.toNat xs).flatten) M else .bad
 | _,_=>.bad
variable {pins:List (Addr × Obj)} {s:Shared}
section
theorem zk:OpR X (binaryOp .Add) (lR2 XE X.K qo):=by
 intro pins s σ H x y v u Q I rx ry ⟨S,⟨tx,ty⟩,e,m,⟨r1,r2⟩,fin⟩
 subst e
 replace fin:Fin XE (Rep X.K) X.K S (qo tx ty S.M) Q:=fin
 unfold qo at fin
 split at fin
 ·cases r1;cases r2
  exact zkP pins s σ S.H _ _ v u Q I rx ry ⟨_,_,rfl,rfl,fin S _ rfl (.refl m) (.int _)⟩
 ·cases r1;cases r2
  split at fin
  ·rename_i hz
   exact zf2 pins s σ S.H _ _ v u Q I rx ry ⟨_,_,rfl,rfl,hz,fin S _ rfl (.refl m) (.str _)⟩
  ·exact fin.elim
 ·split at fin
  ·rename_i hz
   cases r1 with
   | @tup _ p vs h l r=>
   cases r2 with
   | @tup _ p2 vs2 h2 l2 rr2=>
   have r1:Reps X.K S _ vs:=⟨l,r⟩
   have r2:Reps X.K S _ vs2:=⟨l2,rr2⟩
   refine zjn pins s σ S.H _ _ v u Q I rx ry ⟨p,p2,vs,vs2,rfl,rfl,h,h2,by rw [← l,← l2];exact hz,fun e=>?_,fun e1 e2=>?_,fun e1 e2=>zbs m fin (r1.app r2)⟩
   ·subst e
    rw [r1.nil_inv,nil_append] at fin
    exact fin S _ rfl (.refl m) (.tup h2 l2 rr2)
   ·subst e2
    rw [r2.nil_inv,append_nil] at fin
    exact fin S _ rfl (.refl m) (.tup h l r)
  ·exact fin.elim
 ·split at fin
  ·rename_i xs ys q1 q2
   split at fin
   ·rename_i hz
    obtain ⟨p,vs,e1,h1,s1⟩:=zm m r1 q1
    obtain ⟨p2,vs2,e2,h2,s2⟩:=zm m r2 q2
    dsimp only at e1 e2
    subst e1;subst e2
    exact zfz pins s σ S.H _ _ v u Q I rx ry ⟨p,p2,vs,vs2,rfl,rfl,h1,h2,by rw [← s1.1,← s2.1];exact hz,zdt m fin (s1.app s2)⟩
   ·exact fin.elim
  ·exact fin.elim
theorem Reps.rep {S:Sit} (r:Reps K S ts vs) (n:Nat):Reps K S (List.replicate n ts).flatten (List.replicate n vs).flatten:=by
 induction n with
 | zero=>exact .nil
 | succ n ih=>rw [replicate_succ,replicate_succ,flatten_cons,flatten_cons];exact r.app ih
theorem zU:OpR X (binaryOp .Mult) (lR2 XE X.K yH):=by
 intro pins s σ H x y v u Q I rx ry ⟨S,⟨tx,ty⟩,e,m,⟨r1,r2⟩,fin⟩
 subst e
 replace fin:Fin XE (Rep X.K) X.K S (yH tx ty S.M) Q:=fin
 unfold yH at fin
 split at fin
 ·cases r1;cases r2
  split at fin
  ·rename_i h
   exact zjk pins s σ S.H _ _ v u Q I rx ry ⟨_,_,rfl,rfl,h.ok,fin S _ rfl (.refl m) (.int _)⟩
  ·exact fin.elim
 ·split at fin
  ·rename_i h
   cases r2
   cases r1 with
   | @tup _ p vs hq l r=>
   have r1:Reps X.K S _ vs:=⟨l,r⟩
   exact zfw pins s σ S.H _ _ v u Q I rx ry ⟨p,_,vs,rfl,rfl,hq,fun z=>h.1 (by subst z;exact r1.nil_inv),h.2.1,h.2.2.1,by rw [← l];exact h.2.2.2,zbs m fin (r1.rep _)⟩
  ·exact fin.elim
 ·exact fin.elim
noncomputable def lO (XE:XK) (K:Frag) (f:Ev->Mem->Out (Option Int)):TO:=fun σ H Q=>LN XE EqR K UnR (fun _ σ M=>f σ M) () σ H Q
def GO (X:Cx) (XE:XK) (e:Option Expr) (f:Ev->Mem->Out (Option Int)):Prop:=PO X e (lO XE X.K f)
noncomputable def qX:Ev->Mem->Out (Option Int):=fun _ M=>.ok none M
noncomputable def zh9 (x:T) (M:Mem):Out (Option Int):=match x with
 | .int i=>.ok (some i) M
 | _=>.bad
noncomputable def yU (f:Ev->Mem->Out T):Ev->Mem->Out (Option Int):=fun σ M=>(f σ M).bind zh9
theorem PO.imp {e:Option Expr} {t t':TO} (h:PO X e t) (i:∀ σ H Q,t' σ H Q->t σ H Q):PO X e t':=fun pins s σ H Q I q=>h pins s σ H Q I (i σ H Q q)
noncomputable def zcR (x:T) (lo hi:Option Int) (M:Mem):Out T:=match x with
 | .tup xs=>.ok (.tup (zW xs lo hi)) M
 | x=>match qm x M with
  | some xs=>.ok (.lst (zW xs lo hi)) M
  | none=>.bad
noncomputable def eSl (f:Ev->Mem->Out T) (p q:Ev->Mem->Out (Option Int)):Ev->Mem->Out T:=fun σ M=>(f σ M).bind fun x M1=>(p σ M1).bind fun lo M2=>(q σ M2).bind fun hi M3=>zcR x lo hi M3
noncomputable def zmZ (XE:XK) (K:Frag):V->Option Int->Option Int->Hp->VK->Prop:=fun x lo hi H Q=>∃ S t,S.H = H/\MemOk K S/\Rep K S t x/\Fin XE (Rep K) K S (zcR t lo hi S.M) Q
theorem zkh:SlR X (zmZ XE X.K):=by
 intro pins s σ H x v vl vu lo hi sl Q I rx hs pl pu ⟨S,t,e,m,r,fin⟩
 subst e
 unfold zcR at fin
 split at fin
 ·cases r with
  | @tup _ p vs h l r=>
  have r1:Reps X.K S _ vs:=⟨l,r⟩
  refine ziW pins s σ S.H _ v vl vu lo hi sl Q I rx hs pl pu ⟨p,vs,rfl,h,fun w=>?_,fun w=>zbs m fin (r1.cutV lo hi)⟩
  rw [zgd (by rw [l];exact w)] at fin
  exact fin S _ rfl (.refl m) (.tup h l r)
 ·split at fin
  ·rename_i xs q
   obtain ⟨p,vs,e1,h1,s1⟩:=zm m r q
   subst e1
   exact ziX pins s σ S.H _ v vl vu lo hi sl Q I rx hs pl pu ⟨p,vs,rfl,h1,zdt m fin (s1.cutV lo hi)⟩
  ·exact fin.elim
noncomputable def zk4 (T U:String):Option Bool:=if (Value.type T == Value.type U) = true then some true else if PySem.W.kitMeta U = true then (PySem.fastBuiltinMro T).map (·.contains (.type U)) else none
noncomputable def tyN (t:T) (M:Mem):Option String:=match t with
 | .non=>some "NoneType" | .bl _=>some "bool" | .int _=>some "int" | .str _=>some "str" | .tup _=>some "tuple" | .lst _=>some "list"
 | .ref a=>match M[a]? with
  | some (.lst _)=>some "list"
  | some (.dic _)=>some "dict"
  | _=>none
 | _=>none
noncomputable def ziJ (n U:String):Bool:=n == U || (n == "bool" && U == "int")
noncomputable def zd2:List String:=["NoneType","bool","int","str","tuple","list","dict"]
theorem zjy:∀ n ∈ zd2,∀ U ∈ zd2,U ≠ "NoneType"->zk4 n U = some (ziJ n U):=by decide +kernel
noncomputable def zw:T->T->Mem->Out T:=fun t u M=>match u with
 | .ty U=>match tyN t M with
  | some n=>if U ∈ zd2/\U ≠ "NoneType" then .ok (.bl (ziJ n U)) M else .bad
  | none=>.bad
 | _=>.bad
theorem ziU {n:String} (h:tyN t M = some n):n ∈ zd2:=by
 unfold tyN at h
 split at h <;> first | (cases h;decide) | (split at h <;> first | (cases h;decide) | (cases h)) | cases h
theorem zh8 {S:Sit} {x:V} {u:Value} {U n:String} {b:Bool} {Q:Value->Shared->Prop} {E:Value->Shared->Prop} (I:L2.Inv X pins σ S.H s) (m:MemOk X.K S) (rx:RelV x u) (r:Rep X.K S t x) (hn:tyN t S.M = some n) (e:zk4 n U = some b) (h:∀ tk,Q (.bool b) { s with toks:=tk }) :
  wpAny (model X.prog X.w) X.A (call (.builtin "isinstance") [u,.type U]) Q E s:=by
 have e':PySem.W.kitOne X.K (.type n) (.type U) = some b:=e
 cases r with
 | non=>cases hn;cases (show u = Value.none from rx);exact PySem.W.kia_one PySem.W.kitx_none I.kIn True.intro e' (fun z=>nomatch z) h
 | bl y=>cases hn;cases (show u = Value.bool y from rx);exact PySem.W.kia_one PySem.W.kitx_bool I.kIn True.intro e' (fun z=>nomatch z) h
 | int i=>cases hn;obtain ⟨t,q⟩:=(show ∃ t,u = Value.int i t from rx);cases q;exact PySem.W.kia_one PySem.W.kitx_int I.kIn True.intro e' (fun z=>nomatch z) h
 | str y=>cases hn;obtain ⟨t,q⟩:=(show ∃ t,u = Value.str y t from rx);cases q;exact PySem.W.kia_one PySem.W.kitx_str I.kIn True.intro e' (fun z=>nomatch z) h
 | ty y=>cases hn
 | @tup ts p vs hq l r=>
  cases hn
  cases (show u = Value.ref p from rx)
  obtain ⟨its,_,pl,_⟩:=I.tuple hq
  obtain ⟨o,h1,h2,_⟩:=pl
  exact PySem.W.kia_one PySem.W.kitx_tuple I.kIn ⟨o,h1,h2⟩ e' (fun z=>nomatch z) h
 | @lst ts p vs hq l r=>
  cases hn
  cases (show u = Value.ref p from rx)
  obtain ⟨its,_,pl,_⟩:=I.list (zb5 hq)
  obtain ⟨o,h1,h2⟩:=pl.isList
  exact PySem.W.kia_one PySem.W.kitx_list I.kIn ⟨o,h1,h2.1⟩ e' (fun z=>nomatch z) h
 | @ref a ha=>
  cases (show u = Value.ref _ from rx)
  unfold tyN at hn
  dsimp only at hn
  split at hn
  ·rename_i ts q
   cases hn
   obtain ⟨vs,q2,_⟩:=m.cell a _ q
   obtain ⟨_,_,n,_,h1⟩:=(show ObjOk X.prog X.w S.H s.heap (S.α a) (.lst vs) from I.hok _ _ q2)
   exact PySem.W.kia_one PySem.W.kitx_list I.kIn ⟨_,h1,rfl⟩ e' (fun z=>nomatch z) h
  ·rename_i ts q
   cases hn
   obtain ⟨vs,q2,_⟩:=m.cell a _ q
   obtain ⟨_,_,vs2,_,p⟩:=(show ObjOk X.prog X.w S.H s.heap (S.α a) (.dK vs) from I.hok _ _ q2)
   obtain ⟨o,es,ep,h1,h2,_⟩:=p
   exact PySem.W.kia_one PySem.W.kitx_dict I.kIn ⟨o,h1,h2.1⟩ e' (fun z=>nomatch z) h
  ·cases hn
 | dct h l r=>cases hn
 | exc h hd l r=>cases hn
theorem yB:CallR X (.builtin "isinstance") (lRN XE X.K (call2 zw)):=zcS fun pins s σ S t1 t2 x1 x2 v1 v2 Q I rx ry m r1 r2 fin=>by
 unfold zw at fin
 split at fin
 ·rename_i U
  split at fin
  ·rename_i n hn
   split at fin
   ·rename_i hU
    cases r2
    cases ry
    exact zh8 I m rx r1 hn (zjy n (ziU hn) U hU.1 hU.2) fun tk=>⟨.bl _,S.H,I.tok tk,rfl,fin S _ rfl (.refl m) (.bl _)⟩
   ·exact fin.elim
  ·exact fin.elim
 ·exact fin.elim
end
noncomputable def yp:T->Bool
 | .non=>true
 | .bl _=>true
 | .int _=>true
 | .str _=>true
 | _=>false
noncomputable def eqS:T->T->Bool
 | .non,.non=>true
 | .bl a,.bl b=>a == b
 | .bl a,.int b=>(if a then 1 else 0) == b
 | .int a,.bl b=>a == (if b then 1 else 0)
 | .int a,.int b=>a == b
 | .str a,.str b=>a == b
 | _,_=>false
noncomputable def eqL (f:T->T->Option Bool):List T->List T->Option Bool
 | [],[]=>some true
 | [],_ :: _=>some false
 | _ :: _,[]=>some false
 | x :: xs,y :: ys=>match f x y,eqL f xs ys with
  | some a,some b=>some (a && b)
  | _,_=>none
noncomputable def eqD (M:Mem):Nat->T->T->Option Bool
 | d,.tup xs,.tup ys=>match d with
  | 0=>none
  | d + 1=>eqL (eqD M d) xs ys
 | d,x,y=>if (yp x && yp y) = true then some (eqS x y) else match d,qm x M,qm y M with
  | d + 1,some xs,some ys=>if xs.length = ys.length then eqL (eqD M d) xs ys else some false
  | _,_,_=>none
noncomputable def eqA:T->T->Mem->Out T:=fun x y M=>match eqD M 20 x y with
 | some b=>.ok (.bl b) M
 | none=>.bad
noncomputable def neA:T->T->Mem->Out T:=fun x y M=>match eqD M 20 x y with
 | some b=>.ok (.bl (!b)) M
 | none=>.bad
theorem zao {f:T->T->Option Bool}:∀ {xs ys:List T} {b:Bool},eqL f xs ys = some b->
  ∃ e:Nat->Bool,(∀ j x y,xs[j]? = some x->ys[j]? = some y->f x y = some (e j))/\b = ((List.range (min xs.length ys.length)).all e && xs.length == ys.length)
 | [],[],b,h=>by cases h;exact ⟨fun _=>true,fun j x y e1=>by simp at e1,by simp⟩
 | [],_ :: _,b,h=>by cases h;exact ⟨fun _=>true,fun j x y e1=>by simp at e1,by simp⟩
 | _ :: _,[],b,h=>by cases h;exact ⟨fun _=>true,fun j x y _ e1=>by simp at e1,by simp⟩
 | x :: xs,y :: ys,b,h=>by
  unfold eqL at h
  cases q1:f x y with
  | none=>rw [q1] at h;cases h
  | some a=>
   cases q2:eqL f xs ys with
   | none=>rw [q1,q2] at h;cases h
   | some c=>
    rw [q1,q2] at h
    cases h
    obtain ⟨e,h1,h2⟩:=zao q2
    refine ⟨fun j=>match j with | 0=>a | j + 1=>e j,fun j u v e1 e2=>?_,?_⟩
    ·cases j with
     | zero=>simp at e1 e2;subst e1;subst e2;exact q1
     | succ j=>exact h1 j u v (by simpa using e1) (by simpa using e2)
    ·rw [h2]
     have:min (x :: xs).length (y :: ys).length = min xs.length ys.length + 1:=by simp only [Qo];omega
     rw [this,List.range_succ_eq_map,all_cons,all_map]
     simp [Bool.and_assoc,Function.comp_def]
variable {A:Around}
section
variable {S:Sit}
theorem yq (r:Rep K S t v) (h:yp t = true):zL v = true:=by
 cases r <;> first | rfl | (exact absurd (show false = true from h) Q4)
theorem zbR {w:V} (r:Rep K S t v) (q:Rep K S u w) (h:yp t = true) (h2:yp u = true):eqS t u = eqV v w:=by
 cases r <;> first | (exact absurd (show false = true from h) Q4) | (cases q <;> first | rfl | (exact absurd (show false = true from h2) Q4))
theorem zck (r:Rep K S t v) (q:Rep K S u v) (h:yp t = true) (h2:yp u = true):eqS t u = true:=by
 rw [zbR r q h h2]
 exact zir v (yq r h)
theorem zit (I:L2.Inv X pins σ S.H s) (m:MemOk X.K S):∀ (d:Nat) {t u:T} {v:V} {b:Bool},Rep X.K S t v->Rep X.K S u v->eqD S.M d t u = some b->b = true:=by
 intro d
 induction d with
 | zero=>
  intro t u v b r q h
  unfold eqD at h
  split at h
  ·cases h
  ·split at h
   ·rename_i hs
    rw [Qq] at hs
    cases h
    exact zck r q hs.1 hs.2
   ·cases h
 | succ d ih=>
  have key:∀ {xs ys:List T} {vs:List V} {b:Bool},Reps X.K S xs vs->Reps X.K S ys vs->eqL (eqD S.M d) xs ys = some b->b = true:=by
   intro xs ys vs b r q h
   obtain ⟨e,h1,h2⟩:=zao h
   rw [h2,r.1,q.1]
   simp only [Nat.min_self,beq_self_eq_true,Bool.and_true,all_eq_true,mem_range]
   intro j hj
   have hx:j < xs.length:=by rw [r.1];exact hj
   have hy:j < ys.length:=by rw [q.1];exact hj
   have ex:xs[j]? = some xs[j]:=by simp [hx]
   have ey:ys[j]? = some ys[j]:=by simp [hy]
   have ev:vs[j]? = some vs[j]:=by simp [hj]
   exact ih (r.2 j _ _ ex ev) (q.2 j _ _ ey ev) (h1 j _ _ ex ey)
  intro t u v b r q h
  unfold eqD at h
  split at h
  ·cases r with
   | @tup _ p vs h1 l1 r1=>
   cases q with
   | @tup _ _ vs2 h2 l2 r2=>
   have:=I.tuple_inj h1 h2
   subst this
   exact key ⟨l1,r1⟩ ⟨l2,r2⟩ h
  ·split at h
   ·rename_i hs
    rw [Qq] at hs
    cases h
    exact zck r q hs.1 hs.2
   ·split at h
    ·rename_i d' xs ys hd q1 q2
     cases hd
     obtain ⟨p,vs,e1,hq1,s1⟩:=zm m r q1
     obtain ⟨p2,vs2,e2,hq2,s2⟩:=zm m q q2
     rw [e1] at e2
     cases e2
     have:=I.list_inj hq1 hq2
     subst this
     rw [if_pos (by rw [s1.1,s2.1])] at h
     exact key s1 s2 h
    ·cases h
theorem zlD (I:L2.Inv X pins σ S.H s) (m:MemOk X.K S):∀ (d:Nat) {A:Around} {t u:T} {v w:V} {x y:Value} {b:Bool},A.units + d < cLine->RelV v x->RelV w y->Rep X.K S t v->Rep X.K S u w->eqD S.M d t u = some b->SeqAt.EqAt A s x y b:=by
 intro d
 induction d with
 | zero=>
  intro A t u v w x y b hu rx ry r q h
  unfold eqD at h
  split at h
  ·cases h
  ·split at h
   ·rename_i hs
    rw [Qq] at hs
    cases h
    rw [zbR r q hs.1 hs.2]
    exact zcb rx ry (yq r hs.1) (yq q hs.2)
   ·cases h
 | succ d ih=>
  have key:∀ {A:Around} {xs ys:List T} {vs ws:List V} {us zs:List Value} {b:Bool},A.units + d < cLine->Reps X.K S xs vs->Reps X.K S ys ws->Vals vs us->Vals ws zs->eqL (eqD S.M d) xs ys = some b->
    ∃ e:Nat->Bool,(∀ j (h1:j < us.toArray.size) (h2:j < zs.toArray.size),SeqAt.EqAt A s us.toArray[j] zs.toArray[j] (e j))/\b = ((List.range (min us.toArray.size zs.toArray.size)).all e && us.toArray.size == zs.toArray.size):=by
   intro A xs ys vs ws us zs b hu r q hv hw h
   obtain ⟨e,h1,h2⟩:=zao h
   have l1:us.length = xs.length:=by rw [← hv.length,r.1]
   have l2:zs.length = ys.length:=by rw [← hw.length,q.1]
   refine ⟨e,fun j g1 g2=>?_,by rw [h2,Qh,Qh,l1,l2]⟩
   have g1':j < us.length:=by simpa using g1
   have g2':j < zs.length:=by simpa using g2
   have ex:xs[j]? = some (xs[j]'(by omega)):=Q0 (by omega)
   have ey:ys[j]? = some (ys[j]'(by omega)):=Q0 (by omega)
   obtain ⟨v,ev,rv⟩:=r.get ex
   obtain ⟨w,ew,rw'⟩:=q.get ey
   obtain ⟨a,ea,ra⟩:=Vals.get hv ev
   obtain ⟨c,ec,rc⟩:=Vals.get hw ew
   have:us.toArray[j] = a:=by
    rw [getElem_toArray];rw [Q0 g1'] at ea;exact Qc ea
   rw [this]
   have:zs.toArray[j] = c:=by
    rw [getElem_toArray];rw [Q0 g2'] at ec;exact Qc ec
   rw [this]
   exact ih hu ra rc rv rw' (h1 j _ _ ex ey)
  intro A t u v w x y b hu rx ry r q h
  have hsame:v = w->b = true:=fun z=>by subst z;exact zit I m (d + 1) r q h
  unfold eqD at h
  split at h
  ·cases r with
   | @tup _ p vs h1 l1 r1=>
   cases q with
   | @tup _ p2 vs2 h2 l2 r2=>
   cases rx
   cases ry
   by_cases hp:p = p2
   ·subst hp
    rw [hsame rfl]
    exact SeqAt.EqAt.same _
   ·obtain ⟨its,ri,pl,_⟩:=I.tuple h1
    obtain ⟨its2,ri2,pl2,_⟩:=I.tuple h2
    obtain ⟨e,he,eb⟩:=key (A:=A.in1) (by show A.units + 1 + d < cLine;omega) ⟨l1,r1⟩ ⟨l2,r2⟩ ri ri2 h
    rw [eb]
    exact SeqAt.EqAt.of_refs hp (SeqAt.RcAt.tuples pl pl2 (by omega) he)
  ·split at h
   ·rename_i hs
    rw [Qq] at hs
    cases h
    rw [zbR r q hs.1 hs.2]
    exact zcb rx ry (yq r hs.1) (yq q hs.2)
   ·split at h
    ·rename_i d' xs ys hd q1 q2
     cases hd
     obtain ⟨p,vs,e1,hq1,s1⟩:=zm m r q1
     obtain ⟨p2,vs2,e2,hq2,s2⟩:=zm m q q2
     subst e1
     subst e2
     cases rx
     cases ry
     by_cases hp:p = p2
     ·subst hp
      rw [hsame rfl]
      exact SeqAt.EqAt.same _
     ·obtain ⟨its,ri,pl,_⟩:=I.list hq1
      obtain ⟨its2,ri2,pl2,_⟩:=I.list hq2
      have lz:its.length = xs.length:=by rw [← ri.length,s1.1]
      have lz2:its2.length = ys.length:=by rw [← ri2.length,s2.1]
      by_cases hl:xs.length = ys.length
      ·rw [if_pos hl] at h
       obtain ⟨e,he,eb⟩:=key (A:=A.in1) (by show A.units + 1 + d < cLine;omega) s1 s2 ri ri2 h
       have hsz:its.toArray.size = its2.toArray.size:=by simp [lz,lz2,hl]
       rw [eb,hsz,Nat.min_self,beq_self_eq_true,Bool.and_true,← hsz]
       exact SeqAt.EqAt.of_refs hp (SeqAt.RcAt.lists pl.isList pl2.isList hsz (by omega) he)
      ·rw [if_neg hl] at h
       cases h
       exact SeqAt.EqAt.of_refs hp (SeqAt.RcAt.lists_lengths pl.isList pl2.isList (by simp [lz,lz2,hl]) (by omega))
    ·cases h
theorem zex {x:V} {u v:Value} (ry:RelV y u) (rx:RelV x v) (fy:zL y = true) (fx:zL x = true):SeqAt.RcAt A s u v (eqV y x):=by
 cases y with
 | non=>
  cases ry
  cases x with
  | non=>cases rx;exact SeqAt.RcAt.none_none
  | bl b=>cases rx;exact SeqAt.RcAt.none_bool b
  | int b=>obtain ⟨t,rfl⟩:=rx;exact SeqAt.RcAt.none_int b t
  | str b=>obtain ⟨t,rfl⟩:=rx;exact SeqAt.RcAt.none_str b t
  | _=>exact absurd (show false = true from fx) Q4
 | bl a=>
  cases ry
  cases x with
  | non=>cases rx;exact SeqAt.RcAt.bool_none a
  | bl b=>cases rx;exact SeqAt.RcAt.bool_bool a b
  | int b=>obtain ⟨t,rfl⟩:=rx;exact SeqAt.RcAt.bool_int a b t
  | str b=>obtain ⟨t,rfl⟩:=rx;exact SeqAt.RcAt.bool_str a b t
  | _=>exact absurd (show false = true from fx) Q4
 | int a=>
  obtain ⟨t',rfl⟩:=ry
  cases x with
  | non=>cases rx;exact SeqAt.RcAt.int_none a t'
  | bl b=>cases rx;exact SeqAt.RcAt.int_bool a t' b
  | int b=>obtain ⟨t,rfl⟩:=rx;exact SeqAt.RcAt.int_int a t' b t
  | str b=>obtain ⟨t,rfl⟩:=rx;exact SeqAt.RcAt.int_str a t' b t
  | _=>exact absurd (show false = true from fx) Q4
 | str a=>
  obtain ⟨t',rfl⟩:=ry
  cases x with
  | non=>cases rx;exact SeqAt.RcAt.str_none a t'
  | bl b=>cases rx;exact SeqAt.RcAt.str_bool a t' b
  | int b=>obtain ⟨t,rfl⟩:=rx;exact SeqAt.RcAt.str_int a t' b t
  | str b=>obtain ⟨t,rfl⟩:=rx;exact SeqAt.RcAt.str_str a t' b t
  | _=>exact absurd (show false = true from fx) Q4
 | _=>exact absurd (show false = true from fy) Q4
theorem zcK {x:V} {u v:Value} (ry:RelV y u) (rx:RelV x v) (fy:zL y = true) (fx:zL x = true):SeqAt.RcNeAt A s u v (!eqV y x):=by
 cases y with
 | non=>
  cases ry
  cases x with
  | non=>cases rx;exact SeqAt.RcNeAt.none_none
  | bl b=>cases rx;exact SeqAt.RcNeAt.none_bool b
  | int b=>obtain ⟨t,rfl⟩:=rx;exact SeqAt.RcNeAt.none_int b t
  | str b=>obtain ⟨t,rfl⟩:=rx;exact SeqAt.RcNeAt.none_str b t
  | _=>exact absurd (show false = true from fx) Q4
 | bl a=>
  cases ry
  cases x with
  | non=>cases rx;exact SeqAt.RcNeAt.bool_none a
  | bl b=>cases rx;exact SeqAt.RcNeAt.bool_bool a b
  | int b=>obtain ⟨t,rfl⟩:=rx;exact SeqAt.RcNeAt.bool_int a b t
  | str b=>obtain ⟨t,rfl⟩:=rx;exact SeqAt.RcNeAt.bool_str a b t
  | _=>exact absurd (show false = true from fx) Q4
 | int a=>
  obtain ⟨t',rfl⟩:=ry
  cases x with
  | non=>cases rx;exact SeqAt.RcNeAt.int_none a t'
  | bl b=>cases rx;exact SeqAt.RcNeAt.int_bool a t' b
  | int b=>obtain ⟨t,rfl⟩:=rx;exact SeqAt.RcNeAt.int_int a t' b t
  | str b=>obtain ⟨t,rfl⟩:=rx;exact SeqAt.RcNeAt.int_str a t' b t
  | _=>exact absurd (show false = true from fx) Q4
 | str a=>
  obtain ⟨t',rfl⟩:=ry
  cases x with
  | non=>cases rx;exact SeqAt.RcNeAt.str_none a t'
  | bl b=>cases rx;exact SeqAt.RcNeAt.str_bool a t' b
  | int b=>obtain ⟨t,rfl⟩:=rx;exact SeqAt.RcNeAt.str_int a t' b t
  | str b=>obtain ⟨t,rfl⟩:=rx;exact SeqAt.RcNeAt.str_str a t' b t
  | _=>exact absurd (show false = true from fx) Q4
 | _=>exact absurd (show false = true from fy) Q4
theorem zhd (I:L2.Inv X pins σ S.H s) (m:MemOk X.K S) (d:Nat) {w:V} {x y:Value} {b:Bool} (hu:A.units + d < cLine) (rx:RelV v x) (ry:RelV w y) (r:Rep X.K S t v) (q:Rep X.K S u w) (h:eqD S.M d t u = some b):SeqAt.RcAt A s x y b/\SeqAt.RcNeAt A s x y (!b):=by
 have at_:∀ {A:Around} {d:Nat} {xs ys:List T} {vs ws:List V} {us zs:List Value} {b:Bool},A.units + d < cLine->Reps X.K S xs vs->Reps X.K S ys ws->Vals vs us->Vals ws zs->eqL (eqD S.M d) xs ys = some b->
    ∃ e:Nat->Bool,(∀ j (h1:j < us.toArray.size) (h2:j < zs.toArray.size),SeqAt.EqAt A s us.toArray[j] zs.toArray[j] (e j))/\b = ((List.range (min us.toArray.size zs.toArray.size)).all e && us.toArray.size == zs.toArray.size):=by
  intro A d xs ys vs ws us zs b hu r q hv hw h
  obtain ⟨e,h1,h2⟩:=zao h
  have l1:us.length = xs.length:=by rw [← hv.length,r.1]
  have l2:zs.length = ys.length:=by rw [← hw.length,q.1]
  refine ⟨e,fun j g1 g2=>?_,by rw [h2,Qh,Qh,l1,l2]⟩
  have g1':j < us.length:=by simpa using g1
  have g2':j < zs.length:=by simpa using g2
  have ex:xs[j]? = some (xs[j]'(by omega)):=Q0 (by omega)
  have ey:ys[j]? = some (ys[j]'(by omega)):=Q0 (by omega)
  obtain ⟨v,ev,rv⟩:=r.get ex
  obtain ⟨w,ew,rw'⟩:=q.get ey
  obtain ⟨a,ea,ra⟩:=Vals.get hv ev
  obtain ⟨c,ec,rc⟩:=Vals.get hw ew
  have:us.toArray[j] = a:=by
   rw [getElem_toArray];rw [Q0 g1'] at ea;exact Qc ea
  rw [this]
  have:zs.toArray[j] = c:=by
   rw [getElem_toArray];rw [Q0 g2'] at ec;exact Qc ec
  rw [this]
  exact zlD I m d hu ra rc rv rw' (h1 j _ _ ex ey)
 unfold eqD at h
 split at h
 ·split at h
  ·cases h
  ·rename_i d
   cases r with
   | @tup _ p vs h1 l1 r1=>
   cases q with
   | @tup _ p2 vs2 h2 l2 r2=>
   cases rx
   cases ry
   obtain ⟨its,ri,pl,_⟩:=I.tuple h1
   obtain ⟨its2,ri2,pl2,_⟩:=I.tuple h2
   obtain ⟨e,he,eb⟩:=at_ (A:=A.in1) (by show A.units + 1 + d < cLine;omega) ⟨l1,r1⟩ ⟨l2,r2⟩ ri ri2 h
   rw [eb]
   exact ⟨SeqAt.RcAt.tuples pl pl2 (by omega) he,SeqAt.RcNeAt.tuples pl pl2 (by omega) he⟩
 ·split at h
  ·rename_i hs
   rw [Qq] at hs
   cases h
   rw [zbR r q hs.1 hs.2]
   exact ⟨zex rx ry (yq r hs.1) (yq q hs.2),zcK rx ry (yq r hs.1) (yq q hs.2)⟩
  ·split at h
   ·rename_i d' xs ys q1 q2
    obtain ⟨p,vs,e1,hq1,s1⟩:=zm m r q1
    obtain ⟨p2,vs2,e2,hq2,s2⟩:=zm m q q2
    subst e1
    subst e2
    cases rx
    cases ry
    obtain ⟨its,ri,pl,_⟩:=I.list hq1
    obtain ⟨its2,ri2,pl2,_⟩:=I.list hq2
    have lz:its.length = xs.length:=by rw [← ri.length,s1.1]
    have lz2:its2.length = ys.length:=by rw [← ri2.length,s2.1]
    by_cases hl:xs.length = ys.length
    ·rw [if_pos hl] at h
     obtain ⟨e,he,eb⟩:=at_ (A:=A.in1) (by show A.units + 1 + d' < cLine;omega) s1 s2 ri ri2 h
     have hsz:its.toArray.size = its2.toArray.size:=by simp [lz,lz2,hl]
     rw [eb,hsz,Nat.min_self,beq_self_eq_true,Bool.and_true,← hsz]
     exact ⟨SeqAt.RcAt.lists pl.isList pl2.isList hsz (by omega) he,SeqAt.RcNeAt.lists pl.isList pl2.isList hsz (by omega) he⟩
    ·rw [if_neg hl] at h
     cases h
     exact ⟨SeqAt.RcAt.lists_lengths pl.isList pl2.isList (by simp [lz,lz2,hl]) (by omega),SeqAt.RcNeAt.lists_lengths pl.isList pl2.isList (by simp [lz,lz2,hl]) (by omega)⟩
   ·cases h
theorem zbp (hu:X.A.units + 64 < cLine):OpR X (compareOp .Eq) (lR2 XE X.K eqA):=by
 intro pins s σ H x y v u Q I rx ry ⟨S,⟨tx,ty⟩,e,m,⟨r1,r2⟩,fin⟩
 subst e
 replace fin:Fin XE (Rep X.K) X.K S (eqA tx ty S.M) Q:=fin
 unfold eqA at fin
 split at fin
 ·rename_i b q
  exact (zhd I m 20 (A:=X.A) (by omega) rx ry r1 r2 q).1 _ _ _ _ ⟨.bl b,S.H,I,rfl,fin S _ rfl (.refl m) (.bl _)⟩
 ·exact fin.elim
theorem zkN (hu:X.A.units + 64 < cLine):OpR X (compareOp .NotEq) (lR2 XE X.K neA):=by
 intro pins s σ H x y v u Q I rx ry ⟨S,⟨tx,ty⟩,e,m,⟨r1,r2⟩,fin⟩
 subst e
 replace fin:Fin XE (Rep X.K) X.K S (neA tx ty S.M) Q:=fin
 unfold neA at fin
 split at fin
 ·rename_i b q
  exact (zhd I m 20 (A:=X.A) (by omega) rx ry r1 r2 q).2 _ _ _ _ ⟨.bl (!b),S.H,I,rfl,fin S _ rfl (.refl m) (.bl _)⟩
 ·exact fin.elim
noncomputable def inA:T->T->Mem->Out T:=fun x y M=>match zbc y M with
 | some ys=>if (yp x && ys.all yp) = true then .ok (.bl (ys.any fun y=>eqS y x)) M else .bad
 | none=>.bad
noncomputable def zam:T->T->Mem->Out T:=fun x y M=>match zbc y M with
 | some ys=>if (yp x && ys.all yp) = true then .ok (.bl (!ys.any fun y=>eqS y x)) M else .bad
 | none=>.bad
theorem zgk {K:Frag} {x:T} {v:V} (rx:Rep K S x v) (hx:yp x = true):∀ {ys:List T} {vs:List V},Reps K S ys vs->ys.all yp = true->vs.all zL = true/\inV v vs = ys.any fun y=>eqS y x
 | [],vs,r,_=>by rw [r.nilT];exact ⟨rfl,rfl⟩
 | y :: ys,vs,r,h=>by
  obtain ⟨w,ws,rfl,r1,r2⟩:=r.consT
  rw [all_cons,Qq] at h
  obtain ⟨h1,h2⟩:=zgk rx hx r2 h.2
  refine ⟨by rw [all_cons,yq r1 h.1,h1];rfl,?_⟩
  unfold inV at h2 ⊢
  rw [any_cons,any_cons,h2,zbR r1 rx h.1 hx]
theorem zgK:OpR X (compareOp .In) (lR2 XE X.K inA):=by
 intro pins s σ H x y v u Q I rx ry ⟨S,⟨tx,ty⟩,e,m,⟨r1,r2⟩,fin⟩
 subst e
 replace fin:Fin XE (Rep X.K) X.K S (inA tx ty S.M) Q:=fin
 unfold inA at fin
 split at fin
 ·rename_i ys q
  split at fin
  ·rename_i hs
   rw [Qq] at hs
   obtain ⟨p,vs,e1,hq,rs⟩:=zau m r2 q
   dsimp only at e1
   subst e1
   obtain ⟨a1,a2⟩:=zgk r1 hs.1 rs hs.2
   exact zgJ pins s σ S.H _ _ v u Q I rx ry ⟨p,vs,rfl,hq,yq r1 hs.1,a1,by rw [a2];exact fin S _ rfl (.refl m) (.bl _)⟩
  ·exact fin.elim
 ·exact fin.elim
theorem zcm:OpR X (compareOp .NotIn) (lR2 XE X.K zam):=by
 intro pins s σ H x y v u Q I rx ry ⟨S,⟨tx,ty⟩,e,m,⟨r1,r2⟩,fin⟩
 subst e
 replace fin:Fin XE (Rep X.K) X.K S (zam tx ty S.M) Q:=fin
 unfold zam at fin
 split at fin
 ·rename_i ys q
  split at fin
  ·rename_i hs
   rw [Qq] at hs
   obtain ⟨p,vs,e1,hq,rs⟩:=zau m r2 q
   dsimp only at e1
   subst e1
   obtain ⟨a1,a2⟩:=zgk r1 hs.1 rs hs.2
   exact zeC pins s σ S.H _ _ v u Q I rx ry ⟨p,vs,rfl,hq,yq r1 hs.1,a1,by rw [if_pos rfl,a2];exact fin S _ rfl (.refl m) (.bl _)⟩
  ·exact fin.elim
 ·exact fin.elim
end
section
noncomputable def zcP:List T->Option (List Int)
 | []=>some []
 | .int b :: r=>(zcP r).map (b :: ·)
 | _=>none
theorem zeP {K:Frag} {S:Sit}:∀ {ts:List T} {vs:List V} {bs:List Int},zcP ts = some bs->Reps K S ts vs->vs = bs.map V.int
 | [],vs,bs,e,r=>by cases e;exact r.nilT
 | .int b :: ts,vs,bs,e,r=>by
  unfold zcP at e
  obtain ⟨v,vs',rfl,r1,r2⟩:=r.consT
  cases q:zcP ts with
  | none=>rw [q] at e;cases e
  | some bs'=>
   rw [q] at e
   cases e
   cases r1
   rw [zeP q r2];rfl
 | .non :: _,_,_,e,_=>by cases e
 | .bl _ :: _,_,_,e,_=>by cases e
 | .str _ :: _,_,_,e,_=>by cases e
 | .ty _ :: _,_,_,e,_=>by cases e
 | .tup _ :: _,_,_,e,_=>by cases e
 | .lst _ :: _,_,_,e,_=>by cases e
 | .ref _ :: _,_,_,e,_=>by cases e
noncomputable def sumK:T->Mem->Out T:=fun t M=>match qm t M with
 | some xs=>match zcP xs with
  | some bs=>.ok (.int bs.sum) M
  | none=>.bad
 | none=>.bad
theorem zhi (hc:X.calm = true):CallR X (.builtin "sum") (lRN XE X.K (yo sumK)):=za2 fun pins s σ S t x v Q I rx m r fin=>by
 unfold sumK at fin
 split at fin
 ·rename_i xs q
  split at fin
  ·rename_i bs q2
   obtain ⟨p,vs,rfl,hq,rs⟩:=zm m r q
   rw [zeP q2 rs] at hq
   exact zhj hc pins s σ S.H _ _ Q I (.cons rx .nil) ⟨p,bs,rfl,hq,fin S _ rfl (.refl m) (.int _)⟩
  ·exact fin.elim
 ·exact fin.elim
end
noncomputable def zhM (o:Out Fl):Out T:=match o with
 | .ok (.rt t) M'=>.ok t M'
 | .ok (.nx _) M'=>.ok .non M'
 | _=>.bad
theorem zgy {p:Nat} (h:ts.length = p):qr p n g ts M = zhM (g (startT n ts) M):=by
 unfold qr
 rw [if_pos h]
 rfl
theorem znj:zhM (.ok (.rt t) M) = .ok t M:=rfl
theorem znk {σ:Ev} :zhM (.ok (.nx σ) M) = .ok .non M:=rfl
theorem znE {β:Type} {b:Bool} {k:Bool->Mem->Out β}:blT (.bl b) M k = k b M:=rfl
variable {k:Ev->Mem->Out Fl}
theorem yd {σ:Ev} :zaq k (.nx σ) M = k σ M:=rfl
theorem zhE:zaq k (.rt t) M = .ok (.rt t) M:=rfl
theorem zmC {σ:Ev} :zaq k (.bk σ) M = .ok (.bk σ) M:=rfl
theorem zmB {σ:Ev} :zaq k (.ct σ) M = .ok (.ct σ) M:=rfl
theorem zmT {σ:Ev} :zI k (.nx σ) M = k σ M:=rfl
theorem zmS:zI k (.rt t) M = .ok (.rt t) M:=rfl
theorem zmV {σ:Ev} :zI k (.bk σ) M = .ok (.nx σ) M:=rfl
theorem zmU {σ:Ev} :zI k (.ct σ) M = k σ M:=rfl
theorem zg8 {x:T} {σ:Ev} :forL bd body (x :: xs) σ M = (bd x σ M).bind fun σ1 M1=>(body σ1 M1).bind (zI (forL bd body xs)):=rfl
theorem zno {k:T->Mem->Out T} :yo k [t] M = k t M:=rfl
theorem znn {k:T->T->Mem->Out T} :call2 k [t,u] M = k t u M:=rfl
theorem znr:qo (.int i) (.int j) M = .ok (.int (i + j)) M:=rfl
theorem zng:zcz (.int i) (.int j) M = .ok (.int (i - j)) M:=rfl
theorem zjq (h:Mo64 i j):yH (.int i) (.int j) M = .ok (.int (i * j)) M:=if_pos h
theorem zfI (h:j ≠ 0/\j.natAbs < 10 ^ 2000):zdB (.int i) (.int j) M = .ok (.int (i.fdiv j)) M:=if_pos h
theorem zjs (h:j ≠ 0):zaY (.int i) (.int j) M = .ok (.int (i.fmod j)) M:=if_pos h
theorem znl (h:0<=j/\j<=1000000/\i.natAbs < 2 ^ 64):zfZ (.int i) (.int j) M = .ok (.int (i ^ j.toNat)) M:=if_pos h
theorem znx:ltI (.int i) (.int j) M = .ok (.bl (decide (i < j))) M:=rfl
theorem zny:leI (.int i) (.int j) M = .ok (.bl (decide (i<=j))) M:=rfl
theorem znA:gtI (.int i) (.int j) M = .ok (.bl (decide (j < i))) M:=rfl
theorem znB:geI (.int i) (.int j) M = .ok (.bl (decide (j<=i))) M:=rfl
theorem znv:zcM (.int i) M = .ok (.int (-i)) M:=rfl
theorem znm:zeI (.int i) (.int j) M = .ok (.int (if j > i then j else i)) M:=rfl
theorem znC:eqA (.int i) (.int j) M = .ok (.bl (i == j)) M:=rfl
theorem znw:neA (.int i) (.int j) M = .ok (.bl (!(i == j))) M:=rfl
theorem znz {a b:Bool} :isB (.bl a) (.bl b) M = .ok (.bl (a == b)) M:=rfl
theorem zm1 {a b:Bool} :zme (.bl a) (.bl b) M = .ok (.bl (a != b)) M:=rfl
theorem yL {α:Type} {xs:List α} :atI xs (n:Int) = xs[n]?:=by
 unfold atI ixN
 by_cases h:n < xs.length
 ·simp [h]
 ·simp [h]
theorem zmy {α:Type} {x:α} {l:List α}:atI (x :: l) 0 = some x:=by have:=yL (xs:=x :: l) (n:=0);exact this
theorem znO {α:Type} {x y:α} {l:List α}:atI (x :: y :: l) 1 = some y:=by have:=yL (xs:=x :: y :: l) (n:=1);exact this
theorem znN {α:Type} {x y z:α} {l:List α}:atI (x :: y :: z :: l) 2 = some z:=by have:=yL (xs:=x :: y :: z :: l) (n:=2);exact this
theorem znM {α:Type} {x y z w:α} {l:List α}:atI (x :: y :: z :: w :: l) 3 = some w:=by have:=yL (xs:=x :: y :: z :: w :: l) (n:=3);exact this
theorem znK:ixN (n + 1) 0 = some 0:=by unfold ixN;simp
theorem znJ:ixN (n + 2) 1 = some 1:=by unfold ixN;simp;omega
theorem znI:ixN (n + 3) 2 = some 2:=by unfold ixN;simp;omega
theorem zap {a:Nat} (e:M[a]? = some (.lst xs)) (h:xs.length < sizeLine):qL (.ref a) [t] M = .ok .non (M.set a (.lst (xs ++ [t]))):=by
 unfold qL
 simp only [e,if_pos h]
theorem zD {a:Nat} (e:M[a]? = some (.lst xs)):yE (.ref a) M = .ok (.ref a) M:=by
 unfold yE qm
 simp only [e]
theorem zbB {a:Nat} (e:M[a]? = some (.lst xs)):yR (.ref a) M = .ok (.tup xs) M:=by
 unfold yR zbc qm
 simp only [e]
theorem zkk (h:-(2 ^ 62)<=j/\j < 2 ^ 62):zcI [.int j] M = .ok (zbi 0 j.toNat) M:=if_pos h
theorem znD:zdB (.int i) (.int 8) M = .ok (.int (i.fdiv 8)) M:=zfI ⟨by decide,Q5 (show (8:Int).natAbs < 10 ^ 1 by decide) (Nat.pow_le_pow_right (by decide) (by decide))⟩
theorem zab (h:-(2 ^ 64) < i/\i < 2 ^ 64):yH (.int i) (.int j) M = .ok (.int (i * j)) M:=zjq (.inr (.inl h))
theorem zmu (n:Nat) (hn:n<=2000) (h0:j ≠ 0) (h:j.natAbs < 10 ^ n):j ≠ 0/\j.natAbs < 10 ^ 2000:=⟨h0,Q5 h (Nat.pow_le_pow_right (by decide) hn)⟩
structure Po where
 a:Int
 b:Int
 c:Int
noncomputable def Po.cell (p:Po):Cell:=.lst [.int p.a,.int p.b,.int p.c]
noncomputable def Po.dig (p:Po) (base:Int):Int:=if 0 < p.a then p.a % base else
 let mixed:=(p.b + 7919 * (p.c + 1)) % 1000000007
 let stir:=(mixed + 11) * (mixed + 48271) % 998244353
 (stir * stir % 2147483647 / 8) % base
noncomputable def Po.nxt (p:Po) (base:Int):Po:=if 0 < p.a then ⟨p.a / base,p.b,p.c⟩ else ⟨p.a,p.b,p.c + 1⟩
noncomputable def Po.new (cell:Int):Po:=⟨if cell - 10 ^ 18 > 0 then cell - 10 ^ 18 else 0,cell % 10 ^ 18,0⟩
theorem Po.dig_lo (p:Po) {base:Int} (h:0 < base):0<=p.dig base:=by
 unfold Po.dig
 split
 ·exact Int.emod_nonneg _ (by omega)
 ·exact Int.emod_nonneg _ (by omega)
theorem Po.dig_hi (p:Po) {base:Int} (h:0 < base):p.dig base < base:=by
 unfold Po.dig
 split
 ·exact Int.emod_lt_of_pos _ h
 ·exact Int.emod_lt_of_pos _ h
theorem ze8 {α:Type} (f:α->Bool):∀ xs:List α,zcU (xs.map fun x=>T.bl (f x)) = some (xs.map f)
 | []=>rfl
 | x :: xs=>by
  show (zcU (xs.map fun x=>T.bl (f x))).map (f x :: ·) = _
  rw [ze8 f xs]
  rfl
theorem zbb {α:Type} (f:α->Bool) (xs:List α) (M:Mem):zbT (.lst (xs.map fun x=>T.bl (f x))) M = .ok (.bl (xs.all f)) M:=by
 unfold zbT qm
 simp only [ze8]
 rw [all_map]
 rfl
theorem zmW:yy (.tup xs) M = .ok (.int xs.length) M:=rfl
theorem zh1:yy (.lst xs) M = .ok (.int xs.length) M:=rfl
theorem zcO {a:Nat} (e:M[a]? = some (.lst xs)):yy (.ref a) M = .ok (.int xs.length) M:=by
 unfold yy zbc qm
 simp only [e]
theorem zfa {α:Type} {xs:List α} (h0:0<=i) (h1:i < xs.length):∃ x,atI xs i = some x/\x ∈ xs:=by
 obtain ⟨n,rfl⟩:∃ n:Nat,i = n:=⟨i.toNat,by omega⟩
 have hn:n < xs.length:=by omega
 exact ⟨xs[n],by rw [yL];simp [hn],getElem_mem hn⟩
theorem znq {ys:List T} (h:xs.length + ys.length<=sizeLine):qo (.tup xs) (.tup ys) M = .ok (.tup (xs ++ ys)) M:=if_pos h
noncomputable def zcr (kvs:List (Key × T)) (k:Key):Option T:=(kvs.find? fun kv=>decide (kv.1 = k)).map (·.2)
noncomputable def zgc (kvs:List (Key × T)) (k:Key) (t:T):List (Key × T):=
 if (kvs.any fun kv=>decide (kv.1 = k)) = true then kvs.map (fun kv=>if kv.1 = k then (kv.1,t) else kv) else kvs ++ [(k,t)]
variable {kvs:List (Key × T)} {us:List (Key × V)}
section
variable {S:Sit}
theorem RepK.nilT (r:RepK K S [] us):us = []:=by
 have:=r.1
 simpa using this.symm
theorem RepK.nil:RepK K S [] []:=⟨rfl,.nil⟩
theorem RepK.consT {p:Key × T} (r:RepK K S (p :: kvs) us):∃ u us',us = (p.1,u) :: us'/\Rep K S p.2 u/\RepK K S kvs us':=by
 cases us with
 | nil=>have:=r.1;simp at this
 | cons q us=>
  obtain ⟨h1,h2⟩:=r
  rw [map_cons,map_cons] at h1 h2
  injection h1 with e1 e2
  obtain ⟨v,vs,e3,r1,r2⟩:=h2.consT
  injection e3 with e3 e4
  refine ⟨q.2,us,?_,?_,e2,?_⟩
  ·rw [e1]
  ·rw [e3];exact r1
  ·rw [e4];exact r2
theorem RepK.cons {k:Key} {u:V} (q:Rep K S t u) (r:RepK K S kvs us):RepK K S ((k,t) :: kvs) ((k,u) :: us):=
 ⟨by rw [map_cons,map_cons,r.1],by rw [map_cons,map_cons];exact r.2.cons q⟩
theorem RepK.look (k:Key):∀ {kvs:List (Key × T)} {us:List (Key × V)},RepK K S kvs us->(zcr kvs k = none/\zaT us k = none)\/∃ t v,zcr kvs k = some t/\zaT us k = some v/\Rep K S t v
 | [],us,r=>by rw [r.nilT];exact .inl ⟨rfl,rfl⟩
 | p :: kvs,us,r=>by
  obtain ⟨u,us',rfl,r1,r2⟩:=r.consT
  by_cases h:p.1 = k
  ·refine .inr ⟨p.2,u,?_,?_,r1⟩
   ·simp [zcr,find?_cons,h]
   ·simp [zaT,find?_cons,h]
  ·have e1:zcr (p :: kvs) k = zcr kvs k:=by simp [zcr,find?_cons,h]
   have e2:zaT ((p.1,u) :: us') k = zaT us' k:=by simp [zaT,find?_cons,h]
   rw [e1,e2]
   exact RepK.look k r2
theorem RepK.any (k:Key):∀ {kvs:List (Key × T)} {us:List (Key × V)},RepK K S kvs us->(kvs.any fun kv=>decide (kv.1 = k)) = us.any fun kv=>decide (kv.1 = k)
 | [],us,r=>by rw [r.nilT];rfl
 | p :: kvs,us,r=>by
  obtain ⟨u,us',rfl,r1,r2⟩:=r.consT
  rw [any_cons,any_cons,RepK.any k r2]
theorem RepK.repl (k:Key) {t:T} {v:V} (q:Rep K S t v):∀ {kvs:List (Key × T)} {us:List (Key × V)},RepK K S kvs us->RepK K S (kvs.map (fun kv=>if kv.1 = k then (kv.1,t) else kv)) (us.map (fun kv=>if kv.1 = k then (kv.1,v) else kv))
 | [],us,r=>by rw [r.nilT];exact .nil
 | p :: kvs,us,r=>by
  obtain ⟨u,us',rfl,r1,r2⟩:=r.consT
  rw [map_cons,map_cons]
  by_cases h:p.1 = k
  ·rw [if_pos h,if_pos h]
   exact (RepK.repl k q r2).cons q
  ·rw [if_neg h,if_neg h]
   exact (RepK.repl k q r2).cons r1
theorem RepK.snoc (k:Key) {t:T} {v:V} (q:Rep K S t v):∀ {kvs:List (Key × T)} {us:List (Key × V)},RepK K S kvs us->RepK K S (kvs ++ [(k,t)]) (us ++ [(k,v)])
 | [],us,r=>by rw [r.nilT];exact RepK.nil.cons q
 | p :: kvs,us,r=>by
  obtain ⟨u,us',rfl,r1,r2⟩:=r.consT
  exact (RepK.snoc k q r2).cons r1
theorem RepK.put (k:Key) (q:Rep K S t v) (r:RepK K S kvs us):RepK K S (zgc kvs k t) (putK us k v):=by
 unfold zgc putK
 rw [r.any k]
 split
 ·exact r.repl k q
 ·exact r.snoc k q
end
section
noncomputable def lMt (XE:XK) (K:Frag) (F:T->List T->Mem->Out T):V->List V->Hp->VK->Prop:=fun x xs H Q=>L0 XE (Rep K) K (PrR (Rep K) (Reps K)) (fun a M=>F a.1 a.2 M) (x,xs) H Q
noncomputable def zdb (chk:T->Mem->Bool) (F:T->List T->Mem->Out T) (f:Ev->Mem->Out T) (g:Ev->Mem->Out (List T)):Ev->Mem->Out T:=fun σ M=>(f σ M).bind fun x M1=>if chk x M1 = true then (g σ M1).bind fun ts M2=>F x ts M2 else .bad
end
noncomputable def insI (x:Int):List Int->List Int
 | []=>[x]
 | y :: ys=>if x<=y then x :: y :: ys else y :: insI x ys
theorem insI_perm (x:Int):∀ ys,(insI x ys).Perm (x :: ys)
 | []=>.refl _
 | y :: ys=>by
  unfold insI
  split
  ·exact .refl _
  ·exact ((insI_perm x ys).cons y).trans (.swap x y ys)
theorem Reps.ints {K:Frag} {S:Sit}:∀ ns:List Int,Reps K S (ns.map T.int) (ns.map V.int)
 | []=>.nil
 | n :: ns=>(Reps.ints ns).cons (.int n)
noncomputable def tK:Key->T
 | .inl i=>.int i
 | .inr x=>.str x
theorem zkc {S:Sit} (k:Key):Rep K S (tK k) (kV k):=by
 cases k with
 | inl i=>exact .int i
 | inr x=>exact .str x
theorem Reps.keys {K:Frag} {S:Sit}:∀ ks:List Key,Reps K S (ks.map tK) (ks.map kV)
 | []=>.nil
 | k :: ks=>(Reps.keys ks).cons (zkc k)
section
noncomputable def zf8:T->Mem->Out T:=fun t M=>match t with
 | .bl b=>.ok (.int (if b then 1 else 0)) M
 | _=>.bad
theorem zhn:CallR X (.type "int") (lRN XE X.K (yo zf8)):=za2 fun pins s σ S t x v Q I rx m r fin=>by
 unfold zf8 at fin
 split at fin
 ·cases r
  cases (show v = Value.bool _ from rx)
  exact call_int_bool ⟨.int _,S.H,I.tok _,⟨_,rfl⟩,fin S _ rfl (.refl m) (.int _)⟩
 ·exact fin.elim
end
noncomputable def SubL (m:List (Str × Addr)):List (Str × Addr)->Prop
 | []=>True
 | c :: l=>m.lookup c.1 = some c.2/\SubL m l
theorem zeL:∀ {l m:List (Str × Addr)},SubL m l->∀ x a,l.lookup x = some a->m.lookup x = some a
 | [],_,_,_,_,h=>by cases h
 | (y,b) :: l,m,g,x,a,h=>by
  rw [lookup_cons] at h
  split at h
  ·rename_i e
   cases h
   rw [eq_of_beq e]
   exact g.1
  ·exact zeL g.2 x a h
noncomputable def zhe (kvs prs:List (Key × T)):List (Key × T):=prs.foldl (fun acc kv=>zgc acc kv.1 kv.2) kvs
theorem RepK.merge {K:Frag} {S:Sit}:∀ {prs:List (Key × T)} {us:List (Key × V)} {kvs:List (Key × T)} {ws:List (Key × V)},RepK K S prs us->RepK K S kvs ws->RepK K S (zhe kvs prs) (zgP ws us)
 | [],us,kvs,ws,r,q=>by rw [r.nilT];exact q
 | p :: prs,us,kvs,ws,r,q=>by
  obtain ⟨u,us',rfl,r1,r2⟩:=r.consT
  show RepK K S (zhe (zgc kvs p.1 p.2) prs) (zgP (putK ws p.1 u) us')
  exact RepK.merge r2 (q.put p.1 r1)
noncomputable def forR (bd:T->Ev->Mem->Out Ev) (body:Ev->Mem->Out Fl) (a:Nat):Nat->Nat->Ev->Mem->Out Fl
 | 0,i,σ,M=>match M[a]? with
  | some (.lst xs)=>if xs.length<=i then .ok (.nx σ) M else .bad
  | _=>.bad
 | n + 1,i,σ,M=>match M[a]? with
  | some (.lst xs)=>match xs[i]? with
   | some x=>(bd x σ M).bind fun σ1 M1=>(body σ1 M1).bind (zI (forR bd body a n (i + 1)))
   | none=>.ok (.nx σ) M
  | _=>.bad
noncomputable def znF (bd:T->Ev->Mem->Out Ev) (body:Ev->Mem->Out Fl) (t:T) (σ:Ev) (M:Mem):Out Fl:=match t with
 | .ref a=>match M[a]? with
  | some (.lst xs)=>forR bd body a xs.length 0 σ M
  | _=>.bad
 | _=>.bad
theorem ziq {bd:T->Ev->Mem->Out Ev} {body:Ev->Mem->Out Fl} {a:Nat} {xs:List T} (P:Nat->Ev->Mem->Prop) (hP:∀ k σ M,P k σ M->M[a]? = some (.lst xs))
  (t:∀ k x σ M,xs[k]? = some x->P k σ M->∃ σ' M',((bd x σ M).bind fun σ1 M1=>body σ1 M1) = .ok (.nx σ') M'/\P (k + 1) σ' M'):∀ n i,i + n = xs.length->∀ σ M,P i σ M->∃ σ' M',forR bd body a n i σ M = .ok (.nx σ') M'/\P xs.length σ' M'
 | 0,i,hi,σ,M,h=>by
  have hM:=hP i σ M h
  refine ⟨σ,M,?_,by rw [← hi];exact h⟩
  unfold forR
  rw [hM]
  exact if_pos (by omega)
 | n + 1,i,hi,σ,M,h=>by
  have hM:=hP i σ M h
  have hx:xs[i]? = some xs[i]:=by simp [show i < xs.length by omega]
  obtain ⟨σ1,M1,e1,h1⟩:=t i _ σ M hx h
  obtain ⟨σ2,M2,e2,h2⟩:=ziq P hP t n (i + 1) (by omega) σ1 M1 h1
  refine ⟨σ2,M2,?_,h2⟩
  unfold forR
  rw [hM]
  simp only [hx]
  cases q:bd xs[i] σ M with
  | bad=>rw [q] at e1;cases e1
  | exn C fs M'=>rw [q] at e1;cases e1
  | ok σ3 M3=>
   rw [q] at e1
   replace e1:body σ3 M3 = .ok (.nx σ1) M1:=e1
   show (body σ3 M3).bind (zI (forR bd body a n (i + 1))) = _
   rw [e1]
   exact e2
end FT
namespace L2
open PySem PySem.Spec PySem.W PyProof.Rows
theorem KV.get_val {κ:Type}:∀ {kvs:List (κ × V)} {vs:List (κ × Value)} {i:Nat} {k:κ} {v:Value},KV kvs vs->vs[i]? = some (k,v)->∃ u,(kvs.map (·.2))[i]? = some u/\RelV u v
 | _,_,_,_,_,.nil,e=>by simp at e
 | _,_,0,_,_,.cons r _,e=>by simp at e;subst e;exact ⟨_,rfl,r.2⟩
 | _,_,i + 1,k,v,.cons _ t,e=>by
  obtain ⟨u,h1,h2⟩:=KV.get_val (i:=i) (k:=k) (v:=v) t (by simpa using e)
  exact ⟨u,by simpa using h1,h2⟩
variable {q t:Addr} {A:Around} {items:Array Value} {i:Nat} {prog:Program} {s:Shared} {E Q:Value->Shared->Prop} {w:World}
section
theorem zek {x:Value} (hit:s.heap.IsTupleIter q t i) (ht:s.heap.IsTuple t items) (hx:items[i]? = some x)
 (hQ:∀ k,k.IsTupleIter q t (i + 1)->Heap.SameBut q s.heap k->Q x { s with heap:=k }):wpAny (model prog w) A (Builtin.SmallTypes.nextOf (.ref q)) Q E s:=by
 obtain ⟨o,ho,cc,dd⟩:=id hit
 obtain ⟨o2,ho2,_,n2,dd2⟩:=ht
 unfold Builtin.SmallTypes.nextOf
 refine Q1 (wpAny_callSpecial?_slot (name:=Str.ofString "__next__") hit.typeIs PySem.F.slot_tuple_iterator_next (wpAny_call_entry PySem.F.slot_tuple_iterator_next hit.typeIs PySem.F.entry_tuple_iterator_next ?_ (PySem.F.args_tuple_iterator_next_1 _)))
 refine (show wpAny _ _ (field (.ref q) 0 >>= _) _ _ s from Q1 (wpAny_field ho dd (x:=.ref t) rfl ?_))
 refine (show wpAny _ _ (if (Value.ref t == Value.none) = true then _ else _) _ _ s from ?_)
 rw [if_neg (show ¬ (Value.ref t == Value.none) = true from Q4)]
 refine (show wpAny _ _ (field (.ref q) 1 >>= _) _ _ s from Q1 (wpAny_field ho dd (x:=.int i 0) rfl ?_))
 refine (show wpAny _ _ (seqItems? (.ref t) >>= _) _ _ s from Q1 (wpAny_seqItems ho2 dd2 ?_))
 simp only [hx,Int.toNat_natCast]
 refine Q1 (wpAny_setField ho dd (by simp) (Qe ⟨_,rfl,Qe (hQ _ ⟨_,Heap.get?_update_self _ ho (Obj.isFreed_of_fields (Obj.data_mapFields dd _)),(Obj.cls_mapFields ..).trans cc,?_⟩ (Heap.SameBut.update ..))⟩))
 rw [Obj.data_mapFields dd]
 simp [rawInt]
theorem zcu (hh:A.handled = none) (hit:s.heap.IsTupleIter q t i) (ht:s.heap.IsTuple t items) (hx:items[i]? = none)
 (hE:∀ k e,Heap.ExtBut q s.heap k->(∃ o,k.get? e = some o/\o.cls = .type "StopIteration")->E (.ref e) { s with heap:=k }):wpAny (model prog w) A (Builtin.SmallTypes.nextOf (.ref q)) Q E s:=by
 obtain ⟨o,ho,cc,dd⟩:=id hit
 obtain ⟨o2,ho2,_,n2,dd2⟩:=ht
 unfold Builtin.SmallTypes.nextOf
 refine Q1 (wpAny_callSpecial?_slot (name:=Str.ofString "__next__") hit.typeIs PySem.F.slot_tuple_iterator_next (wpAny_call_entry PySem.F.slot_tuple_iterator_next hit.typeIs PySem.F.entry_tuple_iterator_next ?_ (PySem.F.args_tuple_iterator_next_1 _)))
 refine (show wpAny _ _ (field (.ref q) 0 >>= _) _ _ s from Q1 (wpAny_field ho dd (x:=.ref t) rfl ?_))
 refine (show wpAny _ _ (if (Value.ref t == Value.none) = true then _ else _) _ _ s from ?_)
 rw [if_neg (show ¬ (Value.ref t == Value.none) = true from Q4)]
 refine (show wpAny _ _ (field (.ref q) 1 >>= _) _ _ s from Q1 (wpAny_field ho dd (x:=.int i 0) rfl ?_))
 refine (show wpAny _ _ (seqItems? (.ref t) >>= _) _ _ s from Q1 (wpAny_seqItems ho2 dd2 ?_))
 simp only [hx,Int.toNat_natCast]
 refine Q1 (wpAny_rule (Q1 (wpAny_setField ho dd (by simp) ?_)))
 refine (show wpAny _ _ (newExc (.type "StopIteration") [] >>= _) _ _ _ from Q1 ?_)
 simp only [newTuple,newExc]
 refine Q1 (Qr (Q1 (m:=firstArgMember _ _) (wpAny_of_eq (a:=Value.none) (by first | rfl | (simp only [firstArgMember];rfl)) (Qr ?_ (by size_fits)))) (by size_fits))
 simp only [raiseNew]
 refine Q1 (wpAny_handled ?_)
 first | rw [show A.in1.handled = none from hh] | rw [hh]
 exact Q1 (Qe (wpAny_throw (hE _ _ (((Heap.SameBut.update ..).extBut.push _).push _) ⟨_,Qk _ rfl,rfl⟩)))
theorem zfi (hh:A.handled = none) (q t:Addr) (hne:t ≠ q) (items:Array Value):Draws prog w A q [q,t] items.size (fun i v=>items[i]? = some v) (fun i h=>h.IsTupleIter q t i/\h.IsTuple t items) where
 live:=fun _ _ st=>let ⟨o,ho,_⟩:=st.1;⟨o,ho⟩
 frame:=fun _ _ _ st hk=>⟨st.1.at fun o e=>hk q (by simp) o e,let ⟨o,ho,r⟩:=st.2;⟨o,hk t (by simp) o ho,r⟩⟩
 item:=fun i s Q E hi st hQ=>zek st.1 st.2 (x:=items[i]) (by simp [hi]) fun k a b=>hQ _ k s.toks (by simp [hi]) ⟨a,let ⟨o,ho,r⟩:=st.2;⟨o,(b.2 t hne).trans ho,r⟩⟩ b
 done:=fun s Q E st hE=>zcu hh st.1 st.2 (by simp) hE
end
noncomputable abbrev zd3 (l:Addr):Obj:={ cls:=.type "tuple_iterator",data:=.fields #[.ref l,.int 0 0] }
noncomputable abbrev ziN (q:Addr):Obj:={ cls:=.type "enumerate",data:=.fields #[.none,.bool false,.ref q,rawInt 0,.none,.none] }
theorem zff (l:Addr) (items:Array Value):Meets (Builtin.«enumerate.__new__» ⟨[.type "enumerate",.ref l],[]⟩) (fun _ R s=>s.heap.IsTuple l items/\R (.ok (.ret (.ref (s.heap.push (zd3 l)).objs.size))) { s with heap:=(s.heap.push (zd3 l)).push (ziN s.heap.objs.size) }):=
 .of_wp fun prog w A R s h=>by
  obtain ⟨hp,g,d,tk,os⟩:=s
  obtain ⟨ht,h⟩:=h
  have se:=sub_enumerate
  obtain ⟨⟨cl,di,da,sl⟩,ho,hc,n,hd⟩:=id ht
  simp only at hc hd
  subst hc hd
  wp_walk using AutoSeq1.wpAny_loadPart' ho
  refine wpAny_stack_any fun st=>Qe ?_
  split
  ·rename_i c _ _ _ _ _
   cases (c == Value.type "enumerate") <;> (wp_walk using AutoSeq1.wpAny_loadPart' ho,wpAny_pyIter_tuple ht;exact ⟨_,rfl,h⟩)
  ·wp_walk using AutoSeq1.wpAny_loadPart' ho,wpAny_pyIter_tuple ht
   exact ⟨_,rfl,h⟩
section
theorem zgi {l:Addr} (hl:s.heap.IsTuple l items)
 (h:∀ k,IsEnum k (s.heap.objs.size + 1) s.heap.objs.size 0 .none->k.IsTupleIter s.heap.objs.size l 0->k.objs.size = s.heap.objs.size + 2->(∀ b o,s.heap.get? b = some o->k.get? b = some o)->Q (.ref (s.heap.objs.size + 1)) { s with heap:=k }) :
  wpAny (model prog w) A (call (.type "enumerate") [.ref l]) Q E s:=by
 have hz:(s.heap.push (zd3 l)).objs.size = s.heap.objs.size + 1:=Heap.size_push ..
 have he:IsEnum ((s.heap.push (zd3 l)).push (ziN s.heap.objs.size)) (s.heap.objs.size + 1) s.heap.objs.size 0 .none:=by
  rw [← hz];exact Qk _ rfl
 refine callType_new PySem.F.called_enumerate (by decide) (PySem.F.typeCall_enumerate_1 _) (PySem.F.newCall_enumerate_1 _) (fun obj=>PySem.F.args_object_init_2 obj _) PySem.F.entry_enumerate_new (zff l items) ⟨hl,?_⟩
 show _/\_
 rw [hz]
 exact ⟨⟨_,he,rfl⟩,h _ he ⟨_,Q2 _ (Qk _ rfl),rfl,rfl⟩ (by rw [Heap.size_push,hz]) fun b o e=>Q2 _ (Q2 _ e)⟩
end
variable {X:Cx}
section
variable {pins:List (Addr × Obj)} {σ:St} {H:Hp} {h':Heap}
theorem Inv.turned2 {t':Nat} {e it:Addr} (I:Inv X pins σ H s) (k:∀ b o,b ≠ e->b ≠ it->s.heap.get? b = some o->h'.get? b = some o) (fe:zbk X pins H e) (fi:zbk X pins H it):Inv X pins σ H { s with heap:=h',toks:=t' }:=by
 have ne:∀ b u,H b = some u->b ≠ e:=fun b u q z=>by rw [z,fe.1] at q;cases q
 have ni:∀ b u,H b = some u->b ≠ it:=fun b u q z=>by rw [z,fi.1] at q;cases q
 have kk:∀ b o,b ∉ [e,it]->s.heap.get? b = some o->h'.get? b = some o:=fun b o hc q=>k b o (fun z=>hc (by simp [z])) (fun z=>hc (by simp [z])) q
 refine I.step (g':=s.gens) (d':=s.drawn) (ch:=[e,it]) (fun b hb=>?_) (fun b o _ _ hc q _=>kk b o hc q) (fun b o _ _ hc q _=>⟨o.slots,kk b o hc q⟩) (fun _ _ _ _ n=>n)
  (fun b o hc q=>⟨o,kk b o hc q⟩) (fun _ _ q=>q) (fun _ _ _ q=>q) (fun b ps q=>⟨#[],by rw [q];simp⟩) (fun m hm=>?_) (fun b u q=>?_) I.bare
 ·rcases mem_cons.mp hb with z | z
  ·subst z;exact ⟨fe.2.2.2.1,fe.2.1,fe.2.2.2.2.1,fe.2.2.2.2.2⟩
  ·have z:=mem_singleton.mp z
   subst z;exact ⟨fi.2.2.2.1,fi.2.1,fi.2.2.2.2.1,fi.2.2.2.2.2⟩
 ·obtain ⟨o,es,ep,ho,r⟩:=hm
  exact ⟨o,es,ep,k _ o (Ne.symm fe.2.1) (Ne.symm fi.2.1) ho,r⟩
 ·refine (I.hok b u q).stay (fun c v hc z=>k c v ?_ ?_ z) (fun _ z=>z) fun _ _ z=>z
  ·rcases hc with z | z
   ·rw [z];exact ne b u q
   ·exact ne c _ z
  ·rcases hc with z | z
   ·rw [z];exact ni b u q
   ·exact ni c _ z
end
noncomputable def Ite (K:Frag) (a:Addr):It:=
 ⟨fun i H=>∃ xs x,SqT K H a xs/\xs[i]? = some x,fun i H y H'=>∃ p x,H p = none/\y = .ref p/\H' = upd H p (.tup [.int (i:Int),x])/\∀ xs,SqT K H a xs->xs[i]? = some x,fun i H=>∃ xs,SqT K H a xs/\xs.length<=i⟩
variable {elts:List Expr} {pos:Pos}
theorem zfP {P:Program} {K:Frag} {x1} (a e it:Addr) (hne:e ≠ it) (hae:a ≠ e) (hai:a ≠ it) :
  Turn P w K (.Tuple elts x1 pos) (Ite K a) [e,it] e (fun i h=>(∃ old,IsEnum h e it i old)/\h.IsTupleIter it a i) where
 mem:=by simp
 obj:=fun i h st b hb=>by
  rcases mem_cons.mp hb with z | z
  ·subst z
   obtain ⟨old,q⟩:=st.1
   exact ⟨_,q,fun v z=>by cases z⟩
  ·have z:=mem_singleton.mp z
   subst z
   obtain ⟨o,q,c,d⟩:=st.2
   exact ⟨o,q,fun v z=>by rw [d] at z;cases z⟩
 keep:=fun i h k st kk=>⟨let ⟨old,q⟩:=st.1;⟨old,kk e (by simp) _ q⟩,st.2.at fun o q=>kk it (by simp) o q⟩
 item:=by
  intro X hP hw hK hc i pins s σ H E I hf st hg
  subst hP hw hK
  obtain ⟨xs,x,hq,hx⟩:=hg
  obtain ⟨its,rv,p,hz⟩:=I.tuple hq
  obtain ⟨u,hu,ru⟩:=rv.get hx
  obtain ⟨⟨old,he⟩,hi⟩:=st
  have hl:i < its.toArray.size:=by simpa using (List.getElem?_eq_some_iff.mp hu).1
  have D:=zfi (prog:=X.prog) (w:=X.w) (A:=X.A.in1) (by exact I.ok.hd hc) it a hai its.toArray
  refine wpAny_pyNext_enum_itemD D he ⟨hi,show s.heap.IsTuple a its.toArray from p⟩ hl hne (by simp [hne,Ne.symm hae]) fun y k tk hy out st' htup hsz hk=>?_
  have hy':y = u:=by
   have:its[i]? = some y:=by simpa using hy
   rw [hu] at this
   exact (Qc this).symm
  subst hy'
  refine ⟨.ref s.heap.objs.size,rfl,wpAny_letOwnedTupleGo_enum (s:={ s with heap:=k,toks:=tk + 1 }) out fun k2 en2 sb=>?_⟩
  have fe:=hf e (by simp)
  have fi:=hf it (by simp)
  have eS:e ≠ s.heap.objs.size:=Qj (Qd he)
  have iS:it ≠ s.heap.objs.size:=by
   obtain ⟨o,q,_⟩:=hi
   exact Qj (Qd q)
  have IA:=I.laid (h':=s.heap.push { cls:=.type "tuple",data:=.seq #[.int i tk,y] }) (t':=tk + 1) (a:=s.heap.objs.size) (o:=.tup [.int (i:Int),x]) (fun b o q=>Q2 _ q) (Q3 _) (show ObjOk X.prog X.w _ _ _ (.tup [.int (i:Int),x]) from ⟨by show 2<=sizeLine;rw [sizeLine_eq];omega,[.int i tk,y],.cons ⟨tk,rfl⟩ (.cons ru .nil),by have:=IsTup.new s.heap #[.int i tk,y];simpa using this,NoDict.new⟩)
  have up:∀ b,b ≠ s.heap.objs.size->(upd H s.heap.objs.size (.tup [.int (i:Int),x])) b = H b:=fun b hb=>if_neg hb
  have IB:=IA.turned2 (t':=tk + 1) (h':=k2) (e:=e) (it:=it) (fun b o hbe hbi q=>by
   rcases Heap.get?_push_cases q with ⟨z1,z2⟩ | q
   ·subst z1;subst z2
    exact (sb.2 _ (Ne.symm eS)).trans htup
   ·exact (sb.2 b hbe).trans (hk b o hbe hbi q)) ⟨by rw [up e eS];exact fe.1,fe.2⟩ ⟨by rw [up it iS];exact fi.1,fi.2⟩
  refine ⟨.ref s.heap.objs.size,_,IB,rfl,⟨s.heap.objs.size,x,I.hok.fresh (Q3 _),rfl,rfl,fun ys hys=>by rw [I.tuple_inj hys hq];exact hx⟩,⟨⟨_,by push_cast at en2 ⊢;exact en2⟩,?_⟩,fun b hb=>?_⟩
  ·obtain ⟨o,q,r⟩:=st'.1
   exact ⟨o,(sb.2 it (Ne.symm hne)).trans q,r⟩
  ·rcases mem_cons.mp hb with z | z
   ·subst z;rw [up _ eS];exact fe.1
   ·have z:=mem_singleton.mp z
    subst z;rw [up _ iS];exact fi.1
 done:=by
  intro X hP hw hK hc i pins s σ H E I hf st hg
  subst hP hw hK
  obtain ⟨xs,hq,hx⟩:=hg
  obtain ⟨its,rv,p,hz⟩:=I.tuple hq
  obtain ⟨⟨old,he⟩,hi⟩:=st
  obtain ⟨f0,f1,f2,f3,f4,f5⟩:=hf it (by simp)
  have hl:=rv.length
  have D:Draws X.prog X.w X.A.in1 it [it,a] i (fun _ _=>True) (fun j h=>j = i/\h.IsTupleIter it a i/\h.IsTuple a its.toArray):={
   live:=fun _ _ st=>let ⟨o,ho,_⟩:=st.2.1;⟨o,ho⟩
   frame:=fun _ _ _ st hk=>⟨st.1,st.2.1.at fun o q=>hk it (by simp) o q,let ⟨o,ho,r⟩:=st.2.2;⟨o,hk a (by simp) o ho,r⟩⟩
   item:=fun j s Q E hj st hQ=>absurd st.1 (Qj hj)
   done:=fun s Q E st hE=>zcu (by exact I.ok.hd hc) st.2.1 st.2.2 (by simp;omega) hE }
  exact wpAny_pyNext_enum_endD D he ⟨rfl,hi,show s.heap.IsTuple a its.toArray from p⟩ fun k eb=>⟨rfl,I.turned (t':=s.toks) (fun b o hb q=>eb b o hb q) f0 f1 f3 f4 f5⟩
 self:=fun _ _ _ _ _ st h=>let ⟨_,q⟩:=st.1;wpAny_pyIter_enum q h
section
noncomputable def zm5 (K:Frag) (tl:TE):TI:=fun σ H R=>tl σ H fun x H1=>∃ a,x = .ref a/\(∃ xs,SqT K H1 a xs)/\R (Ite K a) H1
theorem zhS {l:Expr} {tl:TE} {x1} {tp p:Pos} (hg:Gl X "enumerate") (hm:X.mg "enumerate" = none) (hl:PE X l tl) (hs:starEach [l] X.env = [(false,eval l X.env)]:=by rfl) :
  PI X (.Tuple elts x1 tp) (.Call (.Name "enumerate" p) [l] [] pos) (zm5 X.K tl):=by
 intro pins s σ H R I h
 refine Call_ (zbu I hg hm (show bootBuiltins "enumerate" = some (.type "enumerate") by decide +kernel) (PyProof.Rows.callWith_type1 ?_ hs rfl))
 rw [hs]
 refine Calls.spliced_cons (thn (hl pins s σ H _ I h) fun v s1 ⟨x,H1,I1,r1,q1⟩=>Calls.spliced_nil ?_)
 obtain ⟨a,e,⟨xs,hq⟩,q⟩:=q1
 subst e
 cases r1
 obtain ⟨its,rv,pt,hz⟩:=I1.tuple hq
 have ha:a < s1.heap.objs.size:=by
  obtain ⟨o,ho,_⟩:=pt
  exact Qd ho
 refine zgi (show s1.heap.IsTuple a its.toArray from pt) fun k en ti hsz hk=>?_
 refine wpAny_pyIter_enum en ?_
 refine ⟨s1.heap.objs.size + 1,[s1.heap.objs.size + 1,s1.heap.objs.size],_,_,H1,rfl,I1.kept (t':=s1.toks) hk,zfP a _ _ (Nat.ne_of_gt (Nat.lt_succ_self _)) (Qj (Nat.lt_succ_of_lt ha)) (Qj ha),⟨⟨_,en⟩,ti⟩,fun b hb=>?_,q⟩
 rcases mem_cons.mp hb with z | z
 ·subst z;exact I1.fpOk (Nat.le_succ _) (I1.hok.fresh (Nat.le_succ _))
 ·have z:=mem_singleton.mp z
  subst z;exact I1.fpOk (Q3 _) (I1.hok.fresh (Q3 _))
end
end L2
namespace FT
open PySem PySem.Spec PyProof.Rows L2
noncomputable def enT (ts:List T):List T:=ts.mapIdx fun i t=>.tup [.int (i:Int),t]
noncomputable def zd8 (f:Ev->Mem->Out T):Ev->Mem->Out (List T):=fun σ M=>(f σ M).bind fun t M1=>match t with
 | .tup ts=>.ok (enT ts) M1
 | _=>.bad
section
variable {X:Cx} {XE:XK}
end
theorem Reps.rev {K:Frag} {S:Sit} {ts:List T} {vs:List V} (r:Reps K S ts vs):Reps K S ts.reverse vs.reverse:=by
 refine ⟨by simp [r.1],fun i t v e1 e2=>?_⟩
 have h1:i < ts.length:=by have:=(List.getElem?_eq_some_iff.mp e1).1;simpa using this
 rw [List.getElem?_reverse h1] at e1
 rw [List.getElem?_reverse (by rw [← r.1];exact h1),← r.1] at e2
 exact r.2 _ t v e1 e2
end FT
namespace L2
open PySem PySem.Spec PyProof.Rows
open AutoSeq1 (wpAny_loadPart')
theorem zfR (l:Addr) (items:Array Value) (n:Nat) (u:Tok) (dd:Option Addr) (sl:Array (Option Value)) :
  Meets (Builtin.«tuple.__mul__» ⟨[.ref l,.int 1 u],[]⟩) (fun _ R s=>s.heap.get? l = some { cls:=.type "tuple",dict:=dd,data:=.seq items n,slots:=sl }/\R (.ok (.ret (Value.ref l))) s):=
 .of_wp fun prog w A R s h=>by
  obtain ⟨hp,g,d,tk,os⟩:=s;obtain ⟨hl,h⟩:=h
  have f1:=AutoSeq1.idx_int
  have hA:¬(decide ((1:Int) < -2 ^ 63) || decide ((1:Int) ≥ 2 ^ 63)) = true:=by decide
  have hB:(items.isEmpty || (1:Int) == 1) = true:=by simp
  have hT:IsTup hp l items:=⟨_,hl,rfl,n,rfl⟩
  wp_walk using wpAny_loadPart' hl
  exact ⟨_,rfl,h⟩
theorem zfS (l:Addr) (items:Array Value) (n:Nat) (x:Int) (u:Tok) (dd:Option Addr) (sl:Array (Option Value)) (h0:items.isEmpty = false) (h1:x<=0) (h2:-(2 ^ 63)<=x) :
  Meets (Builtin.«tuple.__mul__» ⟨[.ref l,.int x u],[]⟩) (fun _ R s=>s.heap.get? l = some { cls:=.type "tuple",dict:=dd,data:=.seq items n,slots:=sl }/\R (.ok (.ret (Value.ref s.heap.objs.size))) { s with heap:=s.heap.push { cls:=Value.type "tuple",data:=Data.seq #[] },toks:=s.toks }):=
 .of_wp fun prog w A R s h=>by
  obtain ⟨hp,g,d,tk,os⟩:=s;obtain ⟨hl,h⟩:=h
  have f1:=AutoSeq1.idx_int
  have hA:¬(decide (x < -2 ^ 63) || decide (x ≥ 2 ^ 63)) = true:=by simp;omega
  have hB:¬(items.isEmpty || x == 1) = true:=by rw [h0];simp;omega
  have hC:(decide (x<=0) || items.isEmpty) = true:=by simp [h1]
  have hT:IsTup hp l items:=⟨_,hl,rfl,n,rfl⟩
  wp_walk using wpAny_loadPart' hl
  rw [if_neg hA]
  refine Q1 (tupleItemsOf_ hT ?_)
  show wpAny _ _ (if (items.isEmpty || x == 1) = true then _ else _) _ _ _
  rw [if_neg hB]
  show wpAny _ _ (if (decide (x<=0) || items.isEmpty) = true then _ else _) _ _ _
  rw [if_pos hC]
  exact Q1 (m:=Builtin.Tuple.tupleExact _) (Qr (Qe ⟨_,rfl,h⟩) (by size_fits))
section
variable {X:Cx}
theorem zgG:OpR X (binaryOp .Mult) (fun x y H Q=>∃ l k xs,x = .ref l/\y = .int k/\SqT X.K H l xs/\xs ≠ []/\k<=1/\-(2 ^ 63)<=k/\(k = 1->Q (.ref l) H)/\(k<=0->∀ p,H p = none->Q (.ref p) (upd H p (.tup [])))):=by
 intro pins s σ H x y v u Q I rx ry h
 obtain ⟨l,k,xs,rfl,rfl,hH,hx,h1,h2,q1,q0⟩:=h
 cases rx
 obtain ⟨t,rfl⟩:=ry
 obtain ⟨its,r,pl,_⟩:=I.tuple hH
 obtain ⟨⟨cls,dd,data,sl⟩,ho,hc,n,hd⟩:=id pl
 simp only at hc hd
 subst hc hd
 have hne:its.toArray.isEmpty = false:=by
  cases its with
  | nil=>exact absurd (r.nil_iff.mp rfl) hx
  | cons a b=>rfl
 by_cases hk:k = 1
 ·subst hk
  refine wpAny_binaryOp_repeat_ref (T:="tuple") (U:="int") (by decide) ⟨_,ho,rfl⟩ (fun s'=>typeIs_int s' 1 t) yY F.fills_int_mul F.slot_int_rmul zaV F.slot_int_index.lookup
   (call_meets F.slot_int_rmul (typeIs_int s 1 t) F.entry_int_rmul (F.args_int_rmul_2 _ _) (zaj 1 t l its.toArray n dd sl)
    ⟨ho,rfl,⟨_,ho,rfl⟩,call_meets F.slot_tuple_mul ⟨_,ho,rfl⟩ F.entry_tuple_mul (F.args_tuple_mul_2 _ _) (zfR l its.toArray n t dd sl) ⟨ho,?_⟩⟩)
  exact ⟨.ref l,H,I,rfl,q1 rfl⟩
 ·refine wpAny_binaryOp_repeat_ref (T:="tuple") (U:="int") (by decide) ⟨_,ho,rfl⟩ (fun s'=>typeIs_int s' k t) yY F.fills_int_mul F.slot_int_rmul zaV F.slot_int_index.lookup
   (call_meets F.slot_int_rmul (typeIs_int s k t) F.entry_int_rmul (F.args_int_rmul_2 _ _) (zaj k t l its.toArray n dd sl)
    ⟨ho,rfl,⟨_,ho,rfl⟩,call_meets F.slot_tuple_mul ⟨_,ho,rfl⟩ F.entry_tuple_mul (F.args_tuple_mul_2 _ _) (zfS l its.toArray n k t dd sl hne (by omega) h2) ⟨ho,?_⟩⟩)
  exact ⟨.ref s.heap.objs.size,_,I.laid (t':=s.toks) (o:=.tup []) (fun b ob q=>Q2 _ q) (Q3 _) ⟨Nat.zero_le _,[],.nil,IsTup.new _ _,NoDict.new⟩,rfl,q0 (by omega) _ (I.hok.fresh (Q3 _))⟩
end
end L2
namespace FT
open PySem PySem.Spec PyProof.Rows L2
noncomputable def zar:T->T->Mem->Out T:=fun x y M=>match x,y with
 | .tup xs,.int k=>@ite _ (xs ≠ []/\-(2 ^ 63)<=k/\k < 2 ^ 63/\xs.length * k.toNat<=sizeLine) (Classical.propDecidable _) (.ok (.tup (List.replicate k.toNat xs).flatten) M) .bad
 | _,_=>.bad
section
variable {X:Cx} {XE:XK}
theorem zaW:OpR X (binaryOp .Mult) (lR2 XE X.K zar):=by
 intro pins s σ H x y v u Q I rx ry ⟨S,⟨tx,ty⟩,e,m,⟨r1,r2⟩,fin⟩
 subst e
 replace fin:Fin XE (Rep X.K) X.K S (zar tx ty S.M) Q:=fin
 unfold zar at fin
 split at fin
 ·rename_i xs k
  split at fin
  ·rename_i h
   cases r2
   cases r1 with
   | @tup _ p vs hq l r=>
   have r1:Reps X.K S _ vs:=⟨l,r⟩
   have hne:vs ≠ []:=fun z=>h.1 (by subst z;exact r1.nil_inv)
   by_cases hk:2<=k
   ·exact zfw pins s σ S.H _ _ v u Q I rx ry ⟨p,_,vs,rfl,rfl,hq,hne,hk,h.2.2.1,by rw [← l];exact h.2.2.2,zbs m fin (r1.rep _)⟩
   ·refine zgG pins s σ S.H _ _ v u Q I rx ry ⟨p,_,vs,rfl,rfl,hq,hne,by omega,h.2.1,fun z=>?_,fun z p hp=>?_⟩
    ·subst z
     have e:(List.replicate (1:Int).toNat xs).flatten = xs:=by simp
     rw [e] at fin
     exact fin S _ rfl (.refl m) (.tup hq l r)
    ·have e:(List.replicate k.toNat xs).flatten = []:=by rw [show k.toNat = 0 by omega];rfl
     rw [e] at fin
     exact zbs m fin .nil p hp
  ·exact fin.elim
 ·exact fin.elim
end
end FT
namespace L2
open PySem PySem.Spec PySem.W PyProof.Rows
variable {X:Cx}
section
variable {pins:List (Addr × Obj)} {σ:St} {H:Hp} {s:Shared} {l:Addr} {us:List (Key × V)}
theorem Inv.freeze (I:Inv X pins σ H s) (e:H l = some (.dK us)):∃ ob,Inv X pins σ (upd H l (.frz ob (.dK us))) s:=by
 obtain ⟨z,hs,vs,rel,o,es,ep,ho,r⟩:=(show ObjOk X.prog X.w H s.heap l (.dK us) from I.hok l _ e)
 exact ⟨o,I.write (x:=l) (e:=l) (o:=.frz o (.dK us)) (h':=s.heap) (t':=s.toks) (by rw [e];trivial) (.inl rfl) (fun b u _ q=>q) ⟨o,ho⟩ ⟨ho,z,hs,vs,rel,o,es,ep,ho,r⟩⟩
end
noncomputable def zm8 (Q:VK):VK:=fun v H'=>∃ l us,v = .ref l/\H' l = some (.dK us)/\∀ ob,Q v (upd H' l (.frz ob (.dK us)))
theorem CallR.frz {f:Value} {r:List V->Hp->VK->Prop} (h:CallR X f r):CallR X f (fun xs H Q=>r xs H (zm8 Q)):=by
 intro pins s σ H xs us Q I rv hr
 refine Qf (h pins s σ H xs us _ I rv hr) (fun v s' ⟨x,H',I',r',l,us',ex,e,q⟩=>?_) fun _ _ z=>z
 obtain ⟨ob,I2⟩:=I'.freeze e
 exact ⟨x,_,I2,r',q ob⟩
end L2
namespace FT
open PySem PySem.Spec PyProof.Rows L2
noncomputable def zhN (f:Str) (v:T):List (Str × T)->List (Str × T)
 | []=>[(f,v)]
 | (g,x) :: r=>if g = f then (g,v) :: r else (g,x) :: zhN f v r
variable {K:Frag} {us:List (Str × V)} {t:T}
section
variable {S:Sit}
theorem RepF.nil:RepF K S [] []:=⟨rfl,.nil⟩
theorem RepF.nilT (r:RepF K S [] us):us = []:=by
 have:=r.1
 simpa using this.symm
theorem RepF.consT {p:Str × T} {fs:List (Str × T)} (r:RepF K S (p :: fs) us):∃ u us',us = (p.1,u) :: us'/\Rep K S p.2 u/\RepF K S fs us':=by
 cases us with
 | nil=>have:=r.1;simp at this
 | cons q us'=>
  have h1:=r.1
  simp only [map_cons,List.cons.injEq] at h1
  obtain ⟨v,vs,e,r1,r2⟩:=(show Reps K S (p.2 :: fs.map (·.2)) (q.2 :: us'.map (·.2)) from r.2).consT
  cases e
  exact ⟨q.2,us',by rw [h1.1],r1,h1.2,r2⟩
theorem RepF.cons {g:Str} {u:V} {fs:List (Str × T)} (q:Rep K S t u) (r:RepF K S fs us):RepF K S ((g,t) :: fs) ((g,u) :: us):=⟨by simp [r.1],r.2.cons q⟩
theorem RepF.look (f:Str):∀ {fs:List (Str × T)} {us:List (Str × V)},RepF K S fs us->∀ {t:T},fs.lookup f = some t->∃ v,us.lookup f = some v/\Rep K S t v
 | [],us,r,t,e=>by cases e
 | (g,x) :: fs,us,r,t,e=>by
  obtain ⟨u,us',rfl,r1,r2⟩:=r.consT
  rw [lookup_cons] at e ⊢
  cases h:f == g with
  | true=>rw [h] at e;cases e;exact ⟨u,rfl,r1⟩
  | false=>rw [h] at e;exact RepF.look f r2 e
theorem RepF.put (f:Str) {t:T} {v:V} (q:Rep K S t v):∀ {fs:List (Str × T)} {us:List (Str × V)},RepF K S fs us->RepF K S (zhN f t fs) (zhO f v us)
 | [],us,r=>by rw [r.nilT];exact RepF.cons q .nil
 | (g,x) :: fs,us,r=>by
  obtain ⟨u,us',rfl,r1,r2⟩:=r.consT
  unfold zhN zhO
  by_cases h:g = f
  ·rw [if_pos h,if_pos h];exact RepF.cons q r2
  ·rw [if_neg h,if_neg h];exact RepF.cons r1 (RepF.put f q r2)
end
structure MakT (P:Program) (w:World) (K:Frag) (mg:Str->Option Value) (base:Heap) (k:Nat) (x:Str) (C:Addr) (ps:List Str) (f:List T->Mem->Out T):Prop where
 ex:∃ (fI:Addr) (fd:FuncData),Mk K C fI/\FnOk P w K mg base CX0 k fI fd ps (spT K f)/\Binds K fd ps []/\mg x = some (.ref C)
 nox:∀ ts M C fs M',f ts M ≠ .exn C fs M'
structure Di (K:Frag) (mg:Str->Option Value) (x qual:Str) (C:Addr) (st:Stmt) (ps:List Str):Prop where
 ex:∃ (fI:Addr) (fd:FuncData),Mk K C fI/\Fun K "__init__" qual st fI fd/\Binds K fd ps []/\mg x = some (.ref C)
variable {X:Cx} {XE:XK}
section
theorem zgR {S1 S3:Sit} (s3:Stp K S1 S3) {p:Addr} {vs:List V} (h:(Rd S1.H p (.lst vs)/\S1.off p)\/KL K p vs):SqL K S3.H p vs:=by
 rcases h with ⟨h2,f2⟩ | h2
 ·exact .inl (s3.toGrow.rd h2 f2).1
 ·exact .inr h2
end
noncomputable abbrev Gd:=List (Nat × List T)
def zaE (G:Gd) (M:Mem):Prop:=∀ g ∈ G,M[g.1]? = some (.lst g.2)
noncomputable def gdK {β:Type} (G:Gd) (M:Mem) (o:Out β):Out β:=@ite _ (zaE G M) (Classical.propDecidable _) o .bad
variable {G:Gd} {M:Mem}
theorem zeR {β:Type} {o:Out β} (h:zaE G M):gdK G M o = o:=if_pos h
theorem zil (M:Mem):zaE [] M:=fun g h=>by simp at h
variable {xs:List T}
theorem zik {a:Nat} (h:M[a]? = some (.lst xs)):zaE [(a,xs)] M:=fun g hg=>by rw [mem_singleton.mp hg];exact h
def ItG (K:Frag) (S:Sit) (items:List T × Gd) (J:It):Prop:=∀ S',Stp K S S'->zaE items.2 S'.M->
 (∀ (i:Nat) t,items.1[i]? = some t->J.go i S'.H/\∀ x H',J.yld i S'.H x H'->∃ S'',S''.H = H'/\S''.M = S'.M/\Stp K S' S''/\Rep K S'' t x)/\∀ i,items.1.length<=i->J.stop i S'.H
instance (K):Mo K (ItG K):=⟨fun _ s r=>fun S' s'=>r S' (s.trans s')⟩
noncomputable def lIG (XE:XK) (K:Frag) (f:Ev->Mem->Out (List T × Gd)):TI:=fun σ H R=>LN XE (ItG K) K UnR (fun _ σ M=>f σ M) () σ H R
def GIG (X:Cx) (XE:XK) (tg iter:Expr) (f:Ev->Mem->Out (List T × Gd)):Prop:=PI X tg iter (lIG XE X.K f)
noncomputable def forG (G:Gd) (bd:T->Ev->Mem->Out Ev) (body:Ev->Mem->Out Fl):List T->Ev->Mem->Out Fl
 | [],σ,M=>gdK G M (.ok (.nx σ) M)
 | x :: xs,σ,M=>gdK G M ((bd x σ M).bind fun σ1 M1=>(body σ1 M1).bind (zI (forG G bd body xs)))
noncomputable def zcZ (it:Ev->Mem->Out (List T × Gd)) (bd:T->Ev->Mem->Out Ev) (body:Ev->Mem->Out Fl):Ev->Mem->Out Fl:=fun σ M=>(it σ M).bind fun xs M1=>forG xs.2 bd body xs.1 σ M1
theorem Fin.gd {β γ:Type} {R:Sit->β->γ->Prop} {S:Sit} {o:Out β} {Q:γ->Hp->Prop} (h:Fin XE R K S (gdK G M o) Q):zaE G M/\Fin XE R K S o Q:=by
 by_cases g:zaE G M
 ·rw [zeR g] at h;exact ⟨g,h⟩
 ·rw [show gdK G M o = .bad from if_neg g] at h;exact h.elim
variable {p:Ev->Mem->Out Fl} {bd:T->Ev->Mem->Out Ev}
theorem zg9 {S:Sit} {σ:Ev} {Q:FlV->Hp->Prop} (h:Fin XE (FlR K) K S (forG G bd p xs σ M) Q):zaE G M:=by
 cases xs with
 | nil=>exact (Fin.gd h).1
 | cons x xs=>exact (Fin.gd h).1
variable {e tg:Expr}
section
variable {a b c iter:Expr} {es:List Expr} {pos pp:Pos} {sts:List Stmt} {ga:Ev->Mem->Out (List T × Gd)}
end
noncomputable def zb6 (t:T) (M:Mem):Option (List T × Gd):=match t with
 | .lst xs=>some (xs,[])
 | .ref a=>match M[a]? with
  | some (.lst xs)=>some (xs,[(a,xs)])
  | _=>none
 | _=>none
theorem zju {S:Sit} (m:MemOk K S) {v:V} (r:Rep K S t v) (e:zb6 t S.M = some (xs,G)):∃ p vs,v = .ref p/\SqL K S.H p vs/\∀ S3,Stp K S S3->zaE G S3.M->∃ vs3,SqL K S3.H p vs3/\Reps K S3 xs vs3:=by
 unfold zb6 at e
 split at e
 ·cases e
  cases r with
  | @lst _ p vs h l rr=>
   refine ⟨p,vs,rfl,zb5 h,fun S3 s3 _=>⟨vs,zgR s3 h,?_⟩⟩
   exact (show Reps K S xs vs from ⟨l,rr⟩).grow m s3.toGrow
 ·rename_i a
  split at e
  ·rename_i ys q
   cases e
   cases r with
   | ref ha=>
    obtain ⟨vs,h1,r1⟩:=m.cell a _ q
    refine ⟨S.α a,vs,rfl,.inl (.inl h1),fun S3 s3 g=>?_⟩
    obtain ⟨vs3,h3,r3⟩:=s3.mok.cell a _ (g (a,xs) (.head _))
    rw [s3.al a ha] at h3
    exact ⟨vs3,.inl (.inl h3),r3⟩
  ·cases e
 ·cases e
noncomputable def zc8 (f:Ev->Mem->Out T):Ev->Mem->Out (List T × Gd):=fun σ M=>(f σ M).bind fun t M1=>match zb6 t M1 with
 | some g=>.ok g M1
 | none=>.bad
section
end
end FT
namespace L2
open PySem PySem.Spec PySem.W PyProof.Rows
def SI (b:Bool) (h:Heap) (q t:Addr) (k:Nat):Prop:=match b with
 | true=>h.IsTupleIter q t k
 | false=>h.IsListIter q t k
def SS (b:Bool) (h:Heap) (t:Addr) (xs:Array Value):Prop:=match b with
 | true=>h.IsTuple t xs
 | false=>h.IsList t xs
def SqX (K:Frag) (H:Hp) (b:Bool) (a:Addr) (xs:List V):Prop:=match b with
 | true=>SqT K H a xs
 | false=>SqL K H a xs
noncomputable abbrev TSl:=V->Option Int->Option Int->V->Hp->(Hp->Prop)->Prop
end L2
namespace FT
open PySem PySem.Spec PyProof.Rows L2
structure CalX (P:Program) (w:World) (K:Frag) (mg:Str->Option Value) (base:Heap) (k:Nat) (x:Str) (ps:List Str) (f:List T->Mem->Out T):Prop where
 ex:∃ (fa:Addr) (fd:FuncData),FnOk P w K mg base (CXX P w) k fa fd ps (spT K f)/\PySem.W.keepIn K (.ref fa) = true/\Binds K fd ps []/\mg x = some (.ref fa)
variable {C:Addr} {K:Frag} {base:Heap} {P:Program} {x:Str} {mg:Str->Option Value} {w:World}
section
variable {X:Cx} {XE:XK} {k i j:Nat} {ps:List Str} {y v nm:Str} {p pos pos2 np hp tp vp cpos:Pos} {e:Expr} {es:List Expr} {ga:Ev->Mem->Out (List T)} {F:List T->Mem->Out T} {b0:Stmt} {suite sts:List Stmt} {g gs:Ev->Mem->Out Fl}
structure XcF (P:Program) (w:World) (K:Frag) (mg:Str->Option Value) (base:Heap) (x:Str) (C:Addr):Prop where
 ex:∃ f fd,XcAt K mg x C f/\FnOk P w K mg base CX0 1 f fd ["self","at"] (fun vs H Q E=>(∃ e t v,vs = [.ref e,v]/\H e = some (.ext (ExN e C t none))/\∀ d,H d = none->d ≠ e->Q .non (upd (upd H e (.ext (ExN e C t (some d)))) d (.xd [("at",v)]))))/\Binds K fd ["self","at"] []
theorem XcF.at (O:XcF P w K mg base x C):∃ nm fI,XcAt K mg nm C fI:=let ⟨f,_,h,_⟩:=O.ex;⟨x,f,h⟩
def GX (X:Cx) (sts:List Stmt) (g:Ev->Mem->Out Fl):Prop:=PX X sts fun E=>lS E X.K g
noncomputable def noX (o:Out Fl):Out Fl:=match o with
 | .exn _ _ _=>.bad
 | o=>o
noncomputable def znP (cs:List Addr) (g gs:Ev->Mem->Out Fl):Ev->Mem->Out Fl:=fun σ M=>match g σ M with
 | .exn C _ M'=>if cs.contains C = true then noX (gs σ M') else .bad
 | o=>o
noncomputable def clr (j:Nat) (fl:Fl) (M:Mem):Out Fl:=match fl with
 | .nx σ=>.ok (.nx (σ.set j none)) M
 | .rt t=>.ok (.rt t) M
 | .bk σ=>.ok (.bk (σ.set j none)) M
 | .ct σ=>.ok (.ct (σ.set j none)) M
noncomputable def znG (j:Nat) (cs:List Addr) (g gs:Ev->Mem->Out Fl):Ev->Mem->Out Fl:=fun σ M=>match g σ M with
 | .exn C fs M'=>if cs.contains C = true then (noX (gs (σ.set j (some (.exc C fs))) M')).bind (clr j) else .bad
 | o=>o
end
theorem zhF {f:Addr} (O:XcAt K mg x C f):Sup K mg x C C:=⟨O.bound,fun h X=>by
 obtain ⟨bm,N,nm,q,bs,sn,sub,ab,col,dd,k0,k1,k2,k3,k5,mN,hC,_,_,_,T⟩:=O.obj h X
 exact ⟨⟨bm,N,nm,q,bs,true,sn,sub,ab,col,dd,k0,k1,k2,k3,k5,hC,(T.tail (by decide)).hasType PySem.F.excBase_ValueError.hasBase⟩,bm,N,nm,q,bs,true,sn,sub,ab,col,dd,k0,k1,k2,k3,k5,hC,by simp⟩⟩
theorem XcF.sup (O:XcF P w K mg base x C):Sup K mg x C C:=let ⟨_,_,h,_⟩:=O.ex;zhF h
end FT
namespace L2
open PySem
noncomputable def subs:Nat->List (List Nat)
 | 0=>[[]]
 | n + 1=>subs n ++ (subs n).map (· ++ [n])
theorem zfo:∀ (n:Nat) (ks:List Nat),ks ∈ subs n->ks.Pairwise (· < ·)/\∀ k ∈ ks,k < n
 | 0,ks,h=>by rw [show ks = [] from mem_singleton.mp h];exact ⟨.nil,fun _ h=>by cases h⟩
 | n + 1,ks,h=>by
  unfold subs at h
  rcases mem_append.mp h with h | h
  ·have:=zfo n ks h
   exact ⟨this.1,fun k hk=>Nat.lt_succ_of_lt (this.2 k hk)⟩
  ·obtain ⟨l,hl,rfl⟩:=mem_map.mp h
   have:=zfo n l hl
   refine ⟨List.pairwise_append.mpr ⟨this.1,List.pairwise_singleton _ _,fun a ha b hb=>by rw [mem_singleton.mp hb];exact this.2 a ha⟩,fun k hk=>?_⟩
   rcases mem_append.mp hk with hk | hk
   ·exact Nat.lt_succ_of_lt (this.2 k hk)
   ·rw [mem_singleton.mp hk];exact Nat.lt_succ_self _
noncomputable def znc:Bool:=(subs 6).all fun ks=>(List.range 7).all fun h=>SetTable.below ks.toArray h == (ks.filter (· < h)).length
theorem zjZ:znc = true:=by decide +kernel
variable {ks:List Nat}
theorem ze9 (hk:ks ∈ subs 6) {h:Nat} (hh:h < 7):SetTable.below ks.toArray h = (ks.filter (· < h)).length:=by
 have:=all_eq_true.mp (all_eq_true.mp zjZ ks hk) h (mem_range.mpr hh)
 exact eq_of_beq this
noncomputable def zk0 (mask:Nat) (hashes:Array Int):Option (List Nat × List Nat):=(SetTable.layClean mask hashes).map fun owner=>
 let live:=(List.range (mask + 1)).filterMap fun j=>(owner.getD j none).map (j,·)
 (live.map (·.1),live.map (·.2))
noncomputable def hsh (ks:List Nat):List Int:=ks.map fun k:Nat=>(k:Int)
noncomputable def layB:Bool:=(subs 6).all fun ks=>[7,15,31].all fun m=>zk0 m (hsh ks).toArray == some (ks,List.range ks.length)
theorem zjv:layB = true:=by decide +kernel
theorem zjx (hk:ks ∈ subs 6) {m:Nat} (hm:m ∈ [7,15,31]) (f mv:Nat) (l p:Bool) :
  SetTable.laid m f mv l p (hsh ks).toArray = some ({ mask:=m,place:=ks.toArray,dummies:=#[],finger:=f,led:=l,moves:=mv,plain:=p },(List.range ks.length).toArray):=by
 have:=eq_of_beq (all_eq_true.mp (all_eq_true.mp zjv ks hk) m hm)
 unfold zk0 at this
 unfold SetTable.laid
 cases q:SetTable.layClean m (hsh ks).toArray with
 | none=>rw [q] at this;cases this
 | some owner=>
  rw [q] at this
  have h:=Prod.mk.inj (Qc this)
  show some _ = some _
  rw [h.1,h.2]
end L2
namespace L2
open PySem PySem.Spec
noncomputable def zhv (w:World):Bool:=w.params.followText "set-order"
structure DTab (w:World) (es:Array (Int × Value)) (t:SetTable) (ks:List Nat) (m:Nat):Prop where
 keys:es.toList.map (·.1) = hsh ks
 vals:∀ e ∈ es.toList,∃ tk,e.2 = .int e.1 tk
 mask:t.mask = m
 place:t.place = ks.toArray
 dumm:t.dummies = #[]
 plain:t.plain = true
 led:zhv w = true\/t.led = true
 sub:ks ∈ subs 6
 ms:m ∈ [7,15,31]
variable {es:Array (Int × Value)} {ks:List Nat} {m:Nat} {t:SetTable} {w:World}
theorem DTab.size (d:DTab w es t ks m):es.size = ks.length:=by
 have:=congrArg List.length d.keys
 unfold hsh at this
 simpa using this
theorem zem (h:ks ∈ subs 6):ks.length<=6:=by
 have:((subs 6).all fun ks=>ks.length<=6) = true:=by decide +kernel
 simpa using all_eq_true.mp this ks h
theorem DTab.fits (d:DTab w es t ks m):t.fits es.size = true:=by
 have:=zem d.sub
 have hm:=d.ms
 unfold SetTable.fits SetTable.fill
 rw [d.size,d.place,d.dumm,d.mask]
 simp at hm ⊢
 omega
variable {k:Nat}
theorem zj7 (h:k < 6):hashInt (k:Int) = k:=by
 have:((List.range 6).all fun k:Nat=>hashInt (k:Int) == (k:Int)) = true:=by decide +kernel
 exact eq_of_beq (all_eq_true.mp this k (mem_range.mpr h))
variable {tk:Tok}
section
variable {prog:Program} {A:Around} {E:Value->Shared->Prop} {s:Shared} {a:Addr}
noncomputable def zf9 (k:Nat) (ks:List Nat):List Nat:=if k ∈ ks then ks else ks.take (ks.filter (· < k)).length ++ k :: ks.drop (ks.filter (· < k)).length
theorem zia (hk:k < 6) (h:ks ∈ subs 6):zf9 k ks ∈ subs 6:=by
 have:((List.range 6).all fun k=>(subs 6).all fun ks=>(subs 6).contains (zf9 k ks)) = true:=by decide +kernel
 have:=all_eq_true.mp (all_eq_true.mp this k (mem_range.mpr hk)) ks h
 simpa using this
theorem zfh (hp:t.place = ks.toArray) (hd:t.dummies = #[]) (hm:k<=t.mask) (hs:k < 2 ^ 64) (hn:k ∉ ks):t.freeSlot (k:Int) = some (k,false):=by
 have hb:SetTable.bits (k:Int) = k:=by
  unfold SetTable.bits
  rw [Int.emod_eq_of_lt (by omega) (by omega)]
  rfl
 have hsl:t.slot k = .empty:=by
  unfold SetTable.slot SetTable.has
  rw [hp,hd]
  dsimp only
  rw [if_neg (by
   intro e
   have e:=eq_of_beq e
   rw [List.getElem?_toArray] at e
   exact hn (Q9 e)),if_neg (by simp)]
 have hj:(t.probeStart (k:Int)).j = k/\(t.probeStart (k:Int)).dummy = none:=by
  unfold SetTable.probeStart
  rw [hb]
  exact ⟨Nat.mod_eq_of_lt (by omega),rfl⟩
 unfold SetTable.freeSlot SetTable.probe
 rw [show 10 * SetTable.turns t.mask = (10 * t.mask + 149) + 1 by unfold SetTable.turns;omega]
 unfold SetTable.probe.go
 rw [hj.1,hsl,hj.2]
 rfl
theorem DTab.ins (d:DTab w es t ks m) (hk:k < 6) (hn:k ∉ ks):DTab w (SetTable.insertAt es (t.put k).2 ((k:Int),.int (k:Int) tk)) (t.put k).1 (zf9 k ks) m:=by
 have hp:(t.put k).2 = (ks.filter (· < k)).length:=by
  unfold SetTable.put
  rw [d.place]
  exact ze9 d.sub (by omega)
 have hi:zf9 k ks = ks.take (ks.filter (· < k)).length ++ k :: ks.drop (ks.filter (· < k)).length:=if_neg hn
 refine ⟨?_,?_,d.mask,?_,?_,d.plain,d.led,zia hk d.sub,d.ms⟩
 ·rw [hp,SetTable.toList_insertAt,hi]
  unfold hsh
  rw [map_append,map_cons,map_append,map_cons,map_take,map_take,map_drop,map_drop]
  have:=d.keys
  unfold hsh at this
  rw [this]
 ·intro e he
  rw [SetTable.toList_insertAt] at he
  rcases mem_append.mp he with he | he
  ·exact d.vals e (List.mem_of_mem_take he)
  ·rcases mem_cons.mp he with rfl | he
   ·exact ⟨tk,rfl⟩
   ·exact d.vals e (mem_of_mem_drop he)
 ·show SetTable.insertAt t.place (SetTable.below t.place k) k = _
  rw [d.place,ze9 d.sub (by omega),hi]
  apply Array.toList_inj.mp
  rw [SetTable.toList_insertAt]
 ·show (if SetTable.has t.dummies k then _ else t.dummies) = #[]
  rw [d.dumm]
  rfl
theorem DTab.lay (d:DTab w es t ks m) (hk:k < 6) (hn:k ∉ ks):layNew t es (k:Int) (.int (k:Int) tk) = (SetTable.insertAt es (t.put k).2 ((k:Int),.int (k:Int) tk),(t.put k).1,false,false):=by
 have hm:=d.ms
 have hf:=(d.ins (tk:=tk) hk hn).fits
 unfold layNew
 rw [zfh d.place d.dumm (by rw [d.mask];simp at hm;omega) (by omega) hn]
 dsimp only
 unfold SetTable.orStandIn
 rw [if_pos hf,hf]
 rfl
theorem DTab.full (d:DTab w es t ks m):∃ t' m',relayAll t es (SetTable.grown es.size) = (es,t',false)/\DTab w es t' ks m':=by
 have h6:=zem d.sub
 have hw:∀ n,n<=6->SetTable.sizeAbove (SetTable.grown n) - 1 ∈ [7,15,31]:=by decide +kernel
 have hms:=hw _ h6
 have e1:es.map (·.1) = (hsh ks).toArray:=by
  rw [← d.keys]
  apply Array.toList_inj.mp
  rw [Array.toList_map]
 have e3:Array.filterMap (fun x=>es[x]?) (List.range ks.length).toArray = es:=by
  apply Array.toList_inj.mp
  rw [← d.size]
  simpa using filterMap_getElem?_range es
 have hc:∀ n,n<=6->coversAll (List.range n).toArray n = true:=by decide +kernel
 have d':DTab w es { mask:=SetTable.sizeAbove (SetTable.grown es.size) - 1,place:=ks.toArray,dummies:=#[],finger:=t.finger,led:=t.led,moves:=t.movedTo (SetTable.sizeAbove (SetTable.grown es.size) - 1),plain:=t.plain } ks (SetTable.sizeAbove (SetTable.grown es.size) - 1):=⟨d.keys,d.vals,rfl,rfl,rfl,d.plain,d.led,d.sub,by rw [d.size];exact hms⟩
 refine ⟨_,_,?_,d'⟩
 unfold relayAll SetTable.relaid
 rw [e1,zjx d.sub (by rw [d.size];exact hms)]
 dsimp only
 rw [e3,d'.fits,d.size,hc _ h6]
 rfl
end
end L2
namespace L2
open PySem PySem.Spec PyProof.Rows
section
variable {prog:Program} {w:World} {A:Around} {E:Value->Shared->Prop} {s:Shared} {a:Addr} {ks:List Nat} {m:Nat}
structure DictN (prog:Program) (w:World) (h:Heap) (d:Addr) (ns:List Nat) (od:Obj) (es:Array DictEntry) (ep:Nat):Prop where
 at_:h.get? d = some od
 exact_:od.ExactDict
 data:od.data = .dict es ep
 size:es.size = ns.length
 keys:∀ (i:Nat) n,ns[i]? = some n->∃ e tk,es[i]? = some e/\e.key = .int (n:Int) tk/\e.hash = (n:Int)
 small:∀ n ∈ ns,n < 6
noncomputable abbrev y6 (w:World):Obj:={ cls:=.type "set",dict:=none,data:=.set #[] 0 (.fresh 0 0 (!zhv w)) }
set_option maxRecDepth 100000 in
theorem zge (x:Value) {Q₁:Value->Shared->Prop} (h:Q₁ (.ref s.heap.objs.size) { s with heap:=s.heap.push (y6 w) }) :
  codeAny (model prog w) A (.call (.builtin "set.__new__") ⟨[.type "set",x],[]⟩) (wants Q₁ E) s:=by
 refine codeAny_of_tree ?_
 show wpAny _ A.in1 (do checkBuiltinCall "set.__new__" ⟨[.type "set",x],[]⟩;again (.builtin "set.__new__" ⟨[.type "set",x],[]⟩)) _ _ s
 refine Q1 (wpAny_of_eq (PySem.F.newCall_set_1 x) (Qe ⟨plainId_quiet PySem.F.plain_set_new _,codeAny_builtin PySem.F.entry_set_new ?_⟩))
 rw [Around.under_plainId PySem.F.plain_set_new _]
 unfold Builtin.«set.__new__» Builtin.Frozenset.newClass
 have hsub:=PySem.sub_set_self
 obtain ⟨hp,g,d,tk,os⟩:=s
 dsimp only
 wp_walk
 refine wpAny_askSetting (Qe ?_)
 dsimp only
 simp only [newObj]
 refine Q1 (wpAny_alloc (Qe ?_))
 exact Qe h
end
theorem zgz (n:Nat):sliceRange (sliceBounds none none (some (-1)) n).1 (sliceBounds none none (some (-1)) n).2.1 (sliceBounds none none (some (-1)) n).2.2 = (List.range n).map fun k=>n - 1 - k:=by
 unfold sliceBounds sliceRange
 have h0:¬ ((-1:Int) > 0):=by decide
 simp only [Option.getD_some,h0,if_false]
 have hc:(if (n:Int) - 1 > -1 then ((n:Int) - 1 - -1 - -1 - 1) / (- -1) else 0).toNat = n:=by
  by_cases hn:(n:Int) - 1 > -1
  ·rw [if_pos hn]
   have:((n:Int) - 1 - -1 - -1 - 1) / (- -1) = n:=by
    have e:(- -1:Int) = 1:=by decide
    rw [e,Int.ediv_one];omega
   rw [this];simp
  ·rw [if_neg hn];omega
 rw [hc]
 apply List.map_congr_left
 intro k hk
 have hk':k < n:=mem_range.mp hk
 omega
theorem zhL {α:Type}:∀ xs:List α,((List.range xs.length).map fun k=>xs.length - 1 - k).filterMap (fun k=>xs[k]?) = xs.reverse:=fun xs=>by
 rw [List.filterMap_map]
 have:((List.range xs.length).filterMap fun k=>xs[xs.length - 1 - k]?) = (List.range xs.reverse.length).filterMap fun k=>xs.reverse[k]?:=by
  rw [List.length_reverse]
  have:∀ (ns:List Nat),(∀ k ∈ ns,k < xs.length)->(ns.filterMap fun k=>xs[xs.length - 1 - k]?) = ns.filterMap fun k=>xs.reverse[k]?:=by
   intro ns
   induction ns with
   | nil=>intro _;rfl
   | cons n ns ih=>
    intro h
    rw [filterMap_cons,filterMap_cons,ih fun k hk=>h k (.tail _ hk),List.getElem?_reverse (h n (.head _))]
  exact this _ fun k hk=>mem_range.mp hk
 show ((List.range xs.length).filterMap fun k=>xs[xs.length - 1 - k]?) = _
 rw [this]
 exact PySem.List.filterMap_getElem?_range_length _
theorem zdY (its:List Value):slicePick its.toArray none none (some (-1)) = its.reverse.toArray:=by
 unfold slicePick
 rw [Qh,zgz]
 have:=zhL its
 simp only [List.getElem?_toArray]
 rw [this]
section
variable {X:Cx}
noncomputable def tRv (r:V->Hp->VK->Prop) (te:TE) (ts:TO):TE:=fun σ H Q=>te σ H fun x H1=>ts σ H1 fun l H2=>l = some (-1)/\r x H2 Q
noncomputable def zmR (K:Frag):V->Hp->VK->Prop:=fun x H Q=>∃ a xs,x = .ref a/\SqL K H a xs/\∀ p,H p = none->Q (.ref p) (upd H p (.lst xs.reverse))
theorem zkB {e st:Expr} {te:TE} {ts:TO} {p2 pos:Pos} (he:PE X e te) (hs:PO X (some st) ts):PE X (.Subscript e (.Slice none none (some st) p2) pos) (tRv (zmR X.K) te ts):=by
 intro pins s σ H Q I h
 refine Subscript_ (thn (he pins s σ H _ I h) fun v s1 ⟨x,H1,I1,r1,q1⟩=>?_)
 refine wpAny_Slice ?_
 rw [evalPart_none]
 refine Qe (Qe (thn (hs pins s1 σ H1 _ I1 q1) fun vl s2 ⟨l,H2,I2,pl,q2⟩=>?_))
 obtain ⟨rfl,a,xs,rfl,hx,q⟩:=q2
 cases r1
 have I4:Inv X pins σ H2 { s2 with heap:=s2.heap.push { cls:=.type "slice",data:=.fields #[.none,.none,vl] } }:=I2.kept (t':=s2.toks) fun b ob q=>Q2 _ q
 obtain ⟨its,r,ht,hz⟩:=I4.list hx
 have hlen:=r.length
 refine tail_any (ops:=[.ref a,.ref s2.heap.objs.size]) ht.isList.typeIs slot_list_getitem.lookup ?_ (by with_unfolding_all rfl)
 refine wpAny_getItem_list_slice ht.isList (Heap.IsSliceOf.new ..) .none .none pl (by decide) ?_ (by rw [Qh] <;> omega)
 rw [zdY]
 refine ⟨.ref _,_,I4.laid (t':=s2.toks) (o:=.lst xs.reverse) (fun b ob q=>Q2 _ q) (Q3 _) ?_,rfl,q _ (I4.hok.fresh (Q3 _))⟩
 exact ⟨by rw [List.length_reverse];exact hz,_,0,r.reverse,Qk _ rfl⟩
end
end L2
namespace FT
open PySem PySem.Spec PyProof.Rows L2
noncomputable def rvX (x:T) (M:Mem):Out T:=match qm x M with
 | some xs=>.ok (.lst xs.reverse) M
 | none=>.bad
noncomputable def zdm (x:T) (l:Option Int) (M:Mem):Out T:=if l = some (-1) then rvX x M else .bad
noncomputable def eRv (f:Ev->Mem->Out T) (p:Ev->Mem->Out (Option Int)):Ev->Mem->Out T:=fun σ M=>(f σ M).bind fun x M1=>(p σ M1).bind fun l M2=>zdm x l M2
variable {X:Cx} {p:Ev->Mem->Out (Option Int)} {f:Ev->Mem->Out T} {e:Expr} {p2 pos:Pos} {XE:XK}
section
end
variable {K:Frag} {base:Heap} {N ps:List Str} {k:Nat} {P:Program} {st:Stmt} {x:Str} {mg:Str->Option Value} {w:World}
section
theorem Refines.bad (g:List T->Mem->Out T):Refines (fun _ _=>.bad) g:=fun _ _ _ _ _ e=>by cases e
theorem CalT.bad (D:Df K mg x st ps) (Sc:FnScope N ps (qg st)):CalT P w K mg base (k + 1) x ps (fun _ _=>.bad):=
 CalT.refine (g:=qr ps.length N.length (fun _ _=>.bad)) (zhp D Sc rfl rfl fun f cdv A outer s H E hr=>fun _ _ _ _ _ _ ⟨_,_,_,_,_,_,_,fin⟩=>fin.elim) (Refines.bad _) (fun _ _ _ _ _ z=>by cases z)
end
structure WE (X:Cx) (XE:XK) (e:Expr) (f:Ev->Mem->Out T):Prop where
 pe:GE X XE e f
structure WT (X:Cx) (XE:XK) (e:Expr) (f:Ev->Mem->Out Bool):Prop where
 pe:GT X XE e f
structure WW (X:Cx) (XE:XK) (e:Expr) (f:Ev->Mem->Out Bool):Prop where
 pe:GW X XE e f
structure WA (X:Cx) (XE:XK) (e:List Expr) (f:Ev->Mem->Out (List T)):Prop where
 pe:GA X XE e f
structure WSs (X:Cx) (XE:XK) (e:List Stmt) (f:Ev->Mem->Out Fl):Prop where
 pe:GSs X XE e f
structure WS (X:Cx) (XE:XK) (e:Stmt) (f:Ev->Mem->Out Fl):Prop where
 pe:GS X XE e f
structure WL (X:Cx) (XE:XK) (e:Expr) (f:Ev->Mem->Out (List T)):Prop where
 pe:GL X XE e f
structure WGs (X:Cx) (XE:XK) (e:List Expr) (f:List T->Ev->Mem->Out Ev):Prop where
 pe:GGs X XE e f
structure WG (X:Cx) (XE:XK) (e:Expr) (f:T->Ev->Mem->Out Ev):Prop where
 pe:GG X XE e f
structure WO (X:Cx) (XE:XK) (e:Option Expr) (f:Ev->Mem->Out (Option Int)):Prop where
 pe:GO X XE e f
structure WI (X:Cx) (XE:XK) (tg iter:Expr) (f:Ev->Mem->Out (List T)):Prop where
 pe:GI X XE tg iter f
structure WX (X:Cx) (e:List Stmt) (f:Ev->Mem->Out Fl):Prop where
 pe:GX X e f
structure WIG (X:Cx) (XE:XK) (tg iter:Expr) (f:Ev->Mem->Out (List T × Gd)):Prop where
 pe:GIG X XE tg iter f
variable {op op':CmpOp} {ga:Ev->Mem->Out (List T)} {tf:Ev->Mem->Out Bool} {g h:Ev->Mem->Out T} {c:Expr} {es:List Expr} {i:Nat} {o o':T->T->Mem->Out T}
section
variable {a b:Expr}
theorem qa (h:PE X e (zfT i)):WE X XE e (yb i):=⟨PE.imp h fun σ H Q h9=>by
 obtain ⟨S,στ,_,e,m,ev,_,fin⟩:=h9
 replace fin:Fin XE (Rep X.K) X.K S (yb i στ S.M) Q:=fin
 unfold yb at fin
 cases q:στ[i]? with
 | none=>rw [q] at fin;exact fin.elim
 | some o=>
  cases o with
  | none=>rw [q] at fin;exact fin.elim
  | some t=>
   rw [q] at fin
   obtain ⟨v,e2,r⟩:=ev.2 i t q
   exact ⟨v,e2,by rw [← e];exact fin S v rfl (.refl m) r⟩⟩
theorem zc {i j}:WE X XE (.Constant (.int i) j pos) (eC (.int i)):=⟨zan zkG fun _=>.int _⟩
theorem zv {i j}:WE X XE (.Constant (.bool i) j pos) (eC (.bl i)):=⟨zan zl7 fun _=>.bl _⟩
theorem yw {j}:WE X XE (.Constant .none j pos) (eC .non):=⟨zan zkE fun _=>.non⟩
theorem ze {i j}:WE X XE (.Constant (.str i) j pos) (eC (.str i)):=⟨zan zkA fun _=>.str _⟩
theorem zN {n:String} (hg:Gl X x) (hm:X.mg x = none) (hv:bootBuiltins x = some (.type n)) (hn:x ≠ "__name__":=by decide) (hd:(x == ("__debug__":Str)) = false:=by decide):WE X XE (.Name x pos) (eC (.ty n)):=⟨zan (zje (v:=.ty n) hg hm hv rfl hn hd) fun _=>.ty _⟩
theorem zR {i:Int} (hg:Gl X x) (hm:∃ t,X.mg x = some (.int i t)) (hd:(x == ("__debug__":Str)) = false:=by decide):WE X XE (.Name x pos) (eC (.int i)):=by
 refine ⟨?_⟩
 obtain ⟨t,hm⟩:=hm
 exact zan (zja (v:=.int i) hg hm ⟨_,rfl⟩ hd) fun _=>.int _
theorem yf {op:Operator} (ho:OpR X (binaryOp op) (lR2 XE X.K o)) (ha:WE X XE a f) (hb:WE X XE b g):WE X XE (.BinOp a op b pos) (eOp o f g):=by
 have ha:=ha.pe
 have hb:=hb.pe
 exact ⟨PE.imp (ziD ho ha hb) fun _ _ _ h=>zed h⟩
theorem y4 (ho:OpR X (compareOp op) (lR2 XE X.K o)) (ha:WE X XE a f) (hb:WE X XE b g) (hm:behindInMarks op b = false):WE X XE (.Compare a [op] [b] pos) (eOp o f g):=by
 have ha:=ha.pe
 have hb:=hb.pe
 exact ⟨PE.imp (zjc ho ha hb hm) fun _ _ _ h=>zed h⟩
theorem zei {op:UnaryOp} {o:T->Mem->Out T} (ho:L2.UnR X (unaryOp op) (lR1 XE X.K o)) (ha:WE X XE a f):WE X XE (.UnaryOp op a pos) (eUn o f):=by
 have ha:=ha.pe
 exact ⟨PE.imp (zl5 ho ha) fun σ H Q h=>
  LN.mono (LN.bind (f:=fun _ σ M=>f σ M) (k:=fun _ x σ M1=>o x M1) (RB:=Rep X.K) h) fun v H1 h2=>by
   obtain ⟨S,στ,a,e,m,ev,ra,fin⟩:=h2
   exact ⟨S,a.2,e,m,ra.2,fin⟩⟩
theorem yh (ho:IxR X (lR2 XE X.K o)) (ha:WE X XE a f) (hb:WE X XE b g) (hs:zdH b):WE X XE (.Subscript a b pos) (eOp o f g):=by
 have ha:=ha.pe
 have hb:=hb.pe
 exact ⟨PE.imp (zl6 ho ha hb hs) fun _ _ _ h=>zed h⟩
theorem qB (ha:WE X XE e f) (he:∀ whole,isTrue e X.env whole = (do let v ← whole;standAt e.pos;holding [v] (truthy v)):=by intro _;rfl):WT X XE e (zu f):=by
 have ha:=ha.pe
 exact ⟨PT.imp (zkq ha he) fun σ H Q h=>
  LN.mono (LN.bind (f:=fun _ σ M=>f σ M) (k:=fun _ x σ M1=>blT x M1 fun b M2=>.ok b M2) (RB:=Rep X.K) h) fun v H1 h2=>by
   obtain ⟨S,στ,a,e,m,ev,ra,fin⟩:=h2
   obtain ⟨b,e1,_,fin⟩:=zdf ra.2 fin
   exact ⟨b,e1,by rw [← e];exact fin S b rfl (.refl m) rfl⟩⟩
theorem yI (ho:OpR X (compareOp op) (lR2 XE X.K o)) (ha:WE X XE a f) (hb:WE X XE b g) (hm:behindInMarks op b = false):WT X XE (.Compare a [op] [b] pos) (zu (eOp o f g)):=by
 have ha:=ha.pe
 have hb:=hb.pe
 exact ⟨PT.imp (zi3 ho ha hb hm) fun σ H Q h=>by
  have h1:=LN.bind (f:=fun _ σ M=>eOp o f g σ M) (k:=fun _ x σ M1=>blT x M1 fun b M2=>.ok b M2) (RB:=Rep X.K) h
  refine zed (LN.mono h1 fun v H1 h2=>?_)
  obtain ⟨S,στ,a,e,m,ev,ra,fin⟩:=h2
  obtain ⟨b,e1,_,fin⟩:=zdf ra.2 fin
  exact ⟨b,e1,by rw [← e];exact fin S b rfl (.refl m) rfl⟩⟩
variable {tg:Ev->Mem->Out Bool} {rest:List Expr}
theorem zeg (ha:WT X XE a tf):WW X XE (.BoolOp .And [a] pos) tf:=by
 have ha:=ha.pe
 exact ⟨zi0 ha⟩
theorem zaJ (ha:WT X XE a tf):WW X XE (.BoolOp .Or [a] pos) tf:=by
 have ha:=ha.pe
 exact ⟨zko ha⟩
theorem zfl (ha:WT X XE a tf) (hb:WW X XE (.BoolOp .And (b :: rest) pos) tg):WW X XE (.BoolOp .And (a :: b :: rest) pos) (zd4 tf tg):=by
 have ha:=ha.pe
 have hb:=hb.pe
 exact ⟨PW.imp (zkp ha hb) fun σ H Q h=>
  LN.mono (tif (tf:=tf) (tg:=tg) (p:=fun c σ M1=>if c = true then tg σ M1 else .ok false M1) h) fun c H1 h1=>by
   cases c with
   | true=>exact (if_pos rfl).mpr h1
   | false=>exact (if_neg Q4).mpr (zd7 h1)⟩
theorem zaR (ha:WT X XE a tf) (hb:WW X XE (.BoolOp .Or (b :: rest) pos) tg):WW X XE (.BoolOp .Or (a :: b :: rest) pos) (zbD tf tg):=by
 have ha:=ha.pe
 have hb:=hb.pe
 exact ⟨PW.imp (zl2 ha hb) fun σ H Q h=>
  LN.mono (tif (tf:=tf) (tg:=tg) (p:=fun c σ M1=>if c = true then .ok true M1 else tg σ M1) h) fun c H1 h1=>by
   cases c with
   | true=>exact (if_pos rfl).mpr (zd7 h1)
   | false=>exact (if_neg Q4).mpr h1⟩
theorem WW.gt (h:WW X XE e tf):WT X XE e tf:=⟨GW.gt h.pe⟩
theorem zC (ha:WT X XE a tf):WT X XE (.UnaryOp .Not a pos) (qH tf):=by
 have ha:=ha.pe
 exact ⟨PT.imp (zkr ha) fun σ H Q h=>
  LN.mono (tif (tf:=tf) (tg:=tf) (p:=fun c σ M1=>.ok (!c) M1) h) fun c H1 h1=>zd7 h1⟩
theorem zaM {op} (h:WE X XE a f):WE X XE (.BoolOp op [a] pos) f:=by
 have h:=h.pe
 exact ⟨zkC h⟩
theorem zah (ha:WE X XE a f) (hb:WE X XE (.BoolOp .And (b :: rest) pos) g):WE X XE (.BoolOp .And (a :: b :: rest) pos) (yZ f g):=by
 have ha:=ha.pe
 have hb:=hb.pe
 exact ⟨PE.imp (zkI ha hb) fun σ H Q h=>
  LN.mono (eif (f:=f) (p:=fun b σ M2=>if b = true then g σ M2 else .ok (.bl false) M2) h) fun x H1 ⟨c,e,h1⟩=>⟨c,e,by
   cases c with
   | true=>exact (if_pos rfl).mpr h1
   | false=>exact (if_neg Q4).mpr (ziH h1 fun _=>.bl _)⟩⟩
theorem ziS (ha:WE X XE a f):WE X XE (.UnaryOp .Not a pos) (ziv f):=by
 have ha:=ha.pe
 exact ⟨PE.imp (zkD ha) fun σ H Q h=>
  LN.mono (eif (f:=f) (p:=fun b σ M2=>.ok (.bl (!b)) M2) h) fun x H1 ⟨c,e,h1⟩=>⟨c,e,ziH h1 fun _=>.bl _⟩⟩
theorem zb :WA X XE [] qb:=⟨PA.imp zgF fun σ H Q h9=>by
 obtain ⟨S,στ,_,e,m,ev,_,fin⟩:=h9
 show Q [] H
 rw [← e];exact fin S [] rfl (.refl m) .nil⟩
theorem za (ha:WE X XE e f) (hr:WA X XE es ga) (hs:noStar e = true:=by rfl):WA X XE (e :: es) (ya f ga):=by
 have ha:=ha.pe
 have hr:=hr.pe
 exact ⟨PA.imp (zfv ha hr (yM hs)) fun σ H Q h=>
  LN.mono (LN.bind (f:=fun _ σ M=>f σ M) (k:=fun _ x σ M1=>(ga σ M1).bind fun xs M2=>.ok (x :: xs) M2) (RB:=Rep X.K) h) fun v H1 h1=>
   LN.mono (LN.env (f:=ga) (LN.bind (f:=fun _ σ M=>ga σ M) (k:=fun (ax:Unit × T) ys σ M2=>.ok (ax.2 :: ys) M2) (RB:=Reps X.K) h1)) fun w H2 h2=>by
    obtain ⟨S,στ,a,e,m,ev,ra,fin⟩:=h2
    show Q (v :: w) H2
    rw [← e]
    exact fin S _ rfl (.refl m) (Reps.cons ra.1.2 ra.2)⟩
theorem yc {x1} (h:WA X XE es ga):WE X XE (.Tuple es x1 pos) (qd ga):=by
 have h:=h.pe
 exact ⟨PE.imp (zkz h) fun σ H Q h=>
  LN.mono (LN.bind (f:=fun _ σ M=>ga σ M) (k:=fun _ xs σ M1=>if xs.length<=sizeLine then .ok (T.tup xs) M1 else .bad) (RB:=Reps X.K) h) fun v H1 h2=>by
   obtain ⟨S,στ,a,e,m,ev,ra,fin⟩:=h2
   by_cases hl:a.2.length<=sizeLine
   ·replace fin:Fin XE (Rep X.K) X.K S (if a.2.length<=sizeLine then .ok (.tup a.2) S.M else .bad) Q:=fin
    rw [if_pos hl] at fin
    refine ⟨by rw [← ra.2.1];exact hl,fun p hp=>?_⟩
    subst e
    have s:=Stp.new m hp (.tup v)
    exact fin ⟨S.α,S.M,upd S.H p (.tup v),S.hid⟩ (.ref p) rfl s (.tup (.inl (.inl zy)) ra.2.1 (ra.2.grow m s.toGrow).2)
   ·replace fin:Fin XE (Rep X.K) X.K S (if a.2.length<=sizeLine then .ok (.tup a.2) S.M else .bad) Q:=fin
    rw [if_neg hl] at fin
    exact fin.elim⟩
theorem zh (h:WA X XE es ga):WL X XE (.List es pos) (zl ga):=by
 have h:=h.pe
 exact ⟨PE.imp (zkF h) fun σ H Q h9=>by
  obtain ⟨S,στ,e,m,ev,fin⟩:=h9
  replace fin:FinL XE X.K S ((ga στ S.M).bind fun xs M1=>if xs.length<=sizeLine then .ok xs M1 else .bad) Q:=fin
  refine ⟨S,στ,(),e,m,ev,trivial,?_⟩
  show Fin XE (Reps X.K) X.K S (ga στ S.M) _
  cases q:ga στ S.M with
  | bad=>rw [q] at fin;exact fin
  | exn C fs M'=>rw [q] at fin;exact fin
  | ok xs M1=>
   rw [q] at fin
   intro S1 vs e1 s1 r1
   by_cases hl:xs.length<=sizeLine
   ·replace fin:FinL XE X.K S (if xs.length<=sizeLine then .ok xs M1 else .bad) Q:=fin
    rw [if_pos hl] at fin
    refine ⟨by rw [← r1.1];exact hl,fun p hp=>?_⟩
    have s2:=Stp.hide s1.mok hp vs
    exact (fin.later s1) (S1.hide p vs) p vs e1 s2 hp (.head _) zy (r1.grow s1.mok s2.toGrow)
   ·replace fin:FinL XE X.K S (if xs.length<=sizeLine then .ok xs M1 else .bad) Q:=fin
    rw [if_neg hl] at fin
    exact fin.elim⟩
theorem zf (h:WL X XE e ga):WE X XE e (eFz ga):=by
 have h:=h.pe
 exact ⟨PE.imp h fun σ H Q ⟨S,στ,_,e,m,ev,_,fin⟩=>⟨S,στ,e,m,ev,by
  show FinL XE X.K S (ga στ S.M) Q
  replace fin:Fin XE (Rep X.K) X.K S ((ga στ S.M).bind fun xs M1=>.ok (.lst xs) M1) Q:=fin
  cases q:ga στ S.M with
  | bad=>rw [q] at fin;exact fin
  | exn C fs M'=>rw [q] at fin;exact fin
  | ok xs M1=>
   rw [q] at fin
   intro S1 p vs e1 s1 hn hp hv r
   exact fin (S1.show S.hid) (.ref p) e1 s1.show (zfE s1 hn m hp hv r)⟩⟩
theorem qQ (h:WL X XE e ga):WE X XE e (eTk ga):=by
 have h:=h.pe
 exact ⟨PE.imp h fun σ H Q ⟨S,στ,_,e,m,ev,_,fin⟩=>⟨S,στ,e,m,ev,by
  show FinL XE X.K S (ga στ S.M) Q
  replace fin:Fin XE (Rep X.K) X.K S ((ga στ S.M).bind fun xs M1=>.ok (.ref M1.length) (M1 ++ [.lst xs])) Q:=fin
  cases q:ga στ S.M with
  | bad=>rw [q] at fin;exact fin
  | exn C fs M'=>rw [q] at fin;exact fin
  | ok xs M1=>
   rw [q] at fin
   intro S1 p vs e1 s1 hn hp hv r
   refine fin (S1.track p xs S.hid) (.ref p) (by show S1.M ++ _ = _;rw [e1]) (s1.track m hn hp hv r) ?_
   have this:(S1.track p xs S.hid).α S1.M.length = p:=if_pos rfl
   rw [← e1]
   have hl:S1.M.length < (S1.track p xs S.hid).M.length:=by show _ < (S1.M ++ [Cell.lst xs]).length;simp
   have r2:Rep X.K (S1.track p xs S.hid) (.ref S1.M.length) (.ref ((S1.track p xs S.hid).α S1.M.length)):=.ref hl
   rw [this] at r2
   exact r2⟩⟩
theorem zdL (ho:OpR X (compareOp op) (lR2 XE X.K o)) (ho':OpR X (compareOp op') (lR2 XE X.K o')) (ha:WE X XE a f) (hb:WE X XE b g) (hc:WE X XE c h) (hm:lastMarks [op,op'] [b,c] = false:=by with_unfolding_all rfl):WE X XE (.Compare a [op,op'] [b,c] pos) (zT o o' f g h):=by
 have ha:=ha.pe
 have hb:=hb.pe
 have hc:=hc.pe
 exact ⟨PE.imp (zhT ho ho' ha hb hc hm) fun _ _ _ hh=>chain hh⟩
theorem zdK (ho:OpR X (compareOp op) (lR2 XE X.K o)) (ho':OpR X (compareOp op') (lR2 XE X.K o')) (ha:WE X XE a f) (hb:WE X XE b g) (hc:WE X XE c h) (hm:lastMarks [op,op'] [b,c] = false:=by with_unfolding_all rfl):WT X XE (.Compare a [op,op'] [b,c] pos) (zu (zT o o' f g h)):=by
 have ha:=ha.pe
 have hb:=hb.pe
 have hc:=hc.pe
 exact ⟨PT.imp (zhP ho ho' ha hb hc hm) fun σ H Q hh=>by
  have h1:=LN.bind (f:=fun _ σ M=>zT o o' f g h σ M) (k:=fun _ x σ M1=>blT x M1 fun b M2=>.ok b M2) (RB:=Rep X.K) hh
  refine chain (LN.mono h1 fun v H1 h2=>?_)
  obtain ⟨S,στ,a,e,m,ev,ra,fin⟩:=h2
  obtain ⟨b,e1,_,fin⟩:=zdf ra.2 fin
  exact ⟨b,e1,by rw [← e];exact fin S b rfl (.refl m) rfl⟩⟩
end
variable {iter tg:Expr} {sts:List Stmt} {n:Nat} {bd:T->Ev->Mem->Out Ev}
section
variable {a b:Expr} {rest:List Stmt} {p q r:Ev->Mem->Out Fl}
theorem qu :WSs X XE [] qK:=⟨PSs.imp zi5 fun D σ H h9=>by
 obtain ⟨S,στ,_,e,m,ev,_,fin⟩:=h9
 show D.nx σ H
 rw [← e];exact fin S (.nx σ) rfl (.refl m) (.nx ev)⟩
theorem qc (h1:WS X XE st p) (h2:WSs X XE rest q):WSs X XE (st :: rest) (zg p q):=by
 have h1:=h1.pe
 have h2:=h2.pe
 exact ⟨PSs.imp (zhQ h1 h2) fun _ _ _ hh=>zk3 hh⟩
theorem qf (h1:WS X XE st p):WSs X XE [st] p:=by
 have h1:=h1.pe
 exact ⟨zi4 h1⟩
theorem qk (he:WE X XE e f):WS X XE (.Return (some e) pos) (yv f):=by
 have he:=he.pe
 exact ⟨PS.imp (zkt he) fun D σ H hh=>
  LN.mono (LN.bind (f:=fun _ σ M=>f σ M) (k:=fun _ t σ M1=>.ok (Fl.rt t) M1) (RB:=Rep X.K) hh) fun v H1 h9=>by
   obtain ⟨S,στ,a,e,m,ev,ra,fin⟩:=h9
   rw [← e];exact fin S (.rt v) rfl (.refl m) (.rt ra.2)⟩
theorem yP (he:WE X XE e f) (hs:swapsWith e none pos.line X.env = pure false:=by rfl):WS X XE (.Expr e pos) (zaD f):=by
 have he:=he.pe
 exact ⟨PS.imp (zi6 he hs) fun D σ H hh=>
  LN.mono (LN.bind (f:=fun _ σ M=>f σ M) (k:=fun _ t σ M1=>.ok (Fl.nx σ) M1) (RB:=Rep X.K) hh) fun v H1 h9=>by
   obtain ⟨S,στ,a,e,m,ev,ra,fin⟩:=h9
   show D.nx σ H1
   rw [← e];exact fin S (.nx σ) rfl (.refl m) (.nx ev)⟩
theorem qA (hc:WT X XE c tf) (ha:WSs X XE sts p) (hb:WSs X XE rest q):WS X XE (.If c sts rest pos) (sIf tf p q):=by
 have hc:=hc.pe
 have ha:=ha.pe
 have hb:=hb.pe
 exact ⟨PS.imp (zl3 hc ha hb) fun D σ H hh=>
  LN.mono (LN.bind (f:=fun _ σ M=>tf σ M) (k:=fun _ c σ M1=>if c = true then p σ M1 else q σ M1) (RB:=EqR) hh) fun c H1 h2=>by
   obtain ⟨S,στ,a,e,m,ev,ra,fin⟩:=h2
   have:a.2 = c:=ra.2
   subst this
   replace fin:Fin XE (FlR X.K) X.K S (if a.2 = true then p στ S.M else q στ S.M) (yQ D):=fin
   cases q:a.2 with
   | true=>exact (if_pos rfl).mpr ⟨S,στ,(),e,m,ev,trivial,by rw [q] at fin;exact fin⟩
   | false=>exact (if_neg Q4).mpr ⟨S,στ,(),e,m,ev,trivial,by rw [q] at fin;exact fin⟩⟩
theorem zi {pos':Pos} (hN:X.N.Nodup) (hi:X.N[i]? = some x) (hx:Loc X.env.scope x) (he:WE X XE e f) (hs:swapsWith e (some (.Name x pos')) pos.line X.env = pure false:=by rfl) (hf:X.fn x = true\/X.env.scope.names.lookup x = some .local:=by first | exact .inl rfl | exact .inr rfl | assumption):WS X XE (.Assign [.Name x pos'] e pos) (yk i f):=by
 have he:=he.pe
 exact ⟨PS.imp (zks hN hi hx he hs hf) fun D σ H hh=>
  LN.mono (LN.bind (f:=fun _ σ M=>f σ M) (k:=fun _ t σ M1=>.ok (Fl.nx (σ.set i (some t))) M1) (RB:=Rep X.K) hh) fun v H1 h9=>by
   obtain ⟨S,στ,a,e,m,ev,ra,fin⟩:=h9
   show D.nx (σ.set i (some v)) H1
   rw [← e];exact fin S (.nx _) rfl (.refl m) (.nx (ev.set ra.2 i))⟩
theorem qe (h:PG X tg (zea i)):WG X XE tg (ye i):=⟨PG.imp h fun v σ H Q h9=>by
 obtain ⟨S,στ,t,e,m,ev,ra,fin⟩:=h9
 show Q (σ.set i (some v)) H
 rw [← e];exact fin S _ rfl (.refl m) (ev.set ra i)⟩
theorem zag :WGs X XE [] za9:=⟨PGs.imp zi9 fun v σ H Q h9=>by
 obtain ⟨S,στ,t,e,m,ev,ra,fin⟩:=h9
 cases t with
 | nil=>exact ⟨ra.nilT,by rw [← e];exact fin S _ rfl (.refl m) ev⟩
 | cons t r=>exact fin.elim⟩
theorem qw {bs:List T->Ev->Mem->Out Ev} (h:PGs X (e :: es) (zgb (lG XE X.K bd) (lGs XE X.K bs))):WGs X XE (e :: es) (yA bd bs):=⟨PGs.imp h fun v σ H Q h9=>by
 obtain ⟨S,στ,t,e,m,ev,ra,fin⟩:=h9
 cases t with
 | nil=>exact fin.elim
 | cons t r=>
  obtain ⟨v1,vs,rfl,r1,r2⟩:=ra.consT
  refine ⟨v1,vs,rfl,?_⟩
  replace fin:Fin XE (EvR X.K) X.K S ((bd t στ S.M).bind fun σ1 M1=>bs r σ1 M1) Q:=fin
  refine ⟨S,στ,t,e,m,ev,r1,?_⟩
  show Fin XE (EvR X.K) X.K S (bd t στ S.M) _
  cases o:bd t στ S.M with
  | bad=>rw [o] at fin;exact fin
  | exn C fs M'=>rw [o] at fin;exact fin
  | ok σ1 M1=>
   rw [o] at fin
   intro S1 cc e1 s1 ev1
   exact ⟨S1,σ1,r,rfl,s1.mok,ev1,r2.grow m s1.toGrow,by rw [e1];exact Fin.later s1 fin⟩⟩
theorem zaL {bs:List T->Ev->Mem->Out Ev} (h:PG X tg (zim X.K n (lGs XE X.K bs))):WG X XE tg (za8 n bs):=⟨PG.imp h fun v σ H Q h9=>by
 obtain ⟨S,στ,t,e,m,ev,ra,fin⟩:=h9
 cases ra with
 | @tup ts p vs h l r=>
  replace fin:Fin XE (EvR X.K) X.K S (if ts.length = n then bs ts στ S.M else .bad) Q:=fin
  by_cases hn:ts.length = n
  ·rw [if_pos hn] at fin
   exact ⟨p,vs,rfl,by rw [← e];exact h,by rw [← l];exact hn,S,στ,ts,e,m,ev,⟨l,r⟩,fin⟩
  ·rw [if_neg hn] at fin;exact fin.elim
 | _=>exact fin.elim⟩
theorem zaK (he:WE X XE e f) (hg:WG X XE tg bd) (hs:swapsWithSole [tg] e pos.line X.env = pure false:=by rfl) (hw:swappedStores [tg] e X.env = pure none:=by rfl) (h1:(assignEach [tg] X.env).map (·.2) = [assign tg X.env]:=by rfl):WS X XE (.Assign [tg] e pos) (zb0 f bd):=by
 have he:=he.pe
 have hg:=hg.pe
 exact ⟨PS.imp (zku he hg hs hw h1) fun D σ H hh=>
  LN.mono (LN.bind (f:=fun _ σ M=>f σ M) (k:=fun _ t σ M1=>(bd t σ M1).bind fun σ1 M2=>.ok (Fl.nx σ1) M2) (RB:=Rep X.K) hh) fun v H1 ⟨S,στ,a,e,m,ev,ra,fin⟩=>
   zmc ⟨S,στ,a.2,e,m,ev,ra.2,fin⟩⟩
theorem zP (hp:PassesOwn (model X.prog X.w) X.A X.env X.xe) (hc:X.calm = true) (hi:WI X XE tg iter ga) (hg:WG X XE tg bd) (hb:WSs X XE sts p) (hs:∀ x,foldedSetIterable iter X.env x = pure x:=by intro _;rfl):WS X XE (.For tg iter sts [] pos) (zai ga bd p):=by
 have hi:=hi.pe
 have hg:=hg.pe
 have hb:=hb.pe
 exact ⟨PS.imp (zgA hp hc hi hg hb hs) fun D σ H hh=>by
  refine LN.mono (LN.bind (f:=fun _ σ M=>ga σ M) (k:=fun _ xs σ M1=>forL bd p xs σ M1) (RB:=zaF X.K) hh) fun J H1 h1=>?_
  obtain ⟨S,στ,a,e,m,ev,ra,fin⟩:=h1
  refine ⟨fun i n σ H=>∃ S στ,S.H = H/\MemOk X.K S/\EvR X.K S στ σ/\zaF X.K S a.2 J/\n = a.2.length - i/\i<=a.2.length/\Fin XE (FlR X.K) X.K S (forL bd p (a.2.drop i) στ S.M) (yQ D),⟨_,S,στ,e,m,ev,ra.2,rfl,Nat.zero_le _,fin⟩,?_⟩
  rintro i n σ1 H2 ⟨S1,στ1,e1,m1,ev1,it1,en,hi1,fin1⟩
  subst e1
  obtain ⟨it2,it3⟩:=it1 S1 (.refl m1)
  by_cases hl:i < a.2.length
  ·have eq:a.2.drop i = a.2[i] :: a.2.drop (i + 1):=List.drop_eq_getElem_cons hl
   rw [eq] at fin1
   obtain ⟨go,yl⟩:=it2 i a.2[i] (by simp [hl])
   refine .inr ⟨go,fun σ' H'=>∃ S στ,S.H = H'/\MemOk X.K S/\EvR X.K S στ σ'/\zaF X.K S a.2 J/\Fin XE (FlR X.K) X.K S (forL bd p (a.2.drop (i + 1)) στ S.M) (yQ D),?_,fun x H' hy=>?_⟩
   ·rintro σ' H' ⟨S2,στ2,e2,m2,ev2,it4,fin2⟩
    exact ⟨a.2.length - (i + 1),by omega,S2,στ2,e2,m2,ev2,it4,rfl,hl,fin2⟩
   ·obtain ⟨S2,e2,eM,s2,r2⟩:=yl x H' hy
    replace fin1:Fin XE (FlR X.K) X.K S1 ((bd a.2[i] στ1 S1.M).bind fun σ1 M1=>(p σ1 M1).bind (zI (forL bd p (a.2.drop (i + 1))))) (yQ D):=fin1
    refine ⟨S2,στ1,a.2[i],e2,s2.mok,Mo.mo m1 s2 ev1,r2,?_⟩
    rw [eM]
    cases o:bd a.2[i] στ1 S1.M with
    | bad=>rw [o] at fin1;exact fin1
    | exn C fs M'=>rw [o] at fin1;exact Fin.later s2 fin1
    | ok σ3 M3=>
     rw [o] at fin1
     intro S3 σ3v e3 s3 ev3
     have s13:=s2.trans s3
     refine ⟨S3,σ3,(),rfl,s3.mok,ev3,trivial,?_⟩
     show Fin XE (FlR X.K) X.K S3 (p σ3 S3.M) _
     rw [e3]
     replace fin1:Fin XE (FlR X.K) X.K S1 ((p σ3 M3).bind (zI (forL bd p (a.2.drop (i + 1))))) (yQ D):=fin1
     cases o2:p σ3 M3 with
     | bad=>rw [o2] at fin1;exact fin1
     | exn C fs M'=>rw [o2] at fin1;exact Fin.later s13 fin1
     | ok fl M4=>
      rw [o2] at fin1
      intro S4 fv e4 s4 r4
      have s14:=s13.trans s4
      cases r4 with
      | nx r4=>exact ⟨S4,_,rfl,s4.mok,r4,Mo.mo m1 s14 it1,by rw [e4];exact Fin.later s14 fin1⟩
      | ct r4=>exact ⟨S4,_,rfl,s4.mok,r4,Mo.mo m1 s14 it1,by rw [e4];exact Fin.later s14 fin1⟩
      | bk r4=>exact fin1 S4 (.nx _) e4 s14 (.nx r4)
      | rt r4=>exact fin1 S4 (.rt _) e4 s14 (.rt r4)
  ·rw [List.drop_eq_nil_of_le (by omega)] at fin1
   refine .inl ⟨it3 i (by omega),?_⟩
   exact fin1 S1 (.nx σ1) rfl (.refl m1) (.nx ev1)⟩
end
section
variable {p:Pos} {F:List T->Mem->Out T}
theorem yi (C:CalT X.prog X.w X.K X.mg X.base k x ps F) (hr:Room k X.A) (hg:Gl X x) (ha:WA X XE (e :: es) ga) (hdb:(x == ("__debug__":Str)) = false:=by decide) (he:noStar e = true:=by rfl) (hpl:es.all noStar = true:=by rfl):WE X XE (.Call (.Name x p) (e :: es) [] pos) (zd F ga):=by
 have ha:=ha.pe
 exact ⟨PE.imp (zkH C.cal hr hg ha hdb (yM he) (zbF hpl)) fun σ H Q hh=>
  LN.mono (LN.bind (f:=fun _ σ M=>ga σ M) (k:=fun _ ts σ M1=>F ts M1) (RB:=Reps X.K) hh) fun vs H1 h9=>by
   obtain ⟨S,στ,a,e,m,ev,ra,fin⟩:=h9
   rw [append_nil]
   refine ⟨S,a.2,e,m,ra.2,?_⟩
   show Fin E0 (Rep X.K) X.K S (F a.2 S.M) Q
   replace fin:Fin XE (Rep X.K) X.K S (F a.2 S.M) Q:=fin
   cases o:F a.2 S.M with
   | bad=>rw [o] at fin;exact fin
   | exn C' fs M'=>exact absurd o (C.nox _ _ _ _ _)
   | ok t M1=>rw [o] at fin;exact fin⟩
theorem qh {id:String} (hc:CallR X (.builtin id) (lRN XE X.K F)) (hg:Gl X x) (hm:X.mg x = none) (hv:bootBuiltins x = some (.builtin id)) (ha:WA X XE (e :: es) ga) (hn:x ≠ "__name__":=by decide) (hdb:(x == ("__debug__":Str)) = false:=by decide) (he:noStar e = true:=by rfl) (hpl:es.all noStar = true:=by rfl):WE X XE (.Call (.Name x p) (e :: es) [] pos) (zd F ga):=by
 have ha:=ha.pe
 exact ⟨PE.imp (zeA hc hg hm hv ha hn hdb (yM he) (zbF hpl)) fun σ H Q hh=>
  LN.mono (LN.bind (f:=fun _ σ M=>ga σ M) (k:=fun _ ts σ M1=>F ts M1) (RB:=Reps X.K) hh) fun vs H1 ⟨S,στ,a,e,m,ev,ra,fin⟩=>⟨S,a.2,e,m,ra.2,fin⟩⟩
theorem z9 {id:String} (hc:CallR X (.type id) (lRN XE X.K F)) (hg:Gl X x) (hm:X.mg x = none) (hv:bootBuiltins x = some (.type id)) (ha:WA X XE (e :: es) ga) (hn:x ≠ "__name__":=by decide) (hdb:(x == ("__debug__":Str)) = false:=by decide) (he:noStar e = true:=by rfl) (hpl:es.all noStar = true:=by rfl):WE X XE (.Call (.Name x p) (e :: es) [] pos) (zd F ga):=by
 have ha:=ha.pe
 exact ⟨PE.imp (zb3 hc hg hm hv ha hn hdb (yM he) (zbF hpl)) fun σ H Q hh=>
  LN.mono (LN.bind (f:=fun _ σ M=>ga σ M) (k:=fun _ ts σ M1=>F ts M1) (RB:=Reps X.K) hh) fun vs H1 ⟨S,στ,a,e,m,ev,ra,fin⟩=>⟨S,a.2,e,m,ra.2,fin⟩⟩
end
section
variable {a b:Expr} {p:Pos}
theorem yr (he:WE X XE e f):WI X XE tg e (yx f):=⟨zlp he.pe⟩
theorem zG (hg:Gl X "range") (hm:X.mg "range" = none) (ha:WA X XE [a] ga) (hs:starEach [a] X.env = [(false,eval a X.env)]:=by rfl):WI X XE tg (.Call (.Name "range" p) [a] [] pos) (qI ga):=by
 have ha:=ha.pe
 exact ⟨PI.imp (zgD hg hm ha hs) fun σ H R hh=>
  LN.mono (LN.bind (f:=fun _ σ M=>ga σ M) (k:=fun _ ts σ M1=>zcI ts M1) (RB:=Reps X.K) hh) fun vs H1 h9=>by
   obtain ⟨S,στ,a,e,m,ev,ra,fin⟩:=h9
   obtain ⟨u,ts⟩:=a
   have rr:Reps X.K S ts vs:=ra.2
   replace fin:Fin XE (zaF X.K) X.K S (zcI ts S.M) R:=fin
   unfold zcI at fin
   split at fin
   ·rename_i j
    obtain ⟨v,vs',rfl,r1,r2⟩:=rr.consT
    cases r1
    rw [r2.nilT]
    split at fin
    ·rename_i hj
     exact ⟨j,rfl,hj.1,hj.2,by rw [← e];exact fin S _ rfl (.refl m) (zeO _ _ _ _)⟩
    ·exact fin.elim
   ·exact fin.elim⟩
theorem zfL (hg:Gl X "range") (hm:X.mg "range" = none) (ha:WA X XE [a,b] ga) (hs:starEach [a,b] X.env = [(false,eval a X.env),(false,eval b X.env)]:=by rfl) (hs2:starEach [b] X.env = [(false,eval b X.env)]:=by rfl):WI X XE tg (.Call (.Name "range" p) [a,b] [] pos) (zdz ga):=by
 have ha:=ha.pe
 exact ⟨PI.imp (zgC hg hm ha hs hs2) fun σ H R hh=>
  LN.mono (LN.bind (f:=fun _ σ M=>ga σ M) (k:=fun _ ts σ M1=>zdn ts M1) (RB:=Reps X.K) hh) fun vs H1 h9=>by
   obtain ⟨S,στ,a,e,m,ev,ra,fin⟩:=h9
   obtain ⟨u,ts⟩:=a
   have rr:Reps X.K S ts vs:=ra.2
   replace fin:Fin XE (zaF X.K) X.K S (zdn ts S.M) R:=fin
   unfold zdn at fin
   split at fin
   ·rename_i i j
    obtain ⟨v,vs',rfl,r1,r2⟩:=rr.consT
    obtain ⟨v2,vs2,rfl,r3,r4⟩:=r2.consT
    cases r1
    cases r3
    rw [r4.nilT]
    split at fin
    ·rename_i hj
     exact ⟨i,j,rfl,⟨hj.1.1,hj.1.2,hj.2.1,hj.2.2⟩,by rw [← e];exact fin S _ rfl (.refl m) (zeO _ _ _ _)⟩
    ·exact fin.elim
   ·exact fin.elim⟩
end
variable {cond:Ev->Mem->Out Bool} {elt:Expr} {cl:List (Str × Addr)} {caps:List (Str × Nat)} {ifs:List Expr} {tgs:List Str} {scope:Scope}
section
theorem zp (hi:WI X XE tg iter ga) (cb:CB X scope cl caps) (hg:∀ ex s0 H0,WG (X.block scope cl (tgs ++ caps.map (·.1)) ex s0 H0) XE tg bd) (hif:∀ ex s0 H0,PTs (X.block scope cl (tgs ++ caps.map (·.1)) ex s0 H0) ifs (lT XE X.K cond)) (hel:∀ ex s0 H0,WE (X.block scope cl (tgs ++ caps.map (·.1)) ex s0 H0) XE elt f) (hs:∀ x,foldedSetIterable iter X.env x = pure x:=by intro _;rfl):WL X XE (.ListComp elt [⟨tg,iter,ifs,0⟩] scope pos) (zr ga bd cond f tgs caps):=by
 have hi:=hi.pe
 have hg:=fun ex s0 H0=>(hg ex s0 H0).pe
 have hel:=fun ex s0 H0=>(hel ex s0 H0).pe
 exact ⟨PE.imp (zjb (tgs:=tgs) (g:=lG XE X.K bd) (tc:=lT XE X.K cond) (te:=lE XE X.K f) cb.hc hi cb.hclos cb.hcell cb.hkind cb.hnames cb.hcl cb.hhas cb.hcap hg hif hel hs) fun σ H Q hh=>ze0 hh⟩
theorem y8 {i0:Nat} {y0:Str} {py spos:Pos} (hi:WI X XE tg iter ga) (cb:CB X scope cl caps) (hg:∀ ex s0 H0,WG (X.block scope cl (tgs ++ caps.map (·.1)) ex s0 H0) XE tg bd) (hif:∀ ex s0 H0,PTs (X.block scope cl (tgs ++ caps.map (·.1)) ex s0 H0) ifs (lT XE X.K cond)) (hel:∀ ex s0 H0,WE (X.block scope cl (tgs ++ caps.map (·.1)) ex s0 H0) XE elt f) (hN0:X.N.Nodup) (hi0:X.N[i0]? = some y0) (hx0:Loc X.env.scope y0) (hsw:swapsWith (.ListComp elt [⟨tg,iter,ifs,0⟩] scope pos) (some (.Name y0 py)) spos.line X.env = pure true:=by rfl) (hf0:X.fn y0 = true\/X.env.scope.names.lookup y0 = some .local:=by first | exact .inl rfl | exact .inr rfl | assumption) (hs:∀ x,foldedSetIterable iter X.env x = pure x:=by intro _;rfl):WS X XE (.Assign [.Name y0 py] (.ListComp elt [⟨tg,iter,ifs,0⟩] scope pos) spos) (yk i0 (eFz (zr ga bd cond f tgs caps))):=by
 have hi:=hi.pe
 have hg:=fun ex s0 H0=>(hg ex s0 H0).pe
 have hel:=fun ex s0 H0=>(hel ex s0 H0).pe
 exact ⟨PS.imp (zfY (tgs:=tgs) (g:=lG XE X.K bd) (tc:=lT XE X.K cond) (te:=lE XE X.K f) cb.hc hi cb.hclos cb.hcell cb.hkind cb.hnames cb.hcl cb.hhas cb.hcap hg hif hel hN0 hi0 hx0 hsw hf0 hs) fun D σ H ⟨S,στ,_,e,m,ev,_,fin⟩=>ze0 ⟨S,στ,e,m,ev,by
  show FinL XE X.K S (zr ga bd cond f tgs caps στ S.M) _
  replace fin:Fin XE (FlR X.K) X.K S (((zr ga bd cond f tgs caps στ S.M).bind fun xs M1=>.ok (T.lst xs) M1).bind fun t M1=>.ok (.nx (στ.set i0 (some t))) M1) (yQ D):=fin
  cases q:zr ga bd cond f tgs caps στ S.M with
  | bad=>rw [q] at fin;exact fin
  | exn C fs M'=>rw [q] at fin;exact fin
  | ok xs M1=>
   rw [q] at fin
   intro S1 p vs e1 s1 hn hp hv r
   exact fin (S1.show S.hid) (.nx (σ.set i0 (some (.ref p)))) e1 s1.show (.nx ((Mo.mo (K:=X.K) m s1.show ev).set (zfE s1 hn m hp hv r) i0))⟩⟩
theorem zn :PTs X [] (lT XE X.K zq):=zjE 
theorem zeh (h:WT X XE c tf):PTs X [c] (lT XE X.K tf):=zjD h.pe
end
section
variable {a b:Expr} {p:Pos}
theorem zbl {op:Operator} {o:T->T->Mem->Out (List T)} (ho:OpR X (binaryOp op) (zf7 XE X.K o)) (ha:WE X XE a f) (hb:WE X XE b g):WL X XE (.BinOp a op b pos) (lOp o f g):=by
 have ha:=ha.pe
 have hb:=hb.pe
 exact ⟨PE.imp (ziD ho ha hb) fun σ H Q ⟨S,στ,e,m,ev,fin⟩=>
  LN.mono (LNL.bind (f:=fun (_:Unit) σ M=>f σ M) (k:=fun _ x σ M1=>(g σ M1).bind fun y M2=>o x y M2) (RA:=UnR) (RB:=Rep X.K) ⟨S,στ,(),e,m,ev,trivial,fin⟩) fun v H1 h1=>
   LN.mono (LN.env (f:=g) (LNL.bind (f:=fun _ σ M=>g σ M) (k:=fun (ax:Unit × T) y σ M2=>o ax.2 y M2) (RB:=Rep X.K) h1)) fun w H2 h2=>by
    obtain ⟨S,στ,a,e,m,ev,ra,fin⟩:=h2
    exact ⟨S,(a.1.2,a.2),e,m,⟨ra.1.2,ra.2⟩,fin⟩⟩
theorem zaG {id:String} {F:List T->Mem->Out (List T)} (hc:CallR X (.type id) (zh6 XE X.K F)) (hg:Gl X x) (hm:X.mg x = none) (hv:bootBuiltins x = some (.type id)) (ha:WA X XE (e :: es) ga) (hn:x ≠ "__name__":=by decide) (hdb:(x == ("__debug__":Str)) = false:=by decide) (he:noStar e = true:=by rfl) (hpl:es.all noStar = true:=by rfl):WL X XE (.Call (.Name x p) (e :: es) [] pos) (zco F ga):=by
 have ha:=ha.pe
 exact ⟨PE.imp (zb3 hc hg hm hv ha hn hdb (yM he) (zbF hpl)) fun σ H Q ⟨S,στ,e,m,ev,fin⟩=>
  LN.mono (LNL.bind (f:=fun (_:Unit) σ M=>ga σ M) (k:=fun _ ts σ M1=>F ts M1) (RA:=UnR) (RB:=Reps X.K) ⟨S,στ,(),e,m,ev,trivial,fin⟩) fun vs H1 ⟨S,στ,a,e,m,ev,ra,fin⟩=>⟨S,a.2,e,m,ra.2,fin⟩⟩
end
section
theorem zfm {o i:Expr} {st:T->T->T->Mem->Out Unit} (ho:WE X XE o f) (hi:WE X XE i g) (hs:zfc X (zh5 XE X.K st)) (ha:∀ v,assign (.Subscript o i pos) X.env v = (do
 let ov ← holding [v] (eval o X.env)
 let iv ← holding [v,ov] (eval i X.env)
 standAt pos
 holding [v,ov,iv] (setItem ov iv v)
 release [v,ov,iv] []):=by intro _;rfl):WG X XE (.Subscript o i pos) (zgj st f g):=by
 have ho:=ho.pe
 have hi:=hi.pe
 exact ⟨PG.imp (zkx ho hi hs ha) fun v σ H Q hh=>by
  have h1:LN XE (EvR X.K) X.K (Rep X.K) (fun t σ M=>(f σ M).bind fun o M1=>(g σ M1).bind fun i M2=>(st o i t M2).bind fun _ M3=>.ok σ M3) v σ H Q:=hh
  refine LN.mono (LN.env (f:=f) (LN.bind (f:=fun _ σ M=>f σ M) (k:=fun t o σ M1=>(g σ M1).bind fun i M2=>(st o i t M2).bind fun _ M3=>.ok σ M3) (RB:=Rep X.K) h1)) fun ov H1 h2=>?_
  refine LN.mono (LN.env (f:=g) (LN.bind (f:=fun _ σ M=>g σ M) (k:=fun (to:T × T) i σ M2=>(st to.2 i to.1 M2).bind fun _ M3=>.ok σ M3) (RB:=Rep X.K) h2)) fun iv H2 h3=>?_
  obtain ⟨S,στ,a,e,m,ev,ra,fin⟩:=h3
  refine ⟨S,((a.1.2,a.2),a.1.1),e,m,⟨⟨ra.1.2,ra.2⟩,ra.1.1⟩,?_⟩
  show Fin XE UnR X.K S (st a.1.2 a.2 a.1.1 S.M) _
  replace fin:Fin XE (EvR X.K) X.K S ((st a.1.2 a.2 a.1.1 S.M).bind fun _ M3=>.ok στ M3) Q:=fin
  cases o:st a.1.2 a.2 a.1.1 S.M with
  | bad=>rw [o] at fin;exact fin
  | exn C fs M'=>rw [o] at fin;exact fin
  | ok b M1=>
   rw [o] at fin
   intro S1 c e1 s1 _
   exact fin S1 σ e1 s1 (Mo.mo m s1 ev)⟩
theorem qP {o:Expr} {apos cpos:Pos} (h:PE X (.Call (.Attribute o "append" apos) [e] [] cpos) (tBM X.K "list" zdp (lE XE X.K f) (lA XE X.K ga))):WE X XE (.Call (.Attribute o "append" apos) [e] [] cpos) (zY qL (eUn yE f) ga):=⟨PE.imp h fun σ H Q hh=>by
 obtain ⟨S,στ,_,e0,m,ev,_,fin⟩:=hh
 replace fin:Fin XE (Rep X.K) X.K S (((f στ S.M).bind fun x M1=>yE x M1).bind fun x M1=>(ga στ M1).bind fun ts M2=>qL x ts M2) Q:=fin
 refine ⟨S,στ,(),e0,m,ev,trivial,?_⟩
 show Fin XE (Rep X.K) X.K S (f στ S.M) _
 cases o1:f στ S.M with
 | bad=>rw [o1] at fin;exact fin
 | exn C fs M'=>rw [o1] at fin;exact fin
 | ok x M1=>
  rw [o1] at fin
  intro S1 v e1 s1 r1
  replace fin:Fin XE (Rep X.K) X.K S ((yE x M1).bind fun x M1=>(ga στ M1).bind fun ts M2=>qL x ts M2) Q:=fin
  unfold yE at fin
  cases q:qm x M1 with
  | none=>rw [q] at fin;exact fin.elim
  | some xs=>
   rw [q] at fin
   replace fin:Fin XE (Rep X.K) X.K S ((ga στ M1).bind fun ts M2=>qL x ts M2) Q:=fin
   obtain ⟨p,vs,rfl,hq,_⟩:=zm s1.mok r1 (by rw [e1];exact q)
   refine ⟨.inl ⟨rfl,vs,hq⟩,S1,στ,(),rfl,s1.mok,Mo.mo m s1 ev,trivial,?_⟩
   show Fin XE (Reps X.K) X.K S1 (ga στ S1.M) _
   rw [e1]
   cases o2:ga στ M1 with
   | bad=>rw [o2] at fin;exact fin
   | exn C fs M'=>rw [o2] at fin;exact Fin.later s1 fin
   | ok ts M2=>
    rw [o2] at fin
    intro S2 ws e2 s2 r2
    replace fin:Fin XE (Rep X.K) X.K S (qL x ts M2) Q:=fin
    have fin2:=Fin.later (s1.trans s2) fin
    unfold qL at fin2
    split at fin2
    ·split at fin2
     ·rename_i a t _ ys qy
      split at fin2
      ·rename_i hz
       obtain ⟨w,ws',rfl,r3,r4⟩:=r2.consT
       rw [r4.nilT]
       have r1':=r1.grow s1.mok s2.toGrow
       cases r1' with
       | ref ha2=>
       obtain ⟨us,q3,rs⟩:=s2.mok.cell a _ (by rw [e2];exact qy)
       refine ⟨S2.α a,us,w,rfl,rfl,q3,by rw [← rs.1];exact hz,?_⟩
       exact fin2 (S2.put a (.lst (us ++ [w])) (.lst (ys ++ [t]))) .non (by show S2.M.set a _ = _;rw [e2]) (zfs s2.mok (by rw [e2];exact qy) (rs.app (.cons r3 .nil))) .non
      ·exact fin2.elim
     ·exact fin2.elim
    ·exact fin2.elim⟩
end
section
theorem qM :WO X XE none qX:=⟨PO.imp zi8 fun σ H Q h9=>by
 obtain ⟨S,στ,_,e,m,ev,_,fin⟩:=h9
 show Q none H
 rw [← e];exact fin S none rfl (.refl m) rfl⟩
theorem yK (h:WE X XE e f):WO X XE (some e) (yU f):=by
 have h:=h.pe
 exact ⟨PO.imp (zi7 h) fun σ H Q hh=>
  LN.mono (LN.bind (f:=fun _ σ M=>f σ M) (k:=fun _ x σ M1=>zh9 x M1) (RB:=Rep X.K) hh) fun v H1 h9=>by
   obtain ⟨S,στ,a,e,m,ev,ra,fin⟩:=h9
   obtain ⟨u,t⟩:=a
   have r:Rep X.K S t v:=ra.2
   replace fin:Fin XE EqR X.K S (zh9 t S.M) Q:=fin
   cases r with
   | int i=>exact ⟨i,rfl,by rw [← e];exact fin S (some i) rfl (.refl m) rfl⟩
   | _=>exact fin.elim⟩
theorem zaS {lo hi:Option Expr} {q:Ev->Mem->Out (Option Int)} (he:WE X XE e f) (hl:WO X XE lo p) (hu:WO X XE hi q):WE X XE (.Subscript e (.Slice lo hi none p2) pos) (eSl f p q):=by
 have he:=he.pe
 have hl:=hl.pe
 have hu:=hu.pe
 exact ⟨PE.imp (zez zkh he hl hu) fun σ H Q hh=>
  LN.mono (LN.bind (f:=fun _ σ M=>f σ M) (k:=fun _ x σ M1=>(p σ M1).bind fun lo M2=>(q σ M2).bind fun hi M3=>zcR x lo hi M3) (RB:=Rep X.K) hh) fun v H1 h1=>
   LN.mono (LN.env (f:=p) (LN.bind (f:=fun _ σ M=>p σ M) (k:=fun (ax:Unit × T) lo σ M2=>(q σ M2).bind fun hi M3=>zcR ax.2 lo hi M3) (RB:=EqR) h1)) fun l H2 h2=>
    LN.mono (LN.env (f:=q) (LN.bind (f:=fun _ σ M=>q σ M) (k:=fun (ax:(Unit × T) × Option Int) hi σ M3=>zcR ax.1.2 ax.2 hi M3) (RB:=EqR) h2)) fun w H3 h9=>by
     obtain ⟨S,στ,a,e,m,ev,ra,fin⟩:=h9
     have e1:a.1.2 = l:=ra.1.2
     have e2:a.2 = w:=ra.2
     exact ⟨S,a.1.1.2,e,m,ra.1.1.2,by rw [← e1,← e2];exact fin⟩⟩
end
section
theorem zhA {o e:Expr} {es:List Expr} {n:Str} {Ty:String} {f:Ev->Mem->Out T} {ga:Ev->Mem->Out (List T)} {chk:T->Mem->Bool} {F:T->List T->Mem->Out T} {apos cpos:Pos} (hc:∀ {K:Frag} {S:Sit},MemOk K S->∀ {t:T} {x:V},Rep K S t x->chk t S.M = true->tyV K Ty x S.H) (h:PE X (.Call (.Attribute o n apos) (e :: es) [] cpos) (tBM X.K Ty (lMt XE X.K F) (lE XE X.K f) (lA XE X.K ga))):WE X XE (.Call (.Attribute o n apos) (e :: es) [] cpos) (zdb chk F f ga):=⟨PE.imp h fun σ H Q hh=>by
 obtain ⟨S,στ,_,e0,m,ev,_,fin⟩:=hh
 replace fin:Fin XE (Rep X.K) X.K S ((f στ S.M).bind fun x M1=>if chk x M1 = true then (ga στ M1).bind fun ts M2=>F x ts M2 else .bad) Q:=fin
 refine ⟨S,στ,(),e0,m,ev,trivial,?_⟩
 show Fin XE (Rep X.K) X.K S (f στ S.M) _
 cases o1:f στ S.M with
 | bad=>rw [o1] at fin;exact fin
 | exn C fs M'=>rw [o1] at fin;exact fin
 | ok x M1=>
  rw [o1] at fin
  intro S1 v e1 s1 r1
  replace fin:Fin XE (Rep X.K) X.K S (if chk x M1 = true then (ga στ M1).bind fun ts M2=>F x ts M2 else .bad) Q:=fin
  split at fin
  ·rename_i hk
   refine ⟨hc s1.mok r1 (by rw [e1];exact hk),S1,στ,(),rfl,s1.mok,Mo.mo m s1 ev,trivial,?_⟩
   show Fin XE (Reps X.K) X.K S1 (ga στ S1.M) _
   rw [e1]
   cases o2:ga στ M1 with
   | bad=>rw [o2] at fin;exact fin
   | exn C fs M'=>rw [o2] at fin;exact Fin.later s1 fin
   | ok ts M2=>
    rw [o2] at fin
    intro S2 ws e2 s2 r2
    replace fin:Fin XE (Rep X.K) X.K S (F x ts M2) Q:=fin
    have fin2:=Fin.later (s1.trans s2) fin
    exact ⟨S2,(x,ts),rfl,s2.mok,⟨r1.grow s1.mok s2.toGrow,r2⟩,by show Fin XE (Rep X.K) X.K S2 (F x ts S2.M) Q;rw [e2];exact fin2⟩
  ·exact fin.elim⟩
end
section
theorem zhz {l:Expr} {elts:List Expr} {x1} {tp p:Pos} (hg:Gl X "enumerate") (hm:X.mg "enumerate" = none) (he:WE X XE l f) (hs:noStar l = true:=by rfl):WI X XE (.Tuple elts x1 tp) (.Call (.Name "enumerate" p) [l] [] pos) (zd8 f):=by
 have he:=he.pe
 exact ⟨PI.imp (zhS hg hm he (yM hs)) fun σ H R h9=>by
  obtain ⟨S,στ,_,e,m,ev,_,fin⟩:=h9
  replace fin:Fin XE (zaF X.K) X.K S ((f στ S.M).bind fun t M1=>match t with | .tup ts=>.ok (enT ts) M1 | _=>.bad) R:=fin
  refine ⟨S,στ,(),e,m,ev,trivial,?_⟩
  show Fin XE (Rep X.K) X.K S (f στ S.M) _
  cases o:f στ S.M with
  | bad=>rw [o] at fin;exact fin.elim
  | exn C fs M'=>rw [o] at fin;exact fin
  | ok t M1=>
   rw [o] at fin
   cases t with
   | tup ts=>
    intro S1 v e1 s1 r1
    cases r1 with
    | @tup _ p vs h l r=>
     have r1:Reps X.K S1 ts vs:=⟨l,r⟩
     refine ⟨p,rfl,⟨vs,h⟩,fin S1 _ e1 s1 fun S3 s3=>?_⟩
     have g3:SqT X.K S3.H p vs:=s3.toGrow.tup s1.mok h
     refine ⟨fun i t et=>?_,fun i hi=>⟨vs,g3,by rw [← l];simpa [enT] using hi⟩⟩
     unfold enT at et
     rw [List.getElem?_mapIdx] at et
     obtain ⟨t0,et0,rfl⟩:=Option.map_eq_some_iff.mp et
     obtain ⟨v2,ev3,r3⟩:=r1.get et0
     refine ⟨⟨vs,v2,g3,ev3⟩,fun x H' hy=>?_⟩
     obtain ⟨q,y,hq,rfl,rfl,hy⟩:=hy
     have:=hy vs g3
     rw [ev3] at this
     cases this
     have s4:=Stp.new s3.mok hq (.tup [.int (i:Int),v2])
     have r4:=(r3.grow s1.mok s3.toGrow).grow s3.mok s4.toGrow
     refine ⟨⟨S3.α,S3.M,upd S3.H q (.tup [.int (i:Int),v2]),S3.hid⟩,rfl,rfl,s4,?_⟩
     have rr:Reps X.K ⟨S3.α,S3.M,upd S3.H q (.tup [.int (i:Int),v2]),S3.hid⟩ [.int (i:Int),t0] [.int (i:Int),v2]:=.cons (.int _) (.cons r4 .nil)
     exact .tup (.inl (.inl zy)) rr.1 rr.2
   | _=>exact fin.elim⟩
end
section
variable {a b:Expr} {pp:Pos} {p:Ev->Mem->Out Fl} {ga:Ev->Mem->Out (List T × Gd)}
theorem zhx (hp:PassesOwn (model X.prog X.w) X.A X.env X.xe) (hc:X.calm = true) (hi:WIG X XE tg iter ga) (hg:WG X XE tg bd) (hb:WSs X XE sts p) (hs:∀ x,foldedSetIterable iter X.env x = pure x:=by intro _;rfl):WS X XE (.For tg iter sts [] pos) (zcZ ga bd p):=by
 have hi:=hi.pe
 have hg:=hg.pe
 have hb:=hb.pe
 exact ⟨PS.imp (zgA hp hc hi hg hb hs) fun D σ H hh=>by
  refine LN.mono (LN.bind (f:=fun _ σ M=>ga σ M) (k:=fun _ xs σ M1=>forG xs.2 bd p xs.1 σ M1) (RB:=ItG X.K) hh) fun J H1 h1=>?_
  obtain ⟨S,στ,a,e,m,ev,ra,fin⟩:=h1
  refine ⟨fun i n σ H=>∃ S στ,S.H = H/\MemOk X.K S/\EvR X.K S στ σ/\ItG X.K S a.2 J/\n = a.2.1.length - i/\i<=a.2.1.length/\Fin XE (FlR X.K) X.K S (forG a.2.2 bd p (a.2.1.drop i) στ S.M) (yQ D),⟨_,S,στ,e,m,ev,ra.2,rfl,Nat.zero_le _,fin⟩,?_⟩
  rintro i n σ1 H2 ⟨S1,στ1,e1,m1,ev1,it1,en,hi1,fin1⟩
  subst e1
  have hgd:=zg9 fin1
  obtain ⟨it2,it3⟩:=it1 S1 (.refl m1) hgd
  by_cases hl:i < a.2.1.length
  ·have eq:a.2.1.drop i = a.2.1[i] :: a.2.1.drop (i + 1):=List.drop_eq_getElem_cons hl
   rw [eq] at fin1
   replace fin1:=(Fin.gd fin1).2
   obtain ⟨go,yl⟩:=it2 i a.2.1[i] (by simp [hl])
   refine .inr ⟨go,fun σ' H'=>∃ S στ,S.H = H'/\MemOk X.K S/\EvR X.K S στ σ'/\ItG X.K S a.2 J/\Fin XE (FlR X.K) X.K S (forG a.2.2 bd p (a.2.1.drop (i + 1)) στ S.M) (yQ D),?_,fun x H' hy=>?_⟩
   ·rintro σ' H' ⟨S2,στ2,e2,m2,ev2,it4,fin2⟩
    exact ⟨a.2.1.length - (i + 1),by omega,S2,στ2,e2,m2,ev2,it4,rfl,hl,fin2⟩
   ·obtain ⟨S2,e2,eM,s2,r2⟩:=yl x H' hy
    replace fin1:Fin XE (FlR X.K) X.K S1 ((bd a.2.1[i] στ1 S1.M).bind fun σ1 M1=>(p σ1 M1).bind (zI (forG a.2.2 bd p (a.2.1.drop (i + 1))))) (yQ D):=fin1
    refine ⟨S2,στ1,a.2.1[i],e2,s2.mok,Mo.mo m1 s2 ev1,r2,?_⟩
    rw [eM]
    cases o:bd a.2.1[i] στ1 S1.M with
    | bad=>rw [o] at fin1;exact fin1
    | exn C fs M'=>rw [o] at fin1;exact Fin.later s2 fin1
    | ok σ3 M3=>
     rw [o] at fin1
     intro S3 σ3v e3 s3 ev3
     have s13:=s2.trans s3
     refine ⟨S3,σ3,(),rfl,s3.mok,ev3,trivial,?_⟩
     show Fin XE (FlR X.K) X.K S3 (p σ3 S3.M) _
     rw [e3]
     replace fin1:Fin XE (FlR X.K) X.K S1 ((p σ3 M3).bind (zI (forG a.2.2 bd p (a.2.1.drop (i + 1))))) (yQ D):=fin1
     cases o2:p σ3 M3 with
     | bad=>rw [o2] at fin1;exact fin1
     | exn C fs M'=>rw [o2] at fin1;exact Fin.later s13 fin1
     | ok fl M4=>
      rw [o2] at fin1
      intro S4 fv e4 s4 r4
      have s14:=s13.trans s4
      cases r4 with
      | nx r4=>exact ⟨S4,_,rfl,s4.mok,r4,Mo.mo m1 s14 it1,by rw [e4];exact Fin.later s14 fin1⟩
      | ct r4=>exact ⟨S4,_,rfl,s4.mok,r4,Mo.mo m1 s14 it1,by rw [e4];exact Fin.later s14 fin1⟩
      | bk r4=>exact fin1 S4 (.nx _) e4 s14 (.nx r4)
      | rt r4=>exact fin1 S4 (.rt _) e4 s14 (.rt r4)
  ·rw [List.drop_eq_nil_of_le (by omega)] at fin1
   replace fin1:=(Fin.gd fin1).2
   refine .inl ⟨it3 i (by omega),?_⟩
   exact fin1 S1 (.nx σ1) rfl (.refl m1) (.nx ev1)⟩
end
section
theorem zhy (he:WE X XE e f):WIG X XE tg e (zc8 f):=by
 have he:=he.pe
 exact ⟨PI.imp (zft he) fun σ H R hh=>
  LN.mono (LN.bind (f:=fun _ σ M=>f σ M) (k:=fun _ t σ M1=>match zb6 t M1 with | some g=>.ok g M1 | none=>.bad) (RB:=Rep X.K) hh) fun v H1 h9=>by
   obtain ⟨S,στ,a,e,m,ev,ra,fin⟩:=h9
   obtain ⟨u,t⟩:=a
   subst e
   have rt:Rep X.K S t v:=ra.2
   replace fin:Fin XE (ItG X.K) X.K S (match zb6 t S.M with | some g=>.ok g S.M | none=>.bad) R:=fin
   cases q:zb6 t S.M with
   | none=>rw [q] at fin;exact fin.elim
   | some g=>
    rw [q] at fin
    obtain ⟨xs,G⟩:=g
    obtain ⟨p,vs,rfl,h1,h2⟩:=zju m rt q
    refine ⟨p,rfl,⟨vs,h1⟩,fin S _ rfl (.refl m) fun S3 s3 gd=>?_⟩
    obtain ⟨vs3,g3,r3⟩:=h2 S3 s3 gd
    refine ⟨fun i t et=>?_,fun i hi=>⟨vs3,g3,by rw [← r3.1];exact hi⟩⟩
    obtain ⟨v2,ev3,rv⟩:=r3.get et
    refine ⟨⟨vs3,v2,g3,ev3⟩,fun x H' hy=>?_⟩
    obtain ⟨ey,hy⟩:=hy
    have:=hy vs3 g3
    rw [ev3] at this
    cases this
    exact ⟨S3,ey.symm,rfl,.refl s3.mok,rv⟩⟩
end
section
theorem zj9 {st:Expr} (he:WE X XE e f) (hs:WO X XE (some st) p):WE X XE (.Subscript e (.Slice none none (some st) p2) pos) (eRv f p):=by
 have he:=he.pe
 have hs:=hs.pe
 exact ⟨PE.imp (zkB he hs) fun σ H Q hh=>
  LN.mono (LN.bind (f:=fun _ σ M=>f σ M) (k:=fun _ x σ M1=>(p σ M1).bind fun l M2=>zdm x l M2) (RB:=Rep X.K) hh) fun v H1 h1=>
   LN.mono (LN.env (f:=p) (LN.bind (f:=fun _ σ M=>p σ M) (k:=fun (ax:Unit × T) l σ M2=>zdm ax.2 l M2) (RB:=EqR) h1)) fun l H2 h9=>by
    obtain ⟨S,στ,a,e,m,ev,ra,fin⟩:=h9
    have e1:a.2 = l:=ra.2
    have r:Rep X.K S a.1.2 v:=ra.1.2
    replace fin:Fin XE (Rep X.K) X.K S (zdm a.1.2 a.2 S.M) Q:=fin
    rw [e1] at fin
    unfold zdm rvX at fin
    split at fin
    ·rename_i hl
     split at fin
     ·rename_i xs q
      obtain ⟨b,vs,e2,h2,s2⟩:=zm m r q
      subst e
      refine ⟨hl,b,vs,e2,h2,zdt m fin ?_⟩
      exact s2.rev
     ·exact fin.elim
    ·exact fin.elim⟩
end
section
theorem yz {p:Nat} {g:Ev->Mem->Out Fl} (D:Df K mg x st ps) (Sc:FnScope N ps (qg st)) (hp:ps.length = p) (hn:N.length = n)
 (hb:∀ (f:Addr) (cdv:Value) (A:Around) (outer:List PySem.Env) (s:Shared) (H:Hp) (E:XK),Room k (A.deeper (envOfC x (qg st) s.heap.objs.size f cdv))->WSs (za1 CX0 P w K mg base N x (qg st) f cdv A outer s H E).nox E0 (zF st) g) :
  CalT P w K mg base (k + 1) x ps (qr p n g):=zhp D Sc hp hn fun f cdv A outer s H E hr=>(hb f cdv A outer s H E hr).pe
theorem ziP {qual:Str} {f:Addr} {fd:FuncData} {p:Nat} {g:Ev->Mem->Out Fl} (F:Fun K x qual st f fd) (Sc:FnScope N ps (qg st)) (hp:ps.length = p) (hn:N.length = n)
 (hb:∀ (cdv:Value) (A:Around) (outer:List PySem.Env) (s:Shared) (H:Hp) (E:XK),Room k (A.deeper (envOfC qual (qg st) s.heap.objs.size f cdv))->WSs (za1 CX0 P w K mg base N qual (qg st) f cdv A outer s H E).nox E0 (zF st) g) :
  FnOk P w K mg base CX0 (k + 1) f fd ps (spT K (qr p n g)):=zk1 F Sc hp hn fun cdv A outer s H E hr=>(hb cdv A outer s H E hr).pe
end
end FT
namespace L2
open PySem PySem.Spec PyProof.Rows
section
variable {X:Cx}
theorem zgH:OpR X (compareOp .LtE) (fun x y H Q=>∃ i j,x = .str i/\y = .str j/\Q (.bl (!decide (j.cps.toList < i.cps.toList))) H):=by
 intro pins s σ H x y v u Q I rx ry h
 obtain ⟨i,j,rfl,rfl,q⟩:=h
 obtain ⟨t,rfl⟩:=rx
 obtain ⟨t',rfl⟩:=ry
 exact PySem.P.le_str (zha I q rfl)
theorem zf1:OpR X (binaryOp .Mult) (fun x y H Q=>∃ i n,x = .str i/\y = .int n/\MulOk i n/\Q (.str (Txt.mul i n)) H):=by
 intro pins s σ H x y v u Q I rx ry h
 obtain ⟨i,n,rfl,rfl,hk,q⟩:=h
 obtain ⟨t,rfl⟩:=rx
 obtain ⟨t',rfl⟩:=ry
 exact SB.mul hk fun t' k=>⟨.str _,H,I.tok _,⟨_,rfl⟩,q⟩
end
end L2
namespace FT
open PySem PySem.Spec PyProof.Rows L2
noncomputable def leU:T->T->Mem->Out T:=fun x y M=>match x,y with
 | .int i,.int j=>.ok (.bl (decide (i<=j))) M
 | .str i,.str j=>.ok (.bl (!decide (j.cps.toList < i.cps.toList))) M
 | _,_=>.bad
noncomputable def zdu:T->T->Mem->Out T:=fun x y M=>match x,y with
 | .str i,.int n=>@ite _ (MulOk i n) (Classical.propDecidable _) (.ok (.str (Txt.mul i n)) M) .bad
 | _,_=>.bad
noncomputable def ixS:T->T->Mem->Out T:=fun x y M=>match x,y with
 | .str z,.int i=>match atI z.cps.toList i with
  | some c=>if z.length<=sizeLine then .ok (.str ⟨#[c]⟩) M else .bad
  | none=>.bad
 | _,_=>.bad
section
variable {X:Cx} {XE:XK}
theorem zc1:OpR X (compareOp .LtE) (lR2 XE X.K leU):=by
 intro pins s σ H x y v u Q I rx ry ⟨S,⟨tx,ty⟩,e,m,⟨r1,r2⟩,fin⟩
 subst e
 replace fin:Fin XE (Rep X.K) X.K S (leU tx ty S.M) Q:=fin
 unfold leU at fin
 split at fin
 ·cases r1;cases r2
  exact ziE pins s σ S.H _ _ v u Q I rx ry ⟨_,_,rfl,rfl,fin S _ rfl (.refl m) (.bl _)⟩
 ·cases r1;cases r2
  exact zgH pins s σ S.H _ _ v u Q I rx ry ⟨_,_,rfl,rfl,fin S _ rfl (.refl m) (.bl _)⟩
 ·exact fin.elim
theorem zjj:OpR X (binaryOp .Mult) (lR2 XE X.K zdu):=by
 intro pins s σ H x y v u Q I rx ry ⟨S,⟨tx,ty⟩,e,m,⟨r1,r2⟩,fin⟩
 subst e
 replace fin:Fin XE (Rep X.K) X.K S (zdu tx ty S.M) Q:=fin
 unfold zdu at fin
 split at fin
 ·cases r1;cases r2
  split at fin
  ·rename_i hk
   exact zf1 pins s σ S.H _ _ v u Q I rx ry ⟨_,_,rfl,rfl,hk,fin S _ rfl (.refl m) (.str _)⟩
  ·exact fin.elim
 ·exact fin.elim
theorem zh7:IxR X (lR2 XE X.K ixS):=by
 intro va sl pins s σ H x y v u Q I rx ry ⟨S,⟨tx,ty⟩,e,m,⟨r1,r2⟩,fin⟩ hs
 subst e
 replace fin:Fin XE (Rep X.K) X.K S (ixS tx ty S.M) Q:=fin
 unfold ixS at fin
 split at fin
 ·cases r1;cases r2
  split at fin
  ·rename_i c hc
   split at fin
   ·rename_i hz
    exact zgW va sl pins s σ S.H _ _ v u Q I rx ry ⟨_,_,c,rfl,rfl,hz,hc,fin S _ rfl (.refl m) (.str _)⟩ hs
   ·exact fin.elim
  ·exact fin.elim
 ·exact fin.elim
end
end FT
namespace L2
open PySem PySem.Spec PyProof.Rows
noncomputable def Its (x:Str):It:=⟨fun i _=>i < x.cps.size,fun i H v H'=>H' = H/\∃ c,x.cps[i]? = some c/\v = .str ⟨#[c]⟩,fun i _=>x.cps.size<=i⟩
variable {tg:Expr}
theorem zej {P:Program} {w:World} {K:Frag} (it:Addr) (x:Str) (t:Tok) (kd:String) (hW:∀ A:Around,A.handled = none->Walks P w A it [it] [it] x.cps.size (SignAt x) (fun i h=>h.IsStrIter it kd x t i))
 (hk:["enumerate","zip","dict_itemiterator","dict_reverseitemiterator","odict_iterator","itertools.zip_longest","itertools.pairwise"].contains kd = false) (he:∀ (A:Around) (i:Nat) (s:Shared) (Q:Option Value->Shared->Prop) (E:Value->Shared->Prop),A.handled = none->s.heap.IsStrIter it kd x t i->x.cps[i]? = none->(∀ h',Heap.ExtBut it s.heap h'->Q none { s with heap:=h' })->wpAny (model P w) A (pyNext (.ref it)) Q E s) (hs:∀ (A:Around) (i:Nat) (s:Shared) (Q:Value->Shared->Prop) (E:Value->Shared->Prop),s.heap.IsStrIter it kd x t i->Q (.ref it) s->wpAny (model P w) A (pyIter (.ref it)) Q E s) :
  Turn P w K tg (Its x) [it] it (fun i h=>h.IsStrIter it kd x t i) where
 mem:=by simp
 obj:=fun i h st b hb=>by
  have e:b = it:=by simpa using hb
  subst e
  obtain ⟨o,e,c,d⟩:=st
  exact ⟨o,e,fun v z=>by rw [d] at z;cases z⟩
 keep:=fun i h h' st k=>by
  obtain ⟨o,e,c⟩:=st
  exact ⟨o,k it (by simp) o e,c⟩
 item:=by
  intro X hP hw hK hc i pins s σ H E I hf st hg
  subst hP hw hK
  obtain ⟨f0,f1,f2,f3,f4,f5⟩:=hf it (by simp)
  refine (hW X.A (I.ok.hd hc)).item i s _ _ hg st fun v h' tk hv st' kk=>?_
  obtain ⟨c,u,hc1,rfl⟩:=hv
  have I1:Inv X pins σ H { s with heap:=h',toks:=tk }:=I.turned (fun b o hb e=>kk b o (by simpa using hb) e) f0 f1 f3 f4 f5
  have st2:=st'
  obtain ⟨o,e,c1,d1⟩:=st2
  exact ⟨_,rfl,zd9 (s:={ s with heap:=h',toks:=tk }) (n:=kd) e c1 d1 hk ⟨.str ⟨#[c]⟩,H,I1,⟨u,rfl⟩,⟨rfl,c,hc1,rfl⟩,st',fun b hb=>(hf b hb).1⟩⟩
 done:=by
  intro X hP hw hK hc i pins s σ H E I hf st hg
  subst hP hw hK
  obtain ⟨f0,f1,f2,f3,f4,f5⟩:=hf it (by simp)
  have hg':x.cps.size<=i:=hg
  exact he X.A i s _ _ (I.ok.hd hc) st (by simp;exact hg') fun h' eb=>⟨rfl,I.turned (t':=s.toks) (fun b o hb e=>eb b o hb e) f0 f1 f3 f4 f5⟩
 self:=fun A i s Q E st h=>hs A i s Q E st h
section
variable {X:Cx}
noncomputable def zm3 (tl:TE):TI:=fun σ H R=>tl σ H fun x H1=>∃ z,x = .str z/\R (Its z) H1
theorem zkv {l:Expr} {tl:TE} (hl:PE X l tl):PI X tg l (zm3 tl):=by
 intro pins s σ H R I h
 refine thn (hl pins s σ H _ I h) fun v s1 ⟨x,H1,I1,r1,q1⟩=>?_
 obtain ⟨z,e,q⟩:=q1
 subst e
 obtain ⟨t,rfl⟩:=r1
 have fin:∀ (o:Obj) (kd:String),o.isFreed = false->o.cls = .type kd->o.data = .fields #[.str z t,.int (0:Nat) 0]->Turn X.prog X.w X.K tg (Its z) [s1.heap.objs.size] s1.heap.objs.size (fun i h=>h.IsStrIter s1.heap.objs.size kd z t i)->PIE X pins σ tg R (.ref s1.heap.objs.size) { s1 with heap:=s1.heap.push o }:=fun o kd fr hc hd tu=>by
  refine ⟨s1.heap.objs.size,[s1.heap.objs.size],_,_,H1,rfl,I1.kept (t':=s1.toks) fun b o e=>Q2 _ e,tu,⟨o,Qk _ fr,hc,hd⟩,fun b hb=>?_,q⟩
  have e:b = s1.heap.objs.size:=by simpa using hb
  subst e
  exact I1.fpOk (Q3 _) (I1.hok.fresh (Q3 _))
 cases ha:z.cps.all (· < 128)
 ·exact wpAny_pyIter_wide ha (fin _ "str_iterator" rfl rfl rfl (zej _ z t _ (fun A hA=>Walks.strWide hA _ z t) (by decide) (fun A i s Q E h1 h2 h3 h4=>wpAny_pyNext_wide_end h1 h2 h3 h4) (fun A i s Q E h1 h2=>wpAny_pyIter_striter_wide h1 h2)))
 ·exact wpAny_pyIter_ascii ha (fin _ "str_ascii_iterator" rfl rfl rfl (zej _ z t _ (fun A hA=>Walks.strAscii hA _ z t) (by decide) (fun A i s Q E h1 h2 h3 h4=>wpAny_pyNext_ascii_end h1 h2 h3 h4) (fun A i s Q E h1 h2=>wpAny_pyIter_striter_ascii h1 h2)))
theorem zkg:SlR X (fun x lo hi H Q=>∃ z,x = .str z/\z.length<=sizeLine/\Q (.str (Txt.slice z lo hi)) H):=by
 intro pins s σ H x v vl vu lo hi sl Q I rx hs pl pu ⟨z,e,hz,q⟩
 subst e
 obtain ⟨t,rfl⟩:=rx
 have part:∀ {v:Value} {o:Option Int},IsPart v o->∃ p:Option (Int × Tok),v = partValue p/\p.map (·.1) = o:=fun h=>by
  cases h with
  | none=>exact ⟨none,rfl,rfl⟩
  | int i t=>exact ⟨some (i,t),rfl,rfl⟩
 obtain ⟨l,rfl,rfl⟩:=part pl
 obtain ⟨u,rfl,rfl⟩:=part pu
 exact ⟨"str",_,PySem.F.slot_str_getitem.lookup,typeIs_str _ _ _,wpAny_getItem_str_slice (st:=none) hs rfl (post_val_or_str ⟨Qi (Txt.slice_le z _ _) hz,fun t' k=>⟨.str _,H,I.tok _,⟨_,rfl⟩,q⟩⟩)⟩
theorem zen:∀ {zs:List Str} {its:List Value},Vals (zs.map V.str) its->StrsAre its zs
 | [],its,r=>by cases r;exact .nil
 | z :: zs,its,r=>by
  cases r with
  | cons a b=>
   obtain ⟨t,rfl⟩:=a
   exact .cons z t (zen b)
theorem zjr:MtR X "str.join" (fun x xs H Q=>∃ z p zs,x = .str z/\xs = [.ref p]/\SqL X.K H p (zs.map V.str)/\(zs.map (·.length)).sum + zs.length * z.length<=16777216/\Q (.str (Txt.join z zs)) H):=by
 intro pins s σ H x xs v us Q I rx rs ⟨z,p,zs,e1,e2,hq,hb,q⟩
 subst e1;subst e2
 obtain ⟨t,rfl⟩:=rx
 obtain ⟨u,rfl,ru⟩:=vals1 rs
 cases ru
 obtain ⟨its,r,pl,hz⟩:=I.list hq
 exact join_list pl.isList (zen r) hb fun t' k=>⟨.str _,H,I.tok _,⟨_,rfl⟩,q⟩
end
end L2
namespace FT
open PySem PySem.Spec PyProof.Rows L2
noncomputable def sgT (z:Str):List T:=z.cps.toList.map fun c=>T.str ⟨#[c]⟩
noncomputable def iTx (f:Ev->Mem->Out T):Ev->Mem->Out (List T):=fun σ M=>(f σ M).bind fun t M1=>match t with
 | .str z=>.ok (sgT z) M1
 | _=>.bad
noncomputable def zbj (x:T) (lo hi:Option Int) (M:Mem):Out T:=match x with
 | .str z=>if z.length<=sizeLine then .ok (.str (Txt.slice z lo hi)) M else .bad
 | x=>zcR x lo hi M
noncomputable def zeZ (f:Ev->Mem->Out T) (p q:Ev->Mem->Out (Option Int)):Ev->Mem->Out T:=fun σ M=>(f σ M).bind fun x M1=>(p σ M1).bind fun lo M2=>(q σ M2).bind fun hi M3=>zbj x lo hi M3
noncomputable def zcA:List T->Option (List Str)
 | []=>some []
 | .str z :: ts=>(zcA ts).map (z :: ·)
 | _ :: _=>none
theorem zep:∀ {ts:List T} {zs:List Str},zcA ts = some zs->ts = zs.map .str
 | [],zs,h=>by cases h;rfl
 | t :: ts,zs,h=>by
  unfold zcA at h
  split at h
  ·rename_i e
   cases e
  ·rename_i e
   cases e
   cases q:zcA ts with
   | none=>rw [q] at h;cases h
   | some ys=>
    rw [q] at h
    cases h
    rw [zep q]
    rfl
  ·cases h
noncomputable def isStr (t:T) (_:Mem):Bool:=match t with
 | .str _=>true
 | _=>false
noncomputable def zcp (x:T) (ts:List T) (M:Mem):Out T:=match x,ts with
 | .str z,[t]=>match qm t M with
  | some xs=>match zcA xs with
   | some zs=>if (zs.map (·.length)).sum + zs.length * z.length<=16777216 then .ok (.str (Txt.join z zs)) M else .bad
   | none=>.bad
  | none=>.bad
 | _,_=>.bad
variable {X:Cx} {f:Ev->Mem->Out T} {e tg:Expr} {XE:XK}
section
theorem ty_str {K:Frag} {S:Sit} (_:MemOk K S) {t:T} {x:V} (r:Rep K S t x) (h:isStr t S.M = true):tyV K "str" x S.H:=by
 cases r with
 | str z=>exact rfl
 | _=>cases h
theorem zhZ:MtR X "str.join" (lMt XE X.K zcp):=by
 intro pins s σ H x xs v us Q I rx rs ⟨S,⟨tx,ts⟩,e,m,⟨r1,r2⟩,fin⟩
 subst e
 replace r1:Rep X.K S tx x:=r1
 replace r2:Reps X.K S ts xs:=r2
 replace fin:Fin XE (Rep X.K) X.K S (zcp tx ts S.M) Q:=fin
 unfold zcp at fin
 split at fin
 ·rename_i z t
  split at fin
  ·rename_i ys q
   split at fin
   ·rename_i zs qz
    split at fin
    ·rename_i hb
     obtain ⟨w1,ws,rfl,h1,h2⟩:=r2.consT
     cases h2.nilT
     obtain ⟨p,vs,rfl,hq,rs'⟩:=zm m h1 q
     cases r1
     have e:=zep qz
     subst e
     have ev:vs = zs.map V.str:=by
      refine ext_getElem? fun i=>?_
      have l:=rs'.1
      rw [Qg] at l
      by_cases hi:i < zs.length
      ·have a1:vs[i]? = some (vs[i]'(by omega)):=Q0 _
       have a2:=rs'.2 i (.str zs[i]) _ (by rw [Qa,Q0 hi];rfl) a1
       rw [a1,Qa,Q0 hi]
       generalize vs[i]'(by omega) = w at a2
       cases a2
       rfl
      ·rw [getElem?_eq_none (by omega),getElem?_eq_none (by rw [Qg];omega)]
     rw [ev] at hq
     exact zjr pins s σ S.H _ _ v us Q I rx rs ⟨z,p,zs,rfl,rfl,hq,hb,fin S _ rfl (.refl m) (.str _)⟩
    ·exact fin.elim
   ·exact fin.elim
  ·exact fin.elim
 ·exact fin.elim
theorem zlo (he:GE X XE e f):GI X XE tg e (iTx f):=PI.imp (zkv he) fun σ H R h9=>by
 obtain ⟨S,στ,_,e,m,ev,_,fin⟩:=h9
 replace fin:Fin XE (zaF X.K) X.K S ((f στ S.M).bind fun t M1=>match t with | .str z=>.ok (sgT z) M1 | _=>.bad) R:=fin
 refine ⟨S,στ,(),e,m,ev,trivial,?_⟩
 show Fin XE (Rep X.K) X.K S (f στ S.M) _
 cases o:f στ S.M with
 | bad=>rw [o] at fin;exact fin.elim
 | exn C fs M'=>rw [o] at fin;exact fin
 | ok t M1=>
  rw [o] at fin
  cases t with
  | str z=>
   intro S1 v e1 s1 r1
   cases r1
   refine ⟨z,rfl,fin S1 _ e1 s1 fun S3 s3=>⟨fun i t et=>?_,fun i hi=>?_⟩⟩
   ·unfold sgT at et
    rw [Qa] at et
    cases q:z.cps.toList[i]? with
    | none=>rw [q] at et;cases et
    | some c=>
     rw [q] at et
     cases et
     have hi:i < z.cps.size:=by
      have:=(List.getElem?_eq_some_iff.mp q).1
      simpa using this
     refine ⟨hi,fun x H' hy=>?_⟩
     obtain ⟨rfl,c',hc,rfl⟩:=hy
     have:c' = c:=by
      rw [Array.getElem?_toList] at q
      rw [q] at hc
      exact (Qc hc).symm
     subst this
     exact ⟨S3,rfl,rfl,.refl s3.mok,.str _⟩
   ·show z.cps.size<=i
    unfold sgT at hi
    simpa using hi
  | _=>exact fin.elim
end
noncomputable def zmY (XE:XK) (K:Frag):V->Option Int->Option Int->Hp->VK->Prop:=fun x lo hi H Q=>∃ S t,S.H = H/\MemOk K S/\Rep K S t x/\Fin XE (Rep K) K S (zbj t lo hi S.M) Q
variable {p q:Ev->Mem->Out (Option Int)} {p2 pos:Pos}
section
theorem zmM:SlR X (zmY XE X.K):=by
 intro pins s σ H x v vl vu lo hi sl Q I rx hs pl pu ⟨S,t,e,m,r,fin⟩
 unfold zbj at fin
 split at fin
 ·cases r
  split at fin
  ·rename_i hz
   subst e
   exact zkg pins s σ S.H _ v vl vu lo hi sl Q I rx hs pl pu ⟨_,rfl,hz,fin S _ rfl (.refl m) (.str _)⟩
  ·exact fin.elim
 ·exact zkh pins s σ H x v vl vu lo hi sl Q I rx hs pl pu ⟨S,_,e,m,r,fin⟩
end
section
theorem ziR (he:WE X XE e f):WI X XE tg e (iTx f):=⟨zlo he.pe⟩
end
section
theorem zfn {lo hi:Option Expr} (he:WE X XE e f) (hl:WO X XE lo p) (hu:WO X XE hi q):WE X XE (.Subscript e (.Slice lo hi none p2) pos) (zeZ f p q):=by
 have he:=he.pe
 have hl:=hl.pe
 have hu:=hu.pe
 exact ⟨PE.imp (zez zmM he hl hu) fun σ H Q hh=>
  LN.mono (LN.bind (f:=fun _ σ M=>f σ M) (k:=fun _ x σ M1=>(p σ M1).bind fun lo M2=>(q σ M2).bind fun hi M3=>zbj x lo hi M3) (RB:=Rep X.K) hh) fun v H1 h1=>
   LN.mono (LN.env (f:=p) (LN.bind (f:=fun _ σ M=>p σ M) (k:=fun (ax:Unit × T) lo σ M2=>(q σ M2).bind fun hi M3=>zbj ax.2 lo hi M3) (RB:=EqR) h1)) fun l H2 h2=>
    LN.mono (LN.env (f:=q) (LN.bind (f:=fun _ σ M=>q σ M) (k:=fun (ax:(Unit × T) × Option Int) hi σ M3=>zbj ax.1.2 ax.2 hi M3) (RB:=EqR) h2)) fun w H3 h9=>by
     obtain ⟨S,στ,a,e,m,ev,ra,fin⟩:=h9
     have e1:a.1.2 = l:=ra.1.2
     have e2:a.2 = w:=ra.2
     exact ⟨S,a.1.1.2,e,m,ra.1.1.2,by rw [← e1,← e2];exact fin⟩⟩
end
end FT
namespace L2
open PySem PySem.Spec PyProof.Rows
structure XiAt (K:Frag) (D:Addr):Prop where
 ga:PySem.W.findIn K (.ref D) "__getattribute__" = some (some (.builtin "BaseException.__getattribute__"))
 gt:PySem.W.findIn K (.ref D) "__getattr__" = some none
 c:(PySem.W.clsIn K D).isSome = true
 a:PySem.W.findIn K (.ref D) "__class__" = some (some (.builtin "object.__class__"))
 n:PySem.W.specialIn K (.builtin "object.__class__") "__get__" = some (some (.builtin "getset_descriptor.__get__"))
 t:PySem.W.takesIn K (.builtin "object.__class__") = some true
 m:PySem.W.mroIn K D (.type "object") = some true
 be:PySem.W.mroIn K D (.type "BaseException") = some true
end L2
namespace FT
open PySem PySem.Spec PyProof.Rows L2
structure IsAt (K:Frag) (mg:Str->Option Value) (y:Str) (g:Addr->Option Bool):Prop where
 ex:∃ (v:V) (c:Value),RelV v c/\(mg y = some c\/(mg y = none/\bootBuiltins y = some c))/\(∀ u,RelV v u->u = c)/\∀ C b,g C = some b->XiAt K C/\PySem.W.kitOne K (.ref C) c = some b
structure XmAt (K:Frag) (D W:Addr):Prop where
 ga:PySem.W.findIn K (.ref D) "__getattribute__" = some (some (.builtin "BaseException.__getattribute__"))
 gt:PySem.W.findIn K (.ref D) "__getattr__" = some none
 a:PySem.W.findIn K (.ref D) "__class__" = some (some (.builtin "object.__class__"))
 n:PySem.W.specialIn K (.builtin "object.__class__") "__get__" = some (some (.builtin "getset_descriptor.__get__"))
 t:PySem.W.takesIn K (.builtin "object.__class__") = some true
 mro:(PySem.W.clsIn K D).map (·.mro) = some (.ref D :: .ref W :: zdF)
 ty:PySem.W.typeIn K (.ref D) = some (.type "type")
section
variable {K:Frag} {mg:Str->Option Value} {C D W Y:Addr} {y:Str} {ks:List Addr}
theorem XmAt.in (x:XmAt K D W) (base:Value):PySem.W.mroIn K D base = some ((Value.ref D :: .ref W :: zdF).contains base):=by
 obtain ⟨cd,h,e⟩:=Option.map_eq_some_iff.mp x.mro
 unfold PySem.W.mroIn
 rw [h,Option.bind_some,e]
 rfl
theorem XmAt.cls (x:XmAt K D W):(PySem.W.clsIn K D).isSome = true:=by
 obtain ⟨cd,h,e⟩:=Option.map_eq_some_iff.mp x.mro
 rw [h]
 rfl
theorem zbS (a b:Value) (l:List Value):(b :: l).contains a = (a == b || l.contains a):=List.contains_cons
theorem XmAt.xi (x:XmAt K D W):XiAt K D:=⟨x.ga,x.gt,x.cls,x.a,x.n,x.t,by rw [x.in,zbS,zbS,show zdF.contains (.type "object") = true by decide +kernel,Bool.or_true,Bool.or_true],by rw [x.in,zbS,zbS,show zdF.contains (.type "BaseException") = true by decide +kernel,Bool.or_true,Bool.or_true]⟩
end
end FT
namespace L2
open PySem PySem.Spec PyProof.Rows
noncomputable def zbL (a:List Str) (x:Str):List Str:=if x ∈ a then a else a ++ [x]
noncomputable def met (ss:List Str):List Str:=ss.foldl zbL []
variable {ss:List Str}
theorem zeF {i:Nat} {x:Str} (h:ss[i]? = some x):met (ss.take (i + 1)) = zbL (met (ss.take i)) x:=by
 unfold met
 rw [take_succ,h,List.foldl_append]
 rfl
theorem zh0 (a:List Str) (x:Str):(zbL a x).length<=a.length + 1:=by
 unfold zbL
 split
 ·omega
 ·simp
theorem zjt (ss:List Str) (i:Nat):(met (ss.take i)).length<=i:=by
 induction i with
 | zero=>exact Q3 _
 | succ i ih=>
  cases h:ss[i]? with
  | none=>rw [take_succ,h];simp only [Option.toList_none,append_nil];omega
  | some x=>
   rw [zeF h]
   have:=zh0 (met (ss.take i)) x
   omega
variable {l:Addr} {h:Heap} {ks:List Str} {its:List Value} {w:World}
section
variable {prog:Program} {A:Around} {I:Addr} {fp wr:List Addr} {G:Array GenState->Array GenState->Prop} {n:Nat} {P:Nat->Value->Prop} {St:Nat->Shared->Prop} {R:Result->Shared->Prop}
noncomputable abbrev SetTx (prog:Program) (w:World) (h:Heap) (a:Addr) (ks:List Str):Prop:=h.SetOf (PySem.strKind prog w) a (fun k=>decide (k ∈ ks)) ks.length
theorem SetTx.keep {h':Heap} {a:Addr} (x:SetTx prog w h a ks) (k:∀ o,h.get? a = some o->h'.get? a = some o):SetTx prog w h' a ks:=by
 obtain ⟨o,es,ep,t,ho,r⟩:=x
 exact ⟨o,es,ep,t,k _ ho,r⟩
theorem zgS (W:WalksS prog w A.in1 I fp wr G ss.length P St) (S:Addr) (hS:S ∉ fp) (hP:∀ i v,P i v->∃ x t,ss[i]? = some x/\v = .str x t) (hn:ss.length + 1 < scanBound) :
  ∀ (k i:Nat) (s:Shared),ss.length - i = k->i<=ss.length->St i s->SetTx prog w s.heap S (met (ss.take i))->
  (∀ s',Moved (S :: wr) G s s'->SetTx prog w s'.heap S (met ss)->R (.ok (.ret .none)) s')->
  codeAny (model prog w) A (.builtin "set.update.loop" ⟨[.ref S,.ref I],[]⟩) R s:=by
 have hDw:S ∉ wr:=fun h=>hS (W.sub _ h)
 have hsub:∀ b ∈ wr,b ∈ S :: wr:=fun b hb=>mem_cons_of_mem _ hb
 intro k
 induction k with
 | zero=>
  intro i s hk hi hst hD hR
  have hin:i = ss.length:=by omega
  subst hin
  refine codeAny_builtin F.entry_set_update_loop ?_
  rw [Around.under_plainId F.plain_set_update_loop _]
  show wpAny _ A.in1 (pyNext (.ref I) >>= _) _ _ s
  refine Q1 (W.done s _ _ hst fun s' hm=>?_)
  rw [take_length] at hD
  exact Qe (hR s' (hm.mono hsub) (hD.keep fun o e=>hm.heap S _ hDw e))
 | succ k ih=>
  intro i s hk hi hst hD hR
  have hlt:i < ss.length:=by omega
  refine codeAny_builtin F.entry_set_update_loop ?_
  rw [Around.under_plainId F.plain_set_update_loop _]
  show wpAny _ A.in1 (pyNext (.ref I) >>= _) _ _ s
  refine Q1 (W.item i s _ _ hlt hst fun v s' hPv hst' hm=>?_)
  obtain ⟨x,t,hx,rfl⟩:=hP i v hPv
  have hD':SetTx prog w s'.heap S (met (ss.take i)):=hD.keep fun o e=>hm.heap S _ hDw e
  dsimp only
  refine Q1 (wpAny_holding ?_)
  unfold setAdd
  refine wpAny_holding (Q1 ((PySem.strKind prog w).pyHash (k:=x) (by simp [PySem.strKind,Value.isStrOf]) ?_))
  have hl:=zjt ss i
  refine wpAny_setAddHashed_of (knd:=PySem.strKind prog w) (s:={ s' with toks:=s'.toks + 1 }) (k:=x) (by simp [PySem.strKind,Value.isStrOf]) rfl hD' (by omega) fun h' hs hd=>?_
  refine Qe ⟨plainId_quiet F.plain_set_update_loop _,?_⟩
  have kp:∀ b o,b ∉ S :: wr->s'.heap.get? b = some o->h'.get? b = some o:=fun b o hb e=>(hs.2 b fun z=>hb (z ▸ mem_cons_self)).trans e
  have em:=zeF hx
  have hd2:SetTx prog w h' S (met (ss.take (i + 1))):=by
   rw [em]
   unfold zbL
   have e1:∀ (b:Prop) [Decidable b],(decide b = true) = b:=fun b _=>by simp
   split
   ·rename_i hm
    simp only [hm,decide_true,if_true] at hd
    refine SetOf_congr hd (fun k'=>?_) rfl
    by_cases q:k' = x
    ·subst q;simp [hm]
    ·simp [q]
   ·rename_i hm
    simp only [hm,decide_false,Bool.false_eq_true,if_false] at hd
    rw [SetTx,Qm,Qs]
    refine SetOf_congr hd (fun k'=>?_) rfl
    simp
  exact ih (i + 1) { s' with heap:=h',toks:=s'.toks + 1 } (by omega) hlt (W.frame _ s' _ _ hst' (Nat.le_succ _) fun b hb o e=>(hs.2 b fun z=>hS (z ▸ hb)).trans e) hd2 fun s2 hm2 hD3=>hR s2 (Moved.trans W.gtrans ((hm.mono hsub).then_heap (Nat.le_succ _) kp) hm2) hD3
variable {E:Value->Shared->Prop} {s:Shared}
theorem zfk {v:Value} {Q:Bool->Shared->Prop} (hT:s.TypeIs v "list") (h:Q false s):wpAny (model prog w) A (Builtin.Frozenset.isAnySet v) Q E s:=by
 unfold Builtin.Frozenset.isAnySet
 refine Q1 (wpAny_isInstance hT PySem.F.sub_list_set ?_)
 exact wpAny_isInstance hT PySem.F.sub_list_frozenset h
theorem zhC {S:Addr} {nm:String} {Q:Unit->Shared->Prop} (hh:A.handled = none) (hl:s.heap.IsList l its.toArray) (hs:SetTx prog w s.heap S []) (hlen:its.length = ss.length) (hv:∀ (i:Nat) v,its[i]? = some v->∃ x t,ss[i]? = some x/\v = .str x t) (hn:ss.length + 1 < scanBound) (hSl:l ≠ S)
 (h:∀ h' tk,SetTx prog w h' S (met ss)->(∀ b o,b ≠ S->s.heap.get? b = some o->h'.get? b = some o)->Q () { s with heap:=h',toks:=tk }) :
  wpAny (model prog w) A (Builtin.Frozenset.updateFrom nm S (.ref l)) Q E s:=by
 obtain ⟨o,ho,hc,c⟩:=hl
 have hT:s.TypeIs (.ref l) "list":=⟨o,ho,hc⟩
 unfold Builtin.Frozenset.updateFrom
 refine Q1 (zfk hT ?_)
 rw [if_neg (by simp)]
 refine Q1 (wpAny_typeOf hT ?_)
 rw [if_neg (by decide)]
 refine Q1 (wpAny_pyIter_list ⟨o,ho,hc,c⟩ ?_)
 have hllt:l < s.heap.objs.size:=Qd ho
 have hSlt:S < s.heap.objs.size:=by
  obtain ⟨o,es,ep,t,ho,r⟩:=hs
  exact Qd ho
 have W:=(Walks.list (prog:=prog) (w:=w) (A:=A.in1) hh s.heap.objs.size l (Qj hllt) its.toArray).toS
 refine Q1 (wpAny_runValue ?_)
 rw [show its.toArray.size = ss.length by simpa using hlen] at W
 refine zgS (ss:=ss) (A:=A) (I:=s.heap.objs.size) W S (by
  intro z
  rcases mem_cons.mp z with z | z
  ·exact absurd z (Qj hSlt)
  ·exact hSl (mem_singleton.mp z).symm) (fun i v e=>hv i v (by simpa using e)) hn ss.length 0 _ (by omega) (Nat.zero_le _) ⟨⟨_,Qk _ rfl,rfl,rfl⟩,?_⟩ ?_ fun s' hm hd=>?_
 ·exact ⟨o,Q2 _ ho,hc,c⟩
 ·exact hs.keep fun o e=>Q2 _ e
 ·obtain ⟨h',g',d',tk',o'⟩:=s'
  have x1:g' = s.gens:=hm.gens
  have x2:d' = s.drawn:=hm.drawn
  have x3:o' = s.os:=hm.os
  subst x1 x2 x3
  refine Qe (h h' tk' hd fun b o hb e=>hm.heap b o (fun z=>?_) (Q2 _ e))
  rcases mem_cons.mp z with z | z
  ·exact hb z
  ·exact absurd (mem_singleton.mp z) (Qj (Qd e))
theorem zgt (h:Heap):SetTx prog w (h.push (y6 w)) h.objs.size []:=by
 refine ⟨_,#[],0,_,Qk _ rfl,⟨rfl,rfl,rfl⟩,rfl,fun e he=>by simp at he,fun k=>by simp,by decide,?_,rfl⟩
 simp [SetTable.fits,SetTable.fresh,SetTable.fill]
set_option maxRecDepth 100000 in
set_option maxHeartbeats 3200000 in
theorem zhk {Q:Value->Shared->Prop} (hh:A.handled = none) (hl:s.heap.IsList l its.toArray) (hlen:its.length = ss.length) (hv:∀ (i:Nat) v,its[i]? = some v->∃ x t,ss[i]? = some x/\v = .str x t) (hn:ss.length + 1 < scanBound)
 (h:∀ h' tk,(∀ b o,s.heap.get? b = some o->h'.get? b = some o)->SetTx prog w h' s.heap.objs.size (met ss)->Q (.ref s.heap.objs.size) { s with heap:=h',toks:=tk }) :
  wpAny (model prog w) A (call (.type "set") [.ref l]) Q E s:=by
 obtain ⟨c,tl,hmro⟩:=PySem.F.called_set.mro
 have hmade:=PySem.F.called_set.made
 have hsub:=PySem.F.called_set.sub
 refine wpAny_call (codeAny_of_tree ?_)
 show wpAny _ _ (callAny (.type "set") _) _ _ _
 refine Qe ⟨Code.quiet_builtin _ (by decide +kernel),codeAny_builtin PySem.F.entry_type_call ?_⟩
 rw [Around.under_plain (weight_type_call_type "set" [.ref l] []) rfl]
 have h1:=PySem.F.called_set.notType
 have h2:=PySem.F.called_set.canCreate
 have hct:=PySem.F.typeCall_set_1 (.ref l)
 repeat (any_goals (first | assumption | wp_step))
 refine codeAny_mono (zge (.ref l) (E:=E) (Q₁:=fun obj s₁=>obj = .ref s.heap.objs.size/\s₁ = { s with heap:=s.heap.push (y6 w) }) ⟨rfl,rfl⟩) fun r s₁ hr=>?_
 cases r with
 | error e=>exact hr
 | ok fl=>
  cases fl with
  | ret obj=>
   obtain ⟨rfl,rfl⟩:=hr
   have hS:(s.heap.push (y6 w)).get? s.heap.objs.size = some (y6 w):=Qk _ rfl
   have hT:Shared.TypeIs { s with heap:=s.heap.push (y6 w) } (.ref s.heap.objs.size) "set":=⟨_,hS,rfl⟩
   have hli:=PySem.F.called_set.init.lookup
   have hbi:=PySem.F.called_set.init.bind (.ref s.heap.objs.size)
   repeat (any_goals (first | assumption | wp_step))
   refine codeAny_mono (codeAny_call_builtin (R:=wants (fun r s₂=>r = .none/\∃ h' tk,s₂ = { s with heap:=h',toks:=tk }/\(∀ b o,s.heap.get? b = some o->h'.get? b = some o)/\SetTx prog w h' s.heap.objs.size (met ss)) E) PySem.F.called_set.init.plain PySem.F.entry_set_init (check_set_init_1 hT ?_)) fun r₂ s₂ hr₂=>?_
   ·have hl':(s.heap.push (y6 w)).IsList l its.toArray:=by
     obtain ⟨o,ho,c⟩:=hl
     exact ⟨o,Q2 _ ho,c⟩
    have hne:l ≠ s.heap.objs.size:=by
     obtain ⟨o,ho,c⟩:=hl
     exact Qj (Qd ho)
    unfold Builtin.«set.__init__» noKeywords
    have hU:=fun A' Q' E' hA h'=>zhC (prog:=prog) (w:=w) (A:=A') (E:=E') (s:={ s with heap:=s.heap.push (y6 w) }) (S:=s.heap.objs.size) (nm:="set.__init__") (Q:=Q') hA hl' (zgt s.heap) hlen hv hn hne h'
    generalize Builtin.Frozenset.updateFrom = U at hU ⊢
    wp_walk
    refine hU _ _ _ hh fun h' tk ds kp=>Qe ⟨rfl,h',tk,rfl,fun b o e=>kp b o (Qj (Qd e)) (Q2 _ e),ds⟩
   ·cases r₂ with
    | error e=>exact hr₂
    | ok fl₂=>
     cases fl₂ with
     | ret r=>
      obtain ⟨rfl,h',tk,rfl,k1,k3⟩:=hr₂
      repeat (any_goals (first | assumption | wp_step))
      exact h _ _ k1 k3
     | _=>exact hr₂.elim
  | _=>exact hr.elim
end
noncomputable def zgn (P:Program) (w:World) (a:Addr) (ks:List Str):HO:=.ext fun h=>SetTx P w h a ks
theorem zhH {P:Program} {H:Hp} {a:Addr} (d:SetTx P w h a ks):ObjOk P w H h a (zgn P w a ks):=by
 obtain ⟨o,es,ep,t,ho,r⟩:=id d
 exact ⟨d,⟨o,ho⟩,fun h1 h2 x k=>x.keep k⟩
variable {X:Cx}
section
theorem zgg (hc:X.calm = true):CallR X (.type "set") (fun xs H Q=>∃ (p:Addr) (ss:List Str),xs = [.ref p]/\SqL X.K H p (ss.map V.str)/\ss.length + 1 < scanBound/\∀ c,H c = none->Q (.ref c) (upd H c (zgn X.prog X.w c (met ss)))):=by
 intro pins s σ H xs us Q I r h
 obtain ⟨p,ss,rfl,hq,hl,q⟩:=h
 obtain ⟨u,rfl,rx⟩:=vals1 r
 cases rx
 obtain ⟨its,r',pl,hz⟩:=I.list hq
 have hlen:=r'.length
 rw [Qg] at hlen
 refine zhk (ss:=ss) (I.ok.hd hc) pl.isList hlen.symm (fun i v e=>?_) hl fun h' tk k1 ds=>?_
 ·have hi:i < ss.length:=by have:=(List.getElem?_eq_some_iff.mp e).1;omega
  have e2:(ss.map V.str)[i]? = some (V.str ss[i]):=by rw [Qa,Q0 hi];rfl
  obtain ⟨u,hu,t,ht⟩:=Vals.get r' e2
  rw [e] at hu
  cases hu
  exact ⟨ss[i],t,Q0 hi,ht⟩
 ·exact ⟨.ref s.heap.objs.size,_,I.laid (t':=tk) k1 (Q3 _) (zhH ds),rfl,q _ I.fresh⟩
theorem zgh:CallR X (.builtin "len") (fun xs H Q=>∃ (c:Addr) (ks:List Str),xs = [.ref c]/\H c = some (zgn X.prog X.w c ks)/\Q (.int ks.length) (zbW H c)):=by
 intro pins s σ H xs us Q I r h
 obtain ⟨c,ks,rfl,hq,q⟩:=h
 obtain ⟨u,rfl,rx⟩:=vals1 r
 cases rx
 obtain ⟨⟨o,es,ep,t,ho,hx,hd,he,hk,hb,hf,hn⟩,_⟩:=I.hok c _ hq
 refine call_len_set ho hx hd hf (by have:es.size < 4096:=hb;omega) ?_
 exact ⟨.int ks.length,_,(I.let hq).tok _,⟨_,by rw [hn]⟩,q⟩
end
set_option maxRecDepth 100000 in
theorem zgU (l:Addr) (items:Array Value) (n:Nat) (x:Int) (u:Tok) (dd:Option Addr) (sl:Array (Option Value)) (h1:¬(!Builtin.List.listFitsIndex x) = true) (h2:¬items.size * x.toNat > (2 ^ 63 - 1) / 8) (h3:¬Builtin.List.listTooLong (items.size * x.toNat) = true)
  (h4:¬ (List.foldl (fun x1 x2=>x1 ++ x2) #[] (List.replicate (if items.isEmpty = true then 0 else x.toNat) items)).size > sizeLine) :
  Meets (Builtin.«list.__mul__» ⟨[.ref l,.int x u],[]⟩) fun _ R s=>s.heap.get? l = some ⟨.type "list",dd,.seq items n,sl⟩ /\
   R (.ok (.ret (.ref s.heap.objs.size))) { s with heap:=s.heap.push { cls:=.type "list",data:=.seq (List.foldl (fun x1 x2=>x1 ++ x2) #[] (List.replicate (if items.isEmpty = true then 0 else x.toNat) items)) } }:=by
 intro prog w A R s ⟨e,q⟩
 unfold Builtin.«list.__mul__»
 wp_delta
 obtain ⟨h,g,d,t,os⟩:=s
 repeat (any_goals (first | assumption | wp_step))
 rw [if_neg h4]
 repeat (any_goals (first | assumption | wp_step))
set_option maxRecDepth 100000 in
theorem zlW (a:Int) (t:Tok) (l:Addr) (items:Array Value) (n:Nat) (dd:Option Addr) (sl:Array (Option Value)) :
  Meets (Builtin.«int.__rmul__» ⟨[.int a t,.ref l],[]⟩) fun _ R s=>s.heap.get? l = some ⟨.type "list",dd,.seq items n,sl⟩/\R (.ok (.ret .notImplemented)) s:=by
 intro prog w A R s ⟨e,q⟩
 unfold Builtin.«int.__rmul__»
 obtain ⟨h,g,d,t,os⟩:=s
 repeat (any_goals (first | assumption | wp_step))
theorem zjg:OpR X (binaryOp .Mult) (fun x y H Q=>∃ l k xs,x = .ref l/\y = .int k/\SqL X.K H l xs/\-(2 ^ 63)<=k/\k < 2 ^ 63/\xs.length * k.toNat<=sizeLine/\∀ p,H p = none->Q (.ref p) (upd H p (.lst (List.replicate k.toNat xs).flatten))):=by
 intro pins s σ H x y v u Q I rx ry h
 obtain ⟨l,k,xs,rfl,rfl,hH,h1,h2,hz,q⟩:=h
 cases rx
 obtain ⟨t,rfl⟩:=ry
 obtain ⟨its,r,pl,z⟩:=I.list hH
 have hl:=r.length
 obtain ⟨⟨cls,dd,data,sl⟩,n,e,hc,hdi,hd⟩:=pl
 simp only at hc hd
 subst hc hd
 have hlen:its.toArray.size * k.toNat<=sizeLine:=by rw [Qh,← hl];exact hz
 have hcap:¬ its.toArray.size * k.toNat > (2 ^ 63 - 1) / 8:=by
  have:(sizeLine:Nat)<=(2 ^ 63 - 1) / 8:=by decide
  omega
 have hfit:¬ (!Builtin.List.listFitsIndex k) = true:=by
  rw [fitsIndex_both h1 h2]
  exact Q4
 have hlong:¬ Builtin.List.listTooLong (its.toArray.size * k.toNat) = true:=by
  rw [zhW hlen]
  exact Q4
 have hnew:List.foldl (fun x1 x2=>x1 ++ x2) #[] (List.replicate (if its.toArray.isEmpty = true then 0 else k.toNat) its.toArray) = (List.replicate k.toNat its).flatten.toArray:=by
  have f0:∀ m:Nat,List.foldl (fun x1 x2=>x1 ++ x2) #[] (List.replicate m its.toArray) = (List.replicate m its).flatten.toArray:=fun m=>by
   have:=foldl_rep its m []
   rw [nil_append] at this
   exact this
  rw [f0]
  cases its with
  | nil=>simp
  | cons a r'=>rw [if_neg (by simp)]
 have hbig:¬ (List.foldl (fun x1 x2=>x1 ++ x2) #[] (List.replicate (if its.toArray.isEmpty = true then 0 else k.toNat) its.toArray)).size > sizeLine:=by
  rw [hnew,Qh,len_rep,Nat.mul_comm]
  rw [Qh] at hlen
  omega
 refine wpAny_binaryOp_repeat_ref (T:="list") (U:="int") (by decide) ⟨_,e,rfl⟩ (fun s'=>typeIs_int s' k t) noFill_list_mul F.fills_int_mul F.slot_int_rmul repeat_list F.slot_int_index.lookup
  (call_meets F.slot_int_rmul (typeIs_int s k t) F.entry_int_rmul (F.args_int_rmul_2 _ _) (zlW k t l its.toArray n dd sl)
   ⟨e,rfl,⟨_,e,rfl⟩,call_meets F.slot_list_mul ⟨_,e,rfl⟩ F.entry_list_mul (F.args_list_mul_2 _ _) (zgU l its.toArray n k t dd sl hfit hcap hlong hbig) ⟨e,?_⟩⟩)
 rw [hnew]
 exact ⟨.ref _,_,I.lnew (t':=s.toks) (r.rep k.toNat) (by rw [len_rep,Nat.mul_comm];exact hz),rfl,q _ I.fresh⟩
end L2
namespace FT
open PySem PySem.Spec PyProof.Rows L2
noncomputable def zdo:T->T->Mem->Out (List T):=fun x y M=>match qm x M,y with
 | some xs,.int k=>if 0<=k/\k<=8/\xs.length<=1000 then .ok (List.replicate k.toNat xs).flatten M else .bad
 | _,_=>.bad
variable {X:Cx} {XE:XK}
theorem zjh:OpR X (binaryOp .Mult) (zf7 XE X.K zdo):=by
 intro pins s σ H x y v u Q I rx ry ⟨S,⟨tx,ty⟩,e,m,⟨r1,r2⟩,fin⟩
 subst e
 replace fin:FinL XE X.K S (zdo tx ty S.M) Q:=fin
 unfold zdo at fin
 split at fin
 ·rename_i xs k q1
  split at fin
  ·rename_i hz
   obtain ⟨p,vs,e1,h1,s1⟩:=zm m r1 q1
   dsimp only at e1
   subst e1
   cases r2
   refine zjg pins s σ S.H _ _ v u Q I rx ry ⟨p,k,vs,rfl,rfl,h1,by omega,by omega,?_,zcL m fin (s1.rep _)⟩
   rw [← s1.1,sizeLine_eq]
   exact Qi (Nat.mul_le_mul hz.2.2 (show k.toNat<=8 by omega)) (by decide)
  ·exact fin.elim
 ·exact fin.elim
noncomputable def zbE:List T->Option (List Str)
 | []=>some []
 | .str x :: ts=>(zbE ts).map (x :: ·)
 | _ :: _=>none
theorem zdN {K:Frag} {S:Sit}:∀ {ts:List T} {ss:List Str} {vs:List V},zbE ts = some ss->Reps K S ts vs->vs = ss.map V.str
 | [],ss,vs,h,r=>by cases h;rw [r.nilT];rfl
 | .str x :: ts,ss,vs,h,r=>by
  unfold zbE at h
  cases q:zbE ts with
  | none=>rw [q] at h;cases h
  | some s2=>
   rw [q] at h
   cases h
   obtain ⟨u,us,rfl,r1,r2⟩:=r.consT
   rw [zdN q r2]
   cases r1
   rfl
 | .non :: _,_,_,h,_=>by cases h
 | .bl _ :: _,_,_,h,_=>by cases h
 | .int _ :: _,_,_,h,_=>by cases h
 | .ty _ :: _,_,_,h,_=>by cases h
 | .tup _ :: _,_,_,h,_=>by cases h
 | .lst _ :: _,_,_,h,_=>by cases h
 | .dct _ :: _,_,_,h,_=>by cases h
 | .ref _ :: _,_,_,h,_=>by cases h
 | .exc _ _ :: _,_,_,h,_=>by cases h
noncomputable def zax (ts:List T) (M:Mem):Out T:=match ts with
 | [t]=>match qm t M with
  | some xs=>match zbE xs with
   | some ss=>if ss.length < 4000 then .ok (.int (met ss).length) M else .bad
   | none=>.bad
  | none=>.bad
 | _=>.bad
variable {ga:Ev->Mem->Out (List T)} {p1 p2 q1 q2:Pos}
section
theorem zhD {H:Hp} {c:Addr} {o:HO} (h:H c = none):zbW (upd H c o) c = H:=by
 funext z
 unfold zbW upd
 by_cases e:z = c
 ·rw [if_pos e,e,h]
 ·rw [if_neg e,if_neg e]
end
section
theorem zfM {a:Expr} (hc:X.calm = true) (hg:Gl X "len") (hm:X.mg "len" = none) (hgt:Gl X "set") (hmt:X.mg "set" = none) (ha:WA X XE [a] ga) (na:noStar a = true:=by rfl):WE X XE (.Call (.Name "len" p1) [.Call (.Name "set" p2) [a] [] q1] [] q2) (zd zax ga):=by
 have ha:=ha.pe
 refine ⟨?_⟩
 have bs:bootBuiltins "len" = some (.builtin "len"):=by decide +kernel
 have bt:bootBuiltins "set" = some (.type "set"):=by decide +kernel
 refine PE.imp (zeA (x:="len") (p:=p1) (pos:=q2) zgh hg hm bs (zfv (zb3 (x:="set") (p:=p2) (pos:=q1) (zgg hc) hgt hmt bt ha (by decide) (by decide) (yM na) rfl) zgF) (by decide) (by decide)) fun σ H Q hh=>?_
 refine LN.mono (LN.bind (f:=fun _ σ M=>ga σ M) (k:=fun _ ts σ M1=>zax ts M1) (RB:=Reps X.K) hh) fun vs H1 ⟨S,στ,a,e,m,ev,ra,fin⟩=>?_
 obtain ⟨u,ts⟩:=a
 have r:Reps X.K S ts vs:=ra.2
 replace fin:Fin XE (Rep X.K) X.K S (zax ts S.M) Q:=fin
 unfold zax at fin
 split at fin
 ·split at fin
  ·rename_i t xs q
   split at fin
   ·rename_i ss hs
    split at fin
    ·rename_i hl
     obtain ⟨w,vs1,rfl,r1,r2⟩:=r.consT
     have:=r2.nilT
     subst this
     subst e
     obtain ⟨p,ws,rfl,hq,rs2⟩:=zm m r1 q
     cases zdN hs rs2
     refine ⟨p,ss,rfl,hq,by show _ < 4096;omega,fun c hc=>⟨c,_,rfl,zy,?_⟩⟩
     rw [zhD hc]
     exact fin S _ rfl (.refl m) (.int _)
    ·exact fin.elim
   ·exact fin.elim
  ·exact fin.elim
 ·exact fin.elim
end
noncomputable def kd (M:Mem) (t:T):Nat:=if yp t = true then 1 else match t with
 | .tup _=>2
 | t=>match qm t M with
  | some _=>3
  | none=>0
noncomputable def mix (M:Mem) (x y:T):Bool:=decide (kd M x ≠ 0/\kd M y ≠ 0/\kd M x ≠ kd M y)
noncomputable def eqE (M:Mem):Nat->T->T->Option Bool
 | 0,x,y=>if (yp x && yp y) = true then some (eqS x y) else if mix M x y = true then some false else none
 | d + 1,.tup xs,.tup ys=>eqL (eqE M d) xs ys
 | d + 1,x,y=>if (yp x && yp y) = true then some (eqS x y) else if mix M x y = true then some false else match qm x M,qm y M with
  | some xs,some ys=>if xs.length = ys.length then eqL (eqE M d) xs ys else some false
  | _,_=>none
variable {t u:T} {v:V}
section
variable {pins:List (Addr × Obj)} {s:Shared} {σ:L2.St} {S:Sit}
theorem zbM (I:L2.Inv X pins σ S.H s) (m:MemOk X.K S) (r:Rep X.K S t v) (h:kd S.M t ≠ 0) :
  (kd S.M t = 1/\zL v = true)\/(kd S.M t = 2/\∃ p its,v = .ref p/\s.heap.IsTuple p its)\/(kd S.M t = 3/\∃ p its,v = .ref p/\s.heap.IsList p its):=by
 unfold kd at h ⊢
 by_cases hs:yp t = true
 ·rw [if_pos hs];exact .inl ⟨rfl,yq r hs⟩
 ·rw [if_neg hs] at h ⊢
  cases r with
  | tup h1 l1 r1=>
   obtain ⟨its,ri,pl,_⟩:=I.tuple h1
   exact .inr (.inl ⟨rfl,_,_,rfl,pl⟩)
  | @lst ts p vs h1 l1 r1=>
   obtain ⟨p',vs',e1,hq1,s1⟩:=zm m (Rep.lst h1 l1 r1) (show qm (.lst ts) S.M = some ts from rfl)
   cases e1
   obtain ⟨its,ri,pl,_⟩:=I.list hq1
   exact .inr (.inr ⟨rfl,_,_,rfl,pl.isList⟩)
  | @ref a ha=>
   cases q:qm (.ref a) S.M with
   | none=>simp only [q] at h;exact absurd rfl h
   | some xs=>
    obtain ⟨p',vs',e1,hq1,s1⟩:=zm m (Rep.ref ha) q
    cases e1
    obtain ⟨its,ri,pl,_⟩:=I.list hq1
    exact .inr (.inr ⟨by show (match qm (.ref a) S.M with | some _=>3 | none=>0) = 3;rw [q],_,_,rfl,pl.isList⟩)
  | _=>first | exact absurd rfl hs | exact absurd rfl h
theorem zgO (I:L2.Inv X pins σ S.H s) (m:MemOk X.K S) {A:Around} (hu:A.units < cLine) {w:V} {x y:Value} (rx:RelV v x) (ry:RelV w y) (r:Rep X.K S t v) (q:Rep X.K S u w) (h:mix S.M t u = true) :
  SeqAt.EqAt A s x y false/\SeqAt.RcAt A s x y false/\SeqAt.RcNeAt A s x y true:=by
 obtain ⟨h1,h2,h3⟩:=of_decide_eq_true h
 rcases zbM I m r h1 with ⟨k1,f1⟩ | ⟨k1,p,its,rfl,t1⟩ | ⟨k1,p,its,rfl,t1⟩ <;> rcases zbM I m q h2 with ⟨k2,f2⟩ | ⟨k2,p2,its2,rfl,t2⟩ | ⟨k2,p2,its2,rfl,t2⟩
 ·exact absurd (k1.trans k2.symm) h3
 ·cases (show y = Value.ref p2 from ry)
  cases v with
  | non=>cases rx;exact ⟨.none_tuple t2 hu,.none_tuple t2 hu,.none_tuple t2 hu⟩
  | bl b=>cases rx;exact ⟨.bool_tuple b t2 hu,.bool_tuple b t2 hu,.bool_tuple b t2 hu⟩
  | int b=>obtain ⟨t,rfl⟩:=rx;exact ⟨.int_tuple b t t2 hu,.int_tuple b t t2 hu,.int_tuple b t t2 hu⟩
  | str b=>obtain ⟨t,rfl⟩:=rx;exact ⟨.str_tuple b t t2 hu,.str_tuple b t t2 hu,.str_tuple b t t2 hu⟩
  | _=>cases f1
 ·cases (show y = Value.ref p2 from ry)
  cases v with
  | non=>cases rx;exact ⟨.none_list t2 hu,.none_list t2 hu,.none_list t2 hu⟩
  | bl b=>cases rx;exact ⟨.bool_list b t2 hu,.bool_list b t2 hu,.bool_list b t2 hu⟩
  | int b=>obtain ⟨t,rfl⟩:=rx;exact ⟨.int_list b t t2 hu,.int_list b t t2 hu,.int_list b t t2 hu⟩
  | str b=>obtain ⟨t,rfl⟩:=rx;exact ⟨.str_list b t t2 hu,.str_list b t t2 hu,.str_list b t t2 hu⟩
  | _=>cases f1
 ·cases (show x = Value.ref p from rx)
  cases w with
  | non=>cases ry;exact ⟨.tuple_none t1 hu,.tuple_none t1 hu,.tuple_none t1 hu⟩
  | bl b=>cases ry;exact ⟨.tuple_bool b t1 hu,.tuple_bool b t1 hu,.tuple_bool b t1 hu⟩
  | int b=>obtain ⟨t,rfl⟩:=ry;exact ⟨.tuple_int b t t1 hu,.tuple_int b t t1 hu,.tuple_int b t t1 hu⟩
  | str b=>obtain ⟨t,rfl⟩:=ry;exact ⟨.tuple_str b t t1 hu,.tuple_str b t t1 hu,.tuple_str b t t1 hu⟩
  | _=>cases f2
 ·exact absurd (k1.trans k2.symm) h3
 ·cases (show x = Value.ref p from rx)
  cases (show y = Value.ref p2 from ry)
  exact ⟨.tuple_list t1 t2 hu,.tuple_list t1 t2 hu,.tuple_list t1 t2 hu⟩
 ·cases (show x = Value.ref p from rx)
  cases w with
  | non=>cases ry;exact ⟨.list_none t1 hu,.list_none t1 hu,.list_none t1 hu⟩
  | bl b=>cases ry;exact ⟨.list_bool b t1 hu,.list_bool b t1 hu,.list_bool b t1 hu⟩
  | int b=>obtain ⟨t,rfl⟩:=ry;exact ⟨.list_int b t t1 hu,.list_int b t t1 hu,.list_int b t t1 hu⟩
  | str b=>obtain ⟨t,rfl⟩:=ry;exact ⟨.list_str b t t1 hu,.list_str b t t1 hu,.list_str b t t1 hu⟩
  | _=>cases f2
 ·cases (show x = Value.ref p from rx)
  cases (show y = Value.ref p2 from ry)
  exact ⟨.list_tuple t1 t2 hu,.list_tuple t1 t2 hu,.list_tuple t1 t2 hu⟩
 ·exact absurd (k1.trans k2.symm) h3
theorem zgN (I:L2.Inv X pins σ S.H s) (m:MemOk X.K S) (r:Rep X.K S t v) (q:Rep X.K S u v) (h:mix S.M t u = true):False:=by
 obtain ⟨h1,h2,h3⟩:=of_decide_eq_true h
 have tl:∀ {p:Addr} {a b:Array Value},s.heap.IsTuple p a->s.heap.IsList p b->False:=fun ⟨o,e1,e2,_⟩ ⟨o',g1,g2,_⟩=>by
  rw [e1] at g1;cases g1;rw [e2] at g2;exact absurd (Value.type.inj g2) (by decide)
 rcases zbM I m r h1 with ⟨k1,f1⟩ | ⟨k1,p,its,rfl,t1⟩ | ⟨k1,p,its,rfl,t1⟩ <;> rcases zbM I m q h2 with ⟨k2,f2⟩ | ⟨k2,p2,its2,e2,t2⟩ | ⟨k2,p2,its2,e2,t2⟩ <;> first | exact absurd (k1.trans k2.symm) h3 | skip
 ·rw [e2] at f1;cases f1
 ·rw [e2] at f1;cases f1
 ·cases f2
 ·cases e2;exact tl t1 t2
 ·cases f2
 ·cases e2;exact tl t2 t1
theorem zis (I:L2.Inv X pins σ S.H s) (m:MemOk X.K S):∀ (d:Nat) {t u:T} {v:V} {b:Bool},Rep X.K S t v->Rep X.K S u v->eqE S.M d t u = some b->b = true:=by
 intro d
 induction d with
 | zero=>
  intro t u v b r q h
  unfold eqE at h
  split at h
  ·rename_i hs
   rw [Qq] at hs
   cases h
   exact zck r q hs.1 hs.2
  ·split at h
   ·rename_i hm;exact (zgN I m r q hm).elim
   ·cases h
 | succ d ih=>
  have key:∀ {xs ys:List T} {vs:List V} {b:Bool},Reps X.K S xs vs->Reps X.K S ys vs->eqL (eqE S.M d) xs ys = some b->b = true:=by
   intro xs ys vs b r q h
   obtain ⟨e,h1,h2⟩:=zao h
   rw [h2,r.1,q.1]
   simp only [Nat.min_self,beq_self_eq_true,Bool.and_true,all_eq_true,mem_range]
   intro j hj
   have hx:j < xs.length:=by rw [r.1];exact hj
   have hy:j < ys.length:=by rw [q.1];exact hj
   have ex:xs[j]? = some xs[j]:=by simp [hx]
   have ey:ys[j]? = some ys[j]:=by simp [hy]
   have ev:vs[j]? = some vs[j]:=by simp [hj]
   exact ih (r.2 j _ _ ex ev) (q.2 j _ _ ey ev) (h1 j _ _ ex ey)
  intro t u v b r q h
  unfold eqE at h
  split at h
  ·rename_i hd;cases hd
  ·rename_i xs ys hd
   cases hd
   cases r with
   | @tup _ p vs h1 l1 r1=>
   cases q with
   | @tup _ _ vs2 h2 l2 r2=>
   have:=I.tuple_inj h1 h2
   subst this
   exact key ⟨l1,r1⟩ ⟨l2,r2⟩ h
  ·rename_i hd hn
   cases hd
   split at h
   ·rename_i hs
    rw [Qq] at hs
    cases h
    exact zck r q hs.1 hs.2
   ·split at h
    ·rename_i hm;exact (zgN I m r q hm).elim
    ·split at h
     ·rename_i xs ys q1 q2
      obtain ⟨p,vs,e1,hq1,s1⟩:=zm m r q1
      obtain ⟨p2,vs2,e2,hq2,s2⟩:=zm m q q2
      rw [e1] at e2
      cases e2
      have:=I.list_inj hq1 hq2
      subst this
      rw [if_pos (by rw [s1.1,s2.1])] at h
      exact key s1 s2 h
     ·cases h
theorem zhc (I:L2.Inv X pins σ S.H s) (m:MemOk X.K S):∀ (d:Nat) {A:Around} {t u:T} {v w:V} {x y:Value} {b:Bool},A.units + d < cLine->RelV v x->RelV w y->Rep X.K S t v->Rep X.K S u w->eqE S.M d t u = some b->SeqAt.EqAt A s x y b/\SeqAt.RcAt A s x y b/\SeqAt.RcNeAt A s x y (!b):=by
 intro d
 induction d with
 | zero=>
  intro A t u v w x y b hu rx ry r q h
  unfold eqE at h
  split at h
  ·rename_i hs
   rw [Qq] at hs
   cases h
   rw [zbR r q hs.1 hs.2]
   exact ⟨zcb rx ry (yq r hs.1) (yq q hs.2),zex rx ry (yq r hs.1) (yq q hs.2),zcK rx ry (yq r hs.1) (yq q hs.2)⟩
  ·split at h
   ·rename_i hm;cases h;exact zgO I m (by omega) rx ry r q hm
   ·cases h
 | succ d ih=>
  have key:∀ {A:Around} {xs ys:List T} {vs ws:List V} {us zs:List Value} {b:Bool},A.units + d < cLine->Reps X.K S xs vs->Reps X.K S ys ws->Vals vs us->Vals ws zs->eqL (eqE S.M d) xs ys = some b->
    ∃ e:Nat->Bool,(∀ j (h1:j < us.toArray.size) (h2:j < zs.toArray.size),SeqAt.EqAt A s us.toArray[j] zs.toArray[j] (e j))/\b = ((List.range (min us.toArray.size zs.toArray.size)).all e && us.toArray.size == zs.toArray.size):=by
   intro A xs ys vs ws us zs b hu r q hv hw h
   obtain ⟨e,h1,h2⟩:=zao h
   have l1:us.length = xs.length:=by rw [← hv.length,r.1]
   have l2:zs.length = ys.length:=by rw [← hw.length,q.1]
   refine ⟨e,fun j g1 g2=>?_,by rw [h2,Qh,Qh,l1,l2]⟩
   have g1':j < us.length:=by simpa using g1
   have g2':j < zs.length:=by simpa using g2
   have ex:xs[j]? = some (xs[j]'(by omega)):=Q0 (by omega)
   have ey:ys[j]? = some (ys[j]'(by omega)):=Q0 (by omega)
   obtain ⟨v,ev,rv⟩:=r.get ex
   obtain ⟨w,ew,rw'⟩:=q.get ey
   obtain ⟨a,ea,ra⟩:=Vals.get hv ev
   obtain ⟨c,ec,rc⟩:=Vals.get hw ew
   have:us.toArray[j] = a:=by
    rw [getElem_toArray];rw [Q0 g1'] at ea;exact Qc ea
   rw [this]
   have:zs.toArray[j] = c:=by
    rw [getElem_toArray];rw [Q0 g2'] at ec;exact Qc ec
   rw [this]
   exact (ih hu ra rc rv rw' (h1 j _ _ ex ey)).1
  intro A t u v w x y b hu rx ry r q h
  have hsame:v = w->b = true:=fun z=>by subst z;exact zis I m (d + 1) r q h
  unfold eqE at h
  split at h
  ·rename_i hd;cases hd
  ·rename_i xs ys hd
   cases hd
   cases r with
   | @tup _ p vs h1 l1 r1=>
   cases q with
   | @tup _ p2 vs2 h2 l2 r2=>
   cases rx
   cases ry
   obtain ⟨its,ri,pl,_⟩:=I.tuple h1
   obtain ⟨its2,ri2,pl2,_⟩:=I.tuple h2
   obtain ⟨e,he,eb⟩:=key (A:=A.in1) (by show A.units + 1 + d < cLine;omega) ⟨l1,r1⟩ ⟨l2,r2⟩ ri ri2 h
   refine ⟨?_,by rw [eb];exact SeqAt.RcAt.tuples pl pl2 (by omega) he,by rw [eb];exact SeqAt.RcNeAt.tuples pl pl2 (by omega) he⟩
   by_cases hp:p = p2
   ·subst hp
    rw [hsame rfl]
    exact SeqAt.EqAt.same _
   ·rw [eb]
    exact SeqAt.EqAt.of_refs hp (SeqAt.RcAt.tuples pl pl2 (by omega) he)
  ·rename_i hd hn
   cases hd
   split at h
   ·rename_i hs
    rw [Qq] at hs
    cases h
    rw [zbR r q hs.1 hs.2]
    exact ⟨zcb rx ry (yq r hs.1) (yq q hs.2),zex rx ry (yq r hs.1) (yq q hs.2),zcK rx ry (yq r hs.1) (yq q hs.2)⟩
   ·split at h
    ·rename_i hm;cases h;exact zgO I m (by omega) rx ry r q hm
    ·split at h
     ·rename_i xs ys q1 q2
      obtain ⟨p,vs,e1,hq1,s1⟩:=zm m r q1
      obtain ⟨p2,vs2,e2,hq2,s2⟩:=zm m q q2
      subst e1
      subst e2
      cases rx
      cases ry
      obtain ⟨its,ri,pl,_⟩:=I.list hq1
      obtain ⟨its2,ri2,pl2,_⟩:=I.list hq2
      have lz:its.length = xs.length:=by rw [← ri.length,s1.1]
      have lz2:its2.length = ys.length:=by rw [← ri2.length,s2.1]
      have two:SeqAt.RcAt A s (.ref p) (.ref p2) b/\SeqAt.RcNeAt A s (.ref p) (.ref p2) (!b):=by
       by_cases hl:xs.length = ys.length
       ·rw [if_pos hl] at h
        obtain ⟨e,he,eb⟩:=key (A:=A.in1) (by show A.units + 1 + d < cLine;omega) s1 s2 ri ri2 h
        have hsz:its.toArray.size = its2.toArray.size:=by simp [lz,lz2,hl]
        rw [eb,hsz,Nat.min_self,beq_self_eq_true,Bool.and_true,← hsz]
        exact ⟨SeqAt.RcAt.lists pl.isList pl2.isList hsz (by omega) he,SeqAt.RcNeAt.lists pl.isList pl2.isList hsz (by omega) he⟩
       ·rw [if_neg hl] at h
        cases h
        exact ⟨SeqAt.RcAt.lists_lengths pl.isList pl2.isList (by simp [lz,lz2,hl]) (by omega),SeqAt.RcNeAt.lists_lengths pl.isList pl2.isList (by simp [lz,lz2,hl]) (by omega)⟩
      refine ⟨?_,two⟩
      by_cases hp:p = p2
      ·subst hp
       rw [hsame rfl]
       exact SeqAt.EqAt.same _
      ·exact SeqAt.EqAt.of_refs hp two.1
     ·cases h
noncomputable def eqX:T->T->Mem->Out T:=fun x y M=>match eqE M 20 x y with
 | some b=>.ok (.bl b) M
 | none=>.bad
noncomputable def neX:T->T->Mem->Out T:=fun x y M=>match eqE M 20 x y with
 | some b=>.ok (.bl (!b)) M
 | none=>.bad
theorem znu (hu:X.A.units + 64 < cLine):OpR X (compareOp .Eq) (lR2 XE X.K eqX):=by
 intro pins s σ H x y v u Q I rx ry ⟨S,⟨tx,ty⟩,e,m,⟨r1,r2⟩,fin⟩
 subst e
 replace fin:Fin XE (Rep X.K) X.K S (eqX tx ty S.M) Q:=fin
 unfold eqX at fin
 split at fin
 ·rename_i b q
  exact (zhc I m 20 (A:=X.A) (by omega) rx ry r1 r2 q).2.1 _ _ _ _ ⟨.bl b,S.H,I,rfl,fin S _ rfl (.refl m) (.bl _)⟩
 ·exact fin.elim
theorem zkM (hu:X.A.units + 64 < cLine):OpR X (compareOp .NotEq) (lR2 XE X.K neX):=by
 intro pins s σ H x y v u Q I rx ry ⟨S,⟨tx,ty⟩,e,m,⟨r1,r2⟩,fin⟩
 subst e
 replace fin:Fin XE (Rep X.K) X.K S (neX tx ty S.M) Q:=fin
 unfold neX at fin
 split at fin
 ·rename_i b q
  exact (zhc I m 20 (A:=X.A) (by omega) rx ry r1 r2 q).2.2 _ _ _ _ ⟨.bl (!b),S.H,I,rfl,fin S _ rfl (.refl m) (.bl _)⟩
 ·exact fin.elim
end
def Ok {β:Type} (o:Out β) (Q:β->Mem->Prop):Prop:=∃ b M,o = .ok b M/\Q b M
variable {M:Mem}
theorem Ok.ret {β:Type} {b:β} {Q:β->Mem->Prop} (h:Q b M):Ok (.ok b M) Q:=⟨b,M,rfl,h⟩
theorem Ok.of {β:Type} {o:Out β} {b:β} {Q:β->Mem->Prop} (e:o = .ok b M) (h:Q b M):Ok o Q:=⟨b,M,e,h⟩
theorem Ok.bind {β γ:Type} {o:Out β} {k:β->Mem->Out γ} {P:β->Mem->Prop} {Q:γ->Mem->Prop} (h:Ok o P) (g:∀ b M,P b M->Ok (k b M) Q):Ok (o.bind k) Q:=by
 obtain ⟨b,M,e,p⟩:=h
 rw [e]
 exact g b M p
theorem Ok.mono {β:Type} {o:Out β} {P Q:β->Mem->Prop} (h:Ok o P) (g:∀ b M,P b M->Q b M):Ok o Q:=by
 obtain ⟨b,M,e,p⟩:=h
 exact ⟨b,M,e,g b M p⟩
theorem zix {β γ δ:Type} {o:Out β} {k:β->Mem->Out γ} {l:γ->Mem->Out δ}:(o.bind k).bind l = o.bind fun b M=>(k b M).bind l:=by cases o <;> rfl
theorem zna {β γ:Type} {p:Prop} [Decidable p] {x y:Out β} {k:β->Mem->Out γ}:(if p then x else y).bind k = if p then x.bind k else y.bind k:=by split <;> rfl
theorem zm9 {β γ:Type} {k:Bool->Mem->Out β} {l:β->Mem->Out γ}:(blT t M k).bind l = blT t M fun b M=>(k b M).bind l:=by cases t <;> rfl
noncomputable def zcJ (fl:Fl) (M:Mem):Out T:=match fl with
 | .rt t=>.ok t M
 | .nx _=>.ok .non M
 | _=>.bad
theorem znh:zcJ (.rt t) M = .ok t M:=rfl
variable {σ:Ev}
theorem zni:zcJ (.nx σ) M = .ok .non M:=rfl
variable {n:Nat}
theorem zE {p:Nat} {g:Ev->Mem->Out Fl} {ts:List T} {Q:T->Mem->Prop} (h:ts.length = p) (k:Ok ((g (startT n ts) M).bind zcJ) Q):Ok (qr p n g ts M) Q:=by
 obtain ⟨b,M1,e,q⟩:=k
 refine ⟨b,M1,?_,q⟩
 rw [zgy h]
 cases r:g (startT n ts) M with
 | bad=>rw [r] at e;cases e
 | exn C fs M'=>rw [r] at e;cases e
 | ok fl M'=>
  rw [r] at e
  cases fl with
  | rt t=>exact e
  | nx σ=>exact e
  | bk σ=>cases e
  | ct σ=>cases e
def Fr (S:List Nat) (M M':Mem):Prop:=M.length<=M'.length/\∀ i,i < M.length->i ∉ S->M'[i]? = M[i]?
theorem Fr.refl (S:List Nat) (M:Mem):Fr S M M:=⟨Q3 _,fun _ _ _=>rfl⟩
variable {A B C:Mem}
theorem Fr.trans {S:List Nat} (h:Fr S A B) (g:Fr S B C):Fr S A C:=⟨Qi h.1 g.1,fun i hi hs=>by rw [g.2 i (Q5 hi h.1) hs,h.2 i hi hs]⟩
variable {S':List Nat}
theorem Fr.tr {S:List Nat} (h:Fr S A B) (g:Fr S' B C) (s:∀ i ∈ S',i ∈ S\/A.length<=i):Fr S A C:=⟨Qi h.1 g.1,fun i hi hs=>by
 rw [g.2 i (Q5 hi h.1) (fun z=>by rcases s i z with a | a;exact hs a;omega),h.2 i hi hs]⟩
variable {c:Cell} {M':Mem} {i:Nat}
theorem Fr.get {S:List Nat} (h:Fr S M M') (e:M[i]? = some c) (hs:i ∉ S):M'[i]? = some c:=by
 rw [h.2 i (List.getElem?_eq_some_iff.mp e).1 hs];exact e
theorem Fr.get0 (h:Fr [] M M') (e:M[i]? = some c):M'[i]? = some c:=h.get e (by simp)
theorem Fr.sub {S:List Nat} (h:Fr S M M') (s:∀ i ∈ S,i ∈ S'\/M.length<=i):Fr S' M M':=⟨h.1,fun i hi hs=>h.2 i hi fun z=>by
 rcases s i z with a | a
 ·exact hs a
 ·omega⟩
theorem Fr.app (M:Mem) (l:List Cell):Fr [] M (M ++ l):=⟨by simp,fun i hi _=>by rw [Q6 hi]⟩
theorem Fr.set (M:Mem) (a:Nat) (c:Cell):Fr [a] M (M.set a c):=⟨by simp,fun i _ hs=>by rw [Qb,if_neg (by simp at hs;omega)]⟩
theorem Fr.mono {S:List Nat} (h:Fr [] M M'):Fr S M M':=h.sub (fun i hi=>by simp at hi)
theorem qO (e:M[i]? = some c):i < M.length:=(List.getElem?_eq_some_iff.mp e).1
theorem zJ:(M ++ [c])[M.length]? = some c:=List.getElem?_concat_length
theorem get_set {a:Nat} {c':Cell} (e:M[a]? = some c):(M.set a c')[a]? = some c':=by
 rw [Qb,if_pos rfl,if_pos (qO e)]
theorem Ok.loop {bd:T->Ev->Mem->Out Ev} {body:Ev->Mem->Out Fl} {α:Type} {r:α->T} (P:Nat->Ev->Mem->Prop) {R:T->Mem->Prop}:∀ (xs:List α) (i:Nat) {σ:Ev} {M:Mem},
  P i σ M->(∀ (k:Nat) x σ M,xs[k]? = some x->P (i + k) σ M->Ok ((bd (r x) σ M).bind fun σ1 M1=>body σ1 M1) fun fl M'=>(∃ σ',(fl = .nx σ'\/fl = .ct σ')/\P (i + k + 1) σ' M')\/(∃ σ',fl = .bk σ'/\P (i + xs.length) σ' M')\/∃ t,fl = .rt t/\R t M')->
  Ok (forL bd body (xs.map r) σ M) fun fl M'=>(∃ σ',fl = .nx σ'/\P (i + xs.length) σ' M')\/∃ t,fl = .rt t/\R t M'
 | [],i,σ,M,h,_=>⟨.nx σ,M,rfl,.inl ⟨σ,rfl,h⟩⟩
 | x :: xs,i,σ,M,h,t=>by
  obtain ⟨fl,M1,e1,h1⟩:=t 0 x σ M rfl h
  rw [map_cons,zg8]
  cases q:bd (r x) σ M with
  | bad=>rw [q] at e1;cases e1
  | exn C fs M'=>rw [q] at e1;cases e1
  | ok σ3 M3=>
   rw [q] at e1
   replace e1:body σ3 M3 = .ok fl M1:=e1
   show Ok ((body σ3 M3).bind (zI (forL bd body (xs.map r)))) _
   rw [e1]
   have go:∀ σ1,P (i + 1) σ1 M1->Ok (forL bd body (xs.map r) σ1 M1) fun fl M'=>(∃ σ',fl = .nx σ'/\P (i + (x :: xs).length) σ' M')\/∃ t,fl = .rt t/\R t M':=fun σ1 h1=>by
    have ih:=Ok.loop (R:=R) P xs (i + 1) (bd:=bd) (body:=body) h1 (fun k y σ M hk hp=>by
     have:=t (k + 1) y σ M (by simpa using hk) (by rw [show i + (k + 1) = i + 1 + k by omega];exact hp)
     rw [show i + (k + 1) + 1 = i + 1 + k + 1 by omega,Qo,show i + (xs.length + 1) = i + 1 + xs.length by omega] at this
     exact this)
    rw [Qo,show i + (xs.length + 1) = i + 1 + xs.length by omega]
    exact ih
   rcases h1 with ⟨σ1,h1 | h1,h2⟩ | ⟨σ1,h1,h2⟩ | ⟨u,h1,h2⟩
   ·rw [h1];exact go σ1 h2
   ·rw [h1];exact go σ1 h2
   ·rw [h1];exact ⟨.nx σ1,M1,rfl,.inl ⟨σ1,rfl,h2⟩⟩
   ·rw [h1];exact ⟨.rt u,M1,rfl,.inr ⟨u,rfl,h2⟩⟩
variable {body:Ev->Mem->Out Fl} {bd:T->Ev->Mem->Out Ev}
theorem Ok.for {α:Type} {r:α->T} (P:Nat->Ev->Mem->Prop) {xs:List α} 
 (h:P 0 σ M) (t:∀ (k:Nat) x σ M,xs[k]? = some x->P k σ M->Ok ((bd (r x) σ M).bind fun σ1 M1=>body σ1 M1) fun fl M'=>∃ σ',fl = .nx σ'/\P (k + 1) σ' M') :
  Ok (forL bd body (xs.map r) σ M) fun fl M'=>∃ σ',fl = .nx σ'/\P xs.length σ' M':=by
 refine (Ok.loop (R:=fun _ _=>False) P xs 0 h (fun k x σ M hk hp=>?_)).mono ?_
 ·rw [Nat.zero_add] at hp
  refine (t k x σ M hk hp).mono ?_
  rintro fl M' ⟨σ',e,q⟩
  exact .inl ⟨σ',.inl e,by rw [Nat.zero_add];exact q⟩
 ·rintro fl M' (⟨σ',e,q⟩ | ⟨t,_,f⟩)
  ·exact ⟨σ',e,by rw [Nat.zero_add] at q;exact q⟩
  ·exact f.elim
theorem Ok.comp {bd:T->Ev->Mem->Out Ev} {cond:Ev->Mem->Out Bool} {el:Ev->Mem->Out T} {α:Type} {r:α->T} (P:Nat->List T->Ev->Mem->Prop):∀ (xs:List α) {σ:Ev} {M:Mem} (i:Nat) (acc:List T),
  P i acc σ M->acc.length + xs.length<=sizeLine->(∀ (k:Nat) x σ M acc,xs[k]? = some x->P (i + k) acc σ M->Ok ((bd (r x) σ M).bind fun σ1 M1=>(cond σ1 M1).bind fun b M2=>if b = true then (el σ1 M2).bind fun t M3=>.ok (some t,σ1) M3 else .ok (none,σ1) M2) fun o M'=>P (i + k + 1) (match o.1 with | some t=>acc ++ [t] | none=>acc) o.2 M')->
  Ok (ql bd cond el (xs.map r) σ M acc) fun ts M'=>∃ σ',P (i + xs.length) ts σ' M'
 | [],σ,M,i,acc,h,_,_=>⟨acc,M,by simp [ql],σ,h⟩
 | x :: xs,σ,M,i,acc,h,hl,t=>by
  obtain ⟨o,M1,e1,h1⟩:=t 0 x σ M acc rfl h
  rw [Qo] at hl
  rw [map_cons]
  unfold ql
  have go:∀ acc σ1 M1,acc.length + xs.length<=sizeLine->P (i + 1) acc σ1 M1->Ok (ql bd cond el (xs.map r) σ1 M1 acc) fun ts M'=>∃ σ',P (i + (x :: xs).length) ts σ' M':=fun acc σ1 M1 hl h1=>by
   have ih:=Ok.comp P xs (i + 1) acc (bd:=bd) (cond:=cond) (el:=el) h1 hl (fun k y σ M acc hk hp=>by
    have:=t (k + 1) y σ M acc (by simpa using hk) (by rw [show i + (k + 1) = i + 1 + k by omega];exact hp)
    rw [show i + (k + 1) + 1 = i + 1 + k + 1 by omega] at this
    exact this)
   rw [Qo,show i + (xs.length + 1) = i + 1 + xs.length by omega]
   exact ih
  cases q:bd (r x) σ M with
  | bad=>rw [q] at e1;cases e1
  | exn C fs M'=>rw [q] at e1;cases e1
  | ok σ3 M3=>
   rw [q] at e1
   replace e1:((cond σ3 M3).bind fun b M2=>if b = true then (el σ3 M2).bind fun t M3=>.ok (some t,σ3) M3 else .ok (none,σ3) M2) = .ok o M1:=e1
   show Ok ((cond σ3 M3).bind _) _
   cases q2:cond σ3 M3 with
   | bad=>rw [q2] at e1;cases e1
   | exn C fs M'=>rw [q2] at e1;cases e1
   | ok b M4=>
    rw [q2] at e1
    cases b with
    | false=>
     replace e1:(Out.ok (none,σ3) M4:Out (Option T × Ev)) = .ok o M1:=e1
     cases e1
     exact go acc σ3 _ (by omega) h1
    | true=>
     replace e1:((el σ3 M4).bind fun t M3=>.ok (some t,σ3) M3) = .ok o M1:=e1
     show Ok ((el σ3 M4).bind _) _
     cases q3:el σ3 M4 with
     | bad=>rw [q3] at e1;cases e1
     | exn C fs M'=>rw [q3] at e1;cases e1
     | ok u M5=>
      rw [q3] at e1
      replace e1:(Out.ok (some u,σ3) M5:Out (Option T × Ev)) = .ok o M1:=e1
      cases e1
      show Ok (if acc.length < sizeLine then _ else _) _
      rw [if_pos (by omega)]
      exact go (acc ++ [u]) σ3 _ (by rw [Qm,Qo,length_nil];omega) h1
theorem Ok.whileN {c:Ev->Mem->Out Bool} {body:Ev->Mem->Out Fl} (P:Ev->Mem->Prop) (μ:Ev->Mem->Nat) {Q:Ev->Mem->Prop} {R:T->Mem->Prop}
  (t:∀ σ M,P σ M->Ok (c σ M) fun b M1=>(b = true/\Ok (body σ M1) fun fl M2=>(∃ σ',(fl = .nx σ'\/fl = .ct σ')/\P σ' M2/\μ σ' M2 < μ σ M)\/(∃ σ',fl = .bk σ'/\Q σ' M2)\/∃ t,fl = .rt t/\R t M2)\/(b = false/\Q σ M1)) :
  ∀ (n:Nat) (σ:Ev) (M:Mem),μ σ M < n->P σ M->Ok (whileN c body n σ M) fun fl M'=>(∃ σ',fl = .nx σ'/\Q σ' M')\/∃ t,fl = .rt t/\R t M'
 | 0,_,_,hn,_=>absurd hn (by omega)
 | n + 1,σ,M,hn,h=>by
  obtain ⟨b,M1,e,r⟩:=t σ M h
  unfold FT.whileN
  rw [e]
  rcases r with ⟨rfl,fl,M2,e2,r⟩ | ⟨rfl,q⟩
  ·show Ok ((body σ M1).bind _) _
   rw [e2]
   rcases r with ⟨σ1,h1 | h1,h2,h3⟩ | ⟨σ1,h1,h2⟩ | ⟨u,h1,h2⟩
   ·rw [h1];exact Ok.whileN P μ t n σ1 M2 (by omega) h2
   ·rw [h1];exact Ok.whileN P μ t n σ1 M2 (by omega) h2
   ·rw [h1];exact ⟨.nx σ1,M2,rfl,.inl ⟨σ1,rfl,h2⟩⟩
   ·rw [h1];exact ⟨.rt u,M2,rfl,.inr ⟨u,rfl,h2⟩⟩
  ·exact ⟨.nx σ,M1,rfl,.inl ⟨σ,rfl,q⟩⟩
theorem Ok.while {c:Ev->Mem->Out Bool} (P:Ev->Mem->Prop) (μ:Ev->Mem->Nat) {Q:Ev->Mem->Prop} {R:T->Mem->Prop} (h:P σ M)
 (t:∀ σ M,P σ M->Ok (c σ M) fun b M1=>(b = true/\Ok (body σ M1) fun fl M2=>(∃ σ',(fl = .nx σ'\/fl = .ct σ')/\P σ' M2/\μ σ' M2 < μ σ M)\/(∃ σ',fl = .bk σ'/\Q σ' M2)\/∃ t,fl = .rt t/\R t M2)\/(b = false/\Q σ M1)) :
  Ok (zev c body σ M) fun fl M'=>(∃ σ',fl = .nx σ'/\Q σ' M')\/∃ t,fl = .rt t/\R t M':=by
 obtain ⟨fl,M',e,r⟩:=Ok.whileN P μ t (μ σ M + 1) σ M (by omega) h
 exact ⟨fl,M',zgx _ e (by simp),r⟩
noncomputable def rgI (n:Nat):List Int:=(List.range n).map fun (k:Nat)=>(k:Int)
theorem qT (n:Nat):(rgI n).length = n:=by simp [rgI]
variable {x:Int} {k:Nat}
theorem zaO (h:(rgI n)[k]? = some x):k < n/\x = k:=by
 unfold rgI at h
 rw [Qa] at h
 cases q:(List.range n)[k]? with
 | none=>rw [q] at h;cases h
 | some j=>
  rw [q] at h
  have hk:k < n:=by have:=(List.getElem?_eq_some_iff.mp q).1;simpa using this
  rw [getElem?_range hk] at q
  cases q
  exact ⟨hk,(Qc h).symm⟩
theorem zhK (n:Nat):zbi 0 n = (rgI n).map .int:=by
 unfold zbi rgI
 rw [map_map]
 congr 1
 funext k
 simp
variable {j:Int}
theorem yT (h:-(2 ^ 62)<=j/\j < 2 ^ 62):zcI [.int j] M = .ok ((rgI j.toNat).map .int) M:=by rw [zkk h,zhK]
noncomputable def rgF (lo:Int) (n:Nat):List Int:=(List.range n).map fun (k:Nat)=>lo + (k:Int)
theorem ziZ {lo:Int} (h:(rgF lo n)[k]? = some x):k < n/\x = lo + k:=by
 unfold rgF at h
 rw [Qa] at h
 cases q:(List.range n)[k]? with
 | none=>rw [q] at h;cases h
 | some j=>
  rw [q] at h
  have hk:k < n:=by have:=(List.getElem?_eq_some_iff.mp q).1;simpa using this
  rw [getElem?_range hk] at q
  cases q
  exact ⟨hk,(Qc h).symm⟩
theorem ziY {i:Int} (h:(-(2 ^ 62)<=i/\i < 2 ^ 62)/\(-(2 ^ 62)<=j/\j < 2 ^ 62)):zdn [.int i,.int j] M = .ok ((rgF i (j - i).toNat).map .int) M:=by
 rw [show zdn [.int i,.int j] M = .ok (zbi i (j - i).toNat) M from if_pos h]
 unfold zbi rgF
 rw [map_map]
 rfl
variable {el:Ev->Mem->Out T}
theorem Ok.filt {cond:Ev->Mem->Out Bool} {α:Type} {r:α->T} (I:Ev->Prop) (c:α->Bool) (f:α->T) {xs:List α} (h:I σ) (hl:xs.length<=1000000)
 (t:∀ x σ,x ∈ xs->I σ->∃ σ1,bd (r x) σ M = .ok σ1 M/\I σ1/\cond σ1 M = .ok (c x) M/\(c x = true->el σ1 M = .ok (f x) M)):ql bd cond el (xs.map r) σ M [] = .ok ((xs.filter c).map f) M:=by
 have key:∀ (xs:List α) (σ:Ev) (acc:List T),(∀ x σ,x ∈ xs->I σ->∃ σ1,bd (r x) σ M = .ok σ1 M/\I σ1/\cond σ1 M = .ok (c x) M/\(c x = true->el σ1 M = .ok (f x) M))->I σ->acc.length + xs.length<=sizeLine->ql bd cond el (xs.map r) σ M acc = .ok (acc ++ (xs.filter c).map f) M:=by
  intro xs
  induction xs with
  | nil=>intro σ acc _ _ _;simp [ql]
  | cons x xs ih=>
   intro σ acc t h hl
   obtain ⟨σ1,e1,h1,e2,e3⟩:=t x σ (.head _) h
   rw [Qo] at hl
   rw [map_cons]
   unfold ql
   rw [e1]
   show ((cond σ1 M).bind _) = _
   rw [e2]
   cases hc:c x with
   | true=>
    have ih:=ih σ1 (acc ++ [f x]) (fun y σ hy=>t y σ (.tail _ hy)) h1 (by rw [Qm,Qo,length_nil];omega)
    show ((el σ1 M).bind _) = _
    rw [e3 hc]
    show (if acc.length < sizeLine then ql bd cond el (xs.map r) σ1 M (acc ++ [f x]) else .bad) = _
    rw [if_pos (by omega),ih,List.filter_cons_of_pos hc]
    simp
   | false=>
    have ih:=ih σ1 acc (fun y σ hy=>t y σ (.tail _ hy)) h1 (by omega)
    show ql bd cond el (xs.map r) σ1 M acc = _
    rw [ih,List.filter_cons_of_neg (by rw [hc];exact Q4)]
 have:=key xs σ [] t h (by rw [length_nil,Nat.zero_add];exact Qi hl (by decide))
 rw [this,nil_append]
theorem Ok.mapc {α:Type} {r:α->T} (I:Ev->Prop) (f:α->T) {xs:List α} (h:I σ) (hl:xs.length<=1000000)
 (t:∀ x σ,x ∈ xs->I σ->∃ σ1,bd (r x) σ M = .ok σ1 M/\I σ1/\el σ1 M = .ok (f x) M):ql bd zq el (xs.map r) σ M [] = .ok (xs.map f) M:=by
 have:=Ok.filt (cond:=zq) I (fun _=>true) f h hl (fun x σ hx hs=>by
  obtain ⟨σ1,a,b,c⟩:=t x σ hx hs
  exact ⟨σ1,a,b,rfl,fun _=>c⟩)
 rw [this,List.filter_eq_self.mpr (fun _ _=>rfl)]
theorem zaw {a:Nat} {xs:List T} (e:M[a]? = some (.lst xs)):qm (.ref a) M = some xs:=by
 unfold qm
 simp only [e]
theorem Ok.loopG {G:Gd} {bd:T->Ev->Mem->Out Ev} {body:Ev->Mem->Out Fl} {α:Type} {r:α->T} (P:Nat->Ev->Mem->Prop) {R:T->Mem->Prop} (hG:∀ i σ M,P i σ M->zaE G M):∀ (xs:List α) (i:Nat) {σ:Ev} {M:Mem},
  P i σ M->(∀ (k:Nat) x σ M,xs[k]? = some x->P (i + k) σ M->Ok ((bd (r x) σ M).bind fun σ1 M1=>body σ1 M1) fun fl M'=>(∃ σ',(fl = .nx σ'\/fl = .ct σ')/\P (i + k + 1) σ' M')\/(∃ σ',fl = .bk σ'/\P (i + xs.length) σ' M')\/∃ t,fl = .rt t/\R t M')->
  Ok (forG G bd body (xs.map r) σ M) fun fl M'=>(∃ σ',fl = .nx σ'/\P (i + xs.length) σ' M')\/∃ t,fl = .rt t/\R t M'
 | [],i,σ,M,h,_=>⟨.nx σ,M,by rw [map_nil];unfold forG;exact zeR (hG _ _ _ h),.inl ⟨σ,rfl,h⟩⟩
 | x :: xs,i,σ,M,h,t=>by
  obtain ⟨fl,M1,e1,h1⟩:=t 0 x σ M rfl h
  rw [map_cons]
  unfold forG
  rw [zeR (hG _ _ _ h)]
  cases q:bd (r x) σ M with
  | bad=>rw [q] at e1;cases e1
  | exn C fs M'=>rw [q] at e1;cases e1
  | ok σ3 M3=>
   rw [q] at e1
   replace e1:body σ3 M3 = .ok fl M1:=e1
   show Ok ((body σ3 M3).bind (zI (forG G bd body (xs.map r)))) _
   rw [e1]
   have go:∀ σ1,P (i + 1) σ1 M1->Ok (forG G bd body (xs.map r) σ1 M1) fun fl M'=>(∃ σ',fl = .nx σ'/\P (i + (x :: xs).length) σ' M')\/∃ t,fl = .rt t/\R t M':=fun σ1 h1=>by
    have ih:=Ok.loopG (R:=R) P hG xs (i + 1) (bd:=bd) (body:=body) h1 (fun k y σ M hk hp=>by
     have:=t (k + 1) y σ M (by simpa using hk) (by rw [show i + (k + 1) = i + 1 + k by omega];exact hp)
     rw [show i + (k + 1) + 1 = i + 1 + k + 1 by omega,Qo,show i + (xs.length + 1) = i + 1 + xs.length by omega] at this
     exact this)
    rw [Qo,show i + (xs.length + 1) = i + 1 + xs.length by omega]
    exact ih
   rcases h1 with ⟨σ1,h1 | h1,h2⟩ | ⟨σ1,h1,h2⟩ | ⟨u,h1,h2⟩
   ·rw [h1];exact go σ1 h2
   ·rw [h1];exact go σ1 h2
   ·rw [h1];exact ⟨.nx σ1,M1,rfl,.inl ⟨σ1,rfl,h2⟩⟩
   ·rw [h1];exact ⟨.rt u,M1,rfl,.inr ⟨u,rfl,h2⟩⟩
theorem Ok.forG {G:Gd} {α:Type} {r:α->T} (P:Nat->Ev->Mem->Prop) {xs:List α} (hG:∀ i σ M,P i σ M->zaE G M)
 (h:P 0 σ M) (t:∀ (k:Nat) x σ M,xs[k]? = some x->P k σ M->Ok ((bd (r x) σ M).bind fun σ1 M1=>body σ1 M1) fun fl M'=>∃ σ',fl = .nx σ'/\P (k + 1) σ' M') :
  Ok (forG G bd body (xs.map r) σ M) fun fl M'=>∃ σ',fl = .nx σ'/\P xs.length σ' M':=by
 refine (Ok.loopG (R:=fun _ _=>False) P hG xs 0 h (fun k x σ M hk hp=>?_)).mono ?_
 ·rw [Nat.zero_add] at hp
  refine (t k x σ M hk hp).mono ?_
  rintro fl M' ⟨σ',e,q⟩
  exact .inl ⟨σ',.inl e,by rw [Nat.zero_add];exact q⟩
 ·rintro fl M' (⟨σ',e,q⟩ | ⟨t,_,f⟩)
  ·exact ⟨σ',e,by rw [Nat.zero_add] at q;exact q⟩
  ·exact f.elim
def OkX {β:Type} (o:Out β) (Q:β->Mem->Prop) (E:Addr->List (Str × T)->Mem->Prop):Prop:=match o with
 | .ok b M=>Q b M
 | .exn C fs M=>E C fs M
 | .bad=>False
variable {E:Addr->List (Str × T)->Mem->Prop}
theorem OkX.ok {β:Type} {o:Out β} {Q:β->Mem->Prop} (h:Ok o Q):OkX o Q E:=by
 obtain ⟨b,M,rfl,q⟩:=h
 exact q
theorem OkX.bind {β γ:Type} {o:Out β} {k:β->Mem->Out γ} {P:β->Mem->Prop} {Q:γ->Mem->Prop} (h:OkX o P E) (g:∀ b M,P b M->OkX (k b M) Q E):OkX (o.bind k) Q E:=by
 cases o with
 | ok b M=>exact g b M h
 | exn C fs M=>exact h
 | bad=>exact h.elim
end FT
namespace My
open PySem L2 FT
noncomputable def top (i:Nat):Stmt:=PySem.Challenge.pw_tryweir_k35_what_is_no_net.main.body.getD i (.Pass ⟨0,0,0,0⟩)
noncomputable abbrev zaC:Stmt:=top 6
noncomputable abbrev zbZ:Stmt:=top 2
noncomputable abbrev zbh:Stmt:=top 14
noncomputable abbrev zbG:Stmt:=top 3
noncomputable abbrev zbg:Stmt:=top 5
noncomputable abbrev zcH:Stmt:=top 15
noncomputable abbrev zbH:Stmt:=top 16
noncomputable abbrev zcG:Stmt:=top 17
noncomputable abbrev zdl:Stmt:=top 20
noncomputable abbrev zcC:Stmt:=top 21
noncomputable abbrev zbY:Stmt:=top 22
noncomputable abbrev zcF:Stmt:=top 23
noncomputable abbrev zdk:Stmt:=top 24
noncomputable abbrev zcD:Stmt:=top 19
noncomputable abbrev zdj:Stmt:=top 25
noncomputable abbrev zcE:Stmt:=top 26
noncomputable abbrev zcB:Stmt:=top 27
noncomputable abbrev zfW:Stmt:=top 28
structure Txt (mg:Str->Option Value):Prop where
 n_tuple:mg "tuple" = none
 n_isinstance:mg "isinstance" = none
 n_len:mg "len" = none
 n_str:mg "str" = none
 n_all:mg "all" = none
 n_set:mg "set" = none
 n_int:mg "int" = none
 n_bool:mg "bool" = none
 n_enumerate:mg "enumerate" = none
 n_sum:mg "sum" = none
 n_max:mg "max" = none
 n_range:mg "range" = none
 n_min:mg "min" = none
 n_list:mg "list" = none
 c_MOST_LETTERS:∃ t,mg "MOST_LETTERS" = some (.int 8 t)
 c_MOST_TRIES:∃ t,mg "MOST_TRIES" = some (.int 4 t)
 c_MOST_ASKS_OF_ONE:∃ t,mg "MOST_ASKS_OF_ONE" = some (.int 3 t)
 c_MOST_HOUSES:∃ t,mg "MOST_HOUSES" = some (.int 4 t)
 c_MOST_PURSES:∃ t,mg "MOST_PURSES" = some (.int 2 t)
 c_MOST_PER:∃ t,mg "MOST_PER" = some (.int 9 t)
 c_MOST_ASKS:∃ t,mg "MOST_ASKS" = some (.int 6 t)
theorem boot_tuple:bootBuiltins "tuple" = some (.type "tuple"):=by decide +kernel
theorem boot_isinstance:bootBuiltins "isinstance" = some (.builtin "isinstance"):=by decide +kernel
theorem boot_len:bootBuiltins "len" = some (.builtin "len"):=by decide +kernel
theorem boot_str:bootBuiltins "str" = some (.type "str"):=by decide +kernel
theorem boot_all:bootBuiltins "all" = some (.builtin "all"):=by decide +kernel
theorem boot_int:bootBuiltins "int" = some (.type "int"):=by decide +kernel
theorem boot_bool:bootBuiltins "bool" = some (.type "bool"):=by decide +kernel
theorem boot_sum:bootBuiltins "sum" = some (.builtin "sum"):=by decide +kernel
theorem boot_max:bootBuiltins "max" = some (.builtin "max"):=by decide +kernel
theorem boot_range:bootBuiltins "range" = some (.type "range"):=by decide +kernel
theorem boot_min:bootBuiltins "min" = some (.builtin "min"):=by decide +kernel
theorem boot_list:bootBuiltins "list" = some (.type "list"):=by decide +kernel
end My
theorem FT.nc_l {k:PySem.NameKind} {P:Prop} (e:(k == .cell || k == .free) = false) (h:k = .cell\/k = .free):P:=by
 rcases h with rfl | rfl
 ·exact absurd e (by decide)
 ·exact absurd e (by decide)
open PySem L2 FT in
local macro_rules | `(tactic| bv_omega) => `(tactic| exact ⟨rfl, rfl, by decide +kernel, rfl, by decide +kernel, by first | exact (fun _ _ h => h) | exact zeL (by repeat (first | exact True.intro | refine ⟨rfl, ?_⟩)), fun _ => zld (by repeat (first | exact True.intro | (refine ⟨?_, ?_⟩; first | exact (fun _ => ⟨_, rfl⟩) | exact nc_l rfl | exact (fun h => h.elim (fun h => nomatch h) (fun h => nomatch h))))), by repeat (first | exact List.forall_mem_nil _ | refine List.forall_mem_cons.mpr ⟨⟨rfl, rfl, by first | exact .inl rfl | exact .inr rfl⟩, ?_⟩)⟩)
namespace My
open PySem L2 FT
noncomputable def zbU:Ev->Mem->Out Fl:=
 (yv (yZ (zd (call2 zw) (ya (yb 0) (ya (eC (.ty "tuple")) qb))) (eOp eqA (zd (yo yy) (ya (yb 0) qb)) (yb 1))))
noncomputable def qq:List FT.T->Mem->Out FT.T:=qr 2 2 (zbU)
variable {K:Frag} {base:Heap} {P:Program} {mg:Str->Option Value} {w:World}
section
theorem zdi:FnScope ["thing","size"] ["thing","size"] (qg zaC):=by ac_rfl
theorem qv (D:Df K mg "is_tuple_of" zaC ["thing","size"]) (T:Txt mg)   :CalT P w K mg base 1 "is_tuple_of" ["thing","size"] qq:=
 yz D zdi rfl rfl (fun f cdv A outer s H E hr=>(qf (qk (zah (qh yB rfl T.n_isinstance boot_isinstance (za (qa (pv 0)) (za (zN rfl T.n_tuple boot_tuple) zb))) (zaM (y4 (zbp hr.units) (qh zt rfl T.n_len boot_len (za (qa (pv 0)) zb)) (qa (pv 1)) (qJ _)))))))
end
noncomputable def qS:Ev->Mem->Out Fl:=
 (zg (sIf (zbD (qH (zu (zd (call2 zw) (ya (yb 0) (ya (eC (.ty "str")) qb))))) (qH (zu (zT leU leU (eC (.int 1)) (zd (yo yy) (ya (yb 0) qb)) (eC (.int 8)))))) (yv (eC (.bl false))) qK)
 (yv (zd (yo zbT) (ya (eFz (zr (iTx (yb 0)) (ye 0) zq (zT leU leU (eC (.str "a")) (yb 0) (eC (.str "z"))) ["letter"] [])) qb))))
noncomputable def zA:List FT.T->Mem->Out FT.T:=qr 1 1 (qS)
section
theorem zfV:FnScope ["thing"] ["thing"] (qg zbZ):=by ac_rfl
theorem zaB (D:Df K mg "is_word" zbZ ["thing"]) (T:Txt mg)   :CalT P w K mg base 1 "is_word" ["thing"] zA:=
 yz D zfV rfl rfl (fun f cdv A outer s H E hr=>(qc (qA (WW.gt (zaR (zC (qB (qh yB rfl T.n_isinstance boot_isinstance (za (qa (pv 0)) (za (zN rfl T.n_str boot_str) zb))))) (zaJ (zC (zdK zc1 zc1 zc (qh zt rfl T.n_len boot_len (za (qa (pv 0)) zb)) (zR rfl T.c_MOST_LETTERS)))))) (qf (qk zv)) qu)
  (qf (qk (qh (zaA rfl) rfl T.n_all boot_all (za (zf (zp (tgs:=["letter"]) (caps:=[]) (ziR (qa (pv 0))) (by bv_omega) (fun _ _ _=>(qe (yg (i:=0) (show (["letter"]:List Str).Nodup by decide +kernel) rfl (by first | exact Or.inl rfl | exact Or.inr rfl)))) (fun _ _ _=>zn) (fun _ _ _=>(zdL zc1 zc1 ze (qa (pv 0)) ze)))) zb))))))
end
noncomputable def zcx:Ev->Mem->Out Fl:=
 (zg (sIf (zbD (qH (zu (zd (call2 zw) (ya (yb 0) (ya (eC (.ty "tuple")) qb))))) (qH (zu (zT leI leI (yb 2) (zd (yo yy) (ya (yb 0) qb)) (yb 3))))) (yv (eC (.bl false))) qK)
 (zg (sIf (qH (zu (zd (yo zbT) (ya (eFz (zr (yx (yb 0)) (ye 0) zq (yZ (zd qq (ya (yb 0) (ya (yb 1) qb))) (zd zA (ya (eOp ixT (yb 0) (eC (.int 0))) qb))) ["one"] [("size",1)])) qb)))) (yv (eC (.bl false))) qK)
 (yv (eOp eqA (zd zax (ya (eFz (zr (yx (yb 0)) (ye 0) zq (eOp ixT (yb 0) (eC (.int 0))) ["one"] [])) qb)) (zd (yo yy) (ya (yb 0) qb))))))
noncomputable def qx:List FT.T->Mem->Out FT.T:=qr 4 4 (zcx)
section
theorem zeu:FnScope ["thing","size","least","most"] ["thing","size","least","most"] (qg zbh):=by ac_rfl
theorem zQ (D:Df K mg "are_named" zbh ["thing","size","least","most"]) (T:Txt mg)   (qv:CalT P w K mg base 1 "is_tuple_of" ["thing","size"] qq) (zaB:CalT P w K mg base 1 "is_word" ["thing"] zA):CalT P w K mg base 2 "are_named" ["thing","size","least","most"] qx:=
 yz D zeu rfl rfl (fun f cdv A outer s H E hr=>(qc (qA (WW.gt (zaR (zC (qB (qh yB rfl T.n_isinstance boot_isinstance (za (qa (pv 0)) (za (zN rfl T.n_tuple boot_tuple) zb))))) (zaJ (zC (zdK zb4 zb4 (qa (pv 2)) (qh zt rfl T.n_len boot_len (za (qa (pv 0)) zb)) (qa (pv 3))))))) (qf (qk zv)) qu)
  (qc (qA (zC (qB (qh (zaA rfl) rfl T.n_all boot_all (za (zf (zp (tgs:=["one"]) (caps:=[("size",1)]) (yr (qa (pv 0))) (by bv_omega) (fun _ _ _=>(qe (yg (i:=0) (show (["one","size"]:List Str).Nodup by decide +kernel) rfl (by first | exact Or.inl rfl | exact Or.inr rfl)))) (fun _ _ _=>zn) (fun _ _ _=>(zah (yi qv (hr.mono (by decide)) rfl (za (qa (pv 0)) (za (qa (pv 1)) zb))) (zaM (yi zaB (hr.mono (by decide)) rfl (za (yh zo (qa (pv 0)) zc (fun _ _=>rfl)) zb))))))) zb)))) (qf (qk zv)) qu)
  (qf (qk (y4 (zbp hr.units) (zfM rfl rfl T.n_len rfl T.n_set (za (zf (zp (tgs:=["one"]) (caps:=[]) (yr (qa (pv 0))) (by bv_omega) (fun _ _ _=>(qe (yg (i:=0) (show (["one"]:List Str).Nodup by decide +kernel) rfl (by first | exact Or.inl rfl | exact Or.inr rfl)))) (fun _ _ _=>zn) (fun _ _ _=>(yh zo (qa (pv 0)) zc (fun _ _=>rfl))))) zb)) (qh zt rfl T.n_len boot_len (za (qa (pv 0)) zb)) (qJ _)))))))
end
noncomputable def zc9:Ev->Mem->Out Fl:=
 (yv (yZ (zd (call2 zw) (ya (yb 0) (ya (eC (.ty "int")) qb))) (ziv (zd (call2 zw) (ya (yb 0) (ya (eC (.ty "bool")) qb))))))
noncomputable def zac:List FT.T->Mem->Out FT.T:=qr 1 1 (zc9)
section
theorem zfd:FnScope ["thing"] ["thing"] (qg zbG):=by ac_rfl
theorem zae (D:Df K mg "is_whole" zbG ["thing"]) (T:Txt mg)   :CalT P w K mg base 1 "is_whole" ["thing"] zac:=
 yz D zfd rfl rfl (fun f cdv A outer s H E hr=>(qf (qk (zah (qh yB rfl T.n_isinstance boot_isinstance (za (qa (pv 0)) (za (zN rfl T.n_int boot_int) zb))) (zaM (ziS (qh yB rfl T.n_isinstance boot_isinstance (za (qa (pv 0)) (za (zN rfl T.n_bool boot_bool) zb)))))))))
end
noncomputable def zcw:Ev->Mem->Out Fl:=
 (yv (yZ (zd zac (ya (yb 0) qb)) (zT leI leI (yb 1) (yb 0) (yb 2))))
noncomputable def qD:List FT.T->Mem->Out FT.T:=qr 3 3 (zcw)
section
theorem zet:FnScope ["thing","low","high"] ["thing","low","high"] (qg zbg):=by ac_rfl
theorem yG (D:Df K mg "is_within" zbg ["thing","low","high"]) (T:Txt mg)   (zae:CalT P w K mg base 1 "is_whole" ["thing"] zac):CalT P w K mg base 2 "is_within" ["thing","low","high"] qD:=
 yz D zet rfl rfl (fun f cdv A outer s H E hr=>(qf (qk (zah (yi zae (hr.mono (by decide)) rfl (za (qa (pv 0)) zb)) (zaM (zdL zb4 zb4 (qa (pv 1)) (qa (pv 0)) (qa (pv 2))))))))
end
noncomputable def zeY:Ev->Mem->Out Fl:=
 (zg (sIf (zbD (qH (zu (zd qq (ya (yb 0) (ya (eC (.int 6)) qb))))) (zbD (zu (eOp zam (eOp ixT (yb 0) (eC (.int 0))) (yb 1))) (qH (zu (zd qD (ya (eOp ixT (yb 0) (eC (.int 1))) (ya (eC (.int 0)) (ya (eC (.int 4)) qb)))))))) (yv (eC (.bl false))) qK)
 (zg (sIf (zd4 (zu (eOp zc6 (eOp ixT (yb 0) (eC (.int 2))) (eC .non))) (zu (eOp zam (eOp ixT (yb 0) (eC (.int 2))) (yb 2)))) (yv (eC (.bl false))) qK)
 (yv (yZ (eOp inA (eOp ixT (yb 0) (eC (.int 3))) (qd (ya (eC (.str "bad")) (ya (eC (.str "spent")) qb)))) (yZ (zd (call2 zw) (ya (eOp ixT (yb 0) (eC (.int 4))) (ya (eC (.ty "bool")) qb))) (zd (call2 zw) (ya (eOp ixT (yb 0) (eC (.int 5))) (ya (eC (.ty "bool")) qb))))))))
noncomputable def zZ:List FT.T->Mem->Out FT.T:=qr 3 3 (zeY)
section
theorem zgw:FnScope ["thing","later","purses"] ["thing","later","purses"] (qg zcH):=by ac_rfl
theorem za7 (D:Df K mg "is_ask" zcH ["thing","later","purses"]) (T:Txt mg)   (qv:CalT P w K mg base 1 "is_tuple_of" ["thing","size"] qq) (yG:CalT P w K mg base 2 "is_within" ["thing","low","high"] qD):CalT P w K mg base 3 "is_ask" ["thing","later","purses"] zZ:=
 yz D zgw rfl rfl (fun f cdv A outer s H E hr=>(qc (qA (WW.gt (zaR (zC (qB (yi qv (hr.mono (by decide)) rfl (za (qa (pv 0)) (za zc zb))))) (zaR (yI zcm (yh zo (qa (pv 0)) zc (fun _ _=>rfl)) (qa (pv 1)) rfl) (zaJ (zC (qB (yi yG (hr.mono (by decide)) rfl (za (yh zo (qa (pv 0)) zc (fun _ _=>rfl)) (za zc (za (zR rfl T.c_MOST_TRIES) zb)))))))))) (qf (qk zv)) qu)
  (qc (qA (WW.gt (zfl (yI zgI (yh zo (qa (pv 0)) zc (fun _ _=>rfl)) yw (qJ _)) (zeg (yI zcm (yh zo (qa (pv 0)) zc (fun _ _=>rfl)) (qa (pv 2)) rfl)))) (qf (qk zv)) qu)
  (qf (qk (zah (y4 zgK (yh zo (qa (pv 0)) zc (fun _ _=>rfl)) (yc (za ze (za ze zb))) rfl) (zah (qh yB rfl T.n_isinstance boot_isinstance (za (yh zo (qa (pv 0)) zc (fun _ _=>rfl)) (za (zN rfl T.n_bool boot_bool) zb))) (zaM (qh yB rfl T.n_isinstance boot_isinstance (za (yh zo (qa (pv 0)) zc (fun _ _=>rfl)) (za (zN rfl T.n_bool boot_bool) zb)))))))))))
end
noncomputable def zda:Ev->Mem->Out Fl:=
 (zg (sIf (zbD (qH (zu (zd (call2 zw) (ya (yb 0) (ya (eC (.ty "tuple")) qb))))) (zu (eOp gtI (zd (yo yy) (ya (yb 0) qb)) (eC (.int 3))))) (yv (eC (.bl false))) qK)
 (yv (zd (yo zbT) (ya (eFz (zr (yx (yb 0)) (ye 0) zq (zd zZ (ya (yb 0) (ya (yb 1) (ya (yb 2) qb)))) ["ask"] [("later",1),("purses",2)])) qb))))
noncomputable def zV:List FT.T->Mem->Out FT.T:=qr 3 3 (zda)
section
theorem zfe:FnScope ["thing","later","purses"] ["thing","later","purses"] (qg zbH):=by ac_rfl
theorem zaf (D:Df K mg "are_asks" zbH ["thing","later","purses"]) (T:Txt mg)   (za7:CalT P w K mg base 3 "is_ask" ["thing","later","purses"] zZ):CalT P w K mg base 4 "are_asks" ["thing","later","purses"] zV:=
 yz D zfe rfl rfl (fun f cdv A outer s H E hr=>(qc (qA (WW.gt (zaR (zC (qB (qh yB rfl T.n_isinstance boot_isinstance (za (qa (pv 0)) (za (zN rfl T.n_tuple boot_tuple) zb))))) (zaJ (yI zeD (qh zt rfl T.n_len boot_len (za (qa (pv 0)) zb)) (zR rfl T.c_MOST_ASKS_OF_ONE) (qJ _))))) (qf (qk zv)) qu)
  (qf (qk (qh (zaA rfl) rfl T.n_all boot_all (za (zf (zp (tgs:=["ask"]) (caps:=[("later",1),("purses",2)]) (yr (qa (pv 0))) (by bv_omega) (fun _ _ _=>(qe (yg (i:=0) (show (["ask","later","purses"]:List Str).Nodup by decide +kernel) rfl (by first | exact Or.inl rfl | exact Or.inr rfl)))) (fun _ _ _=>zn) (fun _ _ _=>(yi za7 (hr.mono (by decide)) rfl (za (qa (pv 0)) (za (qa (pv 1)) (za (qa (pv 2)) zb))))))) zb))))))
end
noncomputable def zeX:Ev->Mem->Out Fl:=
 (zg (sIf (qH (zu (zd qq (ya (yb 0) (ya (eC (.int 2)) qb))))) (yv (eC (.bl false))) qK)
 (zg (sIf (zbD (qH (zu (zd qx (ya (eOp ixT (yb 0) (eC (.int 0))) (ya (eC (.int 2)) (ya (eC (.int 1)) (ya (eC (.int 4)) qb))))))) (qH (zu (zd qx (ya (eOp ixT (yb 0) (eC (.int 1))) (ya (eC (.int 3)) (ya (eC (.int 0)) (ya (eC (.int 2)) qb)))))))) (yv (eC (.bl false))) qK)
 (zg (sIf (qH (zu (zd (yo zbT) (ya (eFz (zr (yx (eOp ixT (yb 0) (eC (.int 1)))) (za8 3 (yA (ye 0) (yA (ye 1) (yA (ye 2) za9)))) zq (yZ (eOp inA (yb 1) (qd (ya (eC (.str "first")) (ya (eC (.str "any")) qb)))) (zd qD (ya (yb 2) (ya (eC (.int 1)) (ya (eC (.int 9)) qb))))) ["name","earns","per"] [])) qb)))) (yv (eC (.bl false))) qK)
 (zg (yk 1 (eFz (zr (yx (eOp ixT (yb 0) (eC (.int 0)))) (ye 0) zq (eOp ixT (yb 0) (eC (.int 0))) ["house"] [])))
 (zg (yk 2 (eFz (zr (yx (eOp ixT (yb 0) (eC (.int 1)))) (ye 0) zq (eOp ixT (yb 0) (eC (.int 0))) ["purse"] [])))
 (zg (sIf (qH (zu (zd (yo zbT) (ya (eFz (zr (zd8 (eOp ixT (yb 0) (eC (.int 0)))) (za8 2 (yA (ye 0) (yA (ye 1) za9))) zq (zd zV (ya (eOp ixT (yb 1) (eC (.int 1))) (ya (eSl (yb 2) (yU (eOp qo (yb 0) (eC (.int 1)))) qX) (ya (yb 3) qb)))) ["at","house"] [("houses",1),("purses",2)])) qb)))) (yv (eC (.bl false))) qK)
 (yv (eOp leI (zd (yo sumK) (ya (eFz (zr (yx (eOp ixT (yb 0) (eC (.int 0)))) (ye 0) zq (zd (yo yy) (ya (eOp ixT (yb 0) (eC (.int 1))) qb)) ["house"] [])) qb)) (eC (.int 6))))))))))
noncomputable def qN:List FT.T->Mem->Out FT.T:=qr 1 3 (zeX)
section
theorem zbX:FnScope ["thing","houses","purses"] ["thing"] (qg zcG):=by ac_rfl
theorem zO (D:Df K mg "is_net" zcG ["thing"]) (T:Txt mg)   (qv:CalT P w K mg base 1 "is_tuple_of" ["thing","size"] qq) (zQ:CalT P w K mg base 2 "are_named" ["thing","size","least","most"] qx) (zaf:CalT P w K mg base 4 "are_asks" ["thing","later","purses"] zV) (yG:CalT P w K mg base 2 "is_within" ["thing","low","high"] qD):CalT P w K mg base 5 "is_net" ["thing"] qN:=
 yz D zbX rfl rfl (fun f cdv A outer s H E hr=>(qc (qA (zC (qB (yi qv (hr.mono (by decide)) rfl (za (qa (pv 0)) (za zc zb))))) (qf (qk zv)) qu)
  (qc (qA (WW.gt (zaR (zC (qB (yi zQ (hr.mono (by decide)) rfl (za (yh zo (qa (pv 0)) zc (fun _ _=>rfl)) (za zc (za zc (za (zR rfl T.c_MOST_HOUSES) zb))))))) (zaJ (zC (qB (yi zQ (hr.mono (by decide)) rfl (za (yh zo (qa (pv 0)) zc (fun _ _=>rfl)) (za zc (za zc (za (zR rfl T.c_MOST_PURSES) zb)))))))))) (qf (qk zv)) qu)
  (qc (qA (zC (qB (qh (zaA rfl) rfl T.n_all boot_all (za (zf (zp (tgs:=["name","earns","per"]) (caps:=[]) (yr (yh zo (qa (pv 0)) zc (fun _ _=>rfl))) (by bv_omega) (fun _ _ _=>(zaL (zbo rfl (WGs.pe (qw (zB (WG.pe (qe (yg (i:=0) (show (["name","earns","per"]:List Str).Nodup by decide +kernel) rfl (by first | exact Or.inl rfl | exact Or.inr rfl)))) (WGs.pe (qw (zB (WG.pe (qe (yg (i:=1) (show (["name","earns","per"]:List Str).Nodup by decide +kernel) rfl (by first | exact Or.inl rfl | exact Or.inr rfl)))) (WGs.pe (qw (zB (WG.pe (qe (yg (i:=2) (show (["name","earns","per"]:List Str).Nodup by decide +kernel) rfl (by first | exact Or.inl rfl | exact Or.inr rfl)))) (WGs.pe zag))))))))))))) (fun _ _ _=>zn) (fun _ _ _=>(zah (y4 zgK (qa (pv 1)) (yc (za ze (za ze zb))) rfl) (zaM (yi yG (hr.mono (by decide)) rfl (za (qa (pv 2)) (za zc (za (zR rfl T.c_MOST_PER) zb))))))))) zb)))) (qf (qk zv)) qu)
  (qc (zi (i:=1) zbX.nd rfl (Or.inr rfl) (zf (zp (tgs:=["house"]) (caps:=[]) (yr (yh zo (qa (pv 0)) zc (fun _ _=>rfl))) (by bv_omega) (fun _ _ _=>(qe (yg (i:=0) (show (["house"]:List Str).Nodup by decide +kernel) rfl (by first | exact Or.inl rfl | exact Or.inr rfl)))) (fun _ _ _=>zn) (fun _ _ _=>(yh zo (qa (pv 0)) zc (fun _ _=>rfl))))))
  (qc (zi (i:=2) zbX.nd rfl (Or.inr rfl) (zf (zp (tgs:=["purse"]) (caps:=[]) (yr (yh zo (qa (pv 0)) zc (fun _ _=>rfl))) (by bv_omega) (fun _ _ _=>(qe (yg (i:=0) (show (["purse"]:List Str).Nodup by decide +kernel) rfl (by first | exact Or.inl rfl | exact Or.inr rfl)))) (fun _ _ _=>zn) (fun _ _ _=>(yh zo (qa (pv 0)) zc (fun _ _=>rfl))))))
  (qc (qA (zC (qB (qh (zaA rfl) rfl T.n_all boot_all (za (zf (zp (tgs:=["at","house"]) (caps:=[("houses",1),("purses",2)]) (zhz rfl T.n_enumerate (yh zo (qa (pv 0)) zc (fun _ _=>rfl))) (by bv_omega) (fun _ _ _=>(zaL (zbo rfl (WGs.pe (qw (zB (WG.pe (qe (yg (i:=0) (show (["at","house","houses","purses"]:List Str).Nodup by decide +kernel) rfl (by first | exact Or.inl rfl | exact Or.inr rfl)))) (WGs.pe (qw (zB (WG.pe (qe (yg (i:=1) (show (["at","house","houses","purses"]:List Str).Nodup by decide +kernel) rfl (by first | exact Or.inl rfl | exact Or.inr rfl)))) (WGs.pe zag)))))))))) (fun _ _ _=>zn) (fun _ _ _=>(yi zaf (hr.mono (by decide)) rfl (za (yh zo (qa (pv 1)) zc (fun _ _=>rfl)) (za (zaS (qa (pv 2)) (yK (yf zk (qa (pv 0)) zc)) qM) (za (qa (pv 3)) zb))))))) zb)))) (qf (qk zv)) qu)
  (qf (qk (y4 zb4 (qh (zhi rfl) rfl T.n_sum boot_sum (za (zf (zp (tgs:=["house"]) (caps:=[]) (yr (yh zo (qa (pv 0)) zc (fun _ _=>rfl))) (by bv_omega) (fun _ _ _=>(qe (yg (i:=0) (show (["house"]:List Str).Nodup by decide +kernel) rfl (by first | exact Or.inl rfl | exact Or.inr rfl)))) (fun _ _ _=>zn) (fun _ _ _=>(qh zt rfl T.n_len boot_len (za (yh zo (qa (pv 0)) zc (fun _ _=>rfl)) zb))))) zb)) (zR rfl T.c_MOST_ASKS) (qJ _)))))))))))
end
noncomputable def zfH:Ev->Mem->Out Fl:=
 (yv (eTk (zl (ya (zd (call2 zeI) (ya (eC (.int 0)) (ya (eOp zcz (yb 0) (eOp zfZ (eC (.int 10)) (eC (.int 18)))) qb))) (ya (eOp zaY (yb 0) (eOp zfZ (eC (.int 10)) (eC (.int 18)))) (ya (eC (.int 0)) qb))))))
noncomputable def zbv:List FT.T->Mem->Out FT.T:=qr 1 1 (zfH)
section
theorem zhJ:FnScope ["cell"] ["cell"] (qg zdl):=by ac_rfl
theorem zbx (D:Df K mg "_law_dig" zdl ["cell"]) (T:Txt mg)   :CalT P w K mg base 1 "_law_dig" ["cell"] zbv:=
 yz D zhJ rfl rfl (fun f cdv A outer s H E hr=>(qf (qk (qQ (zh (za (qh (zdR rfl) rfl T.n_max boot_max (za zc (za (yf zdr (qa (pv 0)) (yf zfx zc zc)) zb))) (za (yf z6 (qa (pv 0)) (yf zfx zc zc)) (za zc zb))))))))
end
noncomputable def zeT:Ev->Mem->Out Fl:=
 (zg (sIf (zu (eOp gtI (eOp ixT (yb 0) (eC (.int 0))) (eC (.int 0)))) (zg (yk 2 (eOp zaY (eOp ixT (yb 0) (eC (.int 0))) (yb 1)))
 (zg (zb0 (eOp zdB (eOp ixT (yb 0) (eC (.int 0))) (yb 1)) (zgj zer (yb 0) (eC (.int 0))))
 (yv (yb 2)))) qK)
 (zg (zb0 (eOp qo (eOp ixT (yb 0) (eC (.int 2))) (eC (.int 1))) (zgj zer (yb 0) (eC (.int 2))))
 (zg (yk 3 (eOp zaY (eOp qo (eOp ixT (yb 0) (eC (.int 1))) (eOp yH (eC (.int 7919)) (eOp ixT (yb 0) (eC (.int 2))))) (eC (.int 1000000007))))
 (zg (yk 4 (eOp zaY (eOp yH (eOp qo (yb 3) (eC (.int 11))) (eOp qo (yb 3) (eC (.int 48271)))) (eC (.int 998244353))))
 (yv (eOp zaY (eOp zdB (eOp zaY (eOp yH (yb 4) (yb 4)) (eC (.int 2147483647))) (eC (.int 8))) (yb 1)))))))
noncomputable def qp:List FT.T->Mem->Out FT.T:=qr 2 5 (zeT)
section
theorem zbd:FnScope ["pool","base","digit","mark","stir"] ["pool","base"] (qg zcC):=by ac_rfl
theorem yn (D:Df K mg "_law_next" zcC ["pool","base"]) (T:Txt mg)   :CalT P w K mg base 1 "_law_next" ["pool","base"] qp:=
 yz D zbd rfl rfl (fun f cdv A outer s H E hr=>(qc (qA (yI zeD (yh zo (qa (pv 0)) zc (fun _ _=>rfl)) zc (qJ _)) (qc (zi (i:=2) zbd.nd rfl (Or.inl rfl) (yf z6 (yh zo (qa (pv 0)) zc (fun _ _=>rfl)) (qa (pv 1))))
  (qc (zaK (yf zfy (yh zo (qa (pv 0)) zc (fun _ _=>rfl)) (qa (pv 1))) (zfm (qa (pv 0)) zc ziB))
  (qf (qk (qa (pv 2)))))) qu)
  (qc (zaK (yf zk (yh zo (qa (pv 0)) zc (fun _ _=>rfl)) zc) (zfm (qa (pv 0)) zc ziB))
  (qc (zi (i:=3) zbd.nd rfl (Or.inl rfl) (yf z6 (yf zk (yh zo (qa (pv 0)) zc (fun _ _=>rfl)) (yf zU zc (yh zo (qa (pv 0)) zc (fun _ _=>rfl)))) zc))
  (qc (zi (i:=4) zbd.nd rfl (Or.inl rfl) (yf z6 (yf zU (yf zk (qa (pv 3)) zc) (yf zk (qa (pv 3)) zc)) zc))
  (qf (qk (yf z6 (yf zfy (yf z6 (yf zU (qa (pv 4)) (qa (pv 4))) zc) zc) (qa (pv 1))))))))))
end
noncomputable def zdg:Ev->Mem->Out Fl:=
 (zg (yk 8 (eOp qo (eOp qo (zeZ (yb 3) qX (yU (yb 4))) (eOp ixS (yb 2) (eOp zaY (eOp qo (yb 5) (eOp yH (eC (.int 5)) (yb 7))) (eC (.int 26))))) (zeZ (yb 3) (yU (yb 4)) qX)))
 (zaD (zY qL (eUn yE (yb 6)) (ya (eOp qo (yb 8) (eOp zdu (eOp ixS (yb 2) (yb 5)) (eOp zaY (yb 7) (eC (.int 2))))) qb))))
noncomputable def zdQ:Ev->Mem->Out Fl:=
 (zg (yk 2 (eC (.str "abcdefghijklmnopqrstuvwxyz")))
 (zg (yk 3 (zdb isStr zcp (eC (.str "")) (ya (eFz (zr (qI (ya (zd qp (ya (yb 0) (ya (eC (.int 7)) qb))) qb)) (ye 0) zq (eOp ixS (yb 1) (zd qp (ya (yb 2) (ya (eC (.int 26)) qb)))) ["k"] [("abc",2),("pool",0)])) qb)))
 (zg (yk 4 (zd qp (ya (yb 0) (ya (eOp qo (zd (yo yy) (ya (yb 3) qb)) (eC (.int 1))) qb))))
 (zg (yk 5 (zd qp (ya (yb 0) (ya (eC (.int 26)) qb))))
 (zg (yk 6 (eTk (zl qb)))
 (zg (zai (qI (ya (yb 1) qb)) (ye 7) zdg)
 (yv (yb 6))))))))
noncomputable def zaz:List FT.T->Mem->Out FT.T:=qr 2 9 (zdQ)
section
theorem yJ:FnScope ["pool","many","abc","base","at","first","found","k","name"] ["pool","many"] (qg zbY):=by ac_rfl
theorem z8 (D:Df K mg "_law_words" zbY ["pool","many"]) (T:Txt mg)   (yn:CalT P w K mg base 1 "_law_next" ["pool","base"] qp):CalT P w K mg base 2 "_law_words" ["pool","many"] zaz:=
 yz D yJ rfl rfl (fun f cdv A outer s H E hr=>(qc (zi (i:=2) yJ.nd rfl (Or.inr rfl) ze)
  (qc (zi (i:=3) yJ.nd rfl (Or.inl rfl) (zhA ty_str (y9 PySem.F.plainAttrs_str PySem.F.slot_str_join PySem.F.type_str_join zhZ (WE.pe ze) (WA.pe (za (zf (zp (tgs:=["k"]) (caps:=[("abc",2),("pool",0)]) (zG rfl T.n_range (za (yi yn (hr.mono (by decide)) rfl (za (qa (pv 0)) (za zc zb))) zb)) (by bv_omega) (fun _ _ _=>(qe (yg (i:=0) (show (["k","abc","pool"]:List Str).Nodup by decide +kernel) rfl (by first | exact Or.inl rfl | exact Or.inr rfl)))) (fun _ _ _=>zn) (fun _ _ _=>(yh zh7 (qa (pv 1)) (yi yn (hr.mono (by decide)) rfl (za (qa (pv 2)) (za zc zb))) (fun _ _=>rfl))))) zb)))))
  (qc (zi (i:=4) yJ.nd rfl (Or.inl rfl) (yi yn (hr.mono (by decide)) rfl (za (qa (pv 0)) (za (yf zk (qh zt rfl T.n_len boot_len (za (qa (pv 3)) zb)) zc) zb))))
  (qc (zi (i:=5) yJ.nd rfl (Or.inl rfl) (yi yn (hr.mono (by decide)) rfl (za (qa (pv 0)) (za zc zb))))
  (qc (zi (i:=6) yJ.nd rfl (Or.inl rfl) (qQ (zh zb)))
  (qc (zP PassesOwn.never rfl (zG rfl T.n_range (za (qa (pv 1)) zb)) (qe (yg (i:=7) yJ.nd rfl (by first | exact Or.inl rfl | exact Or.inr rfl))) (qc (zi (i:=8) yJ.nd rfl (Or.inl rfl) (yf zk (yf zk (zfn (qa (pv 3)) qM (yK (qa (pv 4)))) (yh zh7 (qa (pv 2)) (yf z6 (yf zk (qa (pv 5)) (yf zU zc (qa (pv 7)))) zc) (fun _ _=>rfl))) (zfn (qa (pv 3)) (yK (qa (pv 4))) qM)))
  (qf (yP (qP (y9 PySem.F.plainAttrs_list PySem.F.slot_list_append PySem.F.type_list_append yC (WE.pe (qa (pv 6))) (WA.pe (za (yf zk (qa (pv 8)) (yf zjj (yh zh7 (qa (pv 2)) (qa (pv 5)) (fun _ _=>rfl)) (yf z6 (qa (pv 7)) zc))) zb))))))))
  (qf (qk (qa (pv 6)))))))))))
end
noncomputable def zdX:Ev->Mem->Out Fl:=
 (zg (yk 6 (eOp ixT (yb 1) (zd qp (ya (yb 0) (ya (zd (yo yy) (ya (yb 1) qb)) qb)))))
 (zg (yk 7 (eOp ixT (eFz (zl (ya (eC (.int 1)) (ya (eC (.int 2)) (ya (eC (.int 2)) (ya (eC (.int 3)) (ya (eC (.int 4)) (ya (eC (.int 0)) (ya (eC (.int 0)) (ya (eC (.int 1)) qb)))))))))) (zd qp (ya (yb 0) (ya (eC (.int 8)) qb)))))
 (zg (yk 8 (eOp ixT (eFz (lOp qZ (eFz (zl (ya (eC .non) qb))) (eFz (lOp zdo (yb 2) (eC (.int 2)))))) (zd qp (ya (yb 0) (ya (eOp qo (eC (.int 1)) (eOp yH (eC (.int 2)) (zd (yo yy) (ya (yb 2) qb)))) qb)))))
 (zg (yk 9 (eOp ixT (eFz (zl (ya (eC (.str "bad")) (ya (eC (.str "bad")) (ya (eC (.str "spent")) qb))))) (zd qp (ya (yb 0) (ya (eC (.int 3)) qb)))))
 (zaD (zY qL (eUn yE (yb 4)) (ya (qd (ya (yb 6) (ya (yb 7) (ya (yb 8) (ya (yb 9) (ya (eOp eqA (zd qp (ya (yb 0) (ya (eC (.int 2)) qb))) (eC (.int 0))) (ya (eOp eqA (zd qp (ya (yb 0) (ya (eC (.int 3)) qb))) (eC (.int 0))) qb))))))) qb)))))))
noncomputable def zeW:Ev->Mem->Out Fl:=
 (zg (yk 4 (eTk (zl qb)))
 (zg (zai (qI (ya (eOp yH (zd (call2 zdw) (ya (yb 3) (ya (eOp ixT (eFz (zl (ya (eC (.int 1)) (ya (eC (.int 1)) (ya (eC (.int 2)) (ya (eC (.int 2)) (ya (eC (.int 3)) (ya (eC (.int 0)) (ya (eC (.int 2)) (ya (eC (.int 1)) qb)))))))))) (zd qp (ya (yb 0) (ya (eC (.int 8)) qb)))) qb))) (zd (yo zf8) (ya (eOp neA (yb 1) (eFz (zl qb))) qb))) qb)) (ye 5) zdX)
 (yv (zd (yo yR) (ya (yb 4) qb)))))
noncomputable def zbQ:List FT.T->Mem->Out FT.T:=qr 4 10 (zeW)
section
theorem zS:FnScope ["pool","later","purses","most","found","k","to","tries","purse","word"] ["pool","later","purses","most"] (qg zcF):=by ac_rfl
theorem za6 (D:Df K mg "_law_asks" zcF ["pool","later","purses","most"]) (T:Txt mg)   (yn:CalT P w K mg base 1 "_law_next" ["pool","base"] qp):CalT P w K mg base 2 "_law_asks" ["pool","later","purses","most"] zbQ:=
 yz D zS rfl rfl (fun f cdv A outer s H E hr=>(qc (zi (i:=4) zS.nd rfl (Or.inl rfl) (qQ (zh zb)))
  (qc (zP PassesOwn.never rfl (zG rfl T.n_range (za (yf zU (qh (zcd rfl) rfl T.n_min boot_min (za (qa (pv 3)) (za (yh zo (zf (zh (za zc (za zc (za zc (za zc (za zc (za zc (za zc (za zc zb)))))))))) (yi yn (hr.mono (by decide)) rfl (za (qa (pv 0)) (za zc zb))) (fun _ _=>rfl)) zb))) (z9 zhn rfl T.n_int boot_int (za (y4 (zkN hr.units) (qa (pv 1)) (zf (zh zb)) (qJ _)) zb))) zb)) (qe (yg (i:=5) zS.nd rfl (by first | exact Or.inl rfl | exact Or.inr rfl))) (qc (zi (i:=6) zS.nd rfl (Or.inl rfl) (yh zo (qa (pv 1)) (yi yn (hr.mono (by decide)) rfl (za (qa (pv 0)) (za (qh zt rfl T.n_len boot_len (za (qa (pv 1)) zb)) zb))) (fun _ _=>rfl)))
  (qc (zi (i:=7) zS.nd rfl (Or.inl rfl) (yh zo (zf (zh (za zc (za zc (za zc (za zc (za zc (za zc (za zc (za zc zb)))))))))) (yi yn (hr.mono (by decide)) rfl (za (qa (pv 0)) (za zc zb))) (fun _ _=>rfl)))
  (qc (zi (i:=8) zS.nd rfl (Or.inl rfl) (yh zo (zf (zbl zbq (zf (zh (za yw zb))) (zf (zbl zjh (qa (pv 2)) zc)))) (yi yn (hr.mono (by decide)) rfl (za (qa (pv 0)) (za (yf zk zc (yf zU zc (qh zt rfl T.n_len boot_len (za (qa (pv 2)) zb)))) zb))) (fun _ _=>rfl)))
  (qc (zi (i:=9) zS.nd rfl (Or.inl rfl) (yh zo (zf (zh (za ze (za ze (za ze zb))))) (yi yn (hr.mono (by decide)) rfl (za (qa (pv 0)) (za zc zb))) (fun _ _=>rfl)))
  (qf (yP (qP (y9 PySem.F.plainAttrs_list PySem.F.slot_list_append PySem.F.type_list_append yC (WE.pe (qa (pv 4))) (WA.pe (za (yc (za (qa (pv 6)) (za (qa (pv 7)) (za (qa (pv 8)) (za (qa (pv 9)) (za (y4 (zbp hr.units) (yi yn (hr.mono (by decide)) rfl (za (qa (pv 0)) (za zc zb))) zc (qJ _)) (za (y4 (zbp hr.units) (yi yn (hr.mono (by decide)) rfl (za (qa (pv 0)) (za zc zb))) zc (qJ _)) zb))))))) zb)))))))))))
  (qf (qk (z9 zat rfl T.n_tuple boot_tuple (za (qa (pv 4)) zb)))))))
end
noncomputable def zcW:Ev->Mem->Out Fl:=
 (zg (yk 6 (zd zbQ (ya (yb 0) (ya (eSl (yb 1) (yU (eOp qo (yb 5) (eC (.int 1)))) qX) (ya (yb 2) (ya (zd (call2 zdw) (ya (eC (.int 3)) (ya (yb 4) qb))) qb))))))
 (zg (yk 4 (eOp zcz (yb 4) (zd (yo yy) (ya (yb 6) qb))))
 (zaD (zY qL (eUn yE (yb 3)) (ya (qd (ya (eOp ixT (yb 1) (yb 5)) (ya (yb 6) qb))) qb)))))
noncomputable def zcV:Ev->Mem->Out Fl:=
 (zg (yk 9 (eOp ixT (eFz (zl (ya (eC (.str "first")) (ya (eC (.str "any")) qb)))) (zd qp (ya (yb 0) (ya (eC (.int 2)) qb)))))
 (zaD (zY qL (eUn yE (yb 7)) (ya (qd (ya (yb 8) (ya (yb 9) (ya (eOp ixT (eFz (zl (ya (eC (.int 1)) (ya (eC (.int 1)) (ya (eC (.int 2)) (ya (eC (.int 3)) (ya (eOp qo (eC (.int 1)) (zd qp (ya (yb 0) (ya (eC (.int 9)) qb)))) qb))))))) (zd qp (ya (yb 0) (ya (eC (.int 5)) qb)))) qb)))) qb))))
noncomputable def zfG:Ev->Mem->Out Fl:=
 (zg (yk 1 (zd zaz (ya (yb 0) (ya (eOp ixT (eFz (zl (ya (eC (.int 2)) (ya (eC (.int 3)) (ya (eC (.int 3)) (ya (eC (.int 4)) (ya (eC (.int 4)) (ya (eC (.int 3)) (ya (eC (.int 2)) (ya (eC (.int 1)) qb)))))))))) (zd qp (ya (yb 0) (ya (eC (.int 8)) qb)))) qb))))
 (zg (yk 2 (zd zaz (ya (yb 0) (ya (eOp ixT (eFz (zl (ya (eC (.int 0)) (ya (eC (.int 1)) (ya (eC (.int 1)) (ya (eC (.int 2)) qb)))))) (zd qp (ya (yb 0) (ya (eC (.int 4)) qb)))) qb))))
 (zg (sIf (zu (eOp eqA (zd qp (ya (yb 0) (ya (eC (.int 8)) qb))) (eC (.int 0)))) (yk 2 (eSl (eRv (yb 1) (yU (eUn zcM (eC (.int 1))))) qX (yU (zd (yo yy) (ya (yb 2) qb))))) qK)
 (zg (yk 3 (eTk (zl qb)))
 (zg (yk 4 (eC (.int 6)))
 (zg (zai (qI (ya (zd (yo yy) (ya (yb 1) qb)) qb)) (ye 5) zcW)
 (zg (yk 7 (eTk (zl qb)))
 (zg (zcZ (zc8 (yb 2)) (ye 8) zcV)
 (yv (qd (ya (zd (yo yR) (ya (yb 3) qb)) (ya (zd (yo yR) (ya (yb 7) qb)) qb))))))))))))
noncomputable def zcq:List FT.T->Mem->Out FT.T:=qr 1 10 (zfG)
section
theorem yF:FnScope ["pool","houses","purses","some","room","k","asks","rows","name","which"] ["pool"] (qg zdk):=by ac_rfl
theorem zbw (D:Df K mg "_law_net" zdk ["pool"]) (T:Txt mg)   (z8:CalT P w K mg base 2 "_law_words" ["pool","many"] zaz) (yn:CalT P w K mg base 1 "_law_next" ["pool","base"] qp) (za6:CalT P w K mg base 2 "_law_asks" ["pool","later","purses","most"] zbQ):CalT P w K mg base 3 "_law_net" ["pool"] zcq:=
 yz D yF rfl rfl (fun f cdv A outer s H E hr=>(qc (zi (i:=1) yF.nd rfl (Or.inl rfl) (yi z8 (hr.mono (by decide)) rfl (za (qa (pv 0)) (za (yh zo (zf (zh (za zc (za zc (za zc (za zc (za zc (za zc (za zc (za zc zb)))))))))) (yi yn (hr.mono (by decide)) rfl (za (qa (pv 0)) (za zc zb))) (fun _ _=>rfl)) zb))))
  (qc (zi (i:=2) yF.nd rfl (Or.inl rfl) (yi z8 (hr.mono (by decide)) rfl (za (qa (pv 0)) (za (yh zo (zf (zh (za zc (za zc (za zc (za zc zb)))))) (yi yn (hr.mono (by decide)) rfl (za (qa (pv 0)) (za zc zb))) (fun _ _=>rfl)) zb))))
  (qc (qA (yI (zbp hr.units) (yi yn (hr.mono (by decide)) rfl (za (qa (pv 0)) (za zc zb))) zc (qJ _)) (qf (zi (i:=2) yF.nd rfl (Or.inl rfl) (zaS (zj9 (qa (pv 1)) (yK (zei zdh zc))) qM (yK (qh zt rfl T.n_len boot_len (za (qa (pv 2)) zb)))))) qu)
  (qc (zi (i:=3) yF.nd rfl (Or.inl rfl) (qQ (zh zb)))
  (qc (zi (i:=4) yF.nd rfl (Or.inl rfl) zc)
  (qc (zP PassesOwn.never rfl (zG rfl T.n_range (za (qh zt rfl T.n_len boot_len (za (qa (pv 1)) zb)) zb)) (qe (yg (i:=5) yF.nd rfl (by first | exact Or.inl rfl | exact Or.inr rfl))) (qc (zi (i:=6) yF.nd rfl (Or.inl rfl) (yi za6 (hr.mono (by decide)) rfl (za (qa (pv 0)) (za (zaS (qa (pv 1)) (yK (yf zk (qa (pv 5)) zc)) qM) (za (qa (pv 2)) (za (qh (zcd rfl) rfl T.n_min boot_min (za zc (za (qa (pv 4)) zb))) zb))))))
  (qc (zi (i:=4) yF.nd rfl (Or.inl rfl) (yf zdr (qa (pv 4)) (qh zt rfl T.n_len boot_len (za (qa (pv 6)) zb))))
  (qf (yP (qP (y9 PySem.F.plainAttrs_list PySem.F.slot_list_append PySem.F.type_list_append yC (WE.pe (qa (pv 3))) (WA.pe (za (yc (za (yh zo (qa (pv 1)) (qa (pv 5)) (fun _ _=>rfl)) (za (qa (pv 6)) zb))) zb)))))))))
  (qc (zi (i:=7) yF.nd rfl (Or.inl rfl) (qQ (zh zb)))
  (qc (zhx PassesOwn.never rfl (zhy (qa (pv 2))) (qe (yg (i:=8) yF.nd rfl (by first | exact Or.inl rfl | exact Or.inr rfl))) (qc (zi (i:=9) yF.nd rfl (Or.inl rfl) (yh zo (zf (zh (za ze (za ze zb)))) (yi yn (hr.mono (by decide)) rfl (za (qa (pv 0)) (za zc zb))) (fun _ _=>rfl)))
  (qf (yP (qP (y9 PySem.F.plainAttrs_list PySem.F.slot_list_append PySem.F.type_list_append yC (WE.pe (qa (pv 7))) (WA.pe (za (yc (za (qa (pv 8)) (za (qa (pv 9)) (za (yh zo (zf (zh (za zc (za zc (za zc (za zc (za (yf zk zc (yi yn (hr.mono (by decide)) rfl (za (qa (pv 0)) (za zc zb)))) zb))))))) (yi yn (hr.mono (by decide)) rfl (za (qa (pv 0)) (za zc zb))) (fun _ _=>rfl)) zb)))) zb))))))))
  (qf (qk (yc (za (z9 zat rfl T.n_tuple boot_tuple (za (qa (pv 3)) zb)) (za (z9 zat rfl T.n_tuple boot_tuple (za (qa (pv 7)) zb)) zb))))))))))))))
end
noncomputable def zeU:Ev->Mem->Out Fl:=
 (zg (sIf (zu (eOp ltI (yb 1) (zd (yo yy) (ya (yb 0) qb)))) (yv (eOp ixT (yb 0) (yb 1))) qK)
 (yv (eOp qo (eOp yH (eOp yH (eC (.int 7919)) (yb 1)) (yb 1)) (eOp yH (eC (.int 31)) (yb 1)))))
noncomputable def za0:List FT.T->Mem->Out FT.T:=qr 2 2 (zeU)
section
theorem zgv:FnScope ["script","k"] ["script","k"] (qg zcD):=by ac_rfl
theorem za4 (D:Df K mg "_law_cell" zcD ["script","k"]) (T:Txt mg)   :CalT P w K mg base 1 "_law_cell" ["script","k"] za0:=
 yz D zgv rfl rfl (fun f cdv A outer s H E hr=>(qc (qA (yI zkO (qa (pv 1)) (qh zt rfl T.n_len boot_len (za (qa (pv 0)) zb)) (qJ _)) (qf (qk (yh zo (qa (pv 0)) (qa (pv 1)) (fun _ _=>rfl)))) qu)
  (qf (qk (yf zk (yf zU (yf zU zc (qa (pv 1))) (qa (pv 1))) (yf zU zc (qa (pv 1))))))))
end
noncomputable def zfF:Ev->Mem->Out Fl:=
 (yv (eOp qo (eOp qo (eSl (yb 0) qX (yU (yb 1))) (qd (ya (yb 2) qb))) (eSl (yb 0) (yU (eOp qo (yb 1) (eC (.int 1)))) qX)))
noncomputable def qC:List FT.T->Mem->Out FT.T:=qr 3 3 (zfF)
section
theorem zhI:FnScope ["things","at","thing"] ["things","at","thing"] (qg zdj):=by ac_rfl
theorem qV (D:Df K mg "_law_put" zdj ["things","at","thing"]) (T:Txt mg)   :CalT P w K mg base 1 "_law_put" ["things","at","thing"] qC:=
 yz D zhI rfl rfl (fun f cdv A outer s H E hr=>(qf (qk (yf zk (yf zk (zaS (qa (pv 0)) qM (yK (qa (pv 1)))) (yc (za (qa (pv 2)) zb))) (zaS (qa (pv 0)) (yK (yf zk (qa (pv 1)) zc)) qM)))))
end
noncomputable def zdW:Ev->Mem->Out Fl:=
 (zaD (zY qL (eUn yE (yb 8)) (ya (qd (ya (zd qC (ya (yb 2) (ya (yb 9) (ya (qd (ya (yb 10) (ya (zd qC (ya (yb 11) (ya (yb 13) (ya (yb 17) qb)))) qb))) qb)))) (ya (yb 3) qb))) qb)))
noncomputable def zch:Ev->Mem->Out Fl:=
 (zg (yk 14 (eOp ixT (yb 11) (yb 13)))
 (zg (yk 15 (eFz (zr (yx (eOp qo (eFz (zl (ya (yb 10) (ya (yb 5) (ya (eC (.str "")) (ya (eC (.int 0)) (ya (eOp ixT (eOp ixT (yb 2) (eC (.int 0))) (eC (.int 0))) qb))))))) (eOp ixT (yb 7) (eC (.int 0))))) (ye 0) zq (qd (ya (eC (.int 0)) (ya (yb 0) qb))) ["one"] [])))
 (zg (yk 15 (eOp qo (yb 15) (eFz (zr (yx (eFz (zl (ya (eUn zcM (eC (.int 1))) (ya (eC (.int 5)) (ya (eC (.bl true)) (ya (eC .non) (ya (eC (.str "1")) qb)))))))) (ye 0) zq (qd (ya (eC (.int 1)) (ya (yb 0) qb))) ["one"] []))))
 (zg (yk 15 (eOp qo (yb 15) (eFz (zr (yx (eOp qo (eFz (zl (ya (yb 5) (ya (eC (.int 0)) (ya (eC (.bl true)) (ya (eC (.str "")) qb)))))) (eOp ixT (yb 7) (eC (.int 1))))) (ye 0) zq (qd (ya (eC (.int 2)) (ya (yb 0) qb))) ["one"] []))))
 (zg (yk 15 (eOp qo (yb 15) (eFz (zr (yx (eFz (zl (ya (eC (.str "well")) (ya (eC (.str "")) (ya (eC .non) (ya (eC (.str "Bad")) (ya (eC (.bl true)) qb)))))))) (ye 0) zq (qd (ya (eC (.int 3)) (ya (yb 0) qb))) ["one"] []))))
 (zg (yk 15 (eOp qo (eOp qo (yb 15) (eFz (zr (yx (eFz (zl (ya (eC (.int 1)) (ya (eC (.int 0)) (ya (eC .non) (ya (eC (.str "hears")) qb))))))) (ye 0) zq (qd (ya (eC (.int 4)) (ya (yb 0) qb))) ["one"] []))) (eFz (zr (yx (eFz (zl (ya (eC (.int 1)) (ya (eC (.int 0)) (ya (eC .non) (ya (eC (.str "sure")) qb))))))) (ye 0) zq (qd (ya (eC (.int 5)) (ya (yb 0) qb))) ["one"] []))))
 (zg (yk 16 (eFz (zr (yx (yb 15)) (ye 0) zq (zd qC (ya (yb 1) (ya (eOp ixT (yb 0) (eC (.int 0))) (ya (eOp ixT (yb 0) (eC (.int 1))) qb)))) ["part"] [("ask",14)])))
 (zai (yx (eOp qo (yb 16) (eFz (zl (ya (eSl (yb 14) qX (yU (eC (.int 5)))) (ya (eOp qo (yb 14) (qd (ya (eC (.bl true)) qb))) (ya (eFz (zco zas (ya (yb 14) qb))) (ya (eC .non) (ya (qd qb) qb))))))))) (ye 17) zdW))))))))
noncomputable def zcg:Ev->Mem->Out Fl:=
 (zg (zb0 (eOp ixT (yb 2) (yb 9)) (za8 2 (yA (ye 10) (yA (ye 11) za9))))
 (zg (yk 12 (eOp qo (eFz (zr (yx (eFz (zl (ya (eC (.str "")) (ya (eC (.str "Ab")) (ya (eC (.str "abcdefghi")) (ya (eC (.int 7)) (ya (eC .non) (ya (eC (.str "a b")) qb))))))))) (ye 0) zq (qd (ya (yb 0) (ya (yb 1) qb))) ["word"] [("asks",11)])) (eFz (zl (ya (qd (ya (yb 10) (ya (eFz (zco zas (ya (yb 11) qb))) qb))) qb)))))
 (zg (yk 12 (eOp qo (yb 12) (eFz (zl (ya (qd (ya (yb 10) qb)) (ya (qd (ya (yb 10) (ya (yb 11) (ya (qd qb) qb)))) (ya (eFz (zl (ya (yb 10) (ya (yb 11) qb)))) (ya (qd (ya (yb 10) (ya (eC .non) qb))) (ya (qd (ya (yb 10) (ya (eOp qo (yb 11) (qd (ya (eC .non) qb))) qb))) (ya (yb 10) (ya (eC .non) qb)))))))))))
 (zg (yk 8 (eTk (lOp qZ (yb 8) (eFz (zr (yx (yb 12)) (ye 0) zq (qd (ya (zd qC (ya (yb 1) (ya (yb 2) (ya (yb 0) qb)))) (ya (yb 3) qb))) ["one"] [("houses",2),("at",9),("purses",3)])))))
 (zai (qI (ya (zd (yo yy) (ya (yb 11) qb)) qb)) (ye 13) zch)))))
noncomputable def zcf:Ev->Mem->Out Fl:=
 (zg (zb0 (eOp ixT (yb 3) (yb 9)) (za8 3 (yA (ye 10) (yA (ye 18) (yA (ye 19) za9)))))
 (zg (yk 12 (eFz (zr (yx (eFz (zl (ya (eC (.str "")) (ya (eC (.str "Ab")) (ya (eC .non) (ya (eC (.str "abcdefghi")) (ya (eC (.int 7)) qb)))))))) (ye 0) zq (qd (ya (yb 0) (ya (yb 1) (ya (yb 2) qb)))) ["word"] [("which",18),("per",19)])))
 (zg (yk 12 (eOp qo (yb 12) (eFz (zl (ya (qd (ya (yb 10) (ya (eC (.str "each")) (ya (yb 19) qb)))) (ya (qd (ya (yb 10) (ya (eC .non) (ya (yb 19) qb)))) (ya (qd (ya (yb 10) (ya (yb 18) qb))) (ya (qd (ya (yb 10) (ya (yb 18) (ya (yb 19) (ya (eC (.int 1)) qb))))) (ya (yb 10) (ya (eC .non) qb))))))))))
 (zg (yk 12 (eOp qo (eOp qo (yb 12) (eFz (zr (yx (eFz (zl (ya (eC (.int 0)) (ya (eC (.int 10)) (ya (eUn zcM (eC (.int 1))) (ya (eC (.bl true)) (ya (eC .non) (ya (eC (.str "1")) qb))))))))) (ye 0) zq (qd (ya (yb 1) (ya (yb 2) (ya (yb 0) qb)))) ["one"] [("name",10),("which",18)]))) (eFz (zl (ya (eFz (zl (ya (yb 10) (ya (yb 18) (ya (yb 19) qb))))) qb)))))
 (yk 8 (eTk (lOp qZ (yb 8) (eFz (zr (yx (yb 12)) (ye 0) zq (qd (ya (yb 1) (ya (zd qC (ya (yb 2) (ya (yb 3) (ya (yb 0) qb)))) qb))) ["one"] [("houses",2),("purses",3),("at",9)])))))))))
noncomputable def zeV:Ev->Mem->Out Fl:=
 (zg (zb0 (yb 0) (za8 2 (yA (ye 2) (yA (ye 3) za9))))
 (zg (yk 4 (eFz (zr (yx (eOp qo (yb 2) (yb 3))) (ye 0) zq (eOp ixT (yb 0) (eC (.int 0))) ["thing"] [])))
 (zg (yk 5 (eOp ixT (eFz (zr (yx (eFz (zl (ya (eC (.str "q")) (ya (eC (.str "nob")) (ya (eC (.str "nobod")) (ya (eC (.str "nobodyx")) qb))))))) (ye 0) (zu (eOp zam (yb 0) (yb 1))) (yb 0) ["word"] [("names",4)])) (eC (.int 0))))
 (zg (yk 6 (eFz (zl (ya (eFz (zr (yx (yb 2)) (ye 0) zq (eOp ixT (yb 0) (eC (.int 0))) ["thing"] [])) (ya (eFz (zr (yx (yb 3)) (ye 0) zq (eOp ixT (yb 0) (eC (.int 0))) ["thing"] [])) qb)))))
 (zg (yk 7 (eFz (zr (qI (ya (eC (.int 2)) qb)) (ye 0) zq (eFz (zr (yx (eOp ixT (yb 1) (eOp zcz (eC (.int 1)) (yb 0)))) (ye 0) (zu (eOp zam (yb 0) (eOp ixT (yb 1) (yb 2)))) (yb 0) ["word"] [("own",1),("k",0)])) ["k"] [("own",6)])))
 (zg (yk 8 (eTk (zl qb)))
 (zg (zai (qI (ya (zd (yo yy) (ya (yb 2) qb)) qb)) (ye 9) zcg)
 (zg (zai (qI (ya (zd (yo yy) (ya (yb 3) qb)) qb)) (ye 9) zcf)
 (yv (yb 8))))))))))
noncomputable def zbP:List FT.T->Mem->Out FT.T:=qr 2 20 (zeV)
section
theorem zj:FnScope ["net","pool","houses","purses","names","none","own","strange","found","at","name","asks","fresh","k","ask","parts","some","one","which","per"] ["net","pool"] (qg zcE):=by ac_rfl
theorem za5 (D:Df K mg "_law_bent" zcE ["net","pool"]) (T:Txt mg)   (qV:CalT P w K mg base 1 "_law_put" ["things","at","thing"] qC):CalT P w K mg base 2 "_law_bent" ["net","pool"] zbP:=
 yz D zj rfl rfl (fun f cdv A outer s H E hr=>(qc (zaK (qa (pv 0)) (zaL (zbo rfl (WGs.pe (qw (zB (WG.pe (qe (yg (i:=2) zj.nd rfl (by first | exact Or.inl rfl | exact Or.inr rfl)))) (WGs.pe (qw (zB (WG.pe (qe (yg (i:=3) zj.nd rfl (by first | exact Or.inl rfl | exact Or.inr rfl)))) (WGs.pe zag))))))))))
  (qc (zi (i:=4) zj.nd rfl (Or.inr rfl) (zf (zp (tgs:=["thing"]) (caps:=[]) (yr (yf zk (qa (pv 2)) (qa (pv 3)))) (by bv_omega) (fun _ _ _=>(qe (yg (i:=0) (show (["thing"]:List Str).Nodup by decide +kernel) rfl (by first | exact Or.inl rfl | exact Or.inr rfl)))) (fun _ _ _=>zn) (fun _ _ _=>(yh zo (qa (pv 0)) zc (fun _ _=>rfl))))))
  (qc (zi (i:=5) zj.nd rfl (Or.inl rfl) (yh zo (zf (zp (tgs:=["word"]) (caps:=[("names",4)]) (yr (zf (zh (za ze (za ze (za ze (za ze zb))))))) (by bv_omega) (fun _ _ _=>(qe (yg (i:=0) (show (["word","names"]:List Str).Nodup by decide +kernel) rfl (by first | exact Or.inl rfl | exact Or.inr rfl)))) (fun _ _ _=>(zeh (yI zcm (qa (pv 0)) (qa (pv 1)) rfl))) (fun _ _ _=>(qa (pv 0))))) zc (fun _ _=>rfl)))
  (qc (zi (i:=6) zj.nd rfl (Or.inr rfl) (zf (zh (za (zf (zp (tgs:=["thing"]) (caps:=[]) (yr (qa (pv 2))) (by bv_omega) (fun _ _ _=>(qe (yg (i:=0) (show (["thing"]:List Str).Nodup by decide +kernel) rfl (by first | exact Or.inl rfl | exact Or.inr rfl)))) (fun _ _ _=>zn) (fun _ _ _=>(yh zo (qa (pv 0)) zc (fun _ _=>rfl))))) (za (zf (zp (tgs:=["thing"]) (caps:=[]) (yr (qa (pv 3))) (by bv_omega) (fun _ _ _=>(qe (yg (i:=0) (show (["thing"]:List Str).Nodup by decide +kernel) rfl (by first | exact Or.inl rfl | exact Or.inr rfl)))) (fun _ _ _=>zn) (fun _ _ _=>(yh zo (qa (pv 0)) zc (fun _ _=>rfl))))) zb)))))
  (qc (y8 (i0:=7) (tgs:=["k"]) (caps:=[("own",6)]) (zG rfl T.n_range (za zc zb)) (by bv_omega) (fun _ _ _=>(qe (yg (i:=0) (show (["k","own"]:List Str).Nodup by decide +kernel) rfl (by first | exact Or.inl rfl | exact Or.inr rfl)))) (fun _ _ _=>zn) (fun _ _ _=>(zf (zp (tgs:=["word"]) (caps:=[("own",1),("k",0)]) (yr (yh zo (qa (pv 1)) (yf zdr zc (qa (pv 0))) (fun _ _=>rfl))) (by bv_omega) (fun _ _ _=>(qe (yg (i:=0) (show (["word","own","k"]:List Str).Nodup by decide +kernel) rfl (by first | exact Or.inl rfl | exact Or.inr rfl)))) (fun _ _ _=>(zeh (yI zcm (qa (pv 0)) (yh zo (qa (pv 1)) (qa (pv 2)) (fun _ _=>rfl)) rfl))) (fun _ _ _=>(qa (pv 0)))))) zj.nd rfl (Or.inl rfl))
  (qc (zi (i:=8) zj.nd rfl (Or.inl rfl) (qQ (zh zb)))
  (qc (zP PassesOwn.never rfl (zG rfl T.n_range (za (qh zt rfl T.n_len boot_len (za (qa (pv 2)) zb)) zb)) (qe (yg (i:=9) zj.nd rfl (by first | exact Or.inl rfl | exact Or.inr rfl))) (qc (zaK (yh zo (qa (pv 2)) (qa (pv 9)) (fun _ _=>rfl)) (zaL (zbo rfl (WGs.pe (qw (zB (WG.pe (qe (yg (i:=10) zj.nd rfl (by first | exact Or.inl rfl | exact Or.inr rfl)))) (WGs.pe (qw (zB (WG.pe (qe (yg (i:=11) zj.nd rfl (by first | exact Or.inl rfl | exact Or.inr rfl)))) (WGs.pe zag))))))))))
  (qc (zi (i:=12) zj.nd rfl (Or.inl rfl) (yf zk (zf (zp (tgs:=["word"]) (caps:=[("asks",11)]) (yr (zf (zh (za ze (za ze (za ze (za zc (za yw (za ze zb))))))))) (by bv_omega) (fun _ _ _=>(qe (yg (i:=0) (show (["word","asks"]:List Str).Nodup by decide +kernel) rfl (by first | exact Or.inl rfl | exact Or.inr rfl)))) (fun _ _ _=>zn) (fun _ _ _=>(yc (za (qa (pv 0)) (za (qa (pv 1)) zb)))))) (zf (zh (za (yc (za (qa (pv 10)) (za (zf (zaG zaH rfl T.n_list boot_list (za (qa (pv 11)) zb))) zb))) zb)))))
  (qc (zi (i:=12) zj.nd rfl (Or.inl rfl) (yf zk (qa (pv 12)) (zf (zh (za (yc (za (qa (pv 10)) zb)) (za (yc (za (qa (pv 10)) (za (qa (pv 11)) (za (yc zb) zb)))) (za (zf (zh (za (qa (pv 10)) (za (qa (pv 11)) zb)))) (za (yc (za (qa (pv 10)) (za yw zb))) (za (yc (za (qa (pv 10)) (za (yf zk (qa (pv 11)) (yc (za yw zb))) zb))) (za (qa (pv 10)) (za yw zb)))))))))))
  (qc (zi (i:=8) zj.nd rfl (Or.inl rfl) (qQ (zbl zbq (qa (pv 8)) (zf (zp (tgs:=["one"]) (caps:=[("houses",2),("at",9),("purses",3)]) (yr (qa (pv 12))) (by bv_omega) (fun _ _ _=>(qe (yg (i:=0) (show (["one","houses","at","purses"]:List Str).Nodup by decide +kernel) rfl (by first | exact Or.inl rfl | exact Or.inr rfl)))) (fun _ _ _=>zn) (fun _ _ _=>(yc (za (yi qV (hr.mono (by decide)) rfl (za (qa (pv 1)) (za (qa (pv 2)) (za (qa (pv 0)) zb)))) (za (qa (pv 3)) zb)))))))))
  (qf (zP PassesOwn.never rfl (zG rfl T.n_range (za (qh zt rfl T.n_len boot_len (za (qa (pv 11)) zb)) zb)) (qe (yg (i:=13) zj.nd rfl (by first | exact Or.inl rfl | exact Or.inr rfl))) (qc (zi (i:=14) zj.nd rfl (Or.inr rfl) (yh zo (qa (pv 11)) (qa (pv 13)) (fun _ _=>rfl)))
  (qc (y8 (i0:=15) (tgs:=["one"]) (caps:=[]) (yr (yf zk (zf (zh (za (qa (pv 10)) (za (qa (pv 5)) (za ze (za zc (za (yh zo (yh zo (qa (pv 2)) zc (fun _ _=>rfl)) zc (fun _ _=>rfl)) zb))))))) (yh zo (qa (pv 7)) zc (fun _ _=>rfl)))) (by bv_omega) (fun _ _ _=>(qe (yg (i:=0) (show (["one"]:List Str).Nodup by decide +kernel) rfl (by first | exact Or.inl rfl | exact Or.inr rfl)))) (fun _ _ _=>zn) (fun _ _ _=>(yc (za zc (za (qa (pv 0)) zb)))) zj.nd rfl (Or.inl rfl))
  (qc (zi (i:=15) zj.nd rfl (Or.inl rfl) (yf zk (qa (pv 15)) (zf (zp (tgs:=["one"]) (caps:=[]) (yr (zf (zh (za (zei zdh zc) (za zc (za zv (za yw (za ze zb)))))))) (by bv_omega) (fun _ _ _=>(qe (yg (i:=0) (show (["one"]:List Str).Nodup by decide +kernel) rfl (by first | exact Or.inl rfl | exact Or.inr rfl)))) (fun _ _ _=>zn) (fun _ _ _=>(yc (za zc (za (qa (pv 0)) zb))))))))
  (qc (zi (i:=15) zj.nd rfl (Or.inl rfl) (yf zk (qa (pv 15)) (zf (zp (tgs:=["one"]) (caps:=[]) (yr (yf zk (zf (zh (za (qa (pv 5)) (za zc (za zv (za ze zb)))))) (yh zo (qa (pv 7)) zc (fun _ _=>rfl)))) (by bv_omega) (fun _ _ _=>(qe (yg (i:=0) (show (["one"]:List Str).Nodup by decide +kernel) rfl (by first | exact Or.inl rfl | exact Or.inr rfl)))) (fun _ _ _=>zn) (fun _ _ _=>(yc (za zc (za (qa (pv 0)) zb))))))))
  (qc (zi (i:=15) zj.nd rfl (Or.inl rfl) (yf zk (qa (pv 15)) (zf (zp (tgs:=["one"]) (caps:=[]) (yr (zf (zh (za ze (za ze (za yw (za ze (za zv zb)))))))) (by bv_omega) (fun _ _ _=>(qe (yg (i:=0) (show (["one"]:List Str).Nodup by decide +kernel) rfl (by first | exact Or.inl rfl | exact Or.inr rfl)))) (fun _ _ _=>zn) (fun _ _ _=>(yc (za zc (za (qa (pv 0)) zb))))))))
  (qc (zi (i:=15) zj.nd rfl (Or.inl rfl) (yf zk (yf zk (qa (pv 15)) (zf (zp (tgs:=["one"]) (caps:=[]) (yr (zf (zh (za zc (za zc (za yw (za ze zb))))))) (by bv_omega) (fun _ _ _=>(qe (yg (i:=0) (show (["one"]:List Str).Nodup by decide +kernel) rfl (by first | exact Or.inl rfl | exact Or.inr rfl)))) (fun _ _ _=>zn) (fun _ _ _=>(yc (za zc (za (qa (pv 0)) zb))))))) (zf (zp (tgs:=["one"]) (caps:=[]) (yr (zf (zh (za zc (za zc (za yw (za ze zb))))))) (by bv_omega) (fun _ _ _=>(qe (yg (i:=0) (show (["one"]:List Str).Nodup by decide +kernel) rfl (by first | exact Or.inl rfl | exact Or.inr rfl)))) (fun _ _ _=>zn) (fun _ _ _=>(yc (za zc (za (qa (pv 0)) zb))))))))
  (qc (y8 (i0:=16) (tgs:=["part"]) (caps:=[("ask",14)]) (yr (qa (pv 15))) (by bv_omega) (fun _ _ _=>(qe (yg (i:=0) (show (["part","ask"]:List Str).Nodup by decide +kernel) rfl (by first | exact Or.inl rfl | exact Or.inr rfl)))) (fun _ _ _=>zn) (fun _ _ _=>(yi qV (hr.mono (by decide)) rfl (za (qa (pv 1)) (za (yh zo (qa (pv 0)) zc (fun _ _=>rfl)) (za (yh zo (qa (pv 0)) zc (fun _ _=>rfl)) zb))))) zj.nd rfl (Or.inl rfl))
  (qf (zP PassesOwn.never rfl (yr (yf zk (qa (pv 16)) (zf (zh (za (zaS (qa (pv 14)) qM (yK zc)) (za (yf zk (qa (pv 14)) (yc (za zv zb))) (za (zf (zaG zaH rfl T.n_list boot_list (za (qa (pv 14)) zb))) (za yw (za (yc zb) zb))))))))) (qe (yg (i:=17) zj.nd rfl (by first | exact Or.inl rfl | exact Or.inr rfl))) (qf (yP (qP (y9 PySem.F.plainAttrs_list PySem.F.slot_list_append PySem.F.type_list_append yC (WE.pe (qa (pv 8))) (WA.pe (za (yc (za (yi qV (hr.mono (by decide)) rfl (za (qa (pv 2)) (za (qa (pv 9)) (za (yc (za (qa (pv 10)) (za (yi qV (hr.mono (by decide)) rfl (za (qa (pv 11)) (za (qa (pv 13)) (za (qa (pv 17)) zb)))) zb))) zb)))) (za (qa (pv 3)) zb))) zb))))))))))))))))))))))
  (qc (zP PassesOwn.never rfl (zG rfl T.n_range (za (qh zt rfl T.n_len boot_len (za (qa (pv 3)) zb)) zb)) (qe (yg (i:=9) zj.nd rfl (by first | exact Or.inl rfl | exact Or.inr rfl))) (qc (zaK (yh zo (qa (pv 3)) (qa (pv 9)) (fun _ _=>rfl)) (zaL (zbo rfl (WGs.pe (qw (zB (WG.pe (qe (yg (i:=10) zj.nd rfl (by first | exact Or.inl rfl | exact Or.inr rfl)))) (WGs.pe (qw (zB (WG.pe (qe (yg (i:=18) zj.nd rfl (by first | exact Or.inl rfl | exact Or.inr rfl)))) (WGs.pe (qw (zB (WG.pe (qe (yg (i:=19) zj.nd rfl (by first | exact Or.inl rfl | exact Or.inr rfl)))) (WGs.pe zag)))))))))))))
  (qc (y8 (i0:=12) (tgs:=["word"]) (caps:=[("which",18),("per",19)]) (yr (zf (zh (za ze (za ze (za yw (za ze (za zc zb)))))))) (by bv_omega) (fun _ _ _=>(qe (yg (i:=0) (show (["word","which","per"]:List Str).Nodup by decide +kernel) rfl (by first | exact Or.inl rfl | exact Or.inr rfl)))) (fun _ _ _=>zn) (fun _ _ _=>(yc (za (qa (pv 0)) (za (qa (pv 1)) (za (qa (pv 2)) zb))))) zj.nd rfl (Or.inl rfl))
  (qc (zi (i:=12) zj.nd rfl (Or.inl rfl) (yf zk (qa (pv 12)) (zf (zh (za (yc (za (qa (pv 10)) (za ze (za (qa (pv 19)) zb)))) (za (yc (za (qa (pv 10)) (za yw (za (qa (pv 19)) zb)))) (za (yc (za (qa (pv 10)) (za (qa (pv 18)) zb))) (za (yc (za (qa (pv 10)) (za (qa (pv 18)) (za (qa (pv 19)) (za zc zb))))) (za (qa (pv 10)) (za yw zb))))))))))
  (qc (zi (i:=12) zj.nd rfl (Or.inl rfl) (yf zk (yf zk (qa (pv 12)) (zf (zp (tgs:=["one"]) (caps:=[("name",10),("which",18)]) (yr (zf (zh (za zc (za zc (za (zei zdh zc) (za zv (za yw (za ze zb))))))))) (by bv_omega) (fun _ _ _=>(qe (yg (i:=0) (show (["one","name","which"]:List Str).Nodup by decide +kernel) rfl (by first | exact Or.inl rfl | exact Or.inr rfl)))) (fun _ _ _=>zn) (fun _ _ _=>(yc (za (qa (pv 1)) (za (qa (pv 2)) (za (qa (pv 0)) zb)))))))) (zf (zh (za (zf (zh (za (qa (pv 10)) (za (qa (pv 18)) (za (qa (pv 19)) zb))))) zb)))))
  (qf (zi (i:=8) zj.nd rfl (Or.inl rfl) (qQ (zbl zbq (qa (pv 8)) (zf (zp (tgs:=["one"]) (caps:=[("houses",2),("purses",3),("at",9)]) (yr (qa (pv 12))) (by bv_omega) (fun _ _ _=>(qe (yg (i:=0) (show (["one","houses","purses","at"]:List Str).Nodup by decide +kernel) rfl (by first | exact Or.inl rfl | exact Or.inr rfl)))) (fun _ _ _=>zn) (fun _ _ _=>(yc (za (qa (pv 1)) (za (yi qV (hr.mono (by decide)) rfl (za (qa (pv 2)) (za (qa (pv 3)) (za (qa (pv 0)) zb)))) zb)))))))))))))))
  (qf (qk (qa (pv 8)))))))))))))
end
noncomputable def zeS:Ev->Mem->Out Fl:=
 (zg (zb0 (yb 0) (za8 2 (yA (ye 1) (yA (ye 2) za9))))
 (zg (yk 3 (eTk (zl (ya (qd (ya (qd qb) (ya (yb 2) qb))) (ya (qd (ya (eFz (zco zas (ya (yb 1) qb))) (ya (yb 2) qb))) (ya (qd (ya (yb 1) (ya (eFz (zco zas (ya (yb 2) qb))) qb))) (ya (eFz (zl (ya (yb 1) (ya (yb 2) qb)))) (ya (qd (ya (yb 1) qb)) (ya (eOp qo (yb 0) (qd (ya (qd qb) qb))) qb)))))))))
 (zg (yk 3 (eTk (lOp qZ (yb 3) (eFz (zl (ya (qd (ya (yb 1) (ya (eC .non) qb))) (ya (qd (ya (eC .non) (ya (yb 2) qb))) (ya (qd (ya (eOp qo (yb 1) (eSl (yb 1) qX (yU (eC (.int 1))))) (ya (yb 2) qb))) (ya (qd (ya (yb 2) (ya (yb 1) qb))) (ya (yb 1) qb))))))))))
 (zg (zaD (zY qL (eUn yE (yb 3)) (ya (qd (ya (zd (yo yR) (ya (eFz (zr (yx (eFz (zl (ya (eC (.str "va")) (ya (eC (.str "vb")) (ya (eC (.str "vc")) (ya (eC (.str "vd")) (ya (eC (.str "ve")) qb)))))))) (ye 0) zq (qd (ya (yb 0) (ya (qd qb) qb))) ["word"] [])) qb)) (ya (qd qb) qb))) qb)))
 (zg (zaD (zY qL (eUn yE (yb 3)) (ya (qd (ya (yb 1) (ya (qd (ya (qd (ya (eC (.str "va")) (ya (eC (.str "any")) (ya (eC (.int 1)) qb)))) (ya (qd (ya (eC (.str "vb")) (ya (eC (.str "any")) (ya (eC (.int 1)) qb)))) (ya (qd (ya (eC (.str "vc")) (ya (eC (.str "first")) (ya (eC (.int 2)) qb)))) qb)))) qb))) qb)))
 (zg (sIf (zu (eOp eqA (zd (yo yy) (ya (yb 2) qb)) (eC (.int 2)))) (zaD (zY qL (eUn yE (yb 3)) (ya (qd (ya (yb 1) (ya (qd (ya (eOp ixT (yb 2) (eC (.int 0))) (ya (qd (ya (eOp ixT (eOp ixT (yb 2) (eC (.int 0))) (eC (.int 0))) (ya (eC (.str "any")) (ya (eC (.int 3)) qb)))) qb))) qb))) qb))) qK)
 (zg (yk 3 (eTk (lOp qZ (yb 3) (eFz (zl (ya (qd (ya (yb 1) (ya (qd (ya (qd (ya (eC (.str "va")) (ya (eC (.str "any")) (ya (eC (.int 1)) qb)))) (ya (qd (ya (eC (.str "va")) (ya (eC (.str "any")) (ya (eC (.int 2)) qb)))) qb))) qb))) (ya (qd (ya (qd (ya (qd (ya (eC (.str "va")) (ya (qd qb) qb))) (ya (qd (ya (eC (.str "vb")) (ya (qd qb) qb))) (ya (qd (ya (eC (.str "va")) (ya (qd qb) qb))) qb)))) (ya (qd qb) qb))) qb)))))))
 (zg (yk 4 (qd (ya (eC (.str "vd")) (ya (eC (.int 1)) (ya (eC .non) (ya (eC (.str "bad")) (ya (eC (.bl false)) (ya (eC (.bl true)) qb))))))))
 (zg (zaD (zY qL (eUn yE (yb 3)) (ya (qd (ya (qd (ya (qd (ya (eC (.str "va")) (ya (eOp zar (qd (ya (yb 4) qb)) (eC (.int 4))) qb))) (ya (qd (ya (eC (.str "vd")) (ya (qd qb) qb))) qb))) (ya (qd qb) qb))) qb)))
 (zg (zaD (zY qL (eUn yE (yb 3)) (ya (qd (ya (qd (ya (qd (ya (eC (.str "va")) (ya (eOp zar (qd (ya (yb 4) qb)) (eC (.int 3))) qb))) (ya (qd (ya (eC (.str "vb")) (ya (eOp zar (qd (ya (yb 4) qb)) (eC (.int 3))) qb))) (ya (qd (ya (eC (.str "vc")) (ya (qd (ya (yb 4) qb)) qb))) (ya (qd (ya (eC (.str "vd")) (ya (qd qb) qb))) qb))))) (ya (qd qb) qb))) qb)))
 (yv (eOp qo (yb 3) (eFz (zl (ya (qd (ya (qd (ya (qd (ya (eC (.str "vd")) (ya (qd (ya (yb 4) qb)) qb))) qb)) (ya (qd qb) qb))) (ya (qd (ya (qd (ya (qd (ya (eC (.str "vd")) (ya (qd qb) qb))) (ya (qd (ya (eC (.str "va")) (ya (qd (ya (yb 4) qb)) qb))) qb))) (ya (qd qb) qb))) qb))))))))))))))))
noncomputable def zbO:List FT.T->Mem->Out FT.T:=qr 1 5 (zeS)
section
theorem qR:FnScope ["net","houses","purses","found","ask"] ["net"] (qg zcB):=by ac_rfl
theorem za3 (D:Df K mg "_law_wide" zcB ["net"]) (T:Txt mg)   :CalT P w K mg base 1 "_law_wide" ["net"] zbO:=
 yz D qR rfl rfl (fun f cdv A outer s H E hr=>(qc (zaK (qa (pv 0)) (zaL (zbo rfl (WGs.pe (qw (zB (WG.pe (qe (yg (i:=1) qR.nd rfl (by first | exact Or.inl rfl | exact Or.inr rfl)))) (WGs.pe (qw (zB (WG.pe (qe (yg (i:=2) qR.nd rfl (by first | exact Or.inl rfl | exact Or.inr rfl)))) (WGs.pe zag))))))))))
  (qc (zi (i:=3) qR.nd rfl (Or.inl rfl) (qQ (zh (za (yc (za (yc zb) (za (qa (pv 2)) zb))) (za (yc (za (zf (zaG zaH rfl T.n_list boot_list (za (qa (pv 1)) zb))) (za (qa (pv 2)) zb))) (za (yc (za (qa (pv 1)) (za (zf (zaG zaH rfl T.n_list boot_list (za (qa (pv 2)) zb))) zb))) (za (zf (zh (za (qa (pv 1)) (za (qa (pv 2)) zb)))) (za (yc (za (qa (pv 1)) zb)) (za (yf zk (qa (pv 0)) (yc (za (yc zb) zb))) zb)))))))))
  (qc (zi (i:=3) qR.nd rfl (Or.inl rfl) (qQ (zbl zbq (qa (pv 3)) (zf (zh (za (yc (za (qa (pv 1)) (za yw zb))) (za (yc (za yw (za (qa (pv 2)) zb))) (za (yc (za (yf zk (qa (pv 1)) (zaS (qa (pv 1)) qM (yK zc))) (za (qa (pv 2)) zb))) (za (yc (za (qa (pv 2)) (za (qa (pv 1)) zb))) (za (qa (pv 1)) zb))))))))))
  (qc (yP (qP (y9 PySem.F.plainAttrs_list PySem.F.slot_list_append PySem.F.type_list_append yC (WE.pe (qa (pv 3))) (WA.pe (za (yc (za (z9 zat rfl T.n_tuple boot_tuple (za (zf (zp (tgs:=["word"]) (caps:=[]) (yr (zf (zh (za ze (za ze (za ze (za ze (za ze zb)))))))) (by bv_omega) (fun _ _ _=>(qe (yg (i:=0) (show (["word"]:List Str).Nodup by decide +kernel) rfl (by first | exact Or.inl rfl | exact Or.inr rfl)))) (fun _ _ _=>zn) (fun _ _ _=>(yc (za (qa (pv 0)) (za (yc zb) zb)))))) zb)) (za (yc zb) zb))) zb)))))
  (qc (yP (qP (y9 PySem.F.plainAttrs_list PySem.F.slot_list_append PySem.F.type_list_append yC (WE.pe (qa (pv 3))) (WA.pe (za (yc (za (qa (pv 1)) (za (yc (za (yc (za ze (za ze (za zc zb)))) (za (yc (za ze (za ze (za zc zb)))) (za (yc (za ze (za ze (za zc zb)))) zb)))) zb))) zb)))))
  (qc (qA (yI (zbp hr.units) (qh zt rfl T.n_len boot_len (za (qa (pv 2)) zb)) zc (qJ _)) (qf (yP (qP (y9 PySem.F.plainAttrs_list PySem.F.slot_list_append PySem.F.type_list_append yC (WE.pe (qa (pv 3))) (WA.pe (za (yc (za (qa (pv 1)) (za (yc (za (yh zo (qa (pv 2)) zc (fun _ _=>rfl)) (za (yc (za (yh zo (yh zo (qa (pv 2)) zc (fun _ _=>rfl)) zc (fun _ _=>rfl)) (za ze (za zc zb)))) zb))) zb))) zb)))))) qu)
  (qc (zi (i:=3) qR.nd rfl (Or.inl rfl) (qQ (zbl zbq (qa (pv 3)) (zf (zh (za (yc (za (qa (pv 1)) (za (yc (za (yc (za ze (za ze (za zc zb)))) (za (yc (za ze (za ze (za zc zb)))) zb))) zb))) (za (yc (za (yc (za (yc (za ze (za (yc zb) zb))) (za (yc (za ze (za (yc zb) zb))) (za (yc (za ze (za (yc zb) zb))) zb)))) (za (yc zb) zb))) zb)))))))
  (qc (zi (i:=4) qR.nd rfl (Or.inl rfl) (yc (za ze (za zc (za yw (za ze (za zv (za zv zb))))))))
  (qc (yP (qP (y9 PySem.F.plainAttrs_list PySem.F.slot_list_append PySem.F.type_list_append yC (WE.pe (qa (pv 3))) (WA.pe (za (yc (za (yc (za (yc (za ze (za (yf zaW (yc (za (qa (pv 4)) zb)) zc) zb))) (za (yc (za ze (za (yc zb) zb))) zb))) (za (yc zb) zb))) zb)))))
  (qc (yP (qP (y9 PySem.F.plainAttrs_list PySem.F.slot_list_append PySem.F.type_list_append yC (WE.pe (qa (pv 3))) (WA.pe (za (yc (za (yc (za (yc (za ze (za (yf zaW (yc (za (qa (pv 4)) zb)) zc) zb))) (za (yc (za ze (za (yf zaW (yc (za (qa (pv 4)) zb)) zc) zb))) (za (yc (za ze (za (yc (za (qa (pv 4)) zb)) zb))) (za (yc (za ze (za (yc zb) zb))) zb))))) (za (yc zb) zb))) zb)))))
  (qf (qk (yf zk (qa (pv 3)) (zf (zh (za (yc (za (yc (za (yc (za ze (za (yc (za (qa (pv 4)) zb)) zb))) zb)) (za (yc zb) zb))) (za (yc (za (yc (za (yc (za ze (za (yc zb) zb))) (za (yc (za ze (za (yc (za (qa (pv 4)) zb)) zb))) zb))) (za (yc zb) zb))) zb))))))))))))))))))
end
noncomputable def zht:Ev->Mem->Out Fl:=
 (sIf (zbD (zu (zd qN (ya (yb 3) qb))) (qH (zu (zd (call2 zw) (ya (zd qN (ya (yb 3) qb)) (ya (eC (.ty "bool")) qb)))))) (yv (eC (.bl false))) qK)
noncomputable def zhs:Ev->Mem->Out Fl:=
 (sIf (zd4 (zu (eOp neX (yb 3) (yb 6))) (zu (zd qN (ya (yb 3) qb)))) (yv (eC (.bl false))) qK)
noncomputable def zhr:Ev->Mem->Out Fl:=
 (zg (yk 5 (zd zbv (ya (zd za0 (ya (yb 0) (ya (yb 4) qb))) qb)))
 (zg (yk 6 (zd zcq (ya (yb 5) qb)))
 (zg (yk 7 (eOp qo (zd zbP (ya (yb 6) (ya (yb 5) qb))) (zd zbO (ya (yb 6) qb))))
 (zg (sIf (zu (eOp gtI (yb 4) (eC (.int 1)))) (yk 7 (eFz (zr (qI (ya (eC (.int 20)) qb)) (ye 0) zq (eOp ixT (yb 1) (zd qp (ya (yb 2) (ya (zd (yo yy) (ya (yb 1) qb)) qb)))) ["turn"] [("bent",7),("pool",5)]))) qK)
 (zg (zai (yx (yb 7)) (ye 3) zhs)
 (sIf (qH (zu (zd qN (ya (yb 6) qb)))) (yv (eC (.bl false))) qK))))))
noncomputable def ziM:Ev->Mem->Out Fl:=
 (zg (yk 1 (qd (ya (eC (.str "vd")) (ya (eC (.int 1)) (ya (eC .non) (ya (eC (.str "bad")) (ya (eC (.bl false)) (ya (eC (.bl true)) qb))))))))
 (zg (yk 2 (qd (ya (qd (ya (qd (ya (eC (.str "va")) (ya (eOp zar (qd (ya (yb 1) qb)) (eC (.int 3))) qb))) (ya (qd (ya (eC (.str "vb")) (ya (eOp zar (qd (ya (yb 1) qb)) (eC (.int 3))) qb))) (ya (qd (ya (eC (.str "vc")) (ya (qd qb) qb))) (ya (qd (ya (eC (.str "vd")) (ya (qd qb) qb))) qb))))) (ya (qd qb) qb))))
 (zg (sIf (qH (zu (zd qN (ya (yb 2) qb)))) (yv (eC (.bl false))) qK)
 (zg (zai (yx (eFz (zl (ya (eC .non) (ya (eC (.int 0)) (ya (eC (.bl true)) (ya (eC (.str "")) (ya (eC (.str "net")) (ya (qd qb) (ya (qd (ya (qd qb) (ya (qd qb) qb))) (ya (eFz (zl qb)) (ya (eFz (zl (ya (eFz (zl qb)) (ya (eFz (zl qb)) qb)))) (ya (qd (ya (eC (.int 0)) (ya (eC (.int 0)) qb))) (ya (qd (ya (qd (ya (qd (ya (eC (.str "va")) (ya (qd qb) qb))) qb)) qb)) (ya (qd (ya (qd (ya (eC (.str "va")) (ya (qd qb) qb))) (ya (qd qb) qb))) qb))))))))))))))) (ye 3) zht)
 (zg (zai (zdz (ya (eC (.int 0)) (ya (zd (call2 zeI) (ya (eC (.int 5)) (ya (zd (call2 zdw) (ya (eC (.int 63)) (ya (zd (yo yy) (ya (yb 0) qb)) qb))) qb))) qb))) (ye 4) zhr)
 (yv (eC (.bl true))))))))
noncomputable def zeb:List FT.T->Mem->Out FT.T:=qr 1 8 (ziM)
section
theorem yX:FnScope ["script","ask","great","thing","k","pool","net","bent"] ["script"] (qg zfW):=by ac_rfl
theorem zkR {f:Addr} {fd:FuncData} (D:Fun K "law" "law" zfW f fd) (T:Txt mg)   (zO:CalT P w K mg base 5 "is_net" ["thing"] qN) (zbx:CalT P w K mg base 1 "_law_dig" ["cell"] zbv) (zbw:CalT P w K mg base 3 "_law_net" ["pool"] zcq) (za4:CalT P w K mg base 1 "_law_cell" ["script","k"] za0) (za5:CalT P w K mg base 2 "_law_bent" ["net","pool"] zbP) (za3:CalT P w K mg base 1 "_law_wide" ["net"] zbO) (yn:CalT P w K mg base 1 "_law_next" ["pool","base"] qp):FnOk P w K mg base CX0 6 f fd ["script"] (spT K zeb):=
 ziP D yX rfl rfl (fun cdv A outer s H E hr=>(qc (zi (i:=1) yX.nd rfl (Or.inl rfl) (yc (za ze (za zc (za yw (za ze (za zv (za zv zb))))))))
  (qc (zi (i:=2) yX.nd rfl (Or.inl rfl) (yc (za (yc (za (yc (za ze (za (yf zaW (yc (za (qa (pv 1)) zb)) zc) zb))) (za (yc (za ze (za (yf zaW (yc (za (qa (pv 1)) zb)) zc) zb))) (za (yc (za ze (za (yc zb) zb))) (za (yc (za ze (za (yc zb) zb))) zb))))) (za (yc zb) zb))))
  (qc (qA (zC (qB (yi zO (hr.mono (by decide)) rfl (za (qa (pv 2)) zb)))) (qf (qk zv)) qu)
  (qc (zP PassesOwn.never rfl (yr (zf (zh (za yw (za zc (za zv (za ze (za ze (za (yc zb) (za (yc (za (yc zb) (za (yc zb) zb))) (za (zf (zh zb)) (za (zf (zh (za (zf (zh zb)) (za (zf (zh zb)) zb)))) (za (yc (za zc (za zc zb))) (za (yc (za (yc (za (yc (za ze (za (yc zb) zb))) zb)) zb)) (za (yc (za (yc (za ze (za (yc zb) zb))) (za (yc zb) zb))) zb))))))))))))))) (qe (yg (i:=3) yX.nd rfl (by first | exact Or.inl rfl | exact Or.inr rfl))) (qf (qA (WW.gt (zaR (qB (yi zO (hr.mono (by decide)) rfl (za (qa (pv 3)) zb))) (zaJ (zC (qB (qh yB rfl T.n_isinstance boot_isinstance (za (yi zO (hr.mono (by decide)) rfl (za (qa (pv 3)) zb)) (za (zN rfl T.n_bool boot_bool) zb)))))))) (qf (qk zv)) qu)))
  (qc (zP PassesOwn.never rfl (zfL rfl T.n_range (za zc (za (qh (zdR rfl) rfl T.n_max boot_max (za zc (za (qh (zcd rfl) rfl T.n_min boot_min (za zc (za (qh zt rfl T.n_len boot_len (za (qa (pv 0)) zb)) zb))) zb))) zb))) (qe (yg (i:=4) yX.nd rfl (by first | exact Or.inl rfl | exact Or.inr rfl))) (qc (zi (i:=5) yX.nd rfl (Or.inr rfl) (yi zbx (hr.mono (by decide)) rfl (za (yi za4 (hr.mono (by decide)) rfl (za (qa (pv 0)) (za (qa (pv 4)) zb))) zb)))
  (qc (zi (i:=6) yX.nd rfl (Or.inl rfl) (yi zbw (hr.mono (by decide)) rfl (za (qa (pv 5)) zb)))
  (qc (zi (i:=7) yX.nd rfl (Or.inr rfl) (yf zk (yi za5 (hr.mono (by decide)) rfl (za (qa (pv 6)) (za (qa (pv 5)) zb))) (yi za3 (hr.mono (by decide)) rfl (za (qa (pv 6)) zb))))
  (qc (qA (yI zeD (qa (pv 4)) zc (qJ _)) (qf (zi (i:=7) yX.nd rfl (Or.inr rfl) (zf (zp (tgs:=["turn"]) (caps:=[("bent",7),("pool",5)]) (zG rfl T.n_range (za zc zb)) (by bv_omega) (fun _ _ _=>(qe (yg (i:=0) (show (["turn","bent","pool"]:List Str).Nodup by decide +kernel) rfl (by first | exact Or.inl rfl | exact Or.inr rfl)))) (fun _ _ _=>zn) (fun _ _ _=>(yh zo (qa (pv 1)) (yi yn (hr.mono (by decide)) rfl (za (qa (pv 2)) (za (qh zt rfl T.n_len boot_len (za (qa (pv 1)) zb)) zb))) (fun _ _=>rfl))))))) qu)
  (qc (zP PassesOwn.never rfl (yr (qa (pv 7))) (qe (yg (i:=3) yX.nd rfl (by first | exact Or.inl rfl | exact Or.inr rfl))) (qf (qA (WW.gt (zfl (yI (zkM hr.units) (qa (pv 3)) (qa (pv 6)) (qJ _)) (zeg (qB (yi zO (hr.mono (by decide)) rfl (za (qa (pv 3)) zb)))))) (qf (qk zv)) qu)))
  (qf (qA (zC (qB (yi zO (hr.mono (by decide)) rfl (za (qa (pv 6)) zb)))) (qf (qk zv)) qu))))))))
  (qf (qk zv))))))))
end
end My
open Lean in
local macro_rules | `(tactic| simp_arith [$xs,*]) => do
  let ids := ("FT.zgy FT.znj FT.znk FT.startT FT.zg FT.yv FT.yk FT.sIf FT.zaD FT.zb0 FT.qK FT.zai FT.yb FT.eC FT.eOp FT.eUn FT.yZ FT.eOr FT.ziv FT.eIf FT.zd FT.qd FT.eFz FT.eTk FT.zl FT.zco FT.zT FT.lOp FT.eSl FT.qX FT.yU FT.zh9 FT.zcR FT.zns FT.znH FT.zY FT.qb FT.ya FT.zu FT.zd4 FT.zbD FT.qH FT.znE FT.znp FT.znb FT.yd FT.zhE FT.zmC FT.zmB FT.zmT FT.zmS FT.zmV FT.zmU FT.ye FT.zgj FT.za8 FT.yA FT.za9 FT.yx FT.qI FT.zdz FT.zes FT.ixT FT.zeB FT.zeQ FT.zmy FT.znO FT.znN FT.znM FT.zr FT.zcc FT.zq Option.join_some Option.join_none FT.zmW FT.zh1 FT.zer FT.znK FT.znJ FT.znI map_cons map_nil Qo length_nil cons_append nil_append List.getElem?_cons_zero List.getElem?_cons_succ List.set_cons_zero List.set_cons_succ List.replicate Nat.zero_add Nat.reduceAdd Nat.reduceSub FT.zno FT.znn FT.znr FT.znq Int.reduceBEq Int.reduceLT FT.zng FT.znx FT.zny FT.znA FT.znB FT.znv FT.znm FT.znC FT.znw FT.znz FT.zm1 Bool.false_eq_true reduceIte Nat.reduceEqDiff Nat.succ.injEq Bool.not_true Bool.not_false FT.zjs FT.znl FT.znD Int.reduceToNat Int.reducePow ne_eq Int.reduceEq not_false_eq_true Int.reduceNeg Bool.bne_true Bool.bne_false Bool.true_bne Bool.false_bne decide_true decide_false FT.zix FT.zna FT.zm9 FT.znh FT.zni".splitOn " ").toArray.map fun s => Lean.mkIdent s.toName
  `(tactic| simp (config := {decide := true}) only [$[$ids:term],*, $xs,*])
namespace My
open PySem L2 FT
structure Ask where
 to:Str
 tries:Int
 purse:Option Str
 word:Str
 hears:Bool
 sure:Bool
structure Hs where
 name:Str
 asks:List Ask
structure Pu where
 name:Str
 earns:Str
 per:Int
structure Net where
 hs:List Hs
 ps:List Pu
noncomputable def opS (o:Option Str):FT.T:=o.elim .non .str
noncomputable def qi (a:Ask):FT.T:=.tup [.str a.to,.int a.tries,opS a.purse,.str a.word,.bl a.hears,.bl a.sure]
noncomputable def hsT (h:Hs):FT.T:=.tup [.str h.name,.tup (h.asks.map qi)]
noncomputable def puT (p:Pu):FT.T:=.tup [.str p.name,.str p.earns,.int p.per]
noncomputable def zH (n:Net):FT.T:=.tup [.tup (n.hs.map hsT),.tup (n.ps.map puT)]
noncomputable abbrev nT (n:Nat):FT.T:=.int (n:Int)
theorem zba {α:Type} {f:α->FT.T} {xs:List α} {i:Nat} {x:α} (e:xs[i]? = some x):atI (xs.map f) (i:Int) = some (f x):=by rw [FT.yL,Qa,e];rfl
variable {d:Int} {xs:List Int} {M:Mem}
section
variable {kE kR:Addr}
theorem zh4 (c:Int) (M:Mem):zbv [.int c] M = .ok (.ref M.length) (M ++ [(Po.new c).cell]):=by
 unfold zbv zfH
 simp_arith [and_self]
 rw [show Po.new c = ⟨if c - 10 ^ 18 > 0 then c - 10 ^ 18 else 0,c % 10 ^ 18,0⟩ from rfl,Q8 _ (by decide)]
 rfl
theorem zgV (p:Po) (a:Nat) (base:Int) (M:Mem) (e:M[a]? = some p.cell) (h:0 < base) (hb:base.natAbs < 10 ^ 100):qp [.ref a,.int base] M = .ok (.int (p.dig base)) (M.set a (p.nxt base).cell):=by
 unfold qp zeT
 have ha:a < M.length:=(List.getElem?_eq_some_iff.mp e).1
 have hd:∀ i M,zdB (.int i) (.int base) M = .ok (.int (i.fdiv base)) M:=fun i M=>zfI (zmu 100 (by decide) (by omega) hb)
 have hm:∀ i M,zaY (.int i) (.int base) M = .ok (.int (i.fmod base)) M:=fun i M=>zjs (by omega)
 by_cases hp:0 < p.a
 ·simp_arith [e,Po.cell,hd,hm,Qt hp]
  unfold Po.dig Po.nxt
  rw [if_pos hp,if_pos hp,Q8 _ (by omega),Int.fdiv_eq_ediv_of_nonneg _ (by omega)]
 ·have hs:∀ c:Cell,(M.set a c)[a]? = some c:=fun c=>by rw [Qb,if_pos rfl,if_pos ha]
  have h1:∀ j M,yH (.int 7919) (.int j) M = .ok (.int (7919 * j)) M:=fun j M=>zab (by decide)
  have hx:∀ x:Int,0<=x.fmod 1000000007/\x.fmod 1000000007 < 1000000007:=fun x=>by rw [Q8 _ (by decide)];omega
  have hy:∀ x:Int,0<=x.fmod 998244353/\x.fmod 998244353 < 998244353:=fun x=>by rw [Q8 _ (by decide)];omega
  have h2:∀ (x y:Int) M,yH (.int (x.fmod 1000000007 + 11)) (.int y) M = .ok (.int ((x.fmod 1000000007 + 11) * y)) M:=fun x y M=>zab (by have:=hx x;omega)
  have h3:∀ (x y:Int) M,yH (.int (x.fmod 998244353)) (.int y) M = .ok (.int (x.fmod 998244353 * y)) M:=fun x y M=>zab (by have:=hy x;omega)
  simp_arith [e,Po.cell,hd,hm,Qu hp,hs,h1,h2,h3]
  unfold Po.dig Po.nxt
  rw [if_neg hp,if_neg hp]
  simp only [Q8 _ (show (0:Int)<=1000000007 by decide),Q8 _ (show (0:Int)<=998244353 by decide),Q8 _ (show (0:Int)<=2147483647 by decide),Int.fdiv_eq_ediv_of_nonneg _ (show (0:Int)<=8 by decide),Q8 _ (show (0:Int)<=base by omega)]
def PO (a:Nat) (M:Mem):Prop:=∃ p:Po,M[a]? = some p.cell
theorem PO.fr {a:Nat} {M':Mem} (h:PO a M) {S:List Nat} (f:Fr S M M') (hs:a ∉ S):PO a M':=by
 obtain ⟨p,e⟩:=h
 exact ⟨p,f.get e hs⟩
theorem zx {a:Nat} {base:Int} (e:PO a M) (h:0 < base) (hb:base.natAbs < 10 ^ 100) :
  Ok (qp [.ref a,.int base] M) fun t M'=>∃ d:Int,t = .int d/\0<=d/\d < base/\PO a M'/\Fr [a] M M':=by
 obtain ⟨p,e⟩:=e
 exact Ok.of (zgV p a base M e h hb) ⟨_,rfl,p.dig_lo h,p.dig_hi h,⟨_,get_set e⟩,Fr.set _ _ _⟩
theorem PO.app {c:Int}:PO M.length (M ++ [(Po.new c).cell]):=⟨_,zJ⟩
theorem zjV {ns:List Int} {n:Nat} (hn:n<=1000) (M:Mem):∃ c,za0 [.lst (ns.map .int),.int (n:Int)] M = .ok (.int c) M:=by
 unfold za0 zeU
 by_cases h:n < ns.length
 ·refine ⟨ns[n],?_⟩
  have a:atI (ns.map FT.T.int) (n:Int) = some (.int ns[n]):=by rw [FT.yL];simp [h]
  have d:decide ((n:Int) < ((ns.map FT.T.int).length:Int)) = true:=Qt (by rw [Qg];omega)
  simp_arith [d,a]
 ·have d:decide ((n:Int) < ((ns.map FT.T.int).length:Int)) = false:=Qu (by rw [Qg];omega)
  have m1:∀ M,yH (.int 7919) (.int (n:Int)) M = .ok (.int (7919 * (n:Int))) M:=fun M=>zab (by decide)
  have m2:∀ M,yH (.int (7919 * (n:Int))) (.int (n:Int)) M = .ok (.int (7919 * (n:Int) * (n:Int))) M:=fun M=>zab (by omega)
  have m3:∀ M,yH (.int 31) (.int (n:Int)) M = .ok (.int (31 * (n:Int))) M:=fun M=>zab (by decide)
  exact ⟨7919 * (n:Int) * (n:Int) + 31 * (n:Int),by simp_arith [d,m1,m2,m3]⟩
theorem pick (h0:0<=d) (h1:d < xs.length):∃ v ∈ xs,atI (xs.map FT.T.int) d = some (.int v):=by
 obtain ⟨x,h1,h2⟩:=zfa (xs:=xs.map FT.T.int) h0 (by simpa using h1)
 obtain ⟨v,hv,rfl⟩:=mem_map.mp h2
 exact ⟨v,hv,h1⟩
theorem zcl (lo hi:Int) (h0:0<=d) (h1:d < xs.length) (h:xs.all (fun v=>decide (lo<=v/\v<=hi)) = true):∃ v:Int,atI (xs.map FT.T.int) d = some (.int v)/\lo<=v/\v<=hi:=by
 obtain ⟨v,hv,e⟩:=pick h0 h1
 have:=all_eq_true.mp h v hv
 exact ⟨v,e,of_decide_eq_true this⟩
theorem zee {b:Int} (h0:0 < b) (h:b<=10 ^ 40):b.natAbs < 10 ^ 100:=by
 refine Nat.lt_of_le_of_lt (show b.natAbs<=10 ^ 40 from ?_) (Nat.pow_lt_pow_right (by decide) (by decide))
 simp only [Int.reducePow] at h
 simp only [Nat.reducePow]
 omega
theorem ziC {xs:List Str} (h0:0<=d) (h1:d < xs.length):∃ v ∈ xs,atI (xs.map FT.T.str) d = some (.str v):=by
 obtain ⟨x,h1,h2⟩:=zfa (xs:=xs.map FT.T.str) h0 (by simpa using h1)
 obtain ⟨v,hv,rfl⟩:=mem_map.mp h2
 exact ⟨v,hv,h1⟩
theorem zl4 {b:Int} (h0:0<=b) (h1:b < 3):∃ v:Str,(v = "bad"\/v = "spent")/\atI [FT.T.str "bad",.str "bad",.str "spent"] b = some (.str v):=by
 have:b = 0\/b = 1\/b = 2:=by omega
 rcases this with rfl | rfl | rfl
 ·exact ⟨_,.inl rfl,rfl⟩
 ·exact ⟨_,.inl rfl,rfl⟩
 ·exact ⟨_,.inr rfl,rfl⟩
end
end My
namespace FT
open PySem L2
variable {σ:Ev} {p q:Ev->Mem->Out Fl} {M:Mem}
theorem Ok.seqX {Q:Fl->Mem->Prop} (h:∀ X,X = zaq q->Ok ((p σ M).bind X) Q):Ok (zg p q σ M) Q:=h _ rfl
theorem Ok.seqR {Q:T->Mem->Prop} (h:∀ X,X = (fun fl M=>(zaq q fl M).bind zcJ)->Ok ((p σ M).bind X) Q):Ok ((zg p q σ M).bind zcJ) Q:=by
 have:=h _ rfl
 unfold zg
 rw [zix]
 exact this
end FT
namespace My
open PySem L2 FT
noncomputable abbrev S (l:List Nat):Str:=⟨l.toArray⟩
theorem zaI (l:List Nat):(S l).length = l.length:=by simp [Str.length]
theorem zne (z:Str):z = S z.cps.toList:=by simp
theorem sz {n:Nat} (h:n<=10000):n<=sizeLine:=by rw [sizeLine_eq];omega
theorem zeM (i j:Int) (M:Mem):leU (.int i) (.int j) M = .ok (.bl (decide (i<=j))) M:=rfl
theorem zgQ (c d:Nat):([c] < [d]) ↔ c < d:=by simp [List.cons_lt_cons_iff]
theorem le_lo (c:Nat) (M:Mem):leU (.str "a") (.str (S [c])) M = .ok (.bl (decide (97<=c))) M:=by
 show Out.ok (FT.T.bl (!decide ([c] < [97]))) M = _
 rw [show decide ([c] < [97]) = decide (c < 97) from by simp only [zgQ]]
 by_cases h:c < 97
 ·rw [Qt h,Qu (by omega)];rfl
 ·rw [Qu h,Qt (by omega)];rfl
theorem ziG (c:Nat) (M:Mem):leU (.str (S [c])) (.str "z") M = .ok (.bl (decide (c<=122))) M:=by
 show Out.ok (FT.T.bl (!decide ([122] < [c]))) M = _
 rw [show decide ([122] < [c]) = decide (122 < c) from by simp only [zgQ]]
 by_cases h:122 < c
 ·rw [Qt h,Qu (by omega)];rfl
 ·rw [Qu h,Qt (by omega)];rfl
variable {l:List Nat}
theorem zkZ (h:l.length<=10000) (M:Mem):yy (.str (S l)) M = .ok (.int (l.length:Int)) M:=by
 unfold yy
 dsimp only
 rw [zaI,if_pos (sz h)]
theorem zmN (l:List Nat):sgT (S l) = l.map fun c=>FT.T.str (S [c]):=by
 unfold sgT
 simp
noncomputable def isL (c:Nat):Bool:=decide (97<=c/\c<=122)
noncomputable def isW (l:List Nat):Bool:=decide (1<=l.length/\l.length<=8) && l.all isL
theorem isS (l:List Nat) (M:Mem):zw (.str (S l)) (.ty "str") M = .ok (.bl true) M:=rfl
theorem ziO (hl:l.length<=2000) (M:Mem):zA [.str (S l)] M = .ok (.bl (isW l)) M:=by
 have key:Ok (zA [.str (S l)] M) fun t M'=>t = .bl (isW l)/\M' = M:=by
  refine zE rfl ?_
  unfold qS
  have ln:=zkZ (l:=l) (by omega) M
  have cp:ql (ye 0) zq (zT leU leU (eC (.str "a")) (yb 0) (eC (.str "z"))) (l.map fun c=>FT.T.str (S [c])) [none] M [] = .ok (l.map fun c=>.bl (isL c)) M:=
   Ok.mapc (r:=fun c=>FT.T.str (S [c])) (fun σ=>∃ o,σ = [o]) _ ⟨_,rfl⟩ (by omega) (by
    rintro c σ _ ⟨o,rfl⟩
    refine ⟨[some (.str (S [c]))],rfl,⟨_,rfl⟩,?_⟩
    unfold isL
    by_cases h1:97<=c
    ·by_cases h2:c<=122
     ·simp_arith [le_lo,ziG,Qt h1,Qt h2]
      rw [Qt ⟨h1,h2⟩]
     ·simp_arith [le_lo,ziG,Qt h1,Qu h2]
      rw [Qu (fun z=>h2 z.2)]
    ·simp_arith [le_lo,Qu h1]
     rw [Qu (fun z=>h1 z.1)])
  have al:=zbb isL l M
  by_cases h1:1<=l.length
  ·by_cases h2:l.length<=8
   ·simp_arith [isS,zeM,ln,Qt (show (1:Int)<=(l.length:Int) by omega),Qt (show (l.length:Int)<=8 by omega),iTx,zmN,cp,al]
    exact Ok.ret ⟨by unfold isW;rw [Qt ⟨h1,h2⟩];rfl,rfl⟩
   ·simp_arith [isS,zeM,ln,Qt (show (1:Int)<=(l.length:Int) by omega),Qu (show ¬ (l.length:Int)<=8 by omega)]
    exact Ok.ret ⟨by unfold isW;rw [Qu (fun z=>h2 z.2)];rfl,rfl⟩
  ·simp_arith [isS,zeM,ln,Qu (show ¬ (1:Int)<=(l.length:Int) by omega)]
   exact Ok.ret ⟨by unfold isW;rw [Qu (fun z=>h1 z.1)];rfl,rfl⟩
 obtain ⟨t,M',e,rfl,rfl⟩:=key
 exact e
theorem adE {m:List Nat} (h:l.length + m.length<=10000) (M:Mem):qo (.str (S l)) (.str (S m)) M = .ok (.str (S (l ++ m))) M:=by
 unfold qo
 dsimp only
 rw [if_pos (sz (by rw [zaI,zaI];exact h))]
 congr 2
 show Str.append _ _ = _
 unfold Str.append
 simp
theorem zke (zs:List Str):zcA (zs.map FT.T.str) = some zs:=by
 induction zs with
 | nil=>rfl
 | cons z zs ih=>simp only [map_cons,zcA,ih,Option.map_some]
theorem zjB (x:Str) (M:Mem):isStr (.str x) M = true:=rfl
theorem zg0:∀ (cs:List Nat) (acc:Array Nat),(cs.map fun c=>S [c]).foldl (fun acc p=>acc ++ (Str.ofString "").cps ++ p.cps) acc = acc ++ cs.toArray
 | [],acc=>by simp
 | c :: cs,acc=>by
  rw [map_cons,foldl_cons,zg0 cs]
  simp [show (Str.ofString "").cps = #[] by decide]
theorem zmd (cs:List Nat):Txt.join "" (cs.map fun c=>S [c]) = S cs:=by
 unfold Txt.join Builtin.Str.glued
 cases cs with
 | nil=>rfl
 | cons c cs=>
  show Str.mk _ = _
  congr 1
  rw [map_cons,List.headD_cons,List.drop_succ_cons,drop_zero,zg0]
  simp
theorem join_eq {cs:List Nat} (h:cs.length<=10) (M:Mem):zcp (.str "") [.lst (cs.map fun c=>.str (S [c]))] M = .ok (.str (S cs)) M:=by
 have e:(cs.map fun c=>FT.T.str (S [c])) = (cs.map fun c=>S [c]).map FT.T.str:=by rw [map_map];rfl
 have hs:((cs.map fun c=>S [c]).map (·.length)).sum = cs.length:=by
  clear h e
  induction cs with
  | nil=>rfl
  | cons c cs ih=>simp only [map_cons,sum_cons,Qo,ih];show 1 + cs.length = _;omega
 rw [e]
 unfold zcp
 simp only [qm,zke]
 rw [if_pos (by rw [hs,show (Str.ofString "").length = 0 from rfl];omega),zmd]
theorem zlU:∀ n:Nat,n < 7->∀ a:Nat,a < n + 1->Builtin.Str.strSliceIndices none (some (a:Int)) 1 n = List.range a:=by decide +kernel
theorem zlV:∀ n:Nat,n < 7->∀ a:Nat,a < n + 1->Builtin.Str.strSliceIndices (some (a:Int)) none 1 n = (List.range (n - a)).map (· + a):=by decide +kernel
theorem zlK:∀ n:Nat,n < 26->atI (Str.ofString "abcdefghijklmnopqrstuvwxyz").cps.toList (n:Int) = some (97 + n):=by decide +kernel
theorem zbI (r:List Nat):∀ n,(List.range n).filterMap (fun k=>r[k]?) = r.take n
 | 0=>by simp
 | n + 1=>by
  rw [List.range_succ,List.filterMap_append,zbI r n,take_succ]
  congr 1
theorem zlF (hl:l.length<=6) {a:Nat} (ha:a<=l.length) (M:Mem):zbj (.str (S l)) none (some (a:Int)) M = .ok (.str (S (l.take a))) M:=by
 have e:Txt.slice (S l) none (some (a:Int)) = S (l.take a):=by
  unfold Txt.slice
  rw [zaI,zlU _ (by omega) a (by omega),length_range]
  split
  ·rename_i h
   have:a = l.length:=by simpa using h
   rw [this,take_length]
  ·congr 1
   rw [show (fun x=>(S l).cps[x]?) = fun k=>l[k]? from by funext k;simp,zbI]
 unfold zbj
 dsimp only
 rw [if_pos (sz (by rw [zaI];omega)),e]
theorem zlG (hl:l.length<=6) {a:Nat} (ha:a<=l.length) (M:Mem):zbj (.str (S l)) (some (a:Int)) none M = .ok (.str (S (l.drop a))) M:=by
 have e:Txt.slice (S l) (some (a:Int)) none = S (l.drop a):=by
  unfold Txt.slice
  rw [zaI,zlV _ (by omega) a (by omega),Qg,length_range]
  split
  ·rename_i h
   have:a = 0:=by simp at h;omega
   rw [this,drop_zero]
  ·congr 1
   rw [List.filterMap_map,show ((fun x=>(S l).cps[x]?) ∘ fun x=>x + a) = fun k=>(l.drop a)[k]? from by funext k;simp [Nat.add_comm],zbI]
   rw [List.take_of_length_le (by rw [length_drop];omega)]
 unfold zbj
 dsimp only
 rw [if_pos (sz (by rw [zaI];omega)),e]
theorem zeN {d:Int} (h0:0<=d) (h:d < 26) (M:Mem):ixS (.str "abcdefghijklmnopqrstuvwxyz") (.int d) M = .ok (.str (S [97 + d.toNat])) M:=by
 obtain ⟨n,rfl⟩:∃ n:Nat,d = n:=⟨d.toNat,by omega⟩
 unfold ixS
 simp only [zlK n (by omega)]
 exact if_pos (sz (by decide))
theorem zkX (c:Nat) (k:Nat) (M:Mem):zdu (.str (S [c])) (.int ((k % 2:Nat):Int)) M = .ok (.str (S (if k % 2 = 1 then [c] else []))) M:=by
 have h:k % 2 = 0\/k % 2 = 1:=by omega
 unfold zdu
 dsimp only
 rcases h with h | h
 ·rw [h,if_pos (by refine ⟨by decide,fun z _=>absurd (by decide) z,fun z _=>absurd (by decide) z⟩)]
  rfl
 ·rw [h,if_pos (by refine ⟨by decide,fun _ h=>by simp at h,fun _ h=>by simp at h⟩)]
  rfl
noncomputable def nmL (b:List Nat) (a f k:Nat):List Nat:=b.take a ++ [97 + (f + 5 * k) % 26] ++ b.drop a ++ (if k % 2 = 1 then [97 + f] else [])
theorem zcn (b:List Nat) (a f k:Nat):(nmL b a f k).length = b.length + 1 + k % 2:=by
 have h:k % 2 = 0\/k % 2 = 1:=by omega
 unfold nmL
 rw [Qm,Qm,Qm,Qp,length_drop,Qs]
 rcases h with h | h <;> (rw [h];simp;omega)
variable {f k:Nat}
theorem zmb {b:List Nat} (hb:b.all isL = true) (h6:b.length<=6) {a:Nat} (hf:f < 26):isW (nmL b a f k) = true:=by
 unfold isW
 rw [zcn,Qq]
 refine ⟨Qt (by omega),all_eq_true.mpr fun c hc=>?_⟩
 have hb:=all_eq_true.mp hb
 unfold nmL at hc
 rcases mem_append.mp hc with hc | hc
 ·rcases mem_append.mp hc with hc | hc
  ·rcases mem_append.mp hc with hc | hc
   ·exact hb c (List.mem_of_mem_take hc)
   ·rw [mem_singleton.mp hc];exact Qt (by omega)
  ·exact hb c (mem_of_mem_drop hc)
 ·split at hc
  ·rw [mem_singleton.mp hc];exact Qt (by omega)
  ·cases hc
variable {i j:Nat}
theorem zkV {b:List Nat} {a:Nat} (hf:f < 26) (hij:i < j) (hj:j < 4) (e:nmL b a f i = nmL b a f j):False:=by
 have hl:=congrArg List.length e
 rw [zcn,zcn] at hl
 unfold nmL at e
 rw [show i % 2 = j % 2 by omega] at e
 have e1:=List.append_cancel_right e
 have e2:=List.append_cancel_right e1
 have e3:=List.append_cancel_left e2
 have e4:97 + (f + 5 * i) % 26 = 97 + (f + 5 * j) % 26:=by simpa using e3
 have:j = i + 2:=by omega
 omega
noncomputable def nmS (b:List Nat) (a f n:Nat):List Str:=(List.range n).map fun k=>S (nmL b a f k)
theorem zkU {b:List Nat} {a n:Nat} (hf:f < 26) (hn:n<=4):(nmS b a f n).Nodup:=by
 unfold nmS
 refine List.pairwise_map.mpr (List.Pairwise.imp_of_mem ?_ (List.pairwise_lt_range (n:=n)))
 intro i j hi hj hlt e
 have e:=congrArg (fun s:Str=>s.cps.toList) e
 simp at e
 exact zkV hf hlt (by have:=mem_range.mp hj;omega) e
structure Nms (ws:List Str):Prop where
 nd:ws.Nodup
 w:∀ x ∈ ws,∃ l,x = S l/\isW l = true
 ln:∃ h,∀ x ∈ ws,x.length = h\/x.length = h + 1
theorem zkT {b:List Nat} (hb:b.all isL = true) (h6:b.length<=6) {a n:Nat} (hf:f < 26) (hn:n<=4):Nms (nmS b a f n):=⟨zkU hf hn,fun x hx=>by
 obtain ⟨k,_,rfl⟩:=mem_map.mp hx
 exact ⟨_,rfl,zmb hb h6 hf⟩,b.length + 1,fun x hx=>by
 obtain ⟨k,_,rfl⟩:=mem_map.mp hx
 rw [zaI,zcn]
 omega⟩
variable {kE kR:Addr} {M:Mem}
section
theorem zef {a:Nat} (e:PO a M) {n:Nat} (hn:n<=4):Ok (zaz [.ref a,.int (n:Int)] M) fun t M'=>∃ w ws,t = .ref w/\M'[w]? = some (.lst (ws.map .str))/\M.length<=w/\Nms ws/\ws.length = n/\PO a M'/\Fr [a] M M':=by
 refine zE rfl ?_
 unfold zdQ
 have ha:a < M.length:=by obtain ⟨p,e⟩:=e;exact qO e
 rw [show startT 9 [.ref a,.int (n:Int)] = [some (.ref a),some (.int (n:Int)),none,none,none,none,none,none,none] from rfl]
 refine Ok.seqR fun X hX=>?_
 simp_arith [and_self]
 rw [hX];clear hX;simp only [yd]
 refine Ok.seqR fun X hX=>?_
 simp_arith [zdb,zjB]
 refine Ok.bind (zx e (by decide) (by decide)) ?_
 rintro t M1 ⟨m,rfl,m0,m1,p1,f1⟩
 simp_arith [yT (show -(2 ^ 62)<=m/\m < 2 ^ 62 by omega)]
 refine Ok.bind (Ok.comp (r:=FT.T.int) (fun i acc σ M'=>(∃ cs:List Nat,acc = cs.map (fun c=>.str (S [c]))/\cs.length = i/\cs.all isL = true)/\(∃ o,σ = [o,some (.str "abcdefghijklmnopqrstuvwxyz"),some (.ref a)])/\PO a M'/\Fr [a] M M') (rgI m.toNat) 0 [] ⟨⟨[],rfl,rfl,rfl⟩,⟨_,rfl⟩,p1,f1⟩ (by rw [qT];exact sz (by simp;omega)) ?_) ?_
 ·rintro k x σ M2 acc hk ⟨⟨cs,rfl,hz,h1⟩,⟨o,rfl⟩,p2,f2⟩
  simp_arith [and_self]
  refine Ok.bind (zx p2 (by decide) (by decide)) ?_
  rintro t M3 ⟨d,rfl,d0,d1,p3,f3⟩
  simp_arith [zeN d0 d1]
  refine Ok.ret ⟨⟨cs ++ [97 + d.toNat],by simp,by simp [hz],?_⟩,⟨_,rfl⟩,p3,f2.trans f3⟩
  rw [List.all_append,h1]
  simp only [all_cons,List.all_nil,Bool.true_and,Bool.and_true]
  exact Qt (by omega)
 rintro ts M2 ⟨σ,⟨b,rfl,hz,hb⟩,_,p2,f2⟩
 rw [Nat.zero_add,qT] at hz
 have hb6:b.length<=6:=by omega
 simp_arith [join_eq (cs:=b) (by omega)]
 rw [hX];clear hX;simp only [yd]
 refine Ok.seqR fun X hX=>?_
 simp_arith [zkZ (l:=b) (by omega)]
 refine Ok.bind (zx p2 (by omega) (zee (by omega) (by omega))) ?_
 rintro t M3 ⟨av,rfl,a0,a1,p3,f3⟩
 obtain ⟨at_,rfl⟩:∃ at_:Nat,av = at_:=⟨av.toNat,by omega⟩
 try simp_arith [and_self]
 rw [hX];clear hX;simp only [yd]
 refine Ok.seqR fun X hX=>?_
 simp_arith [and_self]
 refine Ok.bind (zx p3 (by decide) (by decide)) ?_
 rintro t M4 ⟨fv,rfl,f0,f1',p4,f4⟩
 obtain ⟨f,rfl⟩:∃ f:Nat,fv = f:=⟨fv.toNat,by omega⟩
 try simp_arith [and_self]
 rw [hX];clear hX;simp only [yd]
 refine Ok.seqR fun X hX=>?_
 simp_arith [and_self]
 rw [hX];clear hX;simp only [yd]
 have fr4:Fr [a] M M4:=(f2.trans f3).trans f4
 have l4:=fr4.1
 refine Ok.seqR fun X hX=>?_
 simp_arith [yT (M:=M4 ++ [.lst []]) (j:=(n:Int)) (by omega),Int.toNat_natCast]
 refine Ok.bind (Ok.for (r:=FT.T.int) (xs:=rgI n) (fun k σ M'=>(∃ o7 o8,σ = [some (.ref a),some (.int (n:Int)),some (.str "abcdefghijklmnopqrstuvwxyz"),some (.str (S b)),some (.int (at_:Int)),some (.int (f:Int)),some (.ref M4.length),o7,o8])/\M' = M4 ++ [.lst ((nmS b at_ f k).map .str)]) ⟨⟨none,none,rfl⟩,rfl⟩ ?_) ?_
 ·rintro k x σ M5 hx ⟨⟨o7,o8,rfl⟩,rfl⟩
  obtain ⟨hk,rfl⟩:=zaO hx
  unfold zdg
  have m1:∀ M,yH (.int 5) (.int (k:Int)) M = .ok (.int (5 * (k:Int))) M:=fun M=>zab (by decide)
  have hd:((f:Int) + 5 * (k:Int)).fmod 26 = (((f + 5 * k) % 26:Nat):Int):=by rw [Q8 _ (by decide)];omega
  have hk2:((k:Int)).fmod 2 = ((k % 2:Nat):Int):=by rw [Q8 _ (by decide)];omega
  have c1:=fun M=>zlF (l:=b) hb6 (a:=at_) (by omega) M
  have c2:=fun M=>zlG (l:=b) hb6 (a:=at_) (by omega) M
  have x1:=fun M=>zeN (d:=(((f + 5 * k) % 26:Nat):Int)) (by omega) (by omega) M
  have x2:=fun M=>zeN (d:=(f:Int)) (by omega) (by omega) M
  rw [Int.toNat_natCast] at x1
  rw [Int.toNat_natCast] at x2
  have y1:=fun M=>adE (l:=b.take at_) (m:=[97 + (f + 5 * k) % 26]) (by rw [Qp,Qs];omega) M
  have y2:=fun M=>adE (l:=b.take at_ ++ [97 + (f + 5 * k) % 26]) (m:=b.drop at_) (by rw [Qm,Qp,Qs,length_drop];omega) M
  have y3:=fun M=>adE (l:=b.take at_ ++ [97 + (f + 5 * k) % 26] ++ b.drop at_) (m:=if k % 2 = 1 then [97 + f] else []) (by
   have:(if k % 2 = 1 then [97 + f] else []).length<=1:=by split <;> simp
   rw [Qm,Qm,Qp,Qs,length_drop];omega) M
  have z1:=fun M=>zkX (97 + f) k M
  have g:(M4 ++ [Cell.lst ((nmS b at_ f k).map .str)])[M4.length]? = some (.lst ((nmS b at_ f k).map .str)):=zJ
  have hl:((nmS b at_ f k).map FT.T.str).length < sizeLine:=by
   unfold nmS
   rw [Qg,Qg,length_range,sizeLine_eq]
   omega
  refine Ok.seqX fun X hX=>?_
  simp_arith [zeZ,m1,hd,c1,c2,x1,y1,y2]
  rw [hX];clear hX;simp only [yd]
  simp_arith [zD g,x2,hk2,z1,y3,zap g hl]
  refine Ok.ret ⟨_,rfl,⟨_,_,rfl⟩,?_⟩
  rw [List.set_append_right _ _ (Q3 _),Nat.sub_self]
  unfold nmS
  rw [List.range_succ,map_append,map_append]
  rfl
 rintro fl M5 ⟨σ,rfl,⟨o7,o8,rfl⟩,rfl⟩
 rw [qT]
 rw [hX];clear hX;simp only [yd]
 simp_arith [and_self]
 refine Ok.ret ⟨M4.length,nmS b at_ f n,rfl,zJ,l4,zkT hb hb6 (by omega) hn,by simp [nmS],p4.fr (Fr.app _ _) (by simp),fr4.tr (Fr.app _ _) (by simp)⟩
end
variable {P:FT.T} {pn:List Str}
section
def PV (P:FT.T) (pn:List Str) (a:Nat) (M:Mem):Prop:=P = .lst (pn.map .str)\/∃ w,P = .ref w/\w ≠ a/\M[w]? = some (.lst (pn.map .str))
theorem PV.lst {a:Nat} (h:PV P pn a M):qm P M = some (pn.map .str):=by
 rcases h with rfl | ⟨w,rfl,_,h3⟩
 ·rfl
 ·unfold qm;simp only [h3]
theorem PV.len {a:Nat} (h:PV P pn a M):yy P M = .ok (nT pn.length) M:=by
 rcases h with rfl | ⟨w,rfl,_,h3⟩
 ·rw [zh1,Qg]
 ·rw [zcO h3,Qg]
structure AO (later pn:List Str) (q:Ask):Prop where
 to:q.to ∈ later
 t0:0<=q.tries
 t4:q.tries<=4
 pu:∀ s,q.purse = some s->s ∈ pn
 wo:q.word = "bad"\/q.word = "spent"
theorem zgM (l:List FT.T) (M:Mem):neA (.lst l) (.lst []) M = .ok (.bl (!l.isEmpty)) M:=by cases l <;> rfl
theorem zlc (b:Bool) (M:Mem):zf8 (.bl b) M = .ok (.int (if b then 1 else 0)) M:=rfl
theorem zdv {i j:Int} :zdw (.int i) (.int j) M = .ok (.int (if j < i then j else i)) M:=rfl
theorem zj2 {a:Nat} (e:PO a M) {later:List Str} (hP:PV P pn a M) (hl:later.length<=4) (hp:pn.length<=2) {most:Nat} (hm:most<=3) :
  Ok (zbQ [.ref a,.lst (later.map .str),P,.int (most:Int)] M) fun t M'=>∃ as:List Ask,t = .tup (as.map qi)/\as.length<=most/\(∀ q ∈ as,AO later pn q)/\PO a M'/\Fr [a] M M':=by
 refine zE rfl ?_
 unfold zeW
 have ha:a < M.length:=by obtain ⟨p,e⟩:=e;exact qO e
 rw [show startT 10 [.ref a,.lst (later.map .str),P,.int (most:Int)] = [some (.ref a),some (.lst (later.map .str)),some P,some (.int (most:Int)),none,none,none,none,none,none] from rfl]
 refine Ok.seqR fun X hX=>?_
 simp_arith [and_self]
 rw [hX];clear hX;simp only [yd]
 have pf:Fr [a] M (M ++ [Cell.lst []]):=(Fr.app _ _).mono
 refine Ok.seqR fun X hX=>?_
 simp_arith [and_self]
 refine Ok.bind (zx (e.fr (Fr.app _ [Cell.lst []]) (by simp)) (by decide) (by decide)) ?_
 rintro t M1 ⟨d,rfl,d0,d1,p1,f1⟩
 obtain ⟨v,hv,v0,v3⟩:=zcl (xs:=[1,1,2,2,3,0,2,1]) 0 3 d0 d1 rfl
 simp only [map_cons,map_nil] at hv
 obtain ⟨n,hn,hnl,hn0⟩:∃ n:Nat,(if v < (most:Int) then v else (most:Int)) * (if (!(later.map FT.T.str).isEmpty) = true then 1 else 0) = (n:Int)/\n<=most/\(later = []->n = 0):=by
  cases later with
  | nil=>exact ⟨0,by simp,Nat.zero_le _,fun _=>rfl⟩
  | cons x xs=>
   simp only [map_cons,List.isEmpty_cons,Bool.not_false,if_true,Int.mul_one]
   refine ⟨(if v < (most:Int) then v else (most:Int)).toNat,?_,?_,fun h=>by cases h⟩
   ·split <;> omega
   ·split <;> omega
 have ml:∀ (x y:Int) M,(x = if v < (most:Int) then v else (most:Int))->yH (.int x) (.int y) M = .ok (.int (x * y)) M:=fun x y M h=>zab (by rw [h];split <;> omega)
 simp_arith [hv,zdv,zgM,zlc,ml _ _ _ rfl,hn,yT (M:=M1) (j:=(n:Int)) (by omega),Int.toNat_natCast]
 refine Ok.bind (Ok.for (r:=FT.T.int) (xs:=rgI n) (fun k σ M'=>(∃ o5 o6 o7 o8 o9,σ = [some (.ref a),some (.lst (later.map .str)),some P,some (.int (most:Int)),some (.ref M.length),o5,o6,o7,o8,o9])/\(∃ as:List Ask,M'[M.length]? = some (.lst (as.map qi))/\as.length = k/\∀ q ∈ as,AO later pn q)/\PO a M'/\Fr [a,M.length] (M ++ [Cell.lst []]) M') ⟨⟨_,_,_,_,_,rfl⟩,⟨[],f1.get zJ (by simp;omega),rfl,fun q h=>by cases h⟩,p1,f1.sub (by simp)⟩ ?_) ?_
 ·rintro k x σ M2 hx ⟨⟨o5,o6,o7,o8,o9,rfl⟩,⟨as,g2,hk,hao⟩,p2,f2⟩
  obtain ⟨hkn,rfl⟩:=zaO hx
  have hlr:later ≠ []:=fun z=>by have:=hn0 z;omega
  have hl0:0 < later.length:=by cases later with | nil=>exact absurd rfl hlr | cons _ _=>simp
  have hPk:∀ {M'},Fr [a,M.length] (M ++ [Cell.lst []]) M'->PV P pn a M':=fun {M'} f=>by
   rcases hP with h | ⟨w,h1,h2,h3⟩
   ·exact .inl h
   ·have:=qO h3
    exact .inr ⟨w,h1,h2,f.get ((Fr.app M [Cell.lst []]).get0 h3) (by simp;omega)⟩
  unfold zdX
  refine Ok.seqX fun X hX=>?_
  simp_arith [Qg]
  refine Ok.bind (zx p2 (by omega) (zee (by omega) (by omega))) ?_
  rintro t M3 ⟨w,rfl,w0,w1,p3,f3⟩
  obtain ⟨to,hto,hat⟩:=ziC (xs:=later) w0 w1
  simp_arith [hat]
  rw [hX];clear hX;simp only [yd]
  refine Ok.seqX fun X hX=>?_
  simp_arith [and_self]
  refine Ok.bind (zx p3 (by decide) (by decide)) ?_
  rintro t M4 ⟨w',rfl,w0',w1',p4,f4⟩
  obtain ⟨tr,htr,tr0,tr4⟩:=zcl (xs:=[1,2,2,3,4,0,0,1]) 0 4 w0' w1' rfl
  simp only [map_cons,map_nil] at htr
  simp_arith [htr]
  rw [hX];clear hX;simp only [yd]
  have f24:Fr [a,M.length] (M ++ [Cell.lst []]) M4:=(f2.tr f3 (by simp)).tr f4 (by simp)
  have P4:=hPk f24
  have rp:zdo P (.int 2) M4 = .ok (pn.map FT.T.str ++ pn.map FT.T.str) M4:=by
   unfold zdo
   simp only [P4.lst]
   rw [if_pos ⟨by decide,by decide,by rw [Qg];omega⟩]
   simp [List.replicate]
  have ct:qZ (.lst [.non]) (.lst (pn.map FT.T.str ++ pn.map FT.T.str)) M4 = .ok (.non :: (pn.map FT.T.str ++ pn.map FT.T.str)) M4:=by
   show (if _ then _ else _) = _
   rw [if_pos (by rw [Qm,Qg,Qs,sizeLine_eq];omega)]
   rfl
  have m2:∀ M,yH (.int 2) (nT pn.length) M = .ok (.int (2 * (pn.length:Int))) M:=fun M=>zab (by decide)
  refine Ok.seqX fun X hX=>?_
  simp_arith [rp,ct,P4.len,m2]
  refine Ok.bind (zx p4 (by omega) (zee (by omega) (by omega))) ?_
  rintro t M5 ⟨z,rfl,z0,z1,p5,f5⟩
  obtain ⟨pu,hpu,hpm⟩:∃ pu:Option Str,atI (FT.T.non :: (pn.map FT.T.str ++ pn.map FT.T.str)) z = some (opS pu)/\∀ s,pu = some s->s ∈ pn:=by
   obtain ⟨zz,rfl⟩:=Int.eq_ofNat_of_zero_le z0
   rw [FT.yL]
   cases zz with
   | zero=>exact ⟨none,rfl,fun s h=>by cases h⟩
   | succ zz=>
    have hz:zz < (pn ++ pn).length:=by rw [Qm];omega
    rw [List.getElem?_cons_succ,← map_append,Qa,Q0 hz]
    exact ⟨some (pn ++ pn)[zz],rfl,fun s h=>by cases h;exact (mem_append.mp (getElem_mem hz)).elim id id⟩
  simp_arith [hpu]
  rw [hX];clear hX;simp only [yd]
  refine Ok.seqX fun X hX=>?_
  simp_arith [and_self]
  refine Ok.bind (zx p5 (by decide) (by decide)) ?_
  rintro t M6 ⟨y,rfl,y0,y1,p6,f6⟩
  obtain ⟨wo,hwo,hwa⟩:=zl4 y0 y1
  simp_arith [hwa]
  rw [hX];clear hX;simp only [yd]
  have f26:Fr [a,M.length] (M ++ [Cell.lst []]) M6:=(f24.tr f5 (by simp)).tr f6 (by simp)
  have g6:M6[M.length]? = some (.lst (as.map qi)):=f6.get (f5.get (f4.get (f3.get g2 (by simp;omega)) (by simp;omega)) (by simp;omega)) (by simp;omega)
  simp_arith [zD g6]
  refine Ok.bind (zx p6 (by decide) (by decide)) ?_
  rintro t M7 ⟨b1,rfl,b10,b11,p7,f7⟩
  simp_arith [and_self]
  refine Ok.bind (zx p7 (by decide) (by decide)) ?_
  rintro t M8 ⟨b2,rfl,b20,b21,p8,f8⟩
  have g8:M8[M.length]? = some (.lst (as.map qi)):=f8.get (f7.get g6 (by simp;omega)) (by simp;omega)
  obtain ⟨q0,hq0⟩:∃ q0:Ask,q0 = ⟨to,tr,pu,wo,b1 == 0,b2 == 0⟩:=⟨_,rfl⟩
  have ap:=zap (t:=qi q0) g8 (by rw [Qg,sizeLine_eq];omega)
  rw [show as.map qi ++ [qi q0] = (as ++ [q0]).map qi from by simp,show qi q0 = .tup [.str to,.int tr,opS pu,.str wo,.bl (b1 == 0),.bl (b2 == 0)] from by rw [hq0];rfl] at ap
  simp_arith [ap]
  refine Ok.ret ⟨_,rfl,⟨_,_,_,_,_,rfl⟩,⟨as ++ [q0],get_set g8,by simp [hk],fun q hq=>?_⟩,p8.fr (Fr.set _ _ _) (by simp;omega),((f26.tr f7 (by simp)).tr f8 (by simp)).tr (Fr.set _ _ _) (by simp)⟩
  rcases mem_append.mp hq with hq | hq
  ·exact hao q hq
  ·rw [mem_singleton.mp hq,hq0]
   exact ⟨hto,tr0,tr4,hpm,hwo⟩
 rintro fl M2 ⟨σ,rfl,⟨o5,o6,o7,o8,o9,rfl⟩,⟨as,g2,hk,hao⟩,p2,f2⟩
 rw [qT] at hk
 rw [hX];clear hX;simp only [yd]
 simp_arith [zbB g2]
 refine Ok.ret ⟨as,rfl,by omega,hao,p2,?_⟩
 exact ((Fr.app M [Cell.lst []]).mono (S:=[a])).tr f2 (by simp)
end
theorem zcQ {α:Type} (f:α->FT.T) (xs:List α) (k:Nat):zW (xs.map f) (some (k:Int)) none = (xs.drop k).map f:=by
 unfold zW
 rw [HT.zfq,HT.zew,Qg,← map_drop,← map_take]
 congr 1
 by_cases h:k<=xs.length
 ·rw [Nat.min_eq_left h,List.take_of_length_le (by rw [length_drop];omega)]
 ·rw [Nat.min_eq_right (by omega),List.drop_of_length_le (Q3 _),List.drop_of_length_le (by omega)]
  simp
theorem zhf {α:Type} (f:α->FT.T) (xs:List α) (k:Nat):zW (xs.map f) none (some (k:Int)) = (xs.take k).map f:=by
 unfold zW
 rw [HT.zfq,HT.zew,Qg,drop_zero,Nat.sub_zero,← map_take]
 congr 1
 by_cases h:k<=xs.length
 ·rw [Nat.min_eq_left h]
 ·rw [Nat.min_eq_right (by omega),List.take_of_length_le (Q3 _),List.take_of_length_le (by omega)]
variable {ws:List Str}
theorem Nms.sub {us:List Str} (h:Nms ws) (s:us.Sublist ws):Nms us:=⟨h.nd.sublist s,fun x hx=>h.w x (s.subset hx),h.ln.imp fun k hk x hx=>hk x (s.subset hx)⟩
theorem Nms.rev (h:Nms ws):Nms ws.reverse:=⟨List.pairwise_reverse.mpr (h.nd.imp Ne.symm),fun x hx=>h.w x (List.mem_reverse.mp hx),h.ln.imp fun k hk x hx=>hk x (List.mem_reverse.mp hx)⟩
structure GN (n:Net):Prop where
 hn:Nms (n.hs.map (·.name))
 h1:1<=n.hs.length
 h4:n.hs.length<=4
 pn:Nms (n.ps.map (·.name))
 p2:n.ps.length<=2
 pe:∀ p ∈ n.ps,(p.earns = "first"\/p.earns = "any")/\1<=p.per/\p.per<=9
 a3:∀ h ∈ n.hs,h.asks.length<=3
 ao:∀ i h,n.hs[i]? = some h->∀ q ∈ h.asks,AO ((n.hs.map (·.name)).drop (i + 1)) (n.ps.map (·.name)) q
 a6:(n.hs.map (·.asks.length)).sum<=6
section
theorem zkW {a:Nat} (e:PO a M):Ok (zcq [.ref a] M) fun t M'=>∃ n,t = zH n/\GN n/\PO a M'/\Fr [a] M M':=by
 refine zE rfl ?_
 unfold zfG
 have ha:a < M.length:=by obtain ⟨p,e⟩:=e;exact qO e
 rw [show startT 10 [.ref a] = [some (.ref a),none,none,none,none,none,none,none,none,none] from rfl]
 refine Ok.seqR fun X hX=>?_
 simp_arith [and_self]
 refine Ok.bind (zx e (by decide) (by decide)) ?_
 rintro t M1 ⟨d,rfl,d0,d1,p1,f1⟩
 obtain ⟨v,hv,v1,v4⟩:=zcl (xs:=[2,3,3,4,4,3,2,1]) 1 4 d0 d1 rfl
 simp only [map_cons,map_nil] at hv
 obtain ⟨nh,rfl⟩:∃ nh:Nat,v = nh:=⟨v.toNat,by omega⟩
 simp_arith [hv]
 refine Ok.bind (zef p1 (n:=nh) (by omega)) ?_
 rintro t M2 ⟨w,hs,rfl,gw,hw,nmh,hlh,p2,f2⟩
 try simp_arith [and_self]
 rw [hX];clear hX;simp only [yd]
 refine Ok.seqR fun X hX=>?_
 simp_arith [and_self]
 refine Ok.bind (zx p2 (by decide) (by decide)) ?_
 rintro t M3 ⟨d',rfl,d0',d1',p3,f3⟩
 obtain ⟨v',hv',v1',v4'⟩:=zcl (xs:=[0,1,1,2]) 0 2 d0' d1' rfl
 simp only [map_cons,map_nil] at hv'
 obtain ⟨np,rfl⟩:∃ np:Nat,v' = np:=⟨v'.toNat,by omega⟩
 simp_arith [hv']
 refine Ok.bind (zef p3 (n:=np) (by omega)) ?_
 rintro t M4 ⟨w',ps,rfl,gw',hw',nmp,hlp,p4,f4⟩
 try simp_arith [and_self]
 rw [hX];clear hX;simp only [yd]
 have wa:w ≠ a:=by have:=f1.1;omega
 have lw2:w < M2.length:=qO gw
 have l3:=f3.1
 have wa':w' ≠ a:=by have:=f1.1;have:=f2.1;omega
 have gw4:M4[w]? = some (.lst (hs.map .str)):=f4.get (f3.get gw (by simpa using wa)) (by simpa using wa)
 refine Ok.seqR fun X hX=>?_
 simp_arith [and_self]
 refine Ok.bind (zx p4 (by decide) (by decide)) ?_
 rintro t M5 ⟨c,rfl,c0,c1,p5,f5⟩
 have gw5:M5[w]? = some (.lst (hs.map .str)):=f5.get gw4 (by simpa using wa)
 have gw5':M5[w']? = some (.lst (ps.map .str)):=f5.get gw' (by simpa using wa')
 have fr5:Fr [a] M M5:=((((f1.trans f2).trans f3).trans f4).trans f5)
 -- the purses as they lie
 have key:∀ (P:FT.T) (pn:List Str),PV P pn a M5->Nms pn->pn.length<=2->(∀ w2,P = .ref w2->w2 < M5.length)->∀ (X:Fl->Mem->Out FT.T),(X = fun fl M=>(zaq (zg (yk 3 (eTk (zl qb)))
 (zg (yk 4 (eC (.int 6)))
 (zg (zai (qI (ya (zd (yo yy) (ya (yb 1) qb)) qb)) (ye 5) (zcW))
 (zg (yk 7 (eTk (zl qb)))
 (zg (zcZ (zc8 (yb 2)) (ye 8) (zcV))
 (yv (qd (ya (zd (yo yR) (ya (yb 3) qb)) (ya (zd (yo yR) (ya (yb 7) qb)) qb))))))))) fl M).bind zcJ)->
   Ok (X (.nx [some (.ref a),some (.ref w),some P,none,none,none,none,none,none,none]) M5) fun t M'=>∃ n,t = zH n/\GN n/\PO a M'/\Fr [a] M M':=by
  intro P pn hP nmP hpl hPl X hX
  rw [hX]
  clear hX
  simp only [yd]
  refine Ok.seqR fun X hX=>?_
  try simp_arith [and_self]
  rw [hX];clear hX;simp only [yd]
  refine Ok.seqR fun X hX=>?_
  try simp_arith [and_self]
  rw [hX];clear hX;simp only [yd]
  have lM5:=fr5.1
  have g6:(M5 ++ [Cell.lst []])[w]? = some (.lst (hs.map .str)):=(Fr.app M5 [Cell.lst []]).get0 gw5
  refine Ok.seqR fun X hX=>?_
  simp_arith [zcO g6,Qg,yT (M:=M5 ++ [Cell.lst []]) (j:=(hs.length:Int)) (by omega),Int.toNat_natCast]
  refine Ok.bind (Ok.for (r:=FT.T.int) (xs:=rgI hs.length) (fun k σ M'=>∃ (ss:List Hs) (o5 o6:Option FT.T),σ = [some (.ref a),some (.ref w),some P,some (.ref M5.length),some (.int (6 - ((ss.map (·.asks.length)).sum:Nat))),o5,o6,none,none,none]/\M'[M5.length]? = some (.lst (ss.map hsT))/\ss.map (·.name) = hs.take k/\(∀ h ∈ ss,h.asks.length<=3)/\(∀ i h,ss[i]? = some h->∀ q ∈ h.asks,AO (hs.drop (i + 1)) pn q)/\(ss.map (·.asks.length)).sum<=6/\PO a M'/\Fr [a,M5.length] (M5 ++ [Cell.lst []]) M') ⟨[],none,none,rfl,zJ,rfl,(fun h hh=>by cases hh),(fun i h hh=>by simp at hh),by simp,p5.fr (Fr.app _ _) (by simp),Fr.refl _ _⟩ ?_) ?_
  ·rintro k x σ M6 hx ⟨ss,o5,o6,rfl,g3,hnm,ha3,hao,h6,p6,f6⟩
   obtain ⟨hk,rfl⟩:=zaO hx
   have hsl:ss.length = k:=by
    have:=congrArg List.length hnm
    rw [Qg,Qp] at this
    omega
   unfold zcW
   have gw6:M6[w]? = some (.lst (hs.map .str)):=f6.get g6 (by simp;have:=qO gw5;omega)
   have hP6:PV P pn a M6:=by
    rcases hP with h | ⟨w2,h1,h2,h3⟩
    ·exact .inl h
    ·exact .inr ⟨w2,h1,h2,f6.get ((Fr.app M5 [Cell.lst []]).get0 h3) (by simp;have:=qO h3;omega)⟩
   have lw:qm (.ref w) M6 = some (hs.map .str):=by unfold qm;simp only [gw6]
   have cu:zW (hs.map FT.T.str) (some ((k:Int) + 1)) none = (hs.drop (k + 1)).map .str:=by
    rw [show (k:Int) + 1 = ((k + 1:Nat):Int) by omega,zcQ]
   obtain ⟨mo,hmo,hmo3,hmor⟩:∃ mo:Nat,(if 6 - (((ss.map (·.asks.length)).sum:Nat):Int) < 3 then 6 - (((ss.map (·.asks.length)).sum:Nat):Int) else 3) = (mo:Int)/\mo<=3/\mo + (ss.map (·.asks.length)).sum<=6:=by
    split
    ·exact ⟨(6 - (((ss.map (·.asks.length)).sum:Nat):Int)).toNat,by omega,by omega,by omega⟩
    ·exact ⟨3,rfl,by omega,by omega⟩
   refine Ok.seqX fun X hX=>?_
   simp_arith [lw,cu,zdv,hmo]
   refine Ok.bind (zj2 p6 hP6 (by rw [length_drop];omega) hpl hmo3) ?_
   rintro t M7 ⟨as,rfl,hal,haq,p7,f7⟩
   try simp_arith [and_self]
   rw [hX];clear hX;simp only [yd]
   refine Ok.seqX fun X hX=>?_
   simp_arith [Qg]
   rw [hX];clear hX;simp only [yd]
   have g37:M7[M5.length]? = some (.lst (ss.map hsT)):=f7.get g3 (by simp;omega)
   have gw7:M7[w]? = some (.lst (hs.map .str)):=f7.get gw6 (by simpa using wa)
   have hnk:hs[k]? = some (hs[k]'hk):=Q0 hk
   have ix:ixT (.ref w) (.int (k:Int)) M7 = .ok (.str (hs[k]'hk)) M7:=by
    unfold ixT zeQ
    simp only [gw7,zba (f:=FT.T.str) hnk]
    rfl
   have ap:=zap (t:=hsT ⟨hs[k]'hk,as⟩) g37 (by rw [Qg,sizeLine_eq];omega)
   rw [show ss.map hsT ++ [hsT ⟨hs[k]'hk,as⟩] = (ss ++ [(⟨hs[k]'hk,as⟩:Hs)]).map hsT from by simp,show hsT ⟨hs[k]'hk,as⟩ = .tup [.str (hs[k]'hk),.tup (as.map qi)] from rfl] at ap
   have ix2:(zeB (atI (hs.map FT.T.str) (k:Int)) M7) = .ok (.str (hs[k]'hk)) M7:=by rw [zba (f:=FT.T.str) hnk];rfl
   simp_arith [zD g37,gw7,zba (f:=FT.T.str) hnk,ap]
   have sm:((ss ++ [(⟨hs[k]'hk,as⟩:Hs)]).map (·.asks.length)).sum = (ss.map (·.asks.length)).sum + as.length:=by simp
   refine Ok.ret ⟨_,rfl,ss ++ [⟨hs[k]'hk,as⟩],some (.int (k:Int)),some (.tup (as.map qi)),?_,get_set g37,?_,fun h hh=>?_,fun i h hi q hq=>?_,?_,p7.fr (Fr.set _ _ _) (by simp;omega),(f6.tr f7 (by simp)).tr (Fr.set _ _ _) (by simp)⟩
   ·rw [sm,show (6:Int) - (((ss.map (·.asks.length)).sum + as.length:Nat):Int) = 6 - (((ss.map (·.asks.length)).sum:Nat):Int) - (as.length:Int) by omega]
   ·rw [map_append,hnm,take_succ,hnk];rfl
   ·rcases mem_append.mp hh with hh | hh
    ·exact ha3 h hh
    ·rw [mem_singleton.mp hh];show as.length<=3;omega
   ·rw [List.getElem?_append] at hi
    split at hi
    ·exact hao i h hi q hq
    ·have:i = k:=by
      have:=(List.getElem?_eq_some_iff.mp hi).1
      rw [Qs] at this
      omega
     subst this
     rw [hsl,Nat.sub_self] at hi
     cases hi
     exact haq q hq
   ·rw [sm];omega
  rintro fl M6 ⟨σ,rfl,ss,o5,o6,rfl,g3,hnm,ha3,hao,h6,p6,f6⟩
  rw [qT,take_length] at hnm
  rw [hX];clear hX;simp only [yd]
  refine Ok.seqR fun X hX=>?_
  try simp_arith [and_self]
  rw [hX];clear hX;simp only [yd]
  have hP7:PV P pn a (M6 ++ [Cell.lst []]):=by
   rcases hP with h | ⟨w2,h1,h2,h3⟩
   ·exact .inl h
   ·exact .inr ⟨w2,h1,h2,(Fr.app M6 [Cell.lst []]).get0 (f6.get ((Fr.app M5 [Cell.lst []]).get0 h3) (by simp;have:=qO h3;omega))⟩
  have l6:M5.length < M6.length:=qO g3
  obtain ⟨G,hG,hGk⟩:∃ G,zb6 P (M6 ++ [Cell.lst []]) = some (pn.map .str,G)/\∀ M',Fr [a,M6.length] (M6 ++ [Cell.lst []]) M'->zaE G M':=by
   rcases hP7 with rfl | ⟨w2,rfl,h2,h3⟩
   ·exact ⟨[],rfl,fun M' f=>zil M'⟩
   ·refine ⟨[(w2,pn.map .str)],?_,fun M' f=>zik (f.get h3 ?_)⟩
    ·unfold zb6
     simp only [h3]
    ·have:=hPl w2 rfl
     simp
     omega
  refine Ok.seqR fun X hX=>?_
  simp_arith [zcZ,zc8,hG]
  refine Ok.bind (Ok.forG (G:=G) (r:=FT.T.str) (xs:=pn) (fun k σ M'=>∃ (us:List Pu) (o8 o9:Option FT.T),σ = [some (.ref a),some (.ref w),some P,some (.ref M5.length),some (.int (6 - ((ss.map (·.asks.length)).sum:Nat))),o5,o6,some (.ref M6.length),o8,o9]/\M'[M6.length]? = some (.lst (us.map puT))/\us.map (·.name) = pn.take k/\(∀ p ∈ us,(p.earns = "first"\/p.earns = "any")/\1<=p.per/\p.per<=9)/\PO a M'/\Fr [a,M6.length] (M6 ++ [Cell.lst []]) M') (fun i σ M' h=>by obtain ⟨_,_,_,_,_,_,_,_,f⟩:=h;exact hGk _ f) ⟨[],none,none,rfl,zJ,rfl,(fun h hh=>by cases hh),p6.fr (Fr.app _ _) (by simp),Fr.refl _ _⟩ ?_) ?_
  ·rintro k x σ M7 hx ⟨us,o8,o9,rfl,g7,hun,hpe,p7,f7⟩
   have hk:=(List.getElem?_eq_some_iff.mp hx).1
   have hul:us.length = k:=by
    have:=congrArg List.length hun
    rw [Qg,Qp] at this
    omega
   unfold zcV
   refine Ok.seqX fun X hX=>?_
   simp_arith [and_self]
   refine Ok.bind (zx p7 (by decide) (by decide)) ?_
   rintro t M8 ⟨z,rfl,z0,z1,p8,f8⟩
   obtain ⟨ea,hea,hat⟩:=ziC (xs:=["first","any"]) z0 (by simpa using z1)
   simp only [map_cons,map_nil] at hat
   have hea:ea = "first"\/ea = "any":=by simpa using hea
   simp_arith [hat]
   rw [hX];clear hX;simp only [yd]
   have g8:M8[M6.length]? = some (.lst (us.map puT)):=f8.get g7 (by simp;omega)
   simp_arith [zD g8]
   refine Ok.bind (zx p8 (by decide) (by decide)) ?_
   rintro t M9 ⟨y,rfl,y0,y1,p9,f9⟩
   simp_arith [and_self]
   refine Ok.bind (zx p9 (by decide) (by decide)) ?_
   rintro t M10 ⟨u,rfl,u0,u1,p10,f10⟩
   obtain ⟨pr,hpr,hp1,hp9⟩:∃ pr:Int,atI [FT.T.int 1,.int 1,.int 2,.int 3,.int (1 + y)] u = some (.int pr)/\1<=pr/\pr<=9:=by
    have:u = 0\/u = 1\/u = 2\/u = 3\/u = 4:=by omega
    rcases this with rfl | rfl | rfl | rfl | rfl
    ·exact ⟨1,rfl,by decide,by decide⟩
    ·exact ⟨1,rfl,by decide,by decide⟩
    ·exact ⟨2,rfl,by decide,by decide⟩
    ·exact ⟨3,rfl,by decide,by decide⟩
    ·exact ⟨1 + y,rfl,by omega,by omega⟩
   have g10:M10[M6.length]? = some (.lst (us.map puT)):=f10.get (f9.get g8 (by simp;omega)) (by simp;omega)
   have ap:=zap (t:=puT ⟨x,ea,pr⟩) g10 (by rw [Qg,sizeLine_eq];omega)
   rw [show us.map puT ++ [puT ⟨x,ea,pr⟩] = (us ++ [(⟨x,ea,pr⟩:Pu)]).map puT from by simp,show puT ⟨x,ea,pr⟩ = .tup [.str x,.str ea,.int pr] from rfl] at ap
   simp_arith [hpr,ap]
   refine Ok.ret ⟨_,rfl,us ++ [⟨x,ea,pr⟩],_,_,rfl,get_set g10,by rw [map_append,hun,take_succ,hx];rfl,fun p hp=>?_,p10.fr (Fr.set _ _ _) (by simp;omega),(((f7.tr f8 (by simp)).tr f9 (by simp)).tr f10 (by simp)).tr (Fr.set _ _ _) (by simp)⟩
   rcases mem_append.mp hp with hp | hp
   ·exact hpe p hp
   ·rw [mem_singleton.mp hp];exact ⟨hea,hp1,hp9⟩
  rintro fl M7 ⟨σ,rfl,us,o8,o9,rfl,g7,hun,hpe,p7,f7⟩
  rw [take_length] at hun
  rw [hX];clear hX;simp only [yd]
  have g37:M7[M5.length]? = some (.lst (ss.map hsT)):=f7.get ((Fr.app M6 [Cell.lst []]).get0 g3) (by simp;omega)
  simp_arith [zbB g37,zbB g7]
  have hsn:ss.length = hs.length:=by have:=congrArg List.length hnm;rwa [Qg] at this
  have hun2:us.length = pn.length:=by have:=congrArg List.length hun;rwa [Qg] at this
  refine Ok.ret ⟨⟨ss,us⟩,rfl,⟨by rw [hnm];exact nmh,by show 1<=ss.length;omega,by show ss.length<=4;omega,by rw [hun];exact nmP,by show us.length<=2;omega,hpe,ha3,by rw [hnm,hun];exact hao,h6⟩,p7,?_⟩
  refine (fr5.tr (Fr.app M5 [Cell.lst []]) (by simp)).tr (f6.tr (((Fr.app M6 [Cell.lst []]).mono (S:=[a])).tr f7 (by simp)) ?_) ?_
  all_goals simp
  all_goals omega
 by_cases hc:c = 0
 ·have lw:qm (.ref w) M5 = some (hs.map .str):=by unfold qm;simp only [gw5]
  have rv:zdm (.ref w) (some (-1)) M5 = .ok (.lst (hs.reverse.map .str)) M5:=by
   show (if (some (-1:Int)) = some (-1) then rvX (.ref w) M5 else .bad) = _
   rw [if_pos rfl]
   unfold rvX
   simp only [lw]
   rw [List.map_reverse]
  have ll:qm (.lst (hs.reverse.map FT.T.str)) M5 = some (hs.reverse.map .str):=rfl
  have cu:=zhf FT.T.str hs.reverse ps.length
  subst hc
  simp_arith [eRv,rv,zcO gw5',Qg,ll,cu]
  exact key _ (hs.reverse.take ps.length) (.inl rfl) (nmh.rev.sub (List.take_sublist _ _)) (by rw [Qp];omega) (fun w2 z=>by cases z) _ hX
 ·simp_arith [show (c == 0) = false by simpa using hc]
  exact key _ ps (.inr ⟨w',rfl,wa',gw5'⟩) nmp (by omega) (fun w2 z=>by cases z;exact qO gw5') _ hX
end
noncomputable def plT:FT.T->Bool
 | .non=>true
 | .bl _=>true
 | .int _=>true
 | .str z=>decide (z.length<=2000)
 | .tup xs=>decide (xs.length<=100)
 | .lst _=>true
 | _=>false
noncomputable def zbC (t:FT.T) (k:Nat):Bool:=match t with
 | .tup xs=>decide (xs.length = k)
 | _=>false
noncomputable def zd1:FT.T->Bool
 | .str z=>isW z.cps.toList
 | _=>false
noncomputable def qE (t:FT.T) (lo hi:Int):Bool:=match t with
 | .int i=>decide (lo<=i/\i<=hi)
 | _=>false
variable {t:FT.T}
section
theorem zb7 (h:plT t = true) (M:Mem):zw t (.ty "tuple") M = .ok (.bl (match t with | .tup _=>true | _=>false)) M:=by cases t <;> first | rfl | cases h
theorem zgX (h:plT t = true) (M:Mem):zw t (.ty "int") M = .ok (.bl (match t with | .int _=>true | .bl _=>true | _=>false)) M:=by cases t <;> first | rfl | cases h
theorem zb8 (h:plT t = true) (M:Mem):zw t (.ty "bool") M = .ok (.bl (match t with | .bl _=>true | _=>false)) M:=by cases t <;> first | rfl | cases h
theorem zay (h:plT t = true) (M:Mem):zw t (.ty "str") M = .ok (.bl (match t with | .str _=>true | _=>false)) M:=by cases t <;> first | rfl | cases h
theorem zbA (h:plT t = true) (k:Nat) (M:Mem):qq [t,.int (k:Int)] M = .ok (.bl (zbC t k)) M:=by
 have i:=zb7 h M
 unfold qq zbU
 cases t with
 | tup xs=>
  simp_arith [i]
  unfold zbC
  congr 2
  rw [show ((xs.length:Int) == (k:Int)) = decide ((xs.length:Int) = (k:Int)) from rfl]
  exact decide_eq_decide.mpr (by omega)
 | non=>simp_arith [i];rfl
 | bl b=>simp_arith [i];rfl
 | int b=>simp_arith [i];rfl
 | str b=>simp_arith [i];rfl
 | lst b=>simp_arith [i];rfl
 | _=>cases h
theorem zj8 (h:plT t = true) (M:Mem):zA [t] M = .ok (.bl (zd1 t)) M:=by
 cases t with
 | str z=>
  have hl:z.length<=2000:=of_decide_eq_true h
  have:=ziO (l:=z.cps.toList) (by simpa [Str.length] using hl) M
  rw [← zne] at this
  exact this
 | tup xs=>have i:=zay h M;unfold zA qS;simp_arith [i];rfl
 | non=>have i:=zay h M;unfold zA qS;simp_arith [i];rfl
 | bl b=>have i:=zay h M;unfold zA qS;simp_arith [i];rfl
 | int b=>have i:=zay h M;unfold zA qS;simp_arith [i];rfl
 | lst b=>have i:=zay h M;unfold zA qS;simp_arith [i];rfl
 | _=>cases h
theorem zhw (h:plT t = true) (M:Mem):zac [t] M = .ok (.bl (match t with | .int _=>true | _=>false)) M:=by
 have i:=zgX h M
 have j:=zb8 h M
 unfold zac zc9
 cases t with
 | tup xs=>simp_arith [i]
 | non=>simp_arith [i]
 | bl b=>simp_arith [i,j]
 | int b=>simp_arith [i,j]
 | lst b=>simp_arith [i]
 | str b=>simp_arith [i]
 | _=>cases h
theorem zdI (h:plT t = true) (lo hi:Int) (M:Mem):qD [t,.int lo,.int hi] M = .ok (.bl (qE t lo hi)) M:=by
 have i:=zhw h M
 unfold qD zcw
 cases t with
 | int b=>
  by_cases h1:lo<=b
  ·simp_arith [i,Qt h1]
   unfold qE
   congr 2
   exact decide_eq_decide.mpr ⟨fun z=>⟨h1,z⟩,fun z=>z.2⟩
  ·simp_arith [i,Qu h1]
   show Out.ok (FT.T.bl false) M = .ok (.bl (decide (lo<=b/\b<=hi))) M
   rw [Qu fun z=>h1 z.1]
 | tup xs=>simp_arith [i];rfl
 | non=>simp_arith [i];rfl
 | bl b=>simp_arith [i];rfl
 | lst b=>simp_arith [i];rfl
 | str b=>simp_arith [i];rfl
 | _=>cases h
end
noncomputable def hdT:FT.T->FT.T
 | .tup (x :: _)=>x
 | _=>.non
noncomputable def nmT (t:FT.T):Str:=match hdT t with
 | .str z=>z
 | _=>""
noncomputable def qF (size:Nat) (o:FT.T):Bool:=zbC o size && zd1 (hdT o)
noncomputable def yu (t:FT.T) (size lo hi:Nat):Bool:=match t with
 | .tup xs=>decide (lo<=xs.length/\xs.length<=hi) && (xs.all (qF size) && decide (xs.map nmT).Nodup)
 | _=>false
theorem zeG:∀ (ss acc:List Str),acc.Nodup->((ss.foldl zbL acc).length = acc.length + ss.length ↔ ss.Nodup/\∀ x ∈ ss,x ∉ acc)/\(ss.foldl zbL acc).length<=acc.length + ss.length
 | [],acc,_=>by simp
 | x :: ss,acc,h=>by
  rw [foldl_cons]
  by_cases hx:x ∈ acc
  ·rw [show zbL acc x = acc from if_pos hx]
   obtain ⟨h1,h2⟩:=zeG ss acc h
   refine ⟨⟨fun z=>?_,fun z=>absurd hx (z.2 x (.head _))⟩,by rw [Qo];omega⟩
   rw [Qo] at z
   omega
  ·rw [show zbL acc x = acc ++ [x] from if_neg hx]
   have hn:(acc ++ [x]).Nodup:=by
    rw [List.nodup_append]
    exact ⟨h,by simp,fun a ha b hb=>by rw [mem_singleton.mp hb];rintro rfl;exact hx ha⟩
   obtain ⟨h1,h2⟩:=zeG ss (acc ++ [x]) hn
   rw [Qm,Qs] at h1 h2
   rw [Qo,show acc.length + (ss.length + 1) = acc.length + 1 + ss.length by omega,h1,nodup_cons]
   refine ⟨⟨fun ⟨z1,z2⟩=>⟨⟨fun q=>z2 x q (by simp),z1⟩,fun y hy=>?_⟩,fun ⟨⟨z1,z2⟩,z3⟩=>⟨z2,fun y hy=>?_⟩⟩,h2⟩
   ·rcases mem_cons.mp hy with rfl | hy
    ·exact hx
    ·exact fun q=>z2 y hy (by simp [q])
   ·rw [mem_append,not_or]
    exact ⟨z3 y (.tail _ hy),fun q=>by rw [mem_singleton.mp q] at hy;exact z1 hy⟩
theorem zkY (ss:List Str):decide (((met ss).length:Int) = (ss.length:Int)) = decide ss.Nodup:=by
 have:=(zeG ss [] .nil).1
 refine decide_eq_decide.mpr ?_
 rw [length_nil,Nat.zero_add] at this
 unfold met
 constructor
 ·intro h;exact (this.mp (by omega)).1
 ·intro h
  have:=this.mpr ⟨h,fun x _=>by simp⟩
  omega
theorem zgr (ss:List Str):zbE (ss.map FT.T.str) = some ss:=by
 induction ss with
 | nil=>rfl
 | cons z zs ih=>simp only [map_cons,zbE,ih,Option.map_some]
variable {o:FT.T}
section
theorem zaX {size:Nat} (hs:0 < size) (h:qF size o = true):∃ r,o = .tup (.str (nmT o) :: r)/\r.length + 1 = size:=by
 unfold qF at h
 rw [Qq] at h
 obtain ⟨h1,h2⟩:=h
 cases o with
 | tup xs=>
  have h1:xs.length = size:=of_decide_eq_true h1
  cases xs with
  | nil=>simp at h1;omega
  | cons x r=>
   cases x with
   | str z=>exact ⟨r,rfl,by simpa using h1⟩
   | _=>cases h2
 | _=>cases h1
theorem named_eq (hp:plT t = true) {size lo hi:Nat} (hs:0 < size) (hq:∀ xs,t = .tup xs->∀ o ∈ xs,plT o = true/\(∀ x r,o = .tup (x :: r)->plT x = true)) (M:Mem) :
  qx [t,.int (size:Int),.int (lo:Int),.int (hi:Int)] M = .ok (.bl (yu t size lo hi)) M:=by
 have key:Ok (qx [t,.int (size:Int),.int (lo:Int),.int (hi:Int)] M) fun r M'=>r = .bl (yu t size lo hi)/\M' = M:=by
  refine zE rfl ?_
  unfold zcx
  have i:=zb7 hp M
  rw [show startT 4 [t,.int (size:Int),.int (lo:Int),.int (hi:Int)] = [some t,some (.int (size:Int)),some (.int (lo:Int)),some (.int (hi:Int))] from rfl]
  cases t with
  | tup xs=>
   have hl:xs.length<=100:=of_decide_eq_true hp
   have hq:=hq xs rfl
   by_cases h1:lo<=xs.length
   ·by_cases h2:xs.length<=hi
    ·have cp:ql (ye 0) zq (yZ (zd (qq) (ya (yb 0) (ya (yb 1) qb))) (zd (zA) (ya (eOp ixT (yb 0) (eC (.int 0))) qb))) xs [none,some (.int (size:Int))] M [] = .ok (xs.map fun o=>.bl (qF size o)) M:=by
      have:=Ok.mapc (r:=fun x:FT.T=>x) (bd:=ye 0) (el:=yZ (zd (qq) (ya (yb 0) (ya (yb 1) qb))) (zd (zA) (ya (eOp ixT (yb 0) (eC (.int 0))) qb))) (M:=M) (fun σ=>∃ o,σ = [o,some (.int (size:Int))]) (fun o=>FT.T.bl (qF size o)) (xs:=xs) (σ:=[none,some (.int (size:Int))]) ⟨_,rfl⟩ (by omega) (by
       rintro o σ ho ⟨o',rfl⟩
       refine ⟨[some o,some (.int (size:Int))],rfl,⟨_,rfl⟩,?_⟩
       obtain ⟨q1,q2⟩:=hq o ho
       cases hb:zbC o size with
       | false=>
        have tt:=zbA q1 size M
        rw [hb] at tt
        simp_arith [tt]
        unfold qF
        rw [hb]
        rfl
       | true=>
        have tt:=zbA q1 size M
        rw [hb] at tt
        cases o with
        | tup ys=>
         have hy:ys.length = size:=of_decide_eq_true hb
         cases ys with
         | nil=>simp at hy;omega
         | cons y ys=>
          simp_arith [tt,zj8 (q2 y ys rfl) M]
          unfold qF
          rw [hb]
          rfl
        | _=>cases hb)
      rw [show xs.map (fun x:FT.T=>x) = xs from map_id' xs] at this
      exact this
     simp_arith [i,Qt (show (lo:Int)<=(xs.length:Int) by omega),Qt (show (xs.length:Int)<=(hi:Int) by omega),cp,zbb]
     cases ha:xs.all (qF size) with
     | false=>
      simp_arith [and_self]
      refine Ok.ret ⟨?_,rfl⟩
      show _ = FT.T.bl (decide (lo<=xs.length/\xs.length<=hi) && (xs.all (qF size) && _))
      rw [ha,Bool.false_and,Bool.and_false]
     | true=>
      have hw:=all_eq_true.mp ha
      have c2:ql (ye 0) zq (eOp ixT (yb 0) (eC (.int 0))) xs [none] M [] = .ok ((xs.map nmT).map .str) M:=by
       have:=Ok.mapc (r:=fun x:FT.T=>x) (bd:=ye 0) (el:=eOp ixT (yb 0) (eC (.int 0))) (M:=M) (fun σ=>∃ o,σ = [o]) (fun o=>FT.T.str (nmT o)) (xs:=xs) (σ:=[none]) ⟨_,rfl⟩ (by omega) (by
        rintro o σ ho ⟨o',rfl⟩
        refine ⟨[some o],rfl,⟨_,rfl⟩,?_⟩
        obtain ⟨r,hr,_⟩:=zaX hs (hw o ho)
        rw [hr]
        simp_arith [and_self]
        rfl)
       rw [show xs.map (fun x:FT.T=>x) = xs from map_id' xs] at this
       rw [map_map]
       exact this
      have ls:zax [.lst ((xs.map nmT).map .str)] M = .ok (.int ((met (xs.map nmT)).length:Int)) M:=by
       unfold zax qm
       simp only [zgr]
       rw [if_pos (by rw [Qg];omega)]
      simp_arith [c2,ls]
      refine Ok.ret ⟨?_,rfl⟩
      show FT.T.bl (decide (((met (xs.map nmT)).length:Int) = (xs.length:Int))) = FT.T.bl (decide (lo<=xs.length/\xs.length<=hi) && (xs.all (qF size) && _))
      rw [ha,show decide (lo<=xs.length/\xs.length<=hi) = true from Qt ⟨h1,h2⟩,Bool.true_and,Bool.true_and,← zkY,Qg]
    ·simp_arith [i,Qt (show (lo:Int)<=(xs.length:Int) by omega),Qu (show ¬ (xs.length:Int)<=(hi:Int) by omega)]
     refine Ok.ret ⟨?_,rfl⟩
     show _ = FT.T.bl (decide (lo<=xs.length/\xs.length<=hi) && _)
     rw [Qu fun z=>h2 z.2,Bool.false_and]
   ·simp_arith [i,Qu (show ¬ (lo:Int)<=(xs.length:Int) by omega)]
    refine Ok.ret ⟨?_,rfl⟩
    show _ = FT.T.bl (decide (lo<=xs.length/\xs.length<=hi) && _)
    rw [Qu fun z=>h1 z.1,Bool.false_and]
  | non=>simp_arith [i];exact Ok.ret ⟨rfl,rfl⟩
  | bl b=>simp_arith [i];exact Ok.ret ⟨rfl,rfl⟩
  | int b=>simp_arith [i];exact Ok.ret ⟨rfl,rfl⟩
  | str b=>simp_arith [i];exact Ok.ret ⟨rfl,rfl⟩
  | lst b=>simp_arith [i];exact Ok.ret ⟨rfl,rfl⟩
  | _=>cases hp
 obtain ⟨t',M',e,rfl,rfl⟩:=key
 exact e
end
noncomputable def blB:FT.T->Bool
 | .bl _=>true
 | _=>false
noncomputable def ym (ss:List Str) (t:FT.T):Bool:=ss.any fun s=>eqS (.str s) t
noncomputable def zX (later pn:List Str) (t:FT.T):Bool:=match t with
 | .tup [a0,a1,a2,a3,a4,a5]=>ym later a0 && (qE a1 0 4 && ((zal a2 || ym pn a2) && (ym ["bad","spent"] a3 && (blB a4 && blB a5))))
 | _=>false
structure AP (t:FT.T):Prop where
 pl:plT t = true
 six:∀ a0 a1 a2 a3 a4 a5,t = .tup [a0,a1,a2,a3,a4,a5]->yp a0 = true/\plT a1 = true/\yp a2 = true/\yp a3 = true/\plT a4 = true/\plT a5 = true
theorem zmX {α:Type} {xs:List α} (h:xs.length = 6):∃ a0 a1 a2 a3 a4 a5,xs = [a0,a1,a2,a3,a4,a5]:=by
 match xs,h with
 | [a0,a1,a2,a3,a4,a5],_=>exact ⟨a0,a1,a2,a3,a4,a5,rfl⟩
theorem zj5 (ss:List Str):(ss.map FT.T.str).all yp = true:=by
 rw [all_map]
 exact all_eq_true.mpr fun _ _=>rfl
variable {ss:List Str}
theorem zc3 (h:yp t = true) (M:Mem):zam t (.lst (ss.map .str)) M = .ok (.bl (!ym ss t)) M:=by
 show (if (yp t && (ss.map FT.T.str).all yp) = true then Out.ok (FT.T.bl (!(ss.map FT.T.str).any fun y=>eqS y t)) M else .bad) = _
 rw [h,zj5,if_pos (by decide),List.any_map]
 rfl
theorem ziK {s1 s2:Str} (h:yp t = true) (M:Mem):inA t (.tup [.str s1,.str s2]) M = .ok (.bl (ym [s1,s2] t)) M:=by
 show (if (yp t && _) = true then Out.ok (FT.T.bl ([FT.T.str s1,.str s2].any fun y=>eqS y t)) M else .bad) = _
 rw [h]
 rfl
section
theorem zlI (h:AP t) (later pn:List Str) (M:Mem):zZ [t,.lst (later.map .str),.lst (pn.map .str)] M = .ok (.bl (zX later pn t)) M:=by
 have key:Ok (zZ [t,.lst (later.map .str),.lst (pn.map .str)] M) fun r M'=>r = .bl (zX later pn t)/\M' = M:=by
  refine zE rfl ?_
  unfold zeY
  rw [show startT 3 [t,.lst (later.map .str),.lst (pn.map .str)] = [some t,some (.lst (later.map .str)),some (.lst (pn.map .str))] from rfl]
  have tt:=zbA h.pl 6 M
  cases hb:zbC t 6 with
  | false=>
   rw [hb] at tt
   simp_arith [show qq [t,.int 6] M = .ok (.bl false) M from tt]
   refine Ok.ret ⟨?_,rfl⟩
   have:zX later pn t = false:=by
    unfold zX
    split
    ·exact absurd hb (by simp [zbC])
    ·rfl
   rw [this]
  | true=>
   rw [hb] at tt
   cases t with
   | tup xs=>
    obtain ⟨a0,a1,a2,a3,a4,a5,rfl⟩:=zmX (of_decide_eq_true hb)
    obtain ⟨s0,p1,s2,s3,p4,p5⟩:=h.six a0 a1 a2 a3 a4 a5 rfl
    have z4:atI [a0,a1,a2,a3,a4,a5] 4 = some a4:=by have:=yL (xs:=[a0,a1,a2,a3,a4,a5]) (n:=4);exact this
    have z5:atI [a0,a1,a2,a3,a4,a5] 5 = some a5:=by have:=yL (xs:=[a0,a1,a2,a3,a4,a5]) (n:=5);exact this
    have t6:qq [.tup [a0,a1,a2,a3,a4,a5],.int 6] M = .ok (.bl true) M:=tt
    have n0:=zc3 (ss:=later) s0 M
    have n2:=zc3 (ss:=pn) s2 M
    have w1:=zdI p1 0 4 M
    have i3:=ziK (s1:="bad") (s2:="spent") s3 M
    have b4:zw a4 (.ty "bool") M = .ok (.bl (blB a4)) M:=(zb8 p4 M).trans (by cases a4 <;> rfl)
    have b5:zw a5 (.ty "bool") M = .ok (.bl (blB a5)) M:=(zb8 p5 M).trans (by cases a5 <;> rfl)
    have nn:zc6 a2 .non M = .ok (.bl (!zal a2)) M:=rfl
    show Ok _ fun r M'=>r = FT.T.bl (ym later a0 && (qE a1 0 4 && ((zal a2 || ym pn a2) && (ym ["bad","spent"] a3 && (blB a4 && blB a5)))))/\M' = M
    cases e0:ym later a0 with
    | false=>rw [e0] at n0;simp_arith [t6,n0];exact Ok.ret ⟨rfl,rfl⟩
    | true=>
     rw [e0] at n0
     cases e1:qE a1 0 4 with
     | false=>rw [e1] at w1;simp_arith [t6,n0,w1];exact Ok.ret ⟨rfl,rfl⟩
     | true=>
      rw [e1] at w1
      have rest:∀ X:Fl->Mem->Out FT.T,(X = fun fl M=>(zaq (yv (yZ (eOp inA (eOp ixT (yb 0) (eC (.int 3))) (qd (ya (eC (.str "bad")) (ya (eC (.str "spent")) qb)))) (yZ (zd (call2 zw) (ya (eOp ixT (yb 0) (eC (.int 4))) (ya (eC (.ty "bool")) qb))) (zd (call2 zw) (ya (eOp ixT (yb 0) (eC (.int 5))) (ya (eC (.ty "bool")) qb)))))) fl M).bind zcJ)->Ok (X (.nx [some (.tup [a0,a1,a2,a3,a4,a5]),some (.lst (later.map .str)),some (.lst (pn.map .str))]) M) fun r M'=>r = FT.T.bl (ym ["bad","spent"] a3 && (blB a4 && blB a5))/\M' = M:=by
       intro X hX
       rw [hX]
       clear hX
       simp only [yd]
       cases e3:ym ["bad","spent"] a3 with
       | false=>rw [e3] at i3;simp_arith [i3];exact Ok.ret ⟨rfl,rfl⟩
       | true=>
        rw [e3] at i3
        cases e4:blB a4 with
        | false=>rw [e4] at b4;simp_arith [i3,z4,b4];exact Ok.ret ⟨rfl,rfl⟩
        | true=>rw [e4] at b4;simp_arith [i3,z4,b4,z5,b5];exact Ok.ret ⟨rfl,rfl⟩
      refine Ok.seqR fun X hX=>?_
      simp_arith [t6,n0,w1]
      rw [hX];clear hX;simp only [yd]
      refine Ok.seqR fun X hX=>?_
      cases e2:zal a2 with
      | true=>
       rw [e2] at nn
       simp_arith [nn]
       exact rest _ hX
      | false=>
       rw [e2] at nn
       cases e2':ym pn a2 with
       | true=>
        rw [e2'] at n2
        simp_arith [nn,n2]
        exact rest _ hX
       | false=>
        rw [e2'] at n2
        simp_arith [nn,n2]
        rw [hX]
        clear hX
        simp only [zhE]
        simp_arith [and_self]
        exact Ok.ret ⟨rfl,rfl⟩
   | _=>cases hb
 obtain ⟨t',M',e,rfl,rfl⟩:=key
 exact e
end
noncomputable def zbe (later pn:List Str) (t:FT.T):Bool:=match t with
 | .tup xs=>decide (xs.length<=3) && xs.all (zX later pn)
 | _=>false
structure ASP (t:FT.T):Prop where
 pl:plT t = true
 el:∀ xs,t = .tup xs->∀ q ∈ xs,AP q
variable {h:Nat}
section
theorem zj3 (h:ASP t) (later pn:List Str) (M:Mem):zV [t,.lst (later.map .str),.lst (pn.map .str)] M = .ok (.bl (zbe later pn t)) M:=by
 have key:Ok (zV [t,.lst (later.map .str),.lst (pn.map .str)] M) fun r M'=>r = .bl (zbe later pn t)/\M' = M:=by
  refine zE rfl ?_
  unfold zda
  rw [show startT 3 [t,.lst (later.map .str),.lst (pn.map .str)] = [some t,some (.lst (later.map .str)),some (.lst (pn.map .str))] from rfl]
  have i:=zb7 h.pl M
  have hpl:=h.pl
  cases t with
  | tup xs=>
   have hl:xs.length<=100:=of_decide_eq_true hpl
   show Ok _ fun r M'=>r = FT.T.bl (decide (xs.length<=3) && xs.all (zX later pn))/\M' = M
   by_cases h3:xs.length<=3
   ·have cp:ql (ye 0) zq (zd (zZ) (ya (yb 0) (ya (yb 1) (ya (yb 2) qb)))) xs [none,some (.lst (later.map .str)),some (.lst (pn.map .str))] M [] = .ok (xs.map fun o=>.bl (zX later pn o)) M:=by
     have:=Ok.mapc (r:=fun x:FT.T=>x) (bd:=ye 0) (el:=zd (zZ) (ya (yb 0) (ya (yb 1) (ya (yb 2) qb)))) (M:=M) (fun σ=>∃ o,σ = [o,some (.lst (later.map .str)),some (.lst (pn.map .str))]) (fun o=>FT.T.bl (zX later pn o)) (xs:=xs) (σ:=[none,some (.lst (later.map .str)),some (.lst (pn.map .str))]) ⟨_,rfl⟩ (by omega) (by
      rintro o σ ho ⟨o',rfl⟩
      refine ⟨[some o,some (.lst (later.map .str)),some (.lst (pn.map .str))],rfl,⟨_,rfl⟩,?_⟩
      simp_arith [zlI (h.el xs rfl o ho) later pn M])
     rw [show xs.map (fun x:FT.T=>x) = xs from map_id' xs] at this
     exact this
    simp_arith [i,Qu (show ¬ (3:Int) < (xs.length:Int) by omega),cp,zbb]
    exact Ok.ret ⟨by rw [Qt h3];rfl,rfl⟩
   ·simp_arith [i,Qt (show (3:Int) < (xs.length:Int) by omega)]
    exact Ok.ret ⟨by rw [Qu h3];rfl,rfl⟩
  | non=>simp_arith [i];exact Ok.ret ⟨rfl,rfl⟩
  | bl b=>simp_arith [i];exact Ok.ret ⟨rfl,rfl⟩
  | int b=>simp_arith [i];exact Ok.ret ⟨rfl,rfl⟩
  | str b=>simp_arith [i];exact Ok.ret ⟨rfl,rfl⟩
  | lst b=>simp_arith [i];exact Ok.ret ⟨rfl,rfl⟩
  | _=>cases hpl
 obtain ⟨t',M',e,rfl,rfl⟩:=key
 exact e
noncomputable def item (k:Nat) (t:FT.T):FT.T:=match t with
 | .tup xs=>(xs[k]?).getD .non
 | _=>.non
noncomputable def zdy:FT.T->Nat
 | .tup xs=>xs.length
 | _=>0
noncomputable def puB (o:FT.T):Bool:=ym ["first","any"] (item 1 o) && qE (item 2 o) 1 9
noncomputable def hsB (hs ps:List FT.T):Bool:=(List.range hs.length).all fun i=>zbe ((hs.map nmT).drop (i + 1)) (ps.map nmT) (item 1 ((hs[i]?).getD .non))
noncomputable def zaa (t:FT.T):Bool:=match t with
 | .tup [.tup hs,.tup ps]=>yu (.tup hs) 2 1 4 && (yu (.tup ps) 3 0 2 && (ps.all puB && (hsB hs ps && decide ((hs.map fun h=>zdy (item 1 h)).sum<=6))))
 | _=>false
structure NP (t:FT.T):Prop where
 pl:plT t = true
 two:∀ H P,t = .tup [H,P]->plT H = true/\plT P = true/\(∀ xs,H = .tup xs->∀ o ∈ xs,plT o = true/\∀ x r,o = .tup (x :: r)->plT x = true)/\(∀ xs,P = .tup xs->∀ o ∈ xs,plT o = true/\∀ x r,o = .tup (x :: r)->plT x = true) /\
  (yu H 2 1 4 = true->yu P 3 0 2 = true->(∀ xs a b c,P = .tup xs->.tup [a,b,c] ∈ xs->yp b = true/\plT c = true)/\(∀ xs a b,H = .tup xs->.tup [a,b] ∈ xs->ASP b))
theorem zh2 {α:Type} {xs:List α} (h:xs.length = 2):∃ a0 a1,xs = [a0,a1]:=by
 match xs,h with
 | [a0,a1],_=>exact ⟨a0,a1,rfl⟩
theorem zdP {s l:Nat} (e:yu t s l h = true):∃ xs,t = .tup xs/\l<=xs.length/\xs.length<=h/\xs.all (qF s) = true/\(xs.map nmT).Nodup:=by
 cases t with
 | tup xs=>
  have e:(decide (l<=xs.length/\xs.length<=h) && (xs.all (qF s) && decide (xs.map nmT).Nodup)) = true:=e
  rw [Qq,Qq] at e
  exact ⟨xs,rfl,(of_decide_eq_true e.1).1,(of_decide_eq_true e.1).2,e.2.1,of_decide_eq_true e.2.2⟩
 | _=>cases e
theorem zib (ns:List Nat):zcP (ns.map fun n:Nat=>FT.T.int (n:Int)) = some (ns.map fun n:Nat=>(n:Int)):=by
 induction ns with
 | nil=>rfl
 | cons n ns ih=>simp only [map_cons,zcP,ih,Option.map_some]
theorem sum_nat:∀ ns:List Nat,(ns.map fun n:Nat=>(n:Int)).sum = ((ns.sum:Nat):Int)
 | []=>rfl
 | n :: ns=>by rw [map_cons,sum_cons,sum_cons,sum_nat ns];omega
theorem sum_K (ns:List Nat) (M:Mem):sumK (.lst (ns.map fun n:Nat=>FT.T.int (n:Int))) M = .ok (.int ((ns.sum:Nat):Int)) M:=by
 unfold sumK qm
 simp only [zib,sum_nat]
theorem zc4 (h:NP t) (M:Mem):qN [t] M = .ok (.bl (zaa t)) M:=by
 have key:Ok (qN [t] M) fun r M'=>r = .bl (zaa t)/\M' = M:=by
  refine zE rfl ?_
  unfold zeX
  rw [show startT 3 [t] = [some t,none,none] from rfl]
  have tt:=zbA h.pl 2 M
  cases hb:zbC t 2 with
  | false=>
   rw [hb] at tt
   simp_arith [show qq [t,.int 2] M = .ok (.bl false) M from tt]
   refine Ok.ret ⟨?_,rfl⟩
   have:zaa t = false:=by
    unfold zaa
    split
    ·exact absurd hb (by simp [zbC])
    ·rfl
   rw [this]
  | true=>
   rw [hb] at tt
   cases t with
   | tup xs=>
    obtain ⟨H,P,rfl⟩:=zh2 (of_decide_eq_true hb)
    have t2:qq [.tup [H,P],.int 2] M = .ok (.bl true) M:=tt
    obtain ⟨pH,pP,eH,eP,sa⟩:=h.two H P rfl
    have nH:=named_eq pH (size:=2) (lo:=1) (hi:=4) (by decide) eH M
    have nP:=named_eq pP (size:=3) (lo:=0) (hi:=2) (by decide) eP M
    have nf:∀ b:Mem,yu H 2 1 4 = false\/yu P 3 0 2 = false->FT.T.bl false = .bl (zaa (.tup [H,P]))/\b = b:=by
     intro b z
     refine ⟨?_,rfl⟩
     have:zaa (.tup [H,P]) = false:=by
      unfold zaa
      split
      ·rename_i hs ps e
       cases e
       rcases z with z | z <;> (rw [z];simp)
      ·rfl
     rw [this]
    refine Ok.seqR fun X hX=>?_
    simp_arith [t2]
    rw [hX];clear hX;simp only [yd]
    cases bH:yu H 2 1 4 with
    | false=>
     rw [bH] at nH
     simp_arith [show qx [H,.int 2,.int 1,.int 4] M = .ok (.bl false) M from nH]
     exact Ok.ret (nf _ (.inl bH))
    | true=>
     rw [bH] at nH
     cases bP:yu P 3 0 2 with
     | false=>
      rw [bP] at nP
      simp_arith [show qx [H,.int 2,.int 1,.int 4] M = .ok (.bl true) M from nH,show qx [P,.int 3,.int 0,.int 2] M = .ok (.bl false) M from nP]
      exact Ok.ret (nf _ (.inr bP))
     | true=>
      rw [bP] at nP
      refine Ok.seqR fun X hX=>?_
      simp_arith [show qx [H,.int 2,.int 1,.int 4] M = .ok (.bl true) M from nH,show qx [P,.int 3,.int 0,.int 2] M = .ok (.bl true) M from nP]
      rw [hX];clear hX;simp only [yd]
      obtain ⟨sP,aH⟩:=sa bH bP
      obtain ⟨hs,rfl,h1,h4,hw,hnd⟩:=zdP bH
      obtain ⟨ps,rfl,p1,p4,pw,pnd⟩:=zdP bP
      have hw:=all_eq_true.mp hw
      have pw:=all_eq_true.mp pw
      show Ok _ fun r M'=>r = FT.T.bl (yu (.tup hs) 2 1 4 && (yu (.tup ps) 3 0 2 && (ps.all puB && (hsB hs ps && decide ((hs.map fun h=>zdy (item 1 h)).sum<=6)))))/\M' = M
      rw [bH,bP,Bool.true_and,Bool.true_and]
      have c1:ql (za8 3 (yA (ye 0) (yA (ye 1) (yA (ye 2) za9)))) zq (yZ (eOp inA (yb 1) (qd (ya (eC (.str "first")) (ya (eC (.str "any")) qb)))) (zd (qD) (ya (yb 2) (ya (eC (.int 1)) (ya (eC (.int 9)) qb))))) ps [none,none,none] M [] = .ok (ps.map fun o=>.bl (puB o)) M:=by
       have:=Ok.mapc (r:=fun x:FT.T=>x) (bd:=za8 3 (yA (ye 0) (yA (ye 1) (yA (ye 2) za9)))) (el:=yZ (eOp inA (yb 1) (qd (ya (eC (.str "first")) (ya (eC (.str "any")) qb)))) (zd (qD) (ya (yb 2) (ya (eC (.int 1)) (ya (eC (.int 9)) qb))))) (M:=M) (fun σ=>∃ o p q,σ = [o,p,q]) (fun o=>FT.T.bl (puB o)) (xs:=ps) (σ:=[none,none,none]) ⟨_,_,_,rfl⟩ (by omega) (by
        rintro o σ ho ⟨o',p',q',rfl⟩
        obtain ⟨r,hr,hl⟩:=zaX (by decide) (pw o ho)
        obtain ⟨b,c,rfl⟩:=zh2 (show r.length = 2 by omega)
        rw [hr] at ho
        obtain ⟨sb,pc⟩:=sP ps _ b c rfl ho
        rw [hr]
        refine ⟨[some (.str (nmT o)),some b,some c],?_,⟨_,_,_,rfl⟩,?_⟩
        ·simp_arith [and_self]
        have i1:=ziK (s1:="first") (s2:="any") sb M
        show _ = Out.ok (FT.T.bl (ym ["first","any"] b && qE c 1 9)) M
        cases e1:ym ["first","any"] b with
        | false=>rw [e1] at i1;simp_arith [i1];rfl
        | true=>rw [e1] at i1;simp_arith [i1,zdI pc 1 9 M];rfl)
       rw [show ps.map (fun x:FT.T=>x) = ps from map_id' ps] at this
       exact this
      have c2:∀ {size:Nat},0 < size->∀ {xs:List FT.T},xs.length<=100->(∀ o ∈ xs,qF size o = true)->ql (ye 0) zq (eOp ixT (yb 0) (eC (.int 0))) xs [none] M [] = .ok ((xs.map nmT).map .str) M:=by
       intro size hs0 xs hx hw
       have:=Ok.mapc (r:=fun x:FT.T=>x) (bd:=ye 0) (el:=eOp ixT (yb 0) (eC (.int 0))) (M:=M) (fun σ=>∃ o,σ = [o]) (fun o=>FT.T.str (nmT o)) (xs:=xs) (σ:=[none]) ⟨_,rfl⟩ (by omega) (by
        rintro o σ ho ⟨o',rfl⟩
        refine ⟨[some o],rfl,⟨_,rfl⟩,?_⟩
        obtain ⟨r,hr,_⟩:=zaX hs0 (hw o ho)
        rw [hr]
        simp_arith [and_self]
        rfl)
       rw [show xs.map (fun x:FT.T=>x) = xs from map_id' xs] at this
       rw [map_map]
       exact this
      refine Ok.seqR fun X hX=>?_
      simp_arith [c1,zbb]
      cases b1:ps.all puB with
      | false=>
       rw [hX]
       clear hX
       simp_arith [and_self]
       exact Ok.ret ⟨rfl,rfl⟩
      | true=>
       simp_arith [and_self]
       rw [hX];clear hX;simp only [yd]
       refine Ok.seqR fun X hX=>?_
       simp_arith [c2 (by decide) (by omega) hw]
       rw [hX];clear hX;simp only [yd]
       refine Ok.seqR fun X hX=>?_
       simp_arith [c2 (by decide) (by omega) pw]
       rw [hX];clear hX;simp only [yd]
       have c3:ql (za8 2 (yA (ye 0) (yA (ye 1) za9))) zq (zd (zV) (ya (eOp ixT (yb 1) (eC (.int 1))) (ya (eSl (yb 2) (yU (eOp qo (yb 0) (eC (.int 1)))) qX) (ya (yb 3) qb)))) (enT hs) [none,none,some (.lst ((hs.map nmT).map .str)),some (.lst ((ps.map nmT).map .str))] M [] = .ok ((List.range hs.length).map fun i=>.bl (zbe ((hs.map nmT).drop (i + 1)) (ps.map nmT) (item 1 ((hs[i]?).getD .non)))) M:=by
        have en:enT hs = (List.range hs.length).map fun i:Nat=>FT.T.tup [.int (i:Int),(hs[i]?).getD .non]:=by
         unfold enT
         refine ext_getElem? fun i=>?_
         rw [List.getElem?_mapIdx,Qa]
         by_cases hi:i < hs.length
         ·rw [Q0 hi,getElem?_range hi];simp [hi]
         ·rw [getElem?_eq_none (by omega),getElem?_eq_none (by rw [length_range];omega)];rfl
        rw [en]
        exact Ok.mapc (r:=fun i:Nat=>FT.T.tup [.int (i:Int),(hs[i]?).getD .non]) (fun σ=>∃ o p,σ = [o,p,some (.lst ((hs.map nmT).map .str)),some (.lst ((ps.map nmT).map .str))]) (fun i=>FT.T.bl (zbe ((hs.map nmT).drop (i + 1)) (ps.map nmT) (item 1 ((hs[i]?).getD .non)))) (xs:=List.range hs.length) ⟨_,_,rfl⟩ (by rw [length_range];omega) (by
         rintro i σ hi ⟨o',p',rfl⟩
         have hi:=mem_range.mp hi
         have hm:hs[i] ∈ hs:=getElem_mem hi
         obtain ⟨r,hr,hl⟩:=zaX (by decide) (hw _ hm)
         have hl:r.length = 1:=by omega
         match r,hl with
         | [b],_=>
          rw [hr] at hm
          have ab:=aH hs _ b rfl hm
          have eg:(hs[i]?).getD FT.T.non = .tup [.str (nmT hs[i]),b]:=by rw [Q0 hi];exact hr
          rw [eg]
          refine ⟨[some (.int (i:Int)),some (.tup [.str (nmT hs[i]),b]),some (.lst ((hs.map nmT).map .str)),some (.lst ((ps.map nmT).map .str))],?_,⟨_,_,rfl⟩,?_⟩
          ·simp_arith [and_self]
          have ll:qm (.lst ((hs.map nmT).map FT.T.str)) M = some ((hs.map nmT).map .str):=rfl
          have cu:zW ((hs.map nmT).map FT.T.str) (some ((i:Int) + 1)) none = ((hs.map nmT).drop (i + 1)).map .str:=by
           rw [show (i:Int) + 1 = ((i + 1:Nat):Int) by omega,zcQ]
          simp_arith [ll,cu,zj3 ab ((hs.map nmT).drop (i + 1)) (ps.map nmT) M]
          rfl)
       refine Ok.seqR fun X hX=>?_
       simp_arith [zd8,c3,zbb]
       cases b2:hsB hs ps with
       | false=>
        unfold hsB at b2
        simp_arith [b2]
        rw [hX]
        clear hX
        simp_arith [and_self]
        exact Ok.ret ⟨rfl,rfl⟩
       | true=>
        unfold hsB at b2
        simp_arith [b2]
        rw [hX];clear hX;simp only [yd]
        have c4:ql (ye 0) zq (zd (yo yy) (ya (eOp ixT (yb 0) (eC (.int 1))) qb)) hs [none] M [] = .ok ((hs.map fun h=>zdy (item 1 h)).map fun n:Nat=>.int (n:Int)) M:=by
         have:=Ok.mapc (r:=fun x:FT.T=>x) (bd:=ye 0) (el:=zd (yo yy) (ya (eOp ixT (yb 0) (eC (.int 1))) qb)) (M:=M) (fun σ=>∃ o,σ = [o]) (fun h=>FT.T.int ((zdy (item 1 h):Nat):Int)) (xs:=hs) (σ:=[none]) ⟨_,rfl⟩ (by omega) (by
          rintro o σ ho ⟨o',rfl⟩
          refine ⟨[some o],rfl,⟨_,rfl⟩,?_⟩
          obtain ⟨i,hi,rfl⟩:=getElem_of_mem ho
          have b2:=all_eq_true.mp b2 i (mem_range.mpr hi)
          rw [Q0 hi,Option.getD_some] at b2
          obtain ⟨r,hr,hl⟩:=zaX (by decide) (hw _ ho)
          have hl:r.length = 1:=by omega
          match r,hl with
          | [b],_=>
           rw [hr] at b2 ⊢
           cases b with
           | tup ys=>simp_arith [and_self];rfl
           | _=>cases b2)
         rw [show hs.map (fun x:FT.T=>x) = hs from map_id' hs] at this
         rw [map_map]
         exact this
        simp_arith [c4,sum_K]
        refine Ok.ret ⟨?_,rfl⟩
        rw [Bool.true_and,Bool.true_and]
        congr 1
        exact decide_eq_decide.mpr (by omega)
   | _=>cases hb
 obtain ⟨t',M',e,rfl,rfl⟩:=key
 exact e
end
variable {s:Str}
theorem yS:ym ss (.str s) = true ↔ s ∈ ss:=by
 unfold ym
 rw [List.any_eq_true]
 constructor
 ·rintro ⟨x,hx,h⟩
  have:x = s:=eq_of_beq (show (x == s) = true from h)
  rw [← this];exact hx
 ·intro h
  exact ⟨s,h,show (s == s) = true by simp⟩
theorem zjA (h:isW l = true):l.length<=8:=by
 unfold isW at h
 rw [Qq] at h
 exact (of_decide_eq_true h.1).2
theorem Nms.len (h:Nms ws) {x:Str} (hx:x ∈ ws):x.length<=8:=by
 obtain ⟨l,rfl,hl⟩:=h.w x hx
 rw [zaI];exact zjA hl
theorem Nms.isw (h:Nms ws) {x:Str} (hx:x ∈ ws):isW x.cps.toList = true:=by
 obtain ⟨l,rfl,hl⟩:=h.w x hx
 exact hl
theorem qt {x:Str} (h:x.length<=8):plT (.str x) = true:=Qt (by omega)
theorem zfb {q:Ask} (hw:q.word.length<=2000):AP (qi q):=⟨rfl,fun a0 a1 a2 a3 a4 a5 e=>by
 unfold qi at e
 cases e
 exact ⟨rfl,rfl,by cases q.purse <;> rfl,rfl,rfl,rfl⟩⟩
theorem zj4 {later:List Str} {q:Ask} (h:AO later pn q):zX later pn (qi q) = true:=by
 show (ym later (.str q.to) && (qE (.int q.tries) 0 4 && ((zal (opS q.purse) || ym pn (opS q.purse)) && (ym ["bad","spent"] (.str q.word) && (true && true))))) = true
 rw [yS.mpr h.to,show qE (.int q.tries) 0 4 = true from Qt ⟨h.t0,h.t4⟩,yS.mpr (by rcases h.wo with z | z <;> rw [z] <;> simp)]
 cases e:q.purse with
 | none=>rfl
 | some s=>
  rw [show ym pn (opS (some s)) = true from yS.mpr (h.pu s e)]
  simp
theorem zeK (n:Net):(n.hs.map hsT).map nmT = n.hs.map (·.name):=by rw [map_map];rfl
theorem zeJ (n:Net):(n.ps.map puT).map nmT = n.ps.map (·.name):=by rw [map_map];rfl
variable {n:Net}
theorem zkS (h:GN n):NP (zH n):=⟨rfl,fun H P e=>by
 cases e
 have l4:=h.h4
 have l2:=h.p2
 refine ⟨Qt (by rw [Qg];omega),Qt (by rw [Qg];omega),?_,?_,fun _ _=>⟨?_,?_⟩⟩
 ·rintro xs e o ho
  cases e
  obtain ⟨x,hx,rfl⟩:=mem_map.mp ho
  refine ⟨rfl,fun a r e=>?_⟩
  cases e
  exact qt (h.hn.len (mem_map.mpr ⟨x,hx,rfl⟩))
 ·rintro xs e o ho
  cases e
  obtain ⟨x,hx,rfl⟩:=mem_map.mp ho
  refine ⟨rfl,fun a r e=>?_⟩
  cases e
  exact qt (h.pn.len (mem_map.mpr ⟨x,hx,rfl⟩))
 ·rintro xs a b c e ho
  cases e
  obtain ⟨x,hx,e⟩:=mem_map.mp ho
  cases e
  exact ⟨rfl,rfl⟩
 ·rintro xs a b e ho
  cases e
  obtain ⟨x,hx,e⟩:=mem_map.mp ho
  cases e
  refine ⟨Qt (by rw [Qg];have:=h.a3 x hx;omega),fun xs e q hq=>?_⟩
  cases e
  obtain ⟨q',hq',rfl⟩:=mem_map.mp hq
  obtain ⟨i,hi⟩:=List.mem_iff_getElem?.mp hx
  have:=(h.ao i x hi q' hq').wo
  refine zfb ?_
  rcases this with z | z <;> (rw [z];decide)⟩
theorem zjp (h:GN n):zaa (zH n) = true:=by
 have l4:=h.h4
 have l1:=h.h1
 have l2:=h.p2
 have nh:yu (.tup (n.hs.map hsT)) 2 1 4 = true:=by
  show (decide (1<=(n.hs.map hsT).length/\(n.hs.map hsT).length<=4) && ((n.hs.map hsT).all (qF 2) && decide ((n.hs.map hsT).map nmT).Nodup)) = true
  rw [Qt (by rw [Qg];exact ⟨l1,l4⟩),zeK,Qt h.hn.nd,Bool.true_and,Bool.and_true,all_map]
  exact all_eq_true.mpr fun x hx=>h.hn.isw (mem_map.mpr ⟨x,hx,rfl⟩)
 have np:yu (.tup (n.ps.map puT)) 3 0 2 = true:=by
  show (decide (0<=(n.ps.map puT).length/\(n.ps.map puT).length<=2) && ((n.ps.map puT).all (qF 3) && decide ((n.ps.map puT).map nmT).Nodup)) = true
  rw [Qt (by rw [Qg];exact ⟨Nat.zero_le _,l2⟩),zeJ,Qt h.pn.nd,Bool.true_and,Bool.and_true,all_map]
  exact all_eq_true.mpr fun x hx=>h.pn.isw (mem_map.mpr ⟨x,hx,rfl⟩)
 have pu:(n.ps.map puT).all puB = true:=by
  rw [all_map]
  refine all_eq_true.mpr fun x hx=>?_
  obtain ⟨h1,h2,h3⟩:=h.pe x hx
  show (ym ["first","any"] (.str x.earns) && qE (.int x.per) 1 9) = true
  rw [yS.mpr (by rcases h1 with z | z <;> rw [z] <;> simp),show qE (.int x.per) 1 9 = true from Qt ⟨h2,h3⟩]
  rfl
 have hb:hsB (n.hs.map hsT) (n.ps.map puT) = true:=by
  unfold hsB
  refine all_eq_true.mpr fun i hi=>?_
  have hi:i < n.hs.length:=by have:=mem_range.mp hi;rwa [Qg] at this
  have eg:n.hs[i]? = some n.hs[i]:=Q0 hi
  rw [zeK,zeJ,Qa,eg]
  show zbe ((n.hs.map (·.name)).drop (i + 1)) (n.ps.map (·.name)) (.tup (n.hs[i].asks.map qi)) = true
  show (decide ((n.hs[i].asks.map qi).length<=3) && (n.hs[i].asks.map qi).all (zX _ _)) = true
  rw [Qt (by rw [Qg];exact h.a3 _ (getElem_mem hi)),Bool.true_and,all_map]
  exact all_eq_true.mpr fun q hq=>zj4 (h.ao i _ eg q hq)
 show (yu (.tup (n.hs.map hsT)) 2 1 4 && (yu (.tup (n.ps.map puT)) 3 0 2 && ((n.ps.map puT).all puB && (hsB (n.hs.map hsT) (n.ps.map puT) && decide (((n.hs.map hsT).map fun h=>zdy (item 1 h)).sum<=6))))) = true
 rw [nh,np,pu,hb,map_map]
 exact Qt (by
  rw [show ((fun h=>zdy (item 1 h)) ∘ hsT) = fun h:Hs=>h.asks.length from by funext h;show (h.asks.map qi).length = _;rw [Qg]]
  exact h.a6)
inductive PD:Nat->FT.T->Prop
 | scl {d:Nat} {t:FT.T} (h:yp t = true):PD d t
 | tup {d:Nat} {xs:List FT.T} (h:∀ x ∈ xs,PD d x):PD (d + 1) (.tup xs)
 | lst {d:Nat} {xs:List FT.T} (h:∀ x ∈ xs,PD d x):PD (d + 1) (.lst xs)
variable {d:Nat}
theorem PD.mono (h:PD d t):∀ {e:Nat},d<=e->PD e t:=by
 induction h with
 | scl h=>exact fun _=>.scl h
 | tup h ih=>
  intro e he
  obtain ⟨e',rfl⟩:∃ e',e = e' + 1:=⟨e - 1,by omega⟩
  exact .tup fun x hx=>ih x hx (by omega)
 | lst h ih=>
  intro e he
  obtain ⟨e',rfl⟩:∃ e',e = e' + 1:=⟨e - 1,by omega⟩
  exact .lst fun x hx=>ih x hx (by omega)
theorem zdA {f:FT.T->FT.T->Option Bool}:∀ (xs ys:List FT.T),(∀ x ∈ xs,∀ y ∈ ys,∃ b,f x y = some b)->∃ b,eqL f xs ys = some b
 | [],[],_=>⟨true,rfl⟩
 | [],_ :: _,_=>⟨false,rfl⟩
 | _ :: _,[],_=>⟨false,rfl⟩
 | x :: xs,y :: ys,h=>by
  obtain ⟨a,ha⟩:=h x (.head _) y (.head _)
  obtain ⟨b,hb⟩:=zdA xs ys fun u hu v hv=>h u (.tail _ hu) v (.tail _ hv)
  exact ⟨a && b,by unfold eqL;rw [ha,hb]⟩
theorem PD.kd (h:PD d t) (M:Mem):(yp t = true/\kd M t = 1)\/(∃ xs,t = .tup xs/\FT.kd M t = 2)\/(∃ xs,t = .lst xs/\FT.kd M t = 3):=by
 cases h with
 | scl h=>exact .inl ⟨h,if_pos h⟩
 | tup h=>exact .inr (.inl ⟨_,rfl,rfl⟩)
 | lst h=>exact .inr (.inr ⟨_,rfl,rfl⟩)
theorem zjU (M:Mem):∀ (d:Nat) {t u:FT.T},PD d t->PD d u->∃ b,eqE M (d + 1) t u = some b:=by
 intro d
 induction d with
 | zero=>
  intro t u h g
  cases h with
  | scl h=>
   cases g with
   | scl g=>
    refine ⟨eqS t u,?_⟩
    unfold eqE
    split
    ·rename_i z;cases z
    ·cases h
    ·rw [if_pos (by rw [h,g];rfl)]
 | succ d ih=>
  intro t u h g
  rcases h.kd M with ⟨s1,k1⟩ | ⟨xs,rfl,k1⟩ | ⟨xs,rfl,k1⟩ <;> rcases g.kd M with ⟨s2,k2⟩ | ⟨ys,rfl,k2⟩ | ⟨ys,rfl,k2⟩
  ·refine ⟨eqS t u,?_⟩
   unfold eqE
   split
   ·rename_i z;cases z
   ·cases s1
   ·rw [if_pos (by rw [s1,s2];rfl)]
  ·refine ⟨false,?_⟩
   have hm:mix M t (.tup ys) = true:=Qt (by rw [k1,k2];decide)
   unfold eqE
   split
   ·rename_i z;cases z
   ·cases s1
   ·rw [if_neg (by simp [yp]),if_pos hm]
  ·refine ⟨false,?_⟩
   have hm:mix M t (.lst ys) = true:=Qt (by rw [k1,k2];decide)
   unfold eqE
   split
   ·rename_i z;cases z
   ·cases s1
   ·rw [if_neg (by simp [yp]),if_pos hm]
  ·refine ⟨false,?_⟩
   have hm:mix M (.tup xs) u = true:=Qt (by rw [k1,k2];decide)
   unfold eqE
   split
   ·rename_i z;cases z
   ·cases s2
   ·rw [if_neg (by simp [yp]),if_pos hm]
  ·cases h with
   | scl h=>cases h
   | tup h=>
    cases g with
    | scl g=>cases g
    | tup g=>exact zdA xs ys fun x hx y hy=>ih (h x hx) (g y hy)
  ·exact ⟨false,by
    have hm:mix M (.tup xs) (.lst ys) = true:=Qt (by rw [k1,k2];decide)
    show (if _ then _ else if mix M (.tup xs) (.lst ys) = true then some false else _) = _
    rw [if_neg (by simp [yp]),if_pos hm]⟩
  ·refine ⟨false,?_⟩
   have hm:mix M (.lst xs) u = true:=Qt (by rw [k1,k2];decide)
   show (if (yp (.lst xs) && yp u) = true then _ else if mix M (.lst xs) u = true then some false else _) = _
   rw [if_neg (by simp [yp]),if_pos hm]
  ·exact ⟨false,by
    have hm:mix M (.lst xs) (.tup ys) = true:=Qt (by rw [k1,k2];decide)
    show (if _ then _ else if mix M (.lst xs) (.tup ys) = true then some false else _) = _
    rw [if_neg (by simp [yp]),if_pos hm]⟩
  ·have hm:¬ mix M (.lst xs) (.lst ys) = true:=fun z=>by
    have:=of_decide_eq_true z
    rw [k1,k2] at this
    exact this.2.2 rfl
   have e:eqE M (d + 1 + 1) (.lst xs) (.lst ys) = if xs.length = ys.length then eqL (eqE M (d + 1)) xs ys else some false:=by
    show (if _ then _ else if mix M (.lst xs) (.lst ys) = true then some false else _) = _
    rw [if_neg (by simp [yp]),if_neg hm]
    rfl
   rw [e]
   split
   ·cases h with
    | scl h=>cases h
    | lst h=>
     cases g with
     | scl g=>cases g
     | lst g=>exact zdA xs ys fun x hx y hy=>ih (h x hx) (g y hy)
   ·exact ⟨false,rfl⟩
structure EP (q:Bool) (o:FT.T):Prop where
 pl:plT o = true
 hd:∀ x r,o = .tup (x :: r)->plT x = true
 two:q = true->∀ a b,o = .tup [a,b]->ASP b
 three:q = false->∀ a b c,o = .tup [a,b,c]->yp b = true/\plT c = true
 pd:PD 10 o
structure RowP (q:Bool) (xs:List FT.T):Prop where
 len:xs.length<=50
 el:∀ o ∈ xs,EP q o
structure BT (t:FT.T):Prop where
 np:NP t
 pd:PD 19 t
 no:zaa t = false
variable {H:FT.T}
theorem zds (h:∀ xs,H = .tup xs->RowP true xs) (g:∀ xs,P = .tup xs->RowP false xs) (pH:PD 11 H) (pP:PD 11 P) (hH:plT H = true) (hP:plT P = true):NP (.tup [H,P])/\PD 19 (.tup [H,P]):=by
 refine ⟨⟨rfl,fun H' P' e=>?_⟩,.tup fun x hx=>?_⟩
 ·cases e
  refine ⟨hH,hP,fun xs e o ho=>⟨((h xs e).el o ho).pl,((h xs e).el o ho).hd⟩,fun xs e o ho=>⟨((g xs e).el o ho).pl,((g xs e).el o ho).hd⟩,fun _ _=>⟨fun xs a b c e ho=>((g xs e).el _ ho).three rfl a b c rfl,fun xs a b e ho=>((h xs e).el _ ho).two rfl a b rfl⟩⟩
 ·simp only [mem_cons,not_mem_nil,or_false] at hx
  rcases hx with rfl | rfl
  ·exact pH.mono (by decide)
  ·exact pP.mono (by decide)
variable {q:Bool} {xs:List FT.T}
theorem RowP.pd (h:RowP q xs):PD 11 (.tup xs):=.tup fun x hx=>(h.el x hx).pd
theorem RowP.pl (h:RowP q xs):plT (.tup xs) = true:=Qt (by have:=h.len;omega)
theorem RowP.set (h:RowP q xs) (ho:EP q o):RowP q (xs.set i o):=⟨by rw [length_set];exact h.len,fun x hx=>(List.mem_or_eq_of_mem_set hx).elim (h.el x) (fun e=>e ▸ ho)⟩
variable {hs ps:List FT.T}
theorem zbr (h:RowP true hs) (g:RowP false ps):NP (.tup [.tup hs,.tup ps])/\PD 19 (.tup [.tup hs,.tup ps]):=zds (fun xs e=>by cases e;exact h) (fun xs e=>by cases e;exact g) h.pd g.pd h.pl g.pl
theorem yN (h:yu (.tup hs) 2 1 4 = false\/yu (.tup ps) 3 0 2 = false\/ps.all puB = false\/hsB hs ps = false):zaa (.tup [.tup hs,.tup ps]) = false:=by
 show (yu (.tup hs) 2 1 4 && (yu (.tup ps) 3 0 2 && (ps.all puB && (hsB hs ps && _)))) = false
 rcases h with h | h | h | h <;> (rw [h];simp)
theorem zav {s l:Nat} (ho:o ∈ xs) (hb:qF s o = false):yu (.tup xs) s l h = false:=by
 show (decide (l<=xs.length/\xs.length<=h) && (xs.all (qF s) && _)) = false
 have:xs.all (qF s) = false:=Bool.eq_false_iff.mpr fun z=>by rw [all_eq_true.mp z o ho] at hb;cases hb
 rw [this]
 simp
theorem zfp (h:i < xs.length):(xs.set i o)[i]? = some o:=by rw [Qb,if_pos rfl,if_pos h]
theorem zcj (h:i < xs.length):o ∈ xs.set i o:=Q9 (zfp h)
theorem ze5 (h:RowP true hs) (g:RowP false ps) (hi:i < hs.length) (ho:EP true o) (hb:qF 2 o = false\/zbe (((hs.set i o).map nmT).drop (i + 1)) (ps.map nmT) (item 1 o) = false):BT (.tup [.tup (hs.set i o),.tup ps]):=by
 obtain ⟨a,b⟩:=zbr (h.set (i:=i) ho) g
 refine ⟨a,b,yN ?_⟩
 rcases hb with hb | hb
 ·exact .inl (zav (zcj hi) hb)
 ·refine .inr (.inr (.inr ?_))
  unfold hsB
  refine Bool.eq_false_iff.mpr fun z=>?_
  have:=all_eq_true.mp z i (mem_range.mpr (by rw [length_set];exact hi))
  rw [zfp hi,Option.getD_some,hb] at this
  cases this
theorem ziw (h:RowP true hs) (g:RowP false ps) (hi:i < ps.length) (ho:EP false o) (hb:qF 3 o = false\/puB o = false):BT (.tup [.tup hs,.tup (ps.set i o)]):=by
 obtain ⟨a,b⟩:=zbr h (g.set (i:=i) ho)
 refine ⟨a,b,yN ?_⟩
 rcases hb with hb | hb
 ·exact .inr (.inl (zav (zcj hi) hb))
 ·exact .inr (.inr (.inl (Bool.eq_false_iff.mpr fun z=>by rw [all_eq_true.mp z _ (zcj hi)] at hb;cases hb)))
theorem zgE (q:Ask):PD 2 (qi q):=.tup fun x hx=>by
 simp only [mem_cons,not_mem_nil,or_false] at hx
 rcases hx with rfl | rfl | rfl | rfl | rfl | rfl
 ·exact .scl rfl
 ·exact .scl rfl
 ·exact .scl (by cases q.purse <;> rfl)
 ·exact .scl rfl
 ·exact .scl rfl
 ·exact .scl rfl
theorem zdq (as:List Ask):PD 3 (.tup (as.map qi)):=.tup fun x hx=>by
 obtain ⟨q,_,rfl⟩:=mem_map.mp hx
 exact zgE q
theorem zcX {as:List Ask} (hl:as.length<=50) (hw:∀ q ∈ as,q.word.length<=2000):ASP (.tup (as.map qi)):=⟨Qt (by rw [Qg];omega),fun xs e q hq=>by
 cases e
 obtain ⟨q',hq',rfl⟩:=mem_map.mp hq
 exact zfb (hw q' hq')⟩
variable {x y:FT.T}
theorem ep2 (hx:plT x = true) (hy:ASP y) (px:PD 9 x) (py:PD 9 y):EP q (.tup [x,y]):=⟨rfl,fun a r e=>by cases e;exact hx,fun _ a b e=>by cases e;exact hy,fun _ a b c e=>(by cases e),.tup fun z hz=>by
 simp only [mem_cons,not_mem_nil,or_false] at hz
 rcases hz with rfl | rfl
 ·exact px
 ·exact py⟩
variable {z:FT.T}
theorem ziu (hx:plT x = true) (hy:yp y = true) (hz:plT z = true) (px:PD 9 x) (pz:PD 9 z):EP false (.tup [x,y,z]):=⟨rfl,fun a r e=>by cases e;exact hx,fun h=>(by cases h),fun _ a b c e=>by cases e;exact ⟨hy,hz⟩,.tup fun w hw=>by
 simp only [mem_cons,not_mem_nil,or_false] at hw
 rcases hw with rfl | rfl | rfl
 ·exact px
 ·exact .scl hy
 ·exact pz⟩
theorem zlE (hx:plT x = true) (px:PD 9 x) (py:PD 9 y) (pz:PD 9 z):EP true (.tup [x,y,z]):=⟨rfl,fun a r e=>by cases e;exact hx,fun _ a b e=>(by cases e),fun h=>(by cases h),.tup fun w hw=>by
 simp only [mem_cons,not_mem_nil,or_false] at hw
 rcases hw with rfl | rfl | rfl
 ·exact px
 ·exact py
 ·exact pz⟩
theorem ep1 (hx:plT x = true) (px:PD 9 x):EP q (.tup [x]):=⟨rfl,fun a r e=>by cases e;exact hx,fun _ a b e=>(by cases e),fun _ a b c e=>(by cases e),.tup fun z hz=>by rw [mem_singleton.mp hz];exact px⟩
variable {w:FT.T}
theorem ep4 (hx:plT x = true) (px:PD 9 x) (py:PD 9 y) (pz:PD 9 z) (pw:PD 9 w):EP q (.tup [x,y,z,w]):=⟨rfl,fun a r e=>by cases e;exact hx,fun _ a b e=>(by cases e),fun _ a b c e=>(by cases e),.tup fun u hu=>by
 simp only [mem_cons,not_mem_nil,or_false] at hu
 rcases hu with rfl | rfl | rfl | rfl
 ·exact px
 ·exact py
 ·exact pz
 ·exact pw⟩
theorem epl (h:∀ x ∈ xs,PD 9 x):EP q (.lst xs):=⟨rfl,fun a r e=>(by cases e),fun _ a b e=>(by cases e),fun _ a b c e=>(by cases e),.lst h⟩
theorem eps (hs:yp t = true) (hp:plT t = true):EP q t:=⟨hp,fun a r e=>(by subst e;cases hs),fun _ a b e=>(by subst e;cases hs),fun _ a b c e=>(by subst e;cases hs),.scl hs⟩
variable {ys:List FT.T}
section
theorem zaQ (gn:GN n) {h:Hs} (hh:h ∈ n.hs):∀ q ∈ h.asks,q.word.length<=2000:=by
 intro q hq
 obtain ⟨i,hi⟩:=List.mem_iff_getElem?.mp hh
 rcases (gn.ao i h hi q hq).wo with z | z <;> (rw [z];decide)
theorem zd6 (gn:GN n):RowP true (n.hs.map hsT):=⟨by rw [Qg];have:=gn.h4;omega,fun o ho=>by
 obtain ⟨h,hh,rfl⟩:=mem_map.mp ho
 exact ep2 (qt (gn.hn.len (mem_map.mpr ⟨h,hh,rfl⟩))) (zcX (by have:=gn.a3 h hh;omega) (zaQ gn hh)) (.scl rfl) ((zdq _).mono (by decide))⟩
theorem zd5 (gn:GN n):RowP false (n.ps.map puT):=⟨by rw [Qg];have:=gn.p2;omega,fun o ho=>by
 obtain ⟨p,hp,rfl⟩:=mem_map.mp ho
 exact ziu (qt (gn.pn.len (mem_map.mpr ⟨p,hp,rfl⟩))) rfl rfl (.scl rfl) (.scl rfl)⟩
theorem zkJ (gn:GN n):PD 19 (zH n):=(zbr (zd6 gn) (zd5 gn)).2
theorem zdC (xs:List FT.T) (k:Nat):zW xs none (some (k:Int)) = xs.take k:=by
 have:=zhf (fun x:FT.T=>x) xs k
 rwa [map_id',map_id'] at this
theorem zhg (xs:List FT.T) (k:Nat):zW xs (some (k:Int)) none = xs.drop k:=by
 have:=zcQ (fun x:FT.T=>x) xs k
 rwa [map_id',map_id'] at this
theorem zb1 (hi:i < xs.length) (hl:xs.length<=1000) (t:FT.T) (M:Mem):qC [.tup xs,nT i,t] M = .ok (.tup (xs.set i t)) M:=by
 unfold qC zfF
 have a1:qo (.tup (xs.take i)) (.tup [t]) M = .ok (.tup (xs.take i ++ [t])) M:=if_pos (by rw [Qp,Qs,sizeLine_eq];omega)
 have a2:qo (.tup (xs.take i ++ [t])) (.tup (xs.drop (i + 1))) M = .ok (.tup (xs.take i ++ [t] ++ xs.drop (i + 1))) M:=if_pos (by rw [Qm,Qp,Qs,length_drop,sizeLine_eq];omega)
 have c2:=zhg xs (i + 1)
 rw [show ((i + 1:Nat):Int) = (i:Int) + 1 by omega] at c2
 simp_arith [zdC,c2,a1,a2]
 rw [List.set_eq_take_append_cons_drop,if_pos hi]
 simp
theorem zM (h:xs.length + ys.length<=10000) (M:Mem):qo (.lst xs) (.lst ys) M = .ok (.lst (xs ++ ys)) M:=if_pos (by rw [sizeLine_eq];omega)
theorem zhh (i:Int) (xs:List FT.T) (h:xs.length<=1000) (M:Mem):ql (ye 0) zq (qd (ya (eC (.int i)) (ya (yb 0) qb))) xs [none] M [] = .ok (xs.map fun s=>.tup [.int i,s]) M:=by
 have:=Ok.mapc (r:=fun x:FT.T=>x) (bd:=ye 0) (el:=qd (ya (eC (.int i)) (ya (yb 0) qb))) (M:=M) (xs:=xs) (σ:=[none]) (fun σ=>∃ o,σ = [o]) (fun s=>FT.T.tup [.int i,s]) ⟨_,rfl⟩ (by omega) (by
  rintro s σ hs ⟨o,rfl⟩
  exact ⟨[some s],rfl,⟨_,rfl⟩,by simp_arith [and_self]⟩)
 rwa [map_id'] at this
end
variable {nm:Str}
section
noncomputable def zca (nm:FT.T) (as:List FT.T):List FT.T:=
 (([.str "",.str "Ab",.str "abcdefghi",.int 7,.non,.str "a b"]:List FT.T).map fun w=>FT.T.tup [w,.tup as]) ++ [.tup [nm,.lst as]] ++ [.tup [nm],.tup [nm,.tup as,.tup []],.lst [nm,.tup as],.tup [nm,.non],.tup [nm,.tup (as ++ [.non])],nm,.non]
theorem zbJ {r:List FT.T} (h:zd1 w = false):qF k (.tup (w :: r)) = false:=by
 show (zbC _ _ && zd1 w) = false
 rw [h,Bool.and_false]
def HB (o:FT.T):Prop:=EP true o/\(qF 2 o = false\/∀ l p,zbe l p (item 1 o) = false)
theorem zj0:ASP .non:=⟨rfl,fun xs e=>by cases e⟩
theorem zhu:AP .non:=⟨rfl,fun a0 a1 a2 a3 a4 a5 e=>by cases e⟩
theorem zj1:ASP (.lst xs):=⟨rfl,fun xs e=>by cases e⟩
theorem zio (hn:nm.length<=8) {as:List FT.T} (ha:ASP (.tup as)) (pa:PD 8 (.tup as)) (hl:as.length<=50):∀ o ∈ zca (.str nm) as,HB o:=by
 have pe:∀ x ∈ as,PD 7 x:=by cases pa with | scl h=>cases h | tup h=>exact h
 intro o ho
 unfold zca at ho
 simp only [map_cons,map_nil,cons_append,nil_append,mem_cons,not_mem_nil,or_false] at ho
 rcases ho with rfl | rfl | rfl | rfl | rfl | rfl | rfl | rfl | rfl | rfl | rfl | rfl | rfl | rfl
 ·exact ⟨ep2 rfl ha (.scl rfl) (pa.mono (by decide)),.inl (zbJ (by decide +kernel))⟩
 ·exact ⟨ep2 rfl ha (.scl rfl) (pa.mono (by decide)),.inl (zbJ (by decide +kernel))⟩
 ·exact ⟨ep2 rfl ha (.scl rfl) (pa.mono (by decide)),.inl (zbJ (by decide +kernel))⟩
 ·exact ⟨ep2 rfl ha (.scl rfl) (pa.mono (by decide)),.inl rfl⟩
 ·exact ⟨ep2 rfl ha (.scl rfl) (pa.mono (by decide)),.inl rfl⟩
 ·exact ⟨ep2 rfl ha (.scl rfl) (pa.mono (by decide)),.inl (zbJ (by decide +kernel))⟩
 ·exact ⟨ep2 (qt hn) zj1 (.scl rfl) (.lst fun x hx=>(pe x hx).mono (by decide)),.inr fun l p=>rfl⟩
 ·exact ⟨ep1 (qt hn) (.scl rfl),.inl rfl⟩
 ·exact ⟨zlE (qt hn) (.scl rfl) (pa.mono (by decide)) (.tup fun x hx=>by cases hx),.inl rfl⟩
 ·exact ⟨epl fun x hx=>by
   simp only [mem_cons,not_mem_nil,or_false] at hx
   rcases hx with rfl | rfl
   ·exact .scl rfl
   ·exact pa.mono (by decide),.inl rfl⟩
 ·exact ⟨ep2 (qt hn) zj0 (.scl rfl) (.scl rfl),.inr fun l p=>rfl⟩
 ·refine ⟨ep2 (qt hn) ⟨Qt (by rw [Qm,Qs];omega),fun xs e q hq=>?_⟩ (.scl rfl) (.tup fun x hx=>?_),.inr fun l p=>?_⟩
  ·cases e
   rcases mem_append.mp hq with hq | hq
   ·exact ha.el as rfl q hq
   ·rw [mem_singleton.mp hq];exact zhu
  ·rcases mem_append.mp hx with hx | hx
   ·exact (pe x hx).mono (by decide)
   ·rw [mem_singleton.mp hx];exact .scl rfl
  ·show (decide ((as ++ [FT.T.non]).length<=3) && (as ++ [FT.T.non]).all (zX l p)) = false
   rw [List.all_append]
   simp [zX]
 ·exact ⟨eps rfl (qt hn),.inl rfl⟩
 ·exact ⟨eps rfl rfl,.inl rfl⟩
noncomputable def zb9 (nm wh:FT.T) (per:Int):List FT.T:=
 (([.str "",.str "Ab",.non,.str "abcdefghi",.int 7]:List FT.T).map fun w=>FT.T.tup [w,wh,.int per]) ++ [.tup [nm,.str "each",.int per],.tup [nm,.non,.int per],.tup [nm,wh],.tup [nm,wh,.int per,.int 1],nm,.non] ++ (([.int 0,.int 10,.int (-1),.bl true,.non,.str "1"]:List FT.T).map fun o=>FT.T.tup [nm,wh,o]) ++ [.lst [nm,wh,.int per]]
def PB (o:FT.T):Prop:=EP false o/\(qF 3 o = false\/puB o = false)
theorem zb2 (h:ym ["first","any"] y = false\/qE z 1 9 = false):puB (.tup [x,y,z]) = false:=by
 show (ym ["first","any"] y && qE z 1 9) = false
 rcases h with h | h <;> (rw [h];simp)
theorem zin {wh:Str} (hn:nm.length<=8) (hw:wh.length<=8) {per:Int}:∀ o ∈ zb9 (.str nm) (.str wh) per,PB o:=by
 intro o ho
 unfold zb9 at ho
 simp only [map_cons,map_nil,cons_append,nil_append,mem_cons,not_mem_nil,or_false] at ho
 have e3:∀ x z:FT.T,yp x = true->plT x = true->yp z = true->plT z = true->∀ y,yp y = true->EP false (.tup [x,y,z]):=fun x z h1 h2 h3 h4 y h5=>ziu h2 h5 h4 (.scl h1) (.scl h3)
 rcases ho with rfl | rfl | rfl | rfl | rfl | rfl | rfl | rfl | rfl | rfl | rfl | rfl | rfl | rfl | rfl | rfl | rfl | rfl
 ·exact ⟨e3 _ _ rfl rfl rfl rfl _ rfl,.inl (zbJ (by decide +kernel))⟩
 ·exact ⟨e3 _ _ rfl rfl rfl rfl _ rfl,.inl (zbJ (by decide +kernel))⟩
 ·exact ⟨e3 _ _ rfl rfl rfl rfl _ rfl,.inl rfl⟩
 ·exact ⟨e3 _ _ rfl rfl rfl rfl _ rfl,.inl (zbJ (by decide +kernel))⟩
 ·exact ⟨e3 _ _ rfl rfl rfl rfl _ rfl,.inl rfl⟩
 ·exact ⟨e3 _ _ rfl (qt hn) rfl rfl _ rfl,.inr (zb2 (.inl (by decide +kernel)))⟩
 ·exact ⟨e3 _ _ rfl (qt hn) rfl rfl _ rfl,.inr (zb2 (.inl rfl))⟩
 ·exact ⟨ep2 (qt hn) ⟨qt hw,fun xs e=>by cases e⟩ (.scl rfl) (.scl rfl),.inl rfl⟩
 ·exact ⟨ep4 (qt hn) (.scl rfl) (.scl rfl) (.scl rfl) (.scl rfl),.inl rfl⟩
 ·exact ⟨eps rfl (qt hn),.inl rfl⟩
 ·exact ⟨eps rfl rfl,.inl rfl⟩
 ·exact ⟨e3 _ _ rfl (qt hn) rfl rfl _ rfl,.inr (zb2 (.inr (by decide)))⟩
 ·exact ⟨e3 _ _ rfl (qt hn) rfl rfl _ rfl,.inr (zb2 (.inr (by decide)))⟩
 ·exact ⟨e3 _ _ rfl (qt hn) rfl rfl _ rfl,.inr (zb2 (.inr (by decide)))⟩
 ·exact ⟨e3 _ _ rfl (qt hn) rfl rfl _ rfl,.inr (zb2 (.inr rfl))⟩
 ·exact ⟨e3 _ _ rfl (qt hn) rfl rfl _ rfl,.inr (zb2 (.inr rfl))⟩
 ·exact ⟨e3 _ _ rfl (qt hn) rfl (by decide +kernel) _ rfl,.inr (zb2 (.inr rfl))⟩
 ·exact ⟨epl fun x hx=>by
   simp only [mem_cons,not_mem_nil,or_false] at hx
   rcases hx with rfl | rfl | rfl <;> exact .scl rfl,.inl rfl⟩
structure BP (later pn:List Str) (i:Nat) (s:FT.T):Prop where
 lt:i < 6
 sc:yp s = true
 pl:plT s = true
 no:match i with
  | 0=>ym later s = false
  | 1=>qE s 0 4 = false
  | 2=>zal s = false/\ym pn s = false
  | 3=>ym ["bad","spent"] s = false
  | _=>blB s = false
theorem zlJ {later:List Str} {q:Ask} (hw:q.word.length<=2000) (hto:q.to.length<=2000) {s:FT.T} (h:BP later pn i s):AP (.tup ([.str q.to,.int q.tries,opS q.purse,.str q.word,.bl q.hears,.bl q.sure].set i s))/\PD 2 (.tup ([.str q.to,.int q.tries,opS q.purse,.str q.word,.bl q.hears,.bl q.sure].set i s))/\zX later pn (.tup ([.str q.to,.int q.tries,opS q.purse,.str q.word,.bl q.hears,.bl q.sure].set i s)) = false:=by
 obtain ⟨lt,sc,pl,no⟩:=h
 have so:yp (opS q.purse) = true:=by cases q.purse <;> rfl
 have hi:i = 0\/i = 1\/i = 2\/i = 3\/i = 4\/i = 5:=by omega
 have pd:∀ xs:List FT.T,(∀ x ∈ xs,yp x = true)->PD 2 (.tup xs):=fun xs h=>.tup fun x hx=>.scl (h x hx)
 rcases hi with rfl | rfl | rfl | rfl | rfl | rfl
 all_goals simp only [List.set_cons_zero,List.set_cons_succ]
 all_goals refine ⟨⟨rfl,fun a0 a1 a2 a3 a4 a5 e=>by cases e;exact ⟨by first | exact sc | exact so | rfl,by first | exact pl | rfl,by first | exact sc | exact so | rfl,by first | exact sc | exact so | rfl,by first | exact pl | rfl,by first | exact pl | rfl⟩⟩,pd _ fun x hx=>?_,?_⟩
 all_goals first | (simp only [mem_cons,not_mem_nil,or_false] at hx;rcases hx with rfl | rfl | rfl | rfl | rfl | rfl <;> first | exact sc | exact so | rfl) | skip
 ·show (ym later s && _) = false
  rw [show ym later s = false from no];rfl
 ·show (ym later _ && (qE s 0 4 && _)) = false
  rw [show qE s 0 4 = false from no];simp
 ·show (ym later _ && (qE _ 0 4 && ((zal s || ym pn s) && _))) = false
  rw [show zal s = false from no.1,show ym pn s = false from no.2];simp
 ·show (ym later _ && (qE _ 0 4 && ((zal _ || ym pn _) && (ym ["bad","spent"] s && _)))) = false
  rw [show ym ["bad","spent"] s = false from no];simp
 ·show (ym later _ && (qE _ 0 4 && ((zal _ || ym pn _) && (ym ["bad","spent"] _ && (blB s && _))))) = false
  rw [show blB s = false from no];simp
 ·show (ym later _ && (qE _ 0 4 && ((zal _ || ym pn _) && (ym ["bad","spent"] _ && (blB _ && blB s))))) = false
  rw [show blB s = false from no];simp
end
variable {c:Cell} {ts:List FT.T} {s0 s1:List Str} {F:Nat} {nn:Str}
section
structure BK (n:Net) (nn:Str) (s0 s1:List Str):Prop where
 gn:GN n
 nl:nn.length<=8
 nh:nn ∉ n.hs.map (·.name)
 np:nn ∉ n.ps.map (·.name)
 h0:∀ s ∈ s0,s ∈ n.ps.map (·.name)/\s ∉ n.hs.map (·.name)
 h1:∀ s ∈ s1,s ∈ n.hs.map (·.name)/\s ∉ n.ps.map (·.name)
 l0:s0.length<=2
 l1:s1.length<=4
def QB (n:Net) (i:Nat) (o:FT.T):Prop:=AP o/\PD 7 o/\zX ((n.hs.map (·.name)).drop (i + 1)) (n.ps.map (·.name)) o = false
theorem set_same (h:M[F]? = some c):M.set F c = M:=by
 refine ext_getElem? fun i=>?_
 rw [Qb]
 split
 ·rename_i z;rw [if_pos (qO h),← z,h]
 ·rfl
theorem zhG {c':Cell}:(M ++ [c]).set M.length c' = M ++ [c']:=by rw [List.set_append_right _ _ (Q3 _),Nat.sub_self];rfl
theorem zdx (h:s ∉ ss):ym ss (.str s) = false:=Bool.eq_false_iff.mpr fun z=>h (yS.mp z)
theorem zeH (h:∀ s:Str,eqS (.str s) t = false):ym ss t = false:=by
 unfold ym
 exact Bool.eq_false_iff.mpr fun z=>by
  obtain ⟨s,_,e⟩:=List.any_eq_true.mp z
  rw [h s] at e
  cases e
theorem ziF (h:Nms ws):("":Str) ∉ ws:=fun z=>by
 have:=h.isw z
 revert this
 decide +kernel
theorem zc2 (h:ws.Nodup) (hij:i < j) (hs:ws[i]? = some s):s ∉ ws.drop j:=fun z=>by
 obtain ⟨k,hk⟩:=List.mem_iff_getElem?.mp z
 rw [List.getElem?_drop] at hk
 have:=(List.getElem?_inj (List.getElem?_eq_some_iff.mp hs).1 h).mp (hs.trans hk.symm)
 omega
theorem zlH (gn:GN n) (hi:i < n.hs.length) (hk:k < n.hs[i].asks.length) (ho:QB n i o):BT (.tup [.tup ((n.hs.map hsT).set i (.tup [.str n.hs[i].name,.tup ((n.hs[i].asks.map qi).set k o)])),.tup (n.ps.map puT)]):=by
 have hm:n.hs[i] ∈ n.hs:=getElem_mem hi
 have a3:=gn.a3 _ hm
 have as:ASP (.tup ((n.hs[i].asks.map qi).set k o)):=⟨Qt (by rw [length_set,Qg];omega),fun xs e q hq=>by
  cases e
  rcases List.mem_or_eq_of_mem_set hq with hq | rfl
  ·obtain ⟨q',hq',rfl⟩:=mem_map.mp hq
   exact zfb (zaQ gn hm q' hq')
  ·exact ho.1⟩
 refine ze5 (zd6 gn) (zd5 gn) (by rw [Qg];exact hi) (ep2 (qt (gn.hn.len (mem_map.mpr ⟨_,hm,rfl⟩))) as (.scl rfl) (.tup fun x hx=>?_)) (.inr ?_)
 ·rcases List.mem_or_eq_of_mem_set hx with hx | rfl
  ·obtain ⟨q',hq',rfl⟩:=mem_map.mp hx
   exact (zgE q').mono (by decide)
  ·exact ho.2.1.mono (by decide)
 ·have en:(((n.hs.map hsT).set i (.tup [.str n.hs[i].name,.tup ((n.hs[i].asks.map qi).set k o)])).map nmT) = n.hs.map (·.name):=by
   rw [List.map_set,zeK]
   refine ext_getElem? fun j=>?_
   rw [Qb]
   split
   ·rename_i z
    subst z
    rw [if_pos (by rw [Qg];exact hi),Qa,Q0 hi]
    rfl
   ·rfl
  rw [en,zeJ]
  show (decide (((n.hs[i].asks.map qi).set k o).length<=3) && ((n.hs[i].asks.map qi).set k o).all (zX _ _)) = false
  have:((n.hs[i].asks.map qi).set k o).all (zX ((n.hs.map (·.name)).drop (i + 1)) (n.ps.map (·.name))) = false:=Bool.eq_false_iff.mpr fun z=>by
   have:=all_eq_true.mp z o (zcj (by rw [Qg];exact hk))
   rw [ho.2.2] at this
   cases this
  rw [this,Bool.and_false]
def PT (later pn:List Str) (o:FT.T):Prop:=∃ i s,o = .tup [nT i,s]/\BP later pn i s
theorem yV {later:List Str} (i:Nat) {c:Int} (hc:c = i) (h:xs.length<=1000) (hb:∀ s ∈ xs,BP later pn i s) (M:Mem):∃ P,ql (ye 0) zq (qd (ya (eC (.int c)) (ya (yb 0) qb))) xs [none] M [] = .ok P M/\(∀ o ∈ P,PT later pn o)/\P.length = xs.length:=by
 refine ⟨_,zhh c xs h M,fun o ho=>?_,Qg _⟩
 obtain ⟨s,hs,rfl⟩:=mem_map.mp ho
 exact ⟨i,s,by rw [hc],hb s hs⟩
theorem bp0 {later:List Str} (hl:s.length<=2000) (h:s ∉ later):BP later pn 0 (.str s):=⟨by decide,rfl,Qt hl,zdx h⟩
theorem bp3 {later:List Str} {s:FT.T} (h1:yp s = true) (h2:plT s = true) (h:ym ["bad","spent"] s = false):BP later pn 3 s:=⟨by decide,h1,h2,h⟩
theorem zci (h:xs.length + ys.length<=10000) (M:Mem):qo (.tup xs) (.tup ys) M = .ok (.tup (xs ++ ys)) M:=if_pos (by rw [sizeLine_eq];omega)
theorem bp2 {later:List Str} (hl:s.length<=2000) (h:s ∉ pn):BP later pn 2 (.str s):=⟨by decide,rfl,Qt hl,rfl,zdx h⟩
theorem zmx (bk:BK n nn s0 s1) {a:Nat} (hi:i < n.hs.length) (hk:k < n.hs[i].asks.length) (g:M[F]? = some (.lst ts)) (hb:∀ t ∈ ts,BT t) (hl:ts.length<=10000) (o12 o14 o15 o16 o17 o18 o19:Option FT.T) :
  Ok (zch [some (zH n),some (.ref a),some (.tup (n.hs.map hsT)),some (.tup (n.ps.map puT)),some (.lst ((n.hs.map (·.name) ++ n.ps.map (·.name)).map .str)),some (.str nn),some (.lst [.lst ((n.hs.map (·.name)).map .str),.lst ((n.ps.map (·.name)).map .str)]),some (.lst [.lst (s0.map .str),.lst (s1.map .str)]),some (.ref F),some (nT i),some (.str n.hs[i].name),some (.tup (n.hs[i].asks.map qi)),o12,some (nT k),o14,o15,o16,o17,o18,o19] M) fun fl M'=>∃ (o12 o14 o15 o16 o17:Option FT.T) (us:List FT.T),fl = Fl.nx [some (zH n),some (.ref a),some (.tup (n.hs.map hsT)),some (.tup (n.ps.map puT)),some (.lst ((n.hs.map (·.name) ++ n.ps.map (·.name)).map .str)),some (.str nn),some (.lst [.lst ((n.hs.map (·.name)).map .str),.lst ((n.ps.map (·.name)).map .str)]),some (.lst [.lst (s0.map .str),.lst (s1.map .str)]),some (.ref F),some (nT i),some (.str n.hs[i].name),some (.tup (n.hs[i].asks.map qi)),o12,some (nT k),o14,o15,o16,o17,o18,o19]/\M' = M.set F (.lst us)/\(∀ t ∈ us,BT t)/\us.length<=ts.length + 100:=by
 have gn:=bk.gn
 have hm:n.hs[i] ∈ n.hs:=getElem_mem hi
 have l0:=bk.l0
 have l1:=bk.l1
 have h4:=gn.h4
 obtain ⟨q,hq⟩:∃ q,n.hs[i].asks[k]? = some q:=⟨_,Q0 hk⟩
 have hqm:q ∈ n.hs[i].asks:=Q9 hq
 have hwl:=zaQ gn hm q hqm
 have ao:=gn.ao i _ (Q0 hi) q hqm
 have htl:q.to.length<=2000:=by have:=gn.hn.len (mem_of_mem_drop ao.to);omega
 have hz:0 < n.hs.length:=by omega
 have at0:atI (n.hs.map hsT) 0 = some (hsT n.hs[0]):=zba (f:=hsT) (i:=0) (Q0 hz)
 have nmi:(n.hs.map (·.name))[i]? = some n.hs[i].name:=by rw [Qa,Q0 hi];rfl
 have nm0:(n.hs.map (·.name))[0]? = some n.hs[0].name:=by rw [Qa,Q0 hz];rfl
 have ln:∀ {s:Str},s ∈ n.hs.map (·.name)->s.length<=2000:=fun h=>by have:=gn.hn.len h;omega
 have lp:∀ {s:Str},s ∈ n.ps.map (·.name)->s.length<=2000:=fun h=>by have:=gn.pn.len h;omega
 have nl:=bk.nl
 obtain ⟨P0,e0,hP0,n0⟩:=yV (later:=(n.hs.map (·.name)).drop (i + 1)) (pn:=n.ps.map (·.name)) 0 (c:=0) rfl (xs:=.str n.hs[i].name :: .str nn :: .str "" :: .int 0 :: .str n.hs[0].name :: s0.map FT.T.str) (by simp;omega) (by
  intro s hs
  simp only [mem_cons] at hs
  rcases hs with rfl | rfl | rfl | rfl | rfl | hs
  ·exact bp0 (ln (Q9 nmi)) (zc2 gn.hn.nd (by omega) nmi)
  ·exact bp0 (by omega) fun z=>bk.nh (mem_of_mem_drop z)
  ·exact bp0 (by decide) fun z=>ziF gn.hn (mem_of_mem_drop z)
  ·exact ⟨by decide,rfl,rfl,zeH fun _=>rfl⟩
  ·exact bp0 (ln (Q9 nm0)) (zc2 gn.hn.nd (by omega) nm0)
  ·obtain ⟨x,hx,rfl⟩:=mem_map.mp hs
   exact bp0 (lp (bk.h0 x hx).1) fun z=>(bk.h0 x hx).2 (mem_of_mem_drop z)) M
 obtain ⟨P1,e1,hP1,n1⟩:=yV (later:=(n.hs.map (·.name)).drop (i + 1)) (pn:=n.ps.map (·.name)) 1 (c:=1) rfl (xs:=[.int (-1),.int 5,.bl true,.non,.str "1"]) (by decide) (by
  intro s hs
  simp only [mem_cons,not_mem_nil,or_false] at hs
  rcases hs with rfl | rfl | rfl | rfl | rfl <;> exact ⟨by decide,rfl,rfl,rfl⟩) M
 obtain ⟨P2,e2,hP2,n2⟩:=yV (later:=(n.hs.map (·.name)).drop (i + 1)) (pn:=n.ps.map (·.name)) 2 (c:=2) rfl (xs:=.str nn :: .int 0 :: .bl true :: .str "" :: s1.map FT.T.str) (by simp;omega) (by
  intro s hs
  simp only [mem_cons] at hs
  rcases hs with rfl | rfl | rfl | rfl | hs
  ·exact bp2 (by omega) bk.np
  ·exact ⟨by decide,rfl,rfl,rfl,zeH fun _=>rfl⟩
  ·exact ⟨by decide,rfl,rfl,rfl,zeH fun _=>rfl⟩
  ·exact bp2 (by decide) (ziF gn.pn)
  ·obtain ⟨x,hx,rfl⟩:=mem_map.mp hs
   exact bp2 (ln (bk.h1 x hx).1) (bk.h1 x hx).2) M
 obtain ⟨P3,e3,hP3,n3⟩:=yV (later:=(n.hs.map (·.name)).drop (i + 1)) (pn:=n.ps.map (·.name)) 3 (c:=3) rfl (xs:=[.str "well",.str "",.non,.str "Bad",.bl true]) (by decide) (by
  intro s hs
  simp only [mem_cons,not_mem_nil,or_false] at hs
  rcases hs with rfl | rfl | rfl | rfl | rfl <;> exact bp3 rfl (by decide +kernel) (by decide +kernel)) M
 obtain ⟨P4,e4,hP4,n4⟩:=yV (later:=(n.hs.map (·.name)).drop (i + 1)) (pn:=n.ps.map (·.name)) 4 (c:=4) rfl (xs:=[.int 1,.int 0,.non,.str "hears"]) (by decide) (by
  intro s hs
  simp only [mem_cons,not_mem_nil,or_false] at hs
  rcases hs with rfl | rfl | rfl | rfl <;> exact ⟨by decide,rfl,by decide +kernel,rfl⟩) M
 obtain ⟨P5,e5,hP5,n5⟩:=yV (later:=(n.hs.map (·.name)).drop (i + 1)) (pn:=n.ps.map (·.name)) 5 (c:=5) rfl (xs:=[.int 1,.int 0,.non,.str "sure"]) (by decide) (by
  intro s hs
  simp only [mem_cons,not_mem_nil,or_false] at hs
  rcases hs with rfl | rfl | rfl | rfl <;> exact ⟨by decide,rfl,by decide +kernel,rfl⟩) M
 simp only [Qo,length_nil,Qg] at n0 n1 n2 n3 n4 n5
 unfold zch
 refine Ok.seqX fun X hX=>?_
 simp_arith [zba (f:=qi) hq]
 rw [hX];clear hX;simp only [yd]
 rw [show qi q = .tup [.str q.to,.int q.tries,opS q.purse,.str q.word,.bl q.hears,.bl q.sure] from rfl]
 refine Ok.seqX fun X hX=>?_
 rw [show hsT n.hs[0] = .tup [.str n.hs[0].name,.tup (n.hs[0].asks.map qi)] from rfl] at at0
 simp_arith [at0,zM (xs:=[.str n.hs[i].name,.str nn,.str "",.int 0,.str n.hs[0].name]) (ys:=s0.map FT.T.str) (by rw [Qg];simp;omega),e0]
 rw [hX];clear hX;simp only [yd]
 refine Ok.seqX fun X hX=>?_
 simp_arith [e1,zM (xs:=P0) (ys:=P1) (by omega)]
 rw [hX];clear hX;simp only [yd]
 refine Ok.seqX fun X hX=>?_
 simp_arith [zM (xs:=[.str nn,.int 0,.bl true,.str ""]) (ys:=s1.map FT.T.str) (by rw [Qg];simp;omega),e2,zM (xs:=P0 ++ P1) (ys:=P2) (by rw [Qm];omega)]
 rw [hX];clear hX;simp only [yd]
 refine Ok.seqX fun X hX=>?_
 simp_arith [e3,zM (xs:=P0 ++ P1 ++ P2) (ys:=P3) (by simp only [Qm];omega)]
 rw [hX];clear hX;simp only [yd]
 refine Ok.seqX fun X hX=>?_
 simp_arith [e4,e5,zM (xs:=P0 ++ P1 ++ P2 ++ P3) (ys:=P4) (by simp only [Qm];omega),zM (xs:=P0 ++ P1 ++ P2 ++ P3 ++ P4) (ys:=P5) (by simp only [Qm];omega)]
 rw [hX];clear hX;simp only [yd]
 obtain ⟨P,hP⟩:∃ P,P = P0 ++ P1 ++ P2 ++ P3 ++ P4 ++ P5:=⟨_,rfl⟩
 rw [← hP]
 have nP:P.length<=60:=by rw [hP];simp only [Qm];omega
 have pP:∀ o ∈ P,PT ((n.hs.map (·.name)).drop (i + 1)) (n.ps.map (·.name)) o:=by
  intro o ho
  rw [hP] at ho
  simp only [mem_append] at ho
  rcases ho with ((((h | h) | h) | h) | h) | h
  ·exact hP0 o h
  ·exact hP1 o h
  ·exact hP2 o h
  ·exact hP3 o h
  ·exact hP4 o h
  ·exact hP5 o h
 clear hP e0 e1 e2 e3 e4 e5
 obtain ⟨Z,eZ,hZ,nZ⟩:∃ Z,ql (ye 0) zq (zd qC (ya (yb 1) (ya (eOp ixT (yb 0) (eC (.int 0))) (ya (eOp ixT (yb 0) (eC (.int 1))) qb)))) P [none,some (.tup [.str q.to,.int q.tries,opS q.purse,.str q.word,.bl q.hears,.bl q.sure])] M [] = .ok Z M/\(∀ o ∈ Z,QB n i o)/\Z.length = P.length:=by
  have:=Ok.mapc (r:=fun x:FT.T=>x) (bd:=ye 0) (el:=zd qC (ya (yb 1) (ya (eOp ixT (yb 0) (eC (.int 0))) (ya (eOp ixT (yb 0) (eC (.int 1))) qb)))) (M:=M) (xs:=P) (σ:=[none,some (.tup [.str q.to,.int q.tries,opS q.purse,.str q.word,.bl q.hears,.bl q.sure])]) (fun σ=>∃ o,σ = [o,some (.tup [.str q.to,.int q.tries,opS q.purse,.str q.word,.bl q.hears,.bl q.sure])]) (fun o=>FT.T.tup ([.str q.to,.int q.tries,opS q.purse,.str q.word,.bl q.hears,.bl q.sure].set (match item 0 o with | .int j=>j.toNat | _=>0) (item 1 o))) ⟨_,rfl⟩ (by omega) (by
   rintro o σ ho ⟨o',rfl⟩
   obtain ⟨j,s,rfl,bp⟩:=pP o ho
   refine ⟨[some (.tup [nT j,s]),some (.tup [.str q.to,.int q.tries,opS q.purse,.str q.word,.bl q.hears,.bl q.sure])],rfl,⟨_,rfl⟩,?_⟩
   simp_arith [zb1 (xs:=[.str q.to,.int q.tries,opS q.purse,.str q.word,.bl q.hears,.bl q.sure]) (i:=j) (show j < 6 from bp.lt) (by simp) s M]
   rfl)
  rw [map_id'] at this
  refine ⟨_,this,fun o ho=>?_,Qg _⟩
  obtain ⟨o',ho',rfl⟩:=mem_map.mp ho
  obtain ⟨j,s,rfl,bp⟩:=pP o' ho'
  obtain ⟨x1,x2,x3⟩:=zlJ (q:=q) hwl htl bp
  exact ⟨x1,x2.mono (by decide),x3⟩
 refine Ok.seqX fun X hX=>?_
 simp_arith [eZ]
 rw [hX];clear hX;simp only [yd]
 have c5:=zdC [.str q.to,.int q.tries,opS q.purse,.str q.word,.bl q.hears,.bl q.sure] 5
 have a7:qo (.tup [.str q.to,.int q.tries,opS q.purse,.str q.word,.bl q.hears,.bl q.sure]) (.tup [.bl true]) M = .ok (.tup [.str q.to,.int q.tries,opS q.purse,.str q.word,.bl q.hears,.bl q.sure,.bl true]) M:=zci (by simp) M
 have lk:zas [.tup [.str q.to,.int q.tries,opS q.purse,.str q.word,.bl q.hears,.bl q.sure]] M = .ok [.str q.to,.int q.tries,opS q.purse,.str q.word,.bl q.hears,.bl q.sure] M:=rfl
 simp_arith [show zW [.str q.to,.int q.tries,opS q.purse,.str q.word,.bl q.hears,.bl q.sure] none (some 5) = [.str q.to,.int q.tries,opS q.purse,.str q.word,.bl q.hears] from c5,a7,lk,zM (xs:=Z) (ys:=[.tup [.str q.to,.int q.tries,opS q.purse,.str q.word,.bl q.hears],.tup [.str q.to,.int q.tries,opS q.purse,.str q.word,.bl q.hears,.bl q.sure,.bl true],.lst [.str q.to,.int q.tries,opS q.purse,.str q.word,.bl q.hears,.bl q.sure],.non,.tup []]) (by simp;omega)]
 obtain ⟨W,hW⟩:∃ W,W = Z ++ [.tup [.str q.to,.int q.tries,opS q.purse,.str q.word,.bl q.hears],.tup [.str q.to,.int q.tries,opS q.purse,.str q.word,.bl q.hears,.bl q.sure,.bl true],.lst [.str q.to,.int q.tries,opS q.purse,.str q.word,.bl q.hears,.bl q.sure],.non,.tup []]:=⟨_,rfl⟩
 rw [← hW]
 have so:yp (opS q.purse) = true:=by cases q.purse <;> rfl
 have sc6:∀ x ∈ [FT.T.str q.to,.int q.tries,opS q.purse,.str q.word,.bl q.hears,.bl q.sure],yp x = true:=fun x hx=>by
  simp only [mem_cons,not_mem_nil,or_false] at hx
  rcases hx with rfl | rfl | rfl | rfl | rfl | rfl <;> first | exact so | rfl
 have qW:∀ o ∈ W,QB n i o:=by
  intro o ho
  rw [hW] at ho
  rcases mem_append.mp ho with ho | ho
  ·exact hZ o ho
  ·simp only [mem_cons,not_mem_nil,or_false] at ho
   rcases ho with rfl | rfl | rfl | rfl | rfl
   ·exact ⟨⟨rfl,fun _ _ _ _ _ _ e=>by cases e⟩,.tup fun x hx=>.scl (sc6 x (by simp only [mem_cons,not_mem_nil,or_false] at hx ⊢;rcases hx with h | h | h | h | h <;> simp [h])),rfl⟩
   ·refine ⟨⟨rfl,fun _ _ _ _ _ _ e=>by cases e⟩,.tup fun x hx=>.scl ?_,rfl⟩
    simp only [mem_cons,not_mem_nil,or_false] at hx
    rcases hx with rfl | rfl | rfl | rfl | rfl | rfl | rfl <;> first | exact so | rfl
   ·exact ⟨⟨rfl,fun _ _ _ _ _ _ e=>by cases e⟩,.lst fun x hx=>.scl (sc6 x hx),rfl⟩
   ·exact ⟨zhu,.scl rfl,rfl⟩
   ·exact ⟨⟨rfl,fun _ _ _ _ _ _ e=>by cases e⟩,.tup (fun x hx=>by cases hx),rfl⟩
 have nW:W.length<=70:=by rw [hW,Qm];simp;omega
 clear hW
 rw [show W = W.map (fun x:FT.T=>x) from (map_id' W).symm]
 refine (Ok.for (r:=fun x:FT.T=>x) (xs:=W) (fun j σ M'=>∃ (o17:Option FT.T) (us:List FT.T),σ = [some (zH n),some (.ref a),some (.tup (n.hs.map hsT)),some (.tup (n.ps.map puT)),some (.lst ((n.hs.map (·.name) ++ n.ps.map (·.name)).map .str)),some (.str nn),some (.lst [.lst ((n.hs.map (·.name)).map .str),.lst ((n.ps.map (·.name)).map .str)]),some (.lst [.lst (s0.map .str),.lst (s1.map .str)]),some (.ref F),some (nT i),some (.str n.hs[i].name),some (.tup (n.hs[i].asks.map qi)),o12,some (nT k),some (.tup [.str q.to,.int q.tries,opS q.purse,.str q.word,.bl q.hears,.bl q.sure]),some (.lst P),some (.lst Z),o17,o18,o19]/\M' = M.set F (.lst us)/\(∀ t ∈ us,BT t)/\us.length = ts.length + j) ⟨_,ts,rfl,(set_same g).symm,hb,rfl⟩ ?_).mono ?_
 ·rintro j o σ M' ho ⟨o17,us,rfl,rfl,hu,nu⟩
  have hjl:=(List.getElem?_eq_some_iff.mp ho).1
  have ho:=qW o (Q9 ho)
  have gu:(M.set F (.lst us))[F]? = some (.lst us):=get_set g
  unfold zdW
  have p1:=zb1 (xs:=n.hs[i].asks.map qi) (i:=k) (by rw [Qg];exact hk) (by rw [Qg];have:=gn.a3 _ hm;omega) o (M.set F (.lst us))
  have p2:=zb1 (xs:=n.hs.map hsT) (i:=i) (by rw [Qg];exact hi) (by rw [Qg];omega) (.tup [.str n.hs[i].name,.tup ((n.hs[i].asks.map qi).set k o)]) (M.set F (.lst us))
  simp_arith [zD gu,p1,p2,zap gu (show us.length < sizeLine by rw [sizeLine_eq];omega)]
  refine Ok.ret ⟨_,rfl,_,us ++ [_],rfl,List.set_set _,fun t ht=>?_,by simp;omega⟩
  rcases mem_append.mp ht with ht | ht
  ·exact hu t ht
  ·rw [mem_singleton.mp ht];exact zlH gn hi hk ho
 ·rintro fl M' ⟨σ,rfl,o17,us,rfl,rfl,hu,nu⟩
  exact ⟨_,_,_,_,_,us,rfl,rfl,hu,by omega⟩
theorem zmw (bk:BK n nn s0 s1) {a:Nat} (hi:i < n.hs.length) (g:M[F]? = some (.lst ts)) (hb:∀ t ∈ ts,BT t) (hl:ts.length<=5000) (o10 o11 o12 o13 o14 o15 o16 o17 o18 o19:Option FT.T) :
  Ok (zcg [some (zH n),some (.ref a),some (.tup (n.hs.map hsT)),some (.tup (n.ps.map puT)),some (.lst ((n.hs.map (·.name) ++ n.ps.map (·.name)).map .str)),some (.str nn),some (.lst [.lst ((n.hs.map (·.name)).map .str),.lst ((n.ps.map (·.name)).map .str)]),some (.lst [.lst (s0.map .str),.lst (s1.map .str)]),some (.ref F),some (nT i),o10,o11,o12,o13,o14,o15,o16,o17,o18,o19] M) fun fl M'=>∃ (F2:Nat) (o10 o11 o12 o13 o14 o15 o16 o17:Option FT.T) (us:List FT.T),fl = Fl.nx [some (zH n),some (.ref a),some (.tup (n.hs.map hsT)),some (.tup (n.ps.map puT)),some (.lst ((n.hs.map (·.name) ++ n.ps.map (·.name)).map .str)),some (.str nn),some (.lst [.lst ((n.hs.map (·.name)).map .str),.lst ((n.ps.map (·.name)).map .str)]),some (.lst [.lst (s0.map .str),.lst (s1.map .str)]),some (.ref F2),some (nT i),o10,o11,o12,o13,o14,o15,o16,o17,o18,o19]/\M'[F2]? = some (.lst us)/\M.length<=F2/\Fr [] M M'/\(∀ t ∈ us,BT t)/\us.length<=ts.length + 400:=by
 have gn:=bk.gn
 have hm:n.hs[i] ∈ n.hs:=getElem_mem hi
 have a3:=gn.a3 _ hm
 have h4:=gn.h4
 have nl:=gn.hn.len (mem_map.mpr ⟨_,hm,rfl⟩)
 have asp:=zcX (as:=n.hs[i].asks) (by omega) (zaQ gn hm)
 have fh:=zio nl asp ((zdq n.hs[i].asks).mono (by decide)) (by rw [Qg];omega)
 have eH:n.hs[i]? = some n.hs[i]:=Q0 hi
 have ath:=zba (f:=hsT) eH
 rw [show hsT n.hs[i] = .tup [.str n.hs[i].name,.tup (n.hs[i].asks.map qi)] from rfl] at ath
 unfold zcg
 refine Ok.seqX fun X hX=>?_
 simp_arith [ath]
 rw [hX];clear hX;simp only [yd]
 have c1:ql (ye 0) zq (qd (ya (yb 0) (ya (yb 1) qb))) [.str "",.str "Ab",.str "abcdefghi",.int 7,.non,.str "a b"] [none,some (.tup (n.hs[i].asks.map qi))] M [] = .ok ([.str "",.str "Ab",.str "abcdefghi",.int 7,.non,.str "a b"].map fun w=>.tup [w,.tup (n.hs[i].asks.map qi)]) M:=by
  have:=Ok.mapc (r:=fun x:FT.T=>x) (bd:=ye 0) (el:=qd (ya (yb 0) (ya (yb 1) qb))) (M:=M) (xs:=[.str "",.str "Ab",.str "abcdefghi",.int 7,.non,.str "a b"]) (σ:=[none,some (.tup (n.hs[i].asks.map qi))]) (fun σ=>∃ o,σ = [o,some (.tup (n.hs[i].asks.map qi))]) (fun w=>FT.T.tup [w,.tup (n.hs[i].asks.map qi)]) ⟨_,rfl⟩ (by decide) (by
   rintro s σ hs ⟨o,rfl⟩
   exact ⟨[some s,some (.tup (n.hs[i].asks.map qi))],rfl,⟨_,rfl⟩,by simp_arith [and_self]⟩)
  rwa [map_id'] at this
 have lk:zas [.tup (n.hs[i].asks.map qi)] M = .ok (n.hs[i].asks.map qi) M:=rfl
 have an:qo (.tup (n.hs[i].asks.map qi)) (.tup [.non]) M = .ok (.tup (n.hs[i].asks.map qi ++ [.non])) M:=zci (by rw [Qg];simp;omega) M
 refine Ok.seqX fun X hX=>?_
 simp_arith [c1,lk,zM (xs:=[.tup [.str "",.tup (n.hs[i].asks.map qi)],.tup [.str "Ab",.tup (n.hs[i].asks.map qi)],.tup [.str "abcdefghi",.tup (n.hs[i].asks.map qi)],.tup [.int 7,.tup (n.hs[i].asks.map qi)],.tup [.non,.tup (n.hs[i].asks.map qi)],.tup [.str "a b",.tup (n.hs[i].asks.map qi)]]) (ys:=[.tup [.str n.hs[i].name,.lst (n.hs[i].asks.map qi)]]) (by simp)]
 rw [hX];clear hX;simp only [yd]
 refine Ok.seqX fun X hX=>?_
 simp_arith [an,zM (xs:=[.tup [.str "",.tup (n.hs[i].asks.map qi)],.tup [.str "Ab",.tup (n.hs[i].asks.map qi)],.tup [.str "abcdefghi",.tup (n.hs[i].asks.map qi)],.tup [.int 7,.tup (n.hs[i].asks.map qi)],.tup [.non,.tup (n.hs[i].asks.map qi)],.tup [.str "a b",.tup (n.hs[i].asks.map qi)],.tup [.str n.hs[i].name,.lst (n.hs[i].asks.map qi)]]) (ys:=[.tup [.str n.hs[i].name],.tup [.str n.hs[i].name,.tup (n.hs[i].asks.map qi),.tup []],.lst [.str n.hs[i].name,.tup (n.hs[i].asks.map qi)],.tup [.str n.hs[i].name,.non],.tup [.str n.hs[i].name,.tup (n.hs[i].asks.map qi ++ [.non])],.str n.hs[i].name,.non]) (by simp)]
 rw [show [FT.T.tup [.str "",.tup (n.hs[i].asks.map qi)],.tup [.str "Ab",.tup (n.hs[i].asks.map qi)],.tup [.str "abcdefghi",.tup (n.hs[i].asks.map qi)],.tup [.int 7,.tup (n.hs[i].asks.map qi)],.tup [.non,.tup (n.hs[i].asks.map qi)],.tup [.str "a b",.tup (n.hs[i].asks.map qi)],.tup [.str n.hs[i].name,.lst (n.hs[i].asks.map qi)],.tup [.str n.hs[i].name],.tup [.str n.hs[i].name,.tup (n.hs[i].asks.map qi),.tup []],.lst [.str n.hs[i].name,.tup (n.hs[i].asks.map qi)],.tup [.str n.hs[i].name,.non],.tup [.str n.hs[i].name,.tup (n.hs[i].asks.map qi ++ [.non])],.str n.hs[i].name,.non] = zca (.str n.hs[i].name) (n.hs[i].asks.map qi) from rfl]
 rw [hX];clear hX;simp only [yd]
 obtain ⟨W,hW⟩:∃ W,W = zca (.str n.hs[i].name) (n.hs[i].asks.map qi):=⟨_,rfl⟩
 have nW:W.length<=14:=by rw [hW];unfold zca;simp
 rw [← hW] at fh ⊢
 clear hW
 have c2:ql (ye 0) zq (qd (ya (zd qC (ya (yb 1) (ya (yb 2) (ya (yb 0) qb)))) (ya (yb 3) qb))) W [none,some (.tup (n.hs.map hsT)),some (nT i),some (.tup (n.ps.map puT))] M [] = .ok (W.map fun o=>.tup [.tup ((n.hs.map hsT).set i o),.tup (n.ps.map puT)]) M:=by
  have:=Ok.mapc (r:=fun x:FT.T=>x) (bd:=ye 0) (el:=qd (ya (zd qC (ya (yb 1) (ya (yb 2) (ya (yb 0) qb)))) (ya (yb 3) qb))) (M:=M) (xs:=W) (σ:=[none,some (.tup (n.hs.map hsT)),some (nT i),some (.tup (n.ps.map puT))]) (fun σ=>∃ o,σ = [o,some (.tup (n.hs.map hsT)),some (nT i),some (.tup (n.ps.map puT))]) (fun o=>FT.T.tup [.tup ((n.hs.map hsT).set i o),.tup (n.ps.map puT)]) ⟨_,rfl⟩ (by omega) (by
   rintro o σ ho ⟨o',rfl⟩
   refine ⟨[some o,some (.tup (n.hs.map hsT)),some (nT i),some (.tup (n.ps.map puT))],rfl,⟨_,rfl⟩,?_⟩
   simp_arith [zb1 (xs:=n.hs.map hsT) (i:=i) (by rw [Qg];exact hi) (by rw [Qg];omega) o M])
  rwa [map_id'] at this
 have ct:qZ (.ref F) (.lst (W.map fun o=>.tup [.tup ((n.hs.map hsT).set i o),.tup (n.ps.map puT)])) M = .ok (ts ++ W.map fun o=>.tup [.tup ((n.hs.map hsT).set i o),.tup (n.ps.map puT)]) M:=by
  unfold qZ
  simp only [zaw g,show qm (.lst (W.map fun o=>FT.T.tup [.tup ((n.hs.map hsT).set i o),.tup (n.ps.map puT)])) M = some (W.map fun o=>FT.T.tup [.tup ((n.hs.map hsT).set i o),.tup (n.ps.map puT)]) from rfl]
  exact if_pos (by rw [Qg,sizeLine_eq];omega)
 refine Ok.seqX fun X hX=>?_
 simp_arith [c2,ct]
 rw [hX];clear hX;simp only [yd]
 have hb1:∀ t ∈ (ts ++ W.map fun o=>FT.T.tup [.tup ((n.hs.map hsT).set i o),.tup (n.ps.map puT)]),BT t:=fun t ht=>by
  rcases mem_append.mp ht with ht | ht
  ·exact hb t ht
  ·obtain ⟨o,ho,rfl⟩:=mem_map.mp ht
   obtain ⟨e1,e2⟩:=fh o ho
   exact ze5 (zd6 gn) (zd5 gn) (by rw [Qg];exact hi) e1 (e2.imp id fun z=>z _ _)
 obtain ⟨vs,hvs⟩:∃ vs,vs = (ts ++ W.map fun o=>FT.T.tup [.tup ((n.hs.map hsT).set i o),.tup (n.ps.map puT)]):=⟨_,rfl⟩
 have nv:vs.length<=ts.length + 14:=by rw [hvs,Qm,Qg];omega
 rw [← hvs] at hb1 ⊢
 clear hvs
 simp_arith [Qg,yT (j:=(n.hs[i].asks.length:Int)) (M:=M ++ [.lst vs]) (by omega),Int.toNat_natCast]
 refine (Ok.for (r:=FT.T.int) (xs:=rgI n.hs[i].asks.length) (fun k σ M'=>∃ (o12 o13 o14 o15 o16 o17:Option FT.T) (us:List FT.T),σ = [some (zH n),some (.ref a),some (.tup (n.hs.map hsT)),some (.tup (n.ps.map puT)),some (.lst ((n.hs.map (·.name) ++ n.ps.map (·.name)).map .str)),some (.str nn),some (.lst [.lst ((n.hs.map (·.name)).map .str),.lst ((n.ps.map (·.name)).map .str)]),some (.lst [.lst (s0.map .str),.lst (s1.map .str)]),some (.ref M.length),some (nT i),some (.str n.hs[i].name),some (.tup (n.hs[i].asks.map qi)),o12,o13,o14,o15,o16,o17,o18,o19]/\M' = M ++ [.lst us]/\(∀ t ∈ us,BT t)/\us.length<=vs.length + 100 * k) ⟨_,_,_,_,_,_,vs,rfl,rfl,hb1,by omega⟩ ?_).mono ?_
 ·rintro k x σ M' hx ⟨o12,o13,o14,o15,o16,o17,us,rfl,rfl,hu,nu⟩
  obtain ⟨hk,rfl⟩:=zaO hx
  simp_arith [and_self]
  refine (zmx bk hi hk (zJ (M:=M)) hu (by omega) _ o14 o15 o16 o17 o18 o19).mono ?_
  rintro fl M' ⟨o12,o14,o15,o16,o17,us2,rfl,rfl,hu2,nu2⟩
  exact ⟨_,rfl,_,_,_,_,_,_,us2,rfl,zhG,hu2,by omega⟩
 ·rintro fl M' ⟨σ,rfl,o12,o13,o14,o15,o16,o17,us,rfl,rfl,hu,nu⟩
  rw [qT] at nu
  exact ⟨M.length,_,_,_,_,_,_,_,_,us,rfl,zJ,Q3 _,Fr.app _ _,hu,by omega⟩
end
section
theorem zmv (bk:BK n nn s0 s1) {a:Nat} (hi:i < n.ps.length) (g:M[F]? = some (.lst ts)) (hb:∀ t ∈ ts,BT t) (hl:ts.length<=5000) (o10 o11 o12 o13 o14 o15 o16 o17 o18 o19:Option FT.T) :
  Ok (zcf [some (zH n),some (.ref a),some (.tup (n.hs.map hsT)),some (.tup (n.ps.map puT)),some (.lst ((n.hs.map (·.name) ++ n.ps.map (·.name)).map .str)),some (.str nn),some (.lst [.lst ((n.hs.map (·.name)).map .str),.lst ((n.ps.map (·.name)).map .str)]),some (.lst [.lst (s0.map .str),.lst (s1.map .str)]),some (.ref F),some (nT i),o10,o11,o12,o13,o14,o15,o16,o17,o18,o19] M) fun fl M'=>∃ (F2:Nat) (o10 o11 o12 o13 o14 o15 o16 o17 o18 o19:Option FT.T) (us:List FT.T),fl = Fl.nx [some (zH n),some (.ref a),some (.tup (n.hs.map hsT)),some (.tup (n.ps.map puT)),some (.lst ((n.hs.map (·.name) ++ n.ps.map (·.name)).map .str)),some (.str nn),some (.lst [.lst ((n.hs.map (·.name)).map .str),.lst ((n.ps.map (·.name)).map .str)]),some (.lst [.lst (s0.map .str),.lst (s1.map .str)]),some (.ref F2),some (nT i),o10,o11,o12,o13,o14,o15,o16,o17,o18,o19]/\M'[F2]? = some (.lst us)/\M.length<=F2/\Fr [] M M'/\(∀ t ∈ us,BT t)/\us.length<=ts.length + 20:=by
 have gn:=bk.gn
 have hm:n.ps[i] ∈ n.ps:=getElem_mem hi
 have p2:=gn.p2
 have nl:=gn.pn.len (mem_map.mpr ⟨_,hm,rfl⟩)
 have wl:n.ps[i].earns.length<=8:=by rcases (gn.pe _ hm).1 with z | z <;> (rw [z];decide)
 have fh:=zin (per:=n.ps[i].per) nl wl
 have ath:=zba (f:=puT) (Q0 hi)
 rw [show puT n.ps[i] = .tup [.str n.ps[i].name,.str n.ps[i].earns,.int n.ps[i].per] from rfl] at ath
 unfold zcf
 refine Ok.seqX fun X hX=>?_
 simp_arith [ath]
 rw [hX];clear hX;simp only [yd]
 have c1:ql (ye 0) zq (qd (ya (yb 0) (ya (yb 1) (ya (yb 2) qb)))) [.str "",.str "Ab",.non,.str "abcdefghi",.int 7] [none,some (.str n.ps[i].earns),some (.int n.ps[i].per)] M [] = .ok [.tup [.str "",.str n.ps[i].earns,.int n.ps[i].per],.tup [.str "Ab",.str n.ps[i].earns,.int n.ps[i].per],.tup [.non,.str n.ps[i].earns,.int n.ps[i].per],.tup [.str "abcdefghi",.str n.ps[i].earns,.int n.ps[i].per],.tup [.int 7,.str n.ps[i].earns,.int n.ps[i].per]] M:=by
  have:=Ok.mapc (r:=fun x:FT.T=>x) (bd:=ye 0) (el:=qd (ya (yb 0) (ya (yb 1) (ya (yb 2) qb)))) (M:=M) (xs:=[.str "",.str "Ab",.non,.str "abcdefghi",.int 7]) (σ:=[none,some (.str n.ps[i].earns),some (.int n.ps[i].per)]) (fun σ=>∃ o,σ = [o,some (.str n.ps[i].earns),some (.int n.ps[i].per)]) (fun w=>FT.T.tup [w,.str n.ps[i].earns,.int n.ps[i].per]) ⟨_,rfl⟩ (by decide) (by
   rintro s σ hs ⟨o,rfl⟩
   exact ⟨[some s,some (.str n.ps[i].earns),some (.int n.ps[i].per)],rfl,⟨_,rfl⟩,by simp_arith [and_self]⟩)
  rwa [map_id'] at this
 have c3:ql (ye 0) zq (qd (ya (yb 1) (ya (yb 2) (ya (yb 0) qb)))) [.int 0,.int 10,.int (-1),.bl true,.non,.str "1"] [none,some (.str n.ps[i].name),some (.str n.ps[i].earns)] M [] = .ok [.tup [.str n.ps[i].name,.str n.ps[i].earns,.int 0],.tup [.str n.ps[i].name,.str n.ps[i].earns,.int 10],.tup [.str n.ps[i].name,.str n.ps[i].earns,.int (-1)],.tup [.str n.ps[i].name,.str n.ps[i].earns,.bl true],.tup [.str n.ps[i].name,.str n.ps[i].earns,.non],.tup [.str n.ps[i].name,.str n.ps[i].earns,.str "1"]] M:=by
  have:=Ok.mapc (r:=fun x:FT.T=>x) (bd:=ye 0) (el:=qd (ya (yb 1) (ya (yb 2) (ya (yb 0) qb)))) (M:=M) (xs:=[.int 0,.int 10,.int (-1),.bl true,.non,.str "1"]) (σ:=[none,some (.str n.ps[i].name),some (.str n.ps[i].earns)]) (fun σ=>∃ o,σ = [o,some (.str n.ps[i].name),some (.str n.ps[i].earns)]) (fun w=>FT.T.tup [.str n.ps[i].name,.str n.ps[i].earns,w]) ⟨_,rfl⟩ (by decide) (by
   rintro s σ hs ⟨o,rfl⟩
   exact ⟨[some s,some (.str n.ps[i].name),some (.str n.ps[i].earns)],rfl,⟨_,rfl⟩,by simp_arith [and_self]⟩)
  rwa [map_id'] at this
 refine Ok.seqX fun X hX=>?_
 simp_arith [c1]
 rw [hX];clear hX;simp only [yd]
 refine Ok.seqX fun X hX=>?_
 simp_arith [zM (xs:=[.tup [.str "",.str n.ps[i].earns,.int n.ps[i].per],.tup [.str "Ab",.str n.ps[i].earns,.int n.ps[i].per],.tup [.non,.str n.ps[i].earns,.int n.ps[i].per],.tup [.str "abcdefghi",.str n.ps[i].earns,.int n.ps[i].per],.tup [.int 7,.str n.ps[i].earns,.int n.ps[i].per]]) (ys:=[.tup [.str n.ps[i].name,.str "each",.int n.ps[i].per],.tup [.str n.ps[i].name,.non,.int n.ps[i].per],.tup [.str n.ps[i].name,.str n.ps[i].earns],.tup [.str n.ps[i].name,.str n.ps[i].earns,.int n.ps[i].per,.int 1],.str n.ps[i].name,.non]) (by simp)]
 rw [hX];clear hX;simp only [yd]
 refine Ok.seqX fun X hX=>?_
 simp_arith [c3,zM (xs:=[.tup [.str "",.str n.ps[i].earns,.int n.ps[i].per],.tup [.str "Ab",.str n.ps[i].earns,.int n.ps[i].per],.tup [.non,.str n.ps[i].earns,.int n.ps[i].per],.tup [.str "abcdefghi",.str n.ps[i].earns,.int n.ps[i].per],.tup [.int 7,.str n.ps[i].earns,.int n.ps[i].per],.tup [.str n.ps[i].name,.str "each",.int n.ps[i].per],.tup [.str n.ps[i].name,.non,.int n.ps[i].per],.tup [.str n.ps[i].name,.str n.ps[i].earns],.tup [.str n.ps[i].name,.str n.ps[i].earns,.int n.ps[i].per,.int 1],.str n.ps[i].name,.non]) (ys:=[.tup [.str n.ps[i].name,.str n.ps[i].earns,.int 0],.tup [.str n.ps[i].name,.str n.ps[i].earns,.int 10],.tup [.str n.ps[i].name,.str n.ps[i].earns,.int (-1)],.tup [.str n.ps[i].name,.str n.ps[i].earns,.bl true],.tup [.str n.ps[i].name,.str n.ps[i].earns,.non],.tup [.str n.ps[i].name,.str n.ps[i].earns,.str "1"]]) (by simp),zM (xs:=[.tup [.str "",.str n.ps[i].earns,.int n.ps[i].per],.tup [.str "Ab",.str n.ps[i].earns,.int n.ps[i].per],.tup [.non,.str n.ps[i].earns,.int n.ps[i].per],.tup [.str "abcdefghi",.str n.ps[i].earns,.int n.ps[i].per],.tup [.int 7,.str n.ps[i].earns,.int n.ps[i].per],.tup [.str n.ps[i].name,.str "each",.int n.ps[i].per],.tup [.str n.ps[i].name,.non,.int n.ps[i].per],.tup [.str n.ps[i].name,.str n.ps[i].earns],.tup [.str n.ps[i].name,.str n.ps[i].earns,.int n.ps[i].per,.int 1],.str n.ps[i].name,.non,.tup [.str n.ps[i].name,.str n.ps[i].earns,.int 0],.tup [.str n.ps[i].name,.str n.ps[i].earns,.int 10],.tup [.str n.ps[i].name,.str n.ps[i].earns,.int (-1)],.tup [.str n.ps[i].name,.str n.ps[i].earns,.bl true],.tup [.str n.ps[i].name,.str n.ps[i].earns,.non],.tup [.str n.ps[i].name,.str n.ps[i].earns,.str "1"]]) (ys:=[.lst [.str n.ps[i].name,.str n.ps[i].earns,.int n.ps[i].per]]) (by simp)]
 rw [show [FT.T.tup [.str "",.str n.ps[i].earns,.int n.ps[i].per],.tup [.str "Ab",.str n.ps[i].earns,.int n.ps[i].per],.tup [.non,.str n.ps[i].earns,.int n.ps[i].per],.tup [.str "abcdefghi",.str n.ps[i].earns,.int n.ps[i].per],.tup [.int 7,.str n.ps[i].earns,.int n.ps[i].per],.tup [.str n.ps[i].name,.str "each",.int n.ps[i].per],.tup [.str n.ps[i].name,.non,.int n.ps[i].per],.tup [.str n.ps[i].name,.str n.ps[i].earns],.tup [.str n.ps[i].name,.str n.ps[i].earns,.int n.ps[i].per,.int 1],.str n.ps[i].name,.non,.tup [.str n.ps[i].name,.str n.ps[i].earns,.int 0],.tup [.str n.ps[i].name,.str n.ps[i].earns,.int 10],.tup [.str n.ps[i].name,.str n.ps[i].earns,.int (-1)],.tup [.str n.ps[i].name,.str n.ps[i].earns,.bl true],.tup [.str n.ps[i].name,.str n.ps[i].earns,.non],.tup [.str n.ps[i].name,.str n.ps[i].earns,.str "1"],.lst [.str n.ps[i].name,.str n.ps[i].earns,.int n.ps[i].per]] = zb9 (.str n.ps[i].name) (.str n.ps[i].earns) n.ps[i].per from rfl]
 rw [hX];clear hX;simp only [yd]
 obtain ⟨W,hW⟩:∃ W,W = zb9 (.str n.ps[i].name) (.str n.ps[i].earns) n.ps[i].per:=⟨_,rfl⟩
 have nW:W.length<=18:=by rw [hW];unfold zb9;simp
 rw [← hW] at fh ⊢
 clear hW
 have c2:ql (ye 0) zq (qd (ya (yb 1) (ya (zd qC (ya (yb 2) (ya (yb 3) (ya (yb 0) qb)))) qb))) W [none,some (.tup (n.hs.map hsT)),some (.tup (n.ps.map puT)),some (nT i)] M [] = .ok (W.map fun o=>.tup [.tup (n.hs.map hsT),.tup ((n.ps.map puT).set i o)]) M:=by
  have:=Ok.mapc (r:=fun x:FT.T=>x) (bd:=ye 0) (el:=qd (ya (yb 1) (ya (zd qC (ya (yb 2) (ya (yb 3) (ya (yb 0) qb)))) qb))) (M:=M) (xs:=W) (σ:=[none,some (.tup (n.hs.map hsT)),some (.tup (n.ps.map puT)),some (nT i)]) (fun σ=>∃ o,σ = [o,some (.tup (n.hs.map hsT)),some (.tup (n.ps.map puT)),some (nT i)]) (fun o=>FT.T.tup [.tup (n.hs.map hsT),.tup ((n.ps.map puT).set i o)]) ⟨_,rfl⟩ (by omega) (by
   rintro o σ ho ⟨o',rfl⟩
   refine ⟨[some o,some (.tup (n.hs.map hsT)),some (.tup (n.ps.map puT)),some (nT i)],rfl,⟨_,rfl⟩,?_⟩
   simp_arith [zb1 (xs:=n.ps.map puT) (i:=i) (by rw [Qg];exact hi) (by rw [Qg];omega) o M])
  rwa [map_id'] at this
 have ct:qZ (.ref F) (.lst (W.map fun o=>.tup [.tup (n.hs.map hsT),.tup ((n.ps.map puT).set i o)])) M = .ok (ts ++ W.map fun o=>.tup [.tup (n.hs.map hsT),.tup ((n.ps.map puT).set i o)]) M:=by
  unfold qZ
  simp only [zaw g,show qm (.lst (W.map fun o=>FT.T.tup [.tup (n.hs.map hsT),.tup ((n.ps.map puT).set i o)])) M = some (W.map fun o=>FT.T.tup [.tup (n.hs.map hsT),.tup ((n.ps.map puT).set i o)]) from rfl]
  exact if_pos (by rw [Qg,sizeLine_eq];omega)
 simp_arith [c2,ct]
 refine Ok.ret ⟨M.length,_,_,_,_,_,_,_,_,_,_,_,rfl,zJ,Q3 _,Fr.app _ _,fun t ht=>?_,by rw [Qm,Qg];omega⟩
 rcases mem_append.mp ht with ht | ht
 ·exact hb t ht
 ·obtain ⟨o,ho,rfl⟩:=mem_map.mp ht
  obtain ⟨e1,e2⟩:=fh o ho
  exact ziw (zd6 gn) (zd5 gn) (by rw [Qg];exact hi) e1 e2
theorem zdE {α:Type} (f:α->FT.T) (nm:α->Str) (hf:∀ x,∃ r,f x = .tup (.str (nm x) :: r)) {xs:List α} (h:xs.length<=1000) (M:Mem):ql (ye 0) zq (eOp ixT (yb 0) (eC (.int 0))) (xs.map f) [none] M [] = .ok ((xs.map nm).map .str) M:=by
 have:=Ok.mapc (r:=f) (bd:=ye 0) (el:=eOp ixT (yb 0) (eC (.int 0))) (M:=M) (xs:=xs) (σ:=[none]) (fun σ=>∃ o,σ = [o]) (fun x=>FT.T.str (nm x)) ⟨_,rfl⟩ (by omega) (by
  rintro x σ hx ⟨o,rfl⟩
  refine ⟨[some (f x)],rfl,⟨_,rfl⟩,?_⟩
  obtain ⟨r,hr⟩:=hf x
  rw [hr]
  simp_arith [and_self])
 rw [map_map]
 exact this
theorem zdD {os:List Str} (h:ws.length<=1000) (el:Ev->Mem->Out FT.T) (M:Mem) (σ:Ev) (I:Ev->Prop) (hI:I σ) (hs:∀ w σ,I σ->I (σ.set 0 (some (.str w)))/\ye 0 (.str w) σ M = .ok (σ.set 0 (some (.str w))) M/\eOp zam (yb 0) el (σ.set 0 (some (.str w))) M = .ok (.bl (!ym os (.str w))) M/\yb 0 (σ.set 0 (some (.str w))) M = .ok (.str w) M) :
  ql (ye 0) (zu (eOp zam (yb 0) el)) (yb 0) (ws.map .str) σ M [] = .ok ((ws.filter fun w=>!ym os (.str w)).map .str) M:=by
 refine Ok.filt (r:=FT.T.str) I (fun w=>!ym os (.str w)) FT.T.str hI (by omega) ?_
 intro w σ hw h
 obtain ⟨h1,h2,h3,h4⟩:=hs w σ h
 refine ⟨_,h2,h1,?_,fun _=>h4⟩
 unfold zu
 rw [h3]
 rfl
theorem zg7 {hs ps:List Str} (hh:Nms hs) (hp:Nms ps):∃ w r,(([("q":Str),"nob","nobod","nobodyx"]).filter fun w=>!ym (hs ++ ps) (.str w)) = w :: r/\w ∉ hs/\w ∉ ps/\w.length<=8:=by
 obtain ⟨a,ha⟩:=hh.ln
 obtain ⟨b,hb⟩:=hp.ln
 have ex:∃ w ∈ ([("q":Str),"nob","nobod","nobodyx"]),w ∉ hs ++ ps:=by
  have no:∀ (w:Str) (k:Nat),w.length = k->k ≠ a->k ≠ a + 1->k ≠ b->k ≠ b + 1->w ∉ hs ++ ps:=fun w k hk h1 h2 h3 h4 z=>by
   rcases mem_append.mp z with z | z
   ·rcases ha w z with e | e <;> omega
   ·rcases hb w z with e | e <;> omega
  have:((1 ≠ a/\1 ≠ a + 1)/\(1 ≠ b/\1 ≠ b + 1))\/((3 ≠ a/\3 ≠ a + 1)/\(3 ≠ b/\3 ≠ b + 1))\/((5 ≠ a/\5 ≠ a + 1)/\(5 ≠ b/\5 ≠ b + 1)):=by omega
  rcases this with h | h | h
  ·exact ⟨"q",by simp,no _ 1 (by decide +kernel) h.1.1 h.1.2 h.2.1 h.2.2⟩
  ·exact ⟨"nob",by simp,no _ 3 (by decide +kernel) h.1.1 h.1.2 h.2.1 h.2.2⟩
  ·exact ⟨"nobod",by simp,no _ 5 (by decide +kernel) h.1.1 h.1.2 h.2.1 h.2.2⟩
 obtain ⟨w,hw,hn⟩:=ex
 have hm:w ∈ ([("q":Str),"nob","nobod","nobodyx"]).filter fun w=>!ym (hs ++ ps) (.str w):=mem_filter.mpr ⟨hw,by rw [zdx hn];rfl⟩
 cases e:([("q":Str),"nob","nobod","nobodyx"]).filter fun w=>!ym (hs ++ ps) (.str w) with
 | nil=>rw [e] at hm;cases hm
 | cons v r=>
  have hv:v ∈ ([("q":Str),"nob","nobod","nobodyx"]).filter fun w=>!ym (hs ++ ps) (.str w):=by rw [e];exact .head _
  obtain ⟨v1,v2⟩:=mem_filter.mp hv
  have hv:v ∉ hs ++ ps:=fun z=>by rw [yS.mpr z] at v2;cases v2
  refine ⟨v,r,rfl,fun z=>hv (mem_append.mpr (.inl z)),fun z=>hv (mem_append.mpr (.inr z)),?_⟩
  simp only [mem_cons,not_mem_nil,or_false] at v1
  rcases v1 with rfl | rfl | rfl | rfl <;> decide +kernel
theorem zjY (gn:GN n) {a:Nat} (M:Mem):Ok (zbP [zH n,.ref a] M) fun t M'=>∃ F ts,t = .ref F/\M'[F]? = some (.lst ts)/\(∀ t ∈ ts,BT t)/\ts.length<=3000/\Fr [] M M':=by
 refine zE rfl ?_
 unfold zeV
 have h4:=gn.h4
 have p2:=gn.p2
 rw [show startT 20 [zH n,.ref a] = [some (.tup [.tup (n.hs.map hsT),.tup (n.ps.map puT)]),some (.ref a),none,none,none,none,none,none,none,none,none,none,none,none,none,none,none,none,none,none] from rfl]
 refine Ok.seqR fun X hX=>?_
 simp_arith [and_self]
 rw [hX];clear hX;simp only [yd]
 have hN:=zdE hsT (·.name) (fun h=>⟨_,rfl⟩) (xs:=n.hs) (by omega) M
 have pN:=zdE puT (·.name) (fun h=>⟨_,rfl⟩) (xs:=n.ps) (by omega) M
 have cN:ql (ye 0) zq (eOp ixT (yb 0) (eC (.int 0))) (n.hs.map hsT ++ n.ps.map puT) [none] M [] = .ok ((n.hs.map (·.name) ++ n.ps.map (·.name)).map .str) M:=by
  have:=zdE (fun x:Hs ⊕ Pu=>match x with | .inl h=>hsT h | .inr p=>puT p) (fun x=>match x with | .inl h=>h.name | .inr p=>p.name) (fun x=>match x with | .inl h=>⟨_,rfl⟩ | .inr p=>⟨_,rfl⟩) (xs:=n.hs.map .inl ++ n.ps.map .inr) (by rw [Qm,Qg,Qg];omega) M
  simp only [map_append,map_map] at this ⊢
  exact this
 refine Ok.seqR fun X hX=>?_
 simp_arith [zci (xs:=n.hs.map hsT) (ys:=n.ps.map puT) (by rw [Qg,Qg];omega),cN]
 rw [hX];clear hX;simp only [yd]
 obtain ⟨nn,rr,hnn,nh,np,nl⟩:=zg7 gn.hn gn.pn
 have cq:=zdD (ws:=["q","nob","nobod","nobodyx"]) (os:=n.hs.map (·.name) ++ n.ps.map (·.name)) (by decide) (yb 1) M [none,some (.lst ((n.hs.map (·.name) ++ n.ps.map (·.name)).map .str))] (fun σ=>∃ o,σ = [o,some (.lst ((n.hs.map (·.name) ++ n.ps.map (·.name)).map .str))]) ⟨_,rfl⟩ (by
  rintro w σ ⟨o,rfl⟩
  refine ⟨⟨_,rfl⟩,rfl,?_,rfl⟩
  show (zam (.str w) (.lst ((n.hs.map (·.name) ++ n.ps.map (·.name)).map .str)) M) = _
  exact zc3 rfl M)
 rw [hnn] at cq
 simp only [map_cons,map_nil] at cq
 refine Ok.seqR fun X hX=>?_
 simp_arith [cq]
 rw [hX];clear hX;simp only [yd]
 refine Ok.seqR fun X hX=>?_
 simp_arith [hN,pN]
 rw [hX];clear hX;simp only [yd]
 obtain ⟨s0,hs0⟩:∃ s0,s0 = (n.ps.map (·.name)).filter fun w=>!ym (n.hs.map (·.name)) (.str w):=⟨_,rfl⟩
 obtain ⟨s1,hs1⟩:∃ s1,s1 = (n.hs.map (·.name)).filter fun w=>!ym (n.ps.map (·.name)) (.str w):=⟨_,rfl⟩
 have cs:ql (ye 0) zq (eFz (zr (yx (eOp ixT (yb 1) (eOp zcz (eC (.int 1)) (yb 0)))) (ye 0) (zu (eOp zam (yb 0) (eOp ixT (yb 1) (yb 2)))) (yb 0) ["word"] [("own",1),("k",0)])) [.int 0,.int 1] [none,some (.lst [.lst ((n.hs.map (·.name)).map .str),.lst ((n.ps.map (·.name)).map .str)])] M [] = .ok [.lst (s0.map .str),.lst (s1.map .str)] M:=by
  have:=Ok.mapc (r:=FT.T.int) (bd:=ye 0) (el:=eFz (zr (yx (eOp ixT (yb 1) (eOp zcz (eC (.int 1)) (yb 0)))) (ye 0) (zu (eOp zam (yb 0) (eOp ixT (yb 1) (yb 2)))) (yb 0) ["word"] [("own",1),("k",0)])) (M:=M) (xs:=[0,1]) (σ:=[none,some (.lst [.lst ((n.hs.map (·.name)).map .str),.lst ((n.ps.map (·.name)).map .str)])]) (fun σ=>∃ o,σ = [o,some (.lst [.lst ((n.hs.map (·.name)).map .str),.lst ((n.ps.map (·.name)).map .str)])]) (fun k=>FT.T.lst ((if k = 0 then s0 else s1).map .str)) ⟨_,rfl⟩ (by decide) (by
   rintro k σ hk ⟨o,rfl⟩
   refine ⟨[some (.int k),some (.lst [.lst ((n.hs.map (·.name)).map .str),.lst ((n.ps.map (·.name)).map .str)])],rfl,⟨_,rfl⟩,?_⟩
   simp only [mem_cons,not_mem_nil,or_false] at hk
   rcases hk with rfl | rfl
   ·have c:=zdD (ws:=n.ps.map (·.name)) (os:=n.hs.map (·.name)) (by rw [Qg];omega) (eOp ixT (yb 1) (yb 2)) M [none,some (.lst [.lst ((n.hs.map (·.name)).map .str),.lst ((n.ps.map (·.name)).map .str)]),some (.int 0)] (fun σ=>∃ o,σ = [o,some (.lst [.lst ((n.hs.map (·.name)).map .str),.lst ((n.ps.map (·.name)).map .str)]),some (.int 0)]) ⟨_,rfl⟩ (by
     rintro w σ ⟨o,rfl⟩
     refine ⟨⟨_,rfl⟩,rfl,?_,rfl⟩
     have:=zc3 (ss:=n.hs.map (·.name)) (t:=.str w) rfl M
     simp_arith [this])
    rw [← hs0] at c
    simp_arith [c,Int.reduceSub]
   ·have c:=zdD (ws:=n.hs.map (·.name)) (os:=n.ps.map (·.name)) (by rw [Qg];omega) (eOp ixT (yb 1) (yb 2)) M [none,some (.lst [.lst ((n.hs.map (·.name)).map .str),.lst ((n.ps.map (·.name)).map .str)]),some (.int 1)] (fun σ=>∃ o,σ = [o,some (.lst [.lst ((n.hs.map (·.name)).map .str),.lst ((n.ps.map (·.name)).map .str)]),some (.int 1)]) ⟨_,rfl⟩ (by
     rintro w σ ⟨o,rfl⟩
     refine ⟨⟨_,rfl⟩,rfl,?_,rfl⟩
     have:=zc3 (ss:=n.ps.map (·.name)) (t:=.str w) rfl M
     simp_arith [this])
    rw [← hs1] at c
    simp_arith [c,Int.reduceSub])
  exact this
 have r2:zcI [.int 2] M = .ok [.int 0,.int 1] M:=(yT (j:=2) (M:=M) (by omega)).trans rfl
 refine Ok.seqR fun X hX=>?_
 simp_arith [r2,cs]
 rw [hX];clear hX;simp only [yd]
 have bk:BK n nn s0 s1:=by
  refine ⟨gn,nl,nh,np,fun s hs=>?_,fun s hs=>?_,?_,?_⟩
  ·rw [hs0] at hs
   obtain ⟨h1,h2⟩:=mem_filter.mp hs
   exact ⟨h1,fun z=>by rw [yS.mpr z] at h2;cases h2⟩
  ·rw [hs1] at hs
   obtain ⟨h1,h2⟩:=mem_filter.mp hs
   exact ⟨h1,fun z=>by rw [yS.mpr z] at h2;cases h2⟩
  ·rw [hs0];have:=List.length_filter_le (fun w=>!ym (n.hs.map (·.name)) (.str w)) (n.ps.map (·.name));rw [Qg] at this;omega
  ·rw [hs1];have:=List.length_filter_le (fun w=>!ym (n.ps.map (·.name)) (.str w)) (n.hs.map (·.name));rw [Qg] at this;omega
 refine Ok.seqR fun X hX=>?_
 simp_arith [and_self]
 rw [hX];clear hX;simp only [yd]
 rw [show FT.T.tup [.tup (n.hs.map hsT),.tup (n.ps.map puT)] = zH n from rfl]
 refine Ok.seqR fun X hX=>?_
 simp_arith [Qg,yT (j:=(n.hs.length:Int)) (M:=M ++ [.lst []]) (by omega),Int.toNat_natCast]
 refine Ok.bind (Ok.for (r:=FT.T.int) (xs:=rgI n.hs.length) (fun k σ M'=>∃ (F:Nat) (o9 o10 o11 o12 o13 o14 o15 o16 o17 o18 o19:Option FT.T) (ts:List FT.T),σ = [some (zH n),some (.ref a),some (.tup (n.hs.map hsT)),some (.tup (n.ps.map puT)),some (.lst ((n.hs.map (·.name) ++ n.ps.map (·.name)).map .str)),some (.str nn),some (.lst [.lst ((n.hs.map (·.name)).map .str),.lst ((n.ps.map (·.name)).map .str)]),some (.lst [.lst (s0.map .str),.lst (s1.map .str)]),some (.ref F),o9,o10,o11,o12,o13,o14,o15,o16,o17,o18,o19]/\M'[F]? = some (.lst ts)/\(∀ t ∈ ts,BT t)/\ts.length<=400 * k/\Fr [] M M') ⟨M.length,_,_,_,_,_,_,_,_,_,_,_,[],rfl,zJ,(fun t ht=>by cases ht),by simp,Fr.app _ _⟩ ?_) ?_
 ·rintro k x σ M1 hx ⟨F,o9,o10,o11,o12,o13,o14,o15,o16,o17,o18,o19,ts,rfl,g,hb,hl,f1⟩
  obtain ⟨hk,rfl⟩:=zaO hx
  simp_arith [and_self]
  refine (zmw bk hk g hb (by omega) o10 o11 o12 o13 o14 o15 o16 o17 o18 o19).mono ?_
  rintro fl M2 ⟨F2,o10,o11,o12,o13,o14,o15,o16,o17,us,rfl,g2,_,f2,hu,nu⟩
  exact ⟨_,rfl,F2,_,_,_,_,_,_,_,_,_,_,_,us,rfl,g2,hu,by omega,f1.tr f2 (by simp)⟩
 rintro fl M1 ⟨σ,rfl,F,o9,o10,o11,o12,o13,o14,o15,o16,o17,o18,o19,ts,rfl,g,hb,hl,f1⟩
 rw [qT] at hl
 rw [hX];clear hX;simp only [yd]
 refine Ok.seqR fun X hX=>?_
 simp_arith [Qg,yT (j:=(n.ps.length:Int)) (M:=M1) (by omega),Int.toNat_natCast]
 refine Ok.bind (Ok.for (r:=FT.T.int) (xs:=rgI n.ps.length) (fun k σ M'=>∃ (F:Nat) (o9 o10 o11 o12 o13 o14 o15 o16 o17 o18 o19:Option FT.T) (us:List FT.T),σ = [some (zH n),some (.ref a),some (.tup (n.hs.map hsT)),some (.tup (n.ps.map puT)),some (.lst ((n.hs.map (·.name) ++ n.ps.map (·.name)).map .str)),some (.str nn),some (.lst [.lst ((n.hs.map (·.name)).map .str),.lst ((n.ps.map (·.name)).map .str)]),some (.lst [.lst (s0.map .str),.lst (s1.map .str)]),some (.ref F),o9,o10,o11,o12,o13,o14,o15,o16,o17,o18,o19]/\M'[F]? = some (.lst us)/\(∀ t ∈ us,BT t)/\us.length<=ts.length + 20 * k/\Fr [] M M') ⟨F,_,_,_,_,_,_,_,_,_,_,_,ts,rfl,g,hb,by omega,f1⟩ ?_) ?_
 ·rintro k x σ M2 hx ⟨F,o9,o10,o11,o12,o13,o14,o15,o16,o17,o18,o19,us,rfl,g,hb,nu,f2⟩
  obtain ⟨hk,rfl⟩:=zaO hx
  simp_arith [and_self]
  refine (zmv bk hk g hb (by omega) o10 o11 o12 o13 o14 o15 o16 o17 o18 o19).mono ?_
  rintro fl M3 ⟨F2,o10,o11,o12,o13,o14,o15,o16,o17,o18,o19,vs,rfl,g2,_,f3,hv,nv⟩
  exact ⟨_,rfl,F2,_,_,_,_,_,_,_,_,_,_,_,vs,rfl,g2,hv,by omega,f2.tr f3 (by simp)⟩
 rintro fl M2 ⟨σ,rfl,F,o9,o10,o11,o12,o13,o14,o15,o16,o17,o18,o19,us,rfl,g,hb,nu,f2⟩
 rw [qT] at nu
 rw [hX];clear hX;simp only [yd]
 simp_arith [and_self]
 exact Ok.ret ⟨F,us,rfl,g,hb,by omega,f2⟩
end
section
theorem zbm {b:Bool} {hs:List Hs} (hl:hs.length<=50) (h:∀ x ∈ hs,x.name.length<=8/\x.asks.length<=50/\∀ q ∈ x.asks,q.word.length<=2000):RowP b (hs.map hsT):=⟨by rw [Qg];exact hl,fun o ho=>by
 obtain ⟨x,hx,rfl⟩:=mem_map.mp ho
 obtain ⟨h1,h2,h3⟩:=h x hx
 exact ep2 (qt h1) (zcX h2 h3) (.scl rfl) ((zdq _).mono (by decide))⟩
theorem zc0 {b:Bool} {ps:List Pu} (hl:ps.length<=50) (h:∀ x ∈ ps,x.name.length<=8):RowP b (ps.map puT):=⟨by rw [Qg];exact hl,fun o ho=>by
 obtain ⟨x,hx,rfl⟩:=mem_map.mp ho
 cases b with
 | true=>exact zlE (qt (h x hx)) (.scl rfl) (.scl rfl) (.scl rfl)
 | false=>exact ziu (qt (h x hx)) rfl rfl (.scl rfl) (.scl rfl)⟩
theorem zga {b:Bool} (gn:GN n):RowP b (n.hs.map hsT):=zbm (by have:=gn.h4;omega) fun x hx=>⟨gn.hn.len (mem_map.mpr ⟨x,hx,rfl⟩),by have:=gn.a3 x hx;omega,zaQ gn hx⟩
theorem ziL {b:Bool} (gn:GN n):RowP b (n.ps.map puT):=zc0 (by have:=gn.p2;omega) fun x hx=>gn.pn.len (mem_map.mpr ⟨x,hx,rfl⟩)
theorem zfu {b:Bool} (h:RowP b xs):PD 11 (.lst xs):=.lst fun x hx=>(h.el x hx).pd
theorem qG (h:RowP true hs) (g:RowP false ps) (no:zaa (.tup [.tup hs,.tup ps]) = false):BT (.tup [.tup hs,.tup ps]):=⟨(zbr h g).1,(zbr h g).2,no⟩
theorem zby (h:∀ xs,H = .tup xs->RowP true xs) (g:∀ xs,P = .tup xs->RowP false xs) (pH:PD 11 H) (pP:PD 11 P) (hH:plT H = true) (hP:plT P = true) (no:zaa (.tup [H,P]) = false):BT (.tup [H,P]):=⟨(zds h g pH pP hH hP).1,(zds h g pH pP hH hP).2,no⟩
theorem zcN {s l:Nat} (hn:¬ (xs.map nmT).Nodup):yu (.tup xs) s l h = false:=by
 show (decide (l<=xs.length/\xs.length<=h) && (xs.all (qF s) && decide (xs.map nmT).Nodup)) = false
 rw [Qu hn]
 simp
theorem zbK {s l:Nat} (hn:¬ (l<=xs.length/\xs.length<=h)):yu (.tup xs) s l h = false:=by
 show (decide (l<=xs.length/\xs.length<=h) && (xs.all (qF s) && decide (xs.map nmT).Nodup)) = false
 rw [Qu hn]
 simp
noncomputable def q0:Ask:=⟨"vd",1,none,"bad",false,true⟩
theorem zf3 (x:FT.T) {k:Int} (h:0<=k) (h2:k<=8) (M:Mem):zar (.tup [x]) (.int k) M = .ok (.tup (List.replicate k.toNat x)) M:=by
 unfold zar
 dsimp only
 rw [if_pos ⟨by simp,by omega,by omega,by rw [sizeLine_eq,Qs];omega⟩]
 congr 2
 generalize k.toNat = m
 induction m with
 | zero=>rfl
 | succ m ih=>rw [replicate_succ,flatten_cons,ih,replicate_succ];rfl
theorem zhq (gn:GN n):BT (.tup (n.hs.map hsT)):=by
 have h4:=gn.h4
 refine ⟨⟨Qt (by rw [Qg];omega),fun H P e=>?_⟩,(zga (b:=true) gn).pd.mono (by decide),?_⟩
 ·have e:n.hs.map hsT = [H,P]:=by injection e
  obtain ⟨a,b,rfl,rfl,ha,hb⟩:∃ a b,H = hsT a/\P = hsT b/\a ∈ n.hs/\b ∈ n.hs:=by
   match hh:n.hs,e with
   | [a,b],e=>
    simp only [map_cons,map_nil,List.cons.injEq,and_true] at e
    exact ⟨a,b,e.1.symm,e.2.symm,by simp,by simp⟩
  have el:∀ c ∈ n.hs,plT (hsT c) = true/\∀ xs,hsT c = .tup xs->∀ o ∈ xs,plT o = true/\∀ x r,o = .tup (x :: r)->plT x = true:=fun c hc=>⟨rfl,fun xs e o ho=>by
   cases e
   simp only [mem_cons,not_mem_nil,or_false] at ho
   rcases ho with rfl | rfl
   ·exact ⟨qt (gn.hn.len (mem_map.mpr ⟨c,hc,rfl⟩)),fun x r e=>by cases e⟩
   ·refine ⟨Qt (by rw [Qg];have:=gn.a3 c hc;omega),fun x r e=>?_⟩
    have e:c.asks.map qi = x :: r:=by injection e
    have:x ∈ c.asks.map qi:=by rw [e];exact .head _
    obtain ⟨q,_,rfl⟩:=mem_map.mp this
    rfl⟩
  have nf:yu (hsT a) 2 1 4 = false:=zav (o:=.str a.name) (.head _) rfl
  exact ⟨(el a ha).1,(el b hb).1,(el a ha).2,(el b hb).2,fun z=>by rw [nf] at z;cases z⟩
 ·unfold zaa
  split
  ·rename_i hs ps e
   have e:n.hs.map hsT = [.tup hs,.tup ps]:=by injection e
   have:FT.T.tup hs ∈ n.hs.map hsT:=by rw [e];exact .head _
   obtain ⟨a,ha,e2⟩:=mem_map.mp this
   have nf:yu (.tup hs) 2 1 4 = false:=by
    rw [← e2]
    exact zav (o:=.str a.name) (.head _) rfl
   rw [nf]
   rfl
  ·rfl
end
structure WS (F:Nat) (ts:List FT.T) (M0 M:Mem):Prop where
 g:M[F]? = some (.lst ts)
 lo:M0.length<=F
 fr:Fr [] M0 M
 bt:∀ t ∈ ts,BT t
 nl:ts.length<=1000
variable {M0:Mem}
theorem WS.app (h:WS F ts M0 M) (ht:BT t) (hl:ts.length < 1000):WS F (ts ++ [t]) M0 (M.set F (.lst (ts ++ [t]))):=⟨get_set h.g,h.lo,h.fr.tr (Fr.set _ _ _) (by have:=h.lo;simp;omega),fun x hx=>by
 rcases mem_append.mp hx with hx | hx
 ·exact h.bt x hx
 ·rw [mem_singleton.mp hx];exact ht,by simp;omega⟩
variable {us:List FT.T}
theorem WS.cat (h:WS F ts M0 M) (hu:∀ t ∈ us,BT t) (hl:ts.length + us.length<=1000):WS M.length (ts ++ us) M0 (M ++ [.lst (ts ++ us)]):=⟨zJ,h.fr.1,h.fr.tr (Fr.app _ _) (by simp),fun x hx=>by
 rcases mem_append.mp hx with hx | hx
 ·exact h.bt x hx
 ·exact hu x hx,by simp;omega⟩
theorem WS.ct (h:WS F ts M0 M) (hl:us.length<=1000):qZ (.ref F) (.lst us) M = .ok (ts ++ us) M:=by
 unfold qZ
 simp only [zaw h.g,show qm (.lst us) M = some us from rfl]
 exact if_pos (by have:=h.nl;rw [sizeLine_eq];omega)
theorem WS.ap (h:WS F ts M0 M) (t:FT.T):qL (.ref F) [t] M = .ok .non (M.set F (.lst (ts ++ [t]))):=zap h.g (by have:=h.nl;rw [sizeLine_eq];omega)
section
theorem ziQ (gn:GN n) (M:Mem):Ok (zbO [zH n] M) fun t M'=>∃ ts,t = .lst ts/\(∀ t ∈ ts,BT t)/\0 < ts.length/\ts.length<=100/\Fr [] M M':=by
 refine zE rfl ?_
 unfold zeS
 have h4:=gn.h4
 have h1:=gn.h1
 have p2:=gn.p2
 have rh:RowP true (n.hs.map hsT):=zga gn
 have rp:RowP false (n.ps.map puT):=ziL gn
 have rhf:RowP false (n.hs.map hsT):=zga gn
 have rpt:RowP true (n.ps.map puT):=ziL gn
 have e0:n.hs[0]? = some (n.hs[0]'(by omega)):=Q0 (by omega)
 rw [show startT 5 [zH n] = [some (.tup [.tup (n.hs.map hsT),.tup (n.ps.map puT)]),none,none,none,none] from rfl]
 refine Ok.seqR fun X hX=>?_
 simp_arith [and_self]
 rw [hX];clear hX;simp only [yd]
 have lk:∀ (xs:List FT.T) M,zas [.tup xs] M = .ok xs M:=fun _ _=>rfl
 refine Ok.seqR fun X hX=>?_
 simp_arith [lk,zci (xs:=[.tup (n.hs.map hsT),.tup (n.ps.map puT)]) (ys:=[.tup []]) (by simp)]
 rw [hX];clear hX;simp only [yd]
 have w1:WS M.length [.tup [.tup [],.tup (n.ps.map puT)],.tup [.lst (n.hs.map hsT),.tup (n.ps.map puT)],.tup [.tup (n.hs.map hsT),.lst (n.ps.map puT)],.lst [.tup (n.hs.map hsT),.tup (n.ps.map puT)],.tup [.tup (n.hs.map hsT)],.tup [.tup (n.hs.map hsT),.tup (n.ps.map puT),.tup []]] M (M ++ [.lst [.tup [.tup [],.tup (n.ps.map puT)],.tup [.lst (n.hs.map hsT),.tup (n.ps.map puT)],.tup [.tup (n.hs.map hsT),.lst (n.ps.map puT)],.lst [.tup (n.hs.map hsT),.tup (n.ps.map puT)],.tup [.tup (n.hs.map hsT)],.tup [.tup (n.hs.map hsT),.tup (n.ps.map puT),.tup []]]]):=by
  refine ⟨zJ,Q3 _,Fr.app _ _,fun t ht=>?_,by simp⟩
  simp only [mem_cons,not_mem_nil,or_false] at ht
  rcases ht with rfl | rfl | rfl | rfl | rfl | rfl
  ·exact qG ⟨by simp,fun o ho=>by cases ho⟩ rp (yN (.inl (zbK (by simp))))
  ·exact zby (fun xs e=>by cases e) (fun xs e=>by cases e;exact rp) (zfu rh) rp.pd rfl rp.pl rfl
  ·exact zby (fun xs e=>by cases e;exact rh) (fun xs e=>by cases e) rh.pd (zfu rp) rh.pl rfl rfl
  ·exact ⟨⟨rfl,fun H P e=>by cases e⟩,.lst fun x hx=>by
    simp only [mem_cons,not_mem_nil,or_false] at hx
    rcases hx with rfl | rfl
    ·exact rh.pd.mono (by decide)
    ·exact rp.pd.mono (by decide),rfl⟩
  ·exact ⟨⟨rfl,fun H P e=>by cases e⟩,.tup fun x hx=>by rw [mem_singleton.mp hx];exact rh.pd.mono (by decide),rfl⟩
  ·exact ⟨⟨rfl,fun H P e=>by cases e⟩,.tup fun x hx=>by
    simp only [mem_cons,not_mem_nil,or_false] at hx
    rcases hx with rfl | rfl | rfl
    ·exact rh.pd.mono (by decide)
    ·exact rp.pd.mono (by decide)
    ·exact .tup fun x hx=>(by cases hx),rfl⟩
 generalize hM1:M ++ [Cell.lst [.tup [.tup [],.tup (n.ps.map puT)],.tup [.lst (n.hs.map hsT),.tup (n.ps.map puT)],.tup [.tup (n.hs.map hsT),.lst (n.ps.map puT)],.lst [.tup (n.hs.map hsT),.tup (n.ps.map puT)],.tup [.tup (n.hs.map hsT)],.tup [.tup (n.hs.map hsT),.tup (n.ps.map puT),.tup []]]] = M1 at w1 ⊢
 generalize hL1:[FT.T.tup [.tup [],.tup (n.ps.map puT)],.tup [.lst (n.hs.map hsT),.tup (n.ps.map puT)],.tup [.tup (n.hs.map hsT),.lst (n.ps.map puT)],.lst [.tup (n.hs.map hsT),.tup (n.ps.map puT)],.tup [.tup (n.hs.map hsT)],.tup [.tup (n.hs.map hsT),.tup (n.ps.map puT),.tup []]] = L1 at w1
 have n1:L1.length = 6:=by rw [← hL1];rfl
 clear hM1 hL1
 have c1:zW (n.hs.map hsT) none (some 1) = (n.hs.map hsT).take 1:=zdC _ 1
 have b2:∀ t ∈ [FT.T.tup [.tup (n.hs.map hsT),.non],.tup [.non,.tup (n.ps.map puT)],.tup [.tup (n.hs.map hsT ++ (n.hs.map hsT).take 1),.tup (n.ps.map puT)],.tup [.tup (n.ps.map puT),.tup (n.hs.map hsT)],.tup (n.hs.map hsT)],BT t:=by
  intro t ht
  simp only [mem_cons,not_mem_nil,or_false] at ht
  rcases ht with rfl | rfl | rfl | rfl | rfl
  ·exact zby (fun xs e=>by cases e;exact rh) (fun xs e=>by cases e) rh.pd (.scl rfl) rh.pl rfl rfl
  ·exact zby (fun xs e=>by cases e) (fun xs e=>by cases e;exact rp) (.scl rfl) rp.pd rfl rp.pl rfl
  ·refine qG ⟨by rw [Qm,Qp,Qg];omega,fun o ho=>?_⟩ rp (yN (.inl (zcN fun z=>?_)))
   ·rcases mem_append.mp ho with ho | ho
    ·exact rh.el o ho
    ·exact rh.el o (List.mem_of_mem_take ho)
   ·rw [map_append,List.nodup_append] at z
    have m1:nmT (hsT n.hs[0]) ∈ (n.hs.map hsT).map nmT:=mem_map.mpr ⟨_,mem_map.mpr ⟨_,getElem_mem _,rfl⟩,rfl⟩
    have m2:nmT (hsT n.hs[0]) ∈ ((n.hs.map hsT).take 1).map nmT:=mem_map.mpr ⟨_,by
     rw [← map_take]
     refine mem_map.mpr ⟨n.hs[0],?_,rfl⟩
     match hh:n.hs,h1 with
     | x :: xs,_=>simp,rfl⟩
    exact z.2.2 _ m1 _ m2 rfl
  ·refine qG rpt rhf (yN (.inl ?_))
   by_cases hz:n.ps = []
   ·rw [hz];exact zbK (by simp)
   ·obtain ⟨p,hp⟩:=List.exists_mem_of_ne_nil _ hz
    exact zav (mem_map.mpr ⟨p,hp,rfl⟩) rfl
  ·exact zhq gn
 refine Ok.seqR fun X hX=>?_
 simp_arith [c1,zci (xs:=n.hs.map hsT) (ys:=(n.hs.map hsT).take 1) (by rw [Qp,Qg];omega),w1.ct (us:=[.tup [.tup (n.hs.map hsT),.non],.tup [.non,.tup (n.ps.map puT)],.tup [.tup (n.hs.map hsT ++ (n.hs.map hsT).take 1),.tup (n.ps.map puT)],.tup [.tup (n.ps.map puT),.tup (n.hs.map hsT)],.tup (n.hs.map hsT)]) (by simp)]
 rw [hX];clear hX;simp only [yd]
 have w2:=w1.cat b2 (by rw [n1];simp)
 generalize hL2:L1 ++ [FT.T.tup [.tup (n.hs.map hsT),.non],.tup [.non,.tup (n.ps.map puT)],.tup [.tup (n.hs.map hsT ++ (n.hs.map hsT).take 1),.tup (n.ps.map puT)],.tup [.tup (n.ps.map puT),.tup (n.hs.map hsT)],.tup (n.hs.map hsT)] = L2 at w2 ⊢
 have n2:L2.length = 11:=by rw [← hL2,Qm,n1];rfl
 clear hL2 b2
 generalize M1 ++ [Cell.lst L2] = M2 at w2 ⊢
 generalize M1.length = F2 at w2 ⊢
 clear w1
 have cp:∀ M,ql (ye 0) zq (qd (ya (yb 0) (ya (qd qb) qb))) [.str "va",.str "vb",.str "vc",.str "vd",.str "ve"] [none] M [] = .ok ([⟨"va",[]⟩,⟨"vb",[]⟩,⟨"vc",[]⟩,⟨"vd",[]⟩,⟨"ve",[]⟩].map hsT) M:=fun M=>by
  have:=Ok.mapc (r:=FT.T.str) (bd:=ye 0) (el:=qd (ya (yb 0) (ya (qd qb) qb))) (M:=M) (xs:=["va","vb","vc","vd","ve"]) (σ:=[none]) (fun σ=>∃ o,σ = [o]) (fun s=>hsT ⟨s,[]⟩) ⟨_,rfl⟩ (by decide) (by
   rintro s σ hs ⟨o,rfl⟩
   exact ⟨[some (.str s)],rfl,⟨_,rfl⟩,by simp_arith [and_self];rfl⟩)
  exact this
 have tk:∀ (xs:List FT.T) M,yR (.lst xs) M = .ok (.tup xs) M:=fun _ _=>rfl
 refine Ok.seqR fun X hX=>?_
 simp_arith [zD w2.g,cp,tk]
 simp_arith [w2.ap]
 rw [hX];clear hX;simp only [yd]
 have nb:RowP false ([]:List FT.T):=⟨by simp,fun o ho=>by cases ho⟩
 have w3:=w2.app (t:=.tup [.tup [hsT ⟨"va",[]⟩,hsT ⟨"vb",[]⟩,hsT ⟨"vc",[]⟩,hsT ⟨"vd",[]⟩,hsT ⟨"ve",[]⟩],.tup []]) (qG (show RowP true (([⟨"va",[]⟩,⟨"vb",[]⟩,⟨"vc",[]⟩,⟨"vd",[]⟩,⟨"ve",[]⟩]:List Hs).map hsT) from zbm (by simp) (by
  intro x hx
  simp only [mem_cons,not_mem_nil,or_false] at hx
  rcases hx with rfl | rfl | rfl | rfl | rfl <;> exact ⟨by decide +kernel,by simp,fun q hq=>by cases hq⟩)) nb (yN (.inl (zbK (by simp))))) (by omega)
 generalize hL3:L2 ++ [FT.T.tup [.tup [hsT ⟨"va",[]⟩,hsT ⟨"vb",[]⟩,hsT ⟨"vc",[]⟩,hsT ⟨"vd",[]⟩,hsT ⟨"ve",[]⟩],.tup []]] = L3 at w3 ⊢
 have n3:L3.length = 12:=by rw [← hL3,Qm,n2];rfl
 clear hL3
 generalize M2.set F2 (Cell.lst L3) = M3 at w3 ⊢
 clear w2
 refine Ok.seqR fun X hX=>?_
 simp_arith [zD w3.g,w3.ap]
 rw [hX];clear hX;simp only [yd]
 have w4:=w3.app (t:=.tup [.tup (n.hs.map hsT),.tup [.tup [.str "va",.str "any",.int 1],.tup [.str "vb",.str "any",.int 1],.tup [.str "vc",.str "first",.int 2]]]) (qG rh (show RowP false (([⟨"va","any",1⟩,⟨"vb","any",1⟩,⟨"vc","first",2⟩]:List Pu).map puT) from zc0 (by simp) (by
  intro x hx
  simp only [mem_cons,not_mem_nil,or_false] at hx
  rcases hx with rfl | rfl | rfl <;> decide +kernel)) (yN (.inr (.inl (zbK (by simp)))))) (by omega)
 generalize hL4:L3 ++ [FT.T.tup [.tup (n.hs.map hsT),.tup [.tup [.str "va",.str "any",.int 1],.tup [.str "vb",.str "any",.int 1],.tup [.str "vc",.str "first",.int 2]]]] = L4 at w4 ⊢
 have n4:L4.length = 13:=by rw [← hL4,Qm,n3];rfl
 clear hL4
 generalize M3.set F2 (Cell.lst L4) = M4 at w4 ⊢
 clear w3
 refine Ok.seqR fun X hX=>?_
 refine Ok.bind (P:=fun fl M'=>∃ ts,fl = Fl.nx [some (.tup [.tup (n.hs.map hsT),.tup (n.ps.map puT)]),some (.tup (n.hs.map hsT)),some (.tup (n.ps.map puT)),some (.ref F2),none]/\WS F2 ts M M'/\ts.length<=14) ?_ ?_
 ·by_cases hz:n.ps.length = 2
  ·obtain ⟨p,p',hp⟩:=zh2 hz
   have at0:atI (n.ps.map puT) 0 = some (.tup [.str p.name,.str p.earns,.int p.per]):=by rw [hp];exact zmy
   simp_arith [Qg,show (((n.ps.length:Nat):Int) == 2) = true by rw [hz];rfl,zD w4.g,at0,w4.ap]
   refine Ok.ret ⟨_,rfl,w4.app (t:=.tup [.tup (n.hs.map hsT),.tup [.tup [.str p.name,.str p.earns,.int p.per],.tup [.str p.name,.str "any",.int 3]]]) (qG rh (show RowP false (([p,⟨p.name,"any",3⟩]:List Pu).map puT) from zc0 (by simp) (by
    have hl:=gn.pn.len (mem_map.mpr ⟨p,by rw [hp];exact .head _,rfl⟩)
    intro x hx
    simp only [mem_cons,not_mem_nil,or_false] at hx
    rcases hx with rfl | rfl
    ·exact hl
    ·exact hl)) (yN (.inr (.inl (zcN fun z=>by
     have z:([p.name,p.name]:List Str).Nodup:=z
     simp at z)))) ) (by omega),by simp;omega⟩
  ·simp_arith [Qg,show (((n.ps.length:Nat):Int) == 2) = false by simpa using (show ¬ (n.ps.length:Int) = 2 by omega)]
   exact Ok.ret ⟨_,rfl,w4,by omega⟩
 rintro fl M5 ⟨L5,rfl,w5,n5⟩
 clear w4
 rw [hX];clear hX;simp only [yd]
 have b6:∀ t ∈ [FT.T.tup [.tup (n.hs.map hsT),.tup [.tup [.str "va",.str "any",.int 1],.tup [.str "va",.str "any",.int 2]]],.tup [.tup [.tup [.str "va",.tup []],.tup [.str "vb",.tup []],.tup [.str "va",.tup []]],.tup []]],BT t:=by
  intro t ht
  simp only [mem_cons,not_mem_nil,or_false] at ht
  rcases ht with rfl | rfl
  ·exact qG rh (show RowP false (([⟨"va","any",1⟩,⟨"va","any",2⟩]:List Pu).map puT) from zc0 (by simp) (by
    intro x hx
    simp only [mem_cons,not_mem_nil,or_false] at hx
    rcases hx with rfl | rfl <;> decide +kernel)) (yN (.inr (.inl (zcN (by decide +kernel)))))
  ·exact qG (show RowP true (([⟨"va",[]⟩,⟨"vb",[]⟩,⟨"va",[]⟩]:List Hs).map hsT) from zbm (by simp) (by
    intro x hx
    simp only [mem_cons,not_mem_nil,or_false] at hx
    rcases hx with rfl | rfl | rfl <;> exact ⟨by decide +kernel,by simp,fun q hq=>by cases hq⟩)) nb (by decide +kernel)
 refine Ok.seqR fun X hX=>?_
 simp_arith [w5.ct (us:=[.tup [.tup (n.hs.map hsT),.tup [.tup [.str "va",.str "any",.int 1],.tup [.str "va",.str "any",.int 2]]],.tup [.tup [.tup [.str "va",.tup []],.tup [.str "vb",.tup []],.tup [.str "va",.tup []]],.tup []]]) (by simp)]
 rw [hX];clear hX;simp only [yd]
 have w6:=w5.cat b6 (by simp;omega)
 generalize hL6:L5 ++ [FT.T.tup [.tup (n.hs.map hsT),.tup [.tup [.str "va",.str "any",.int 1],.tup [.str "va",.str "any",.int 2]]],.tup [.tup [.tup [.str "va",.tup []],.tup [.str "vb",.tup []],.tup [.str "va",.tup []]],.tup []]] = L6 at w6 ⊢
 have n6:L6.length<=16:=by rw [← hL6,Qm];simp;omega
 clear hL6 b6
 generalize M5 ++ [Cell.lst L6] = M6 at w6 ⊢
 generalize M5.length = F6 at w6 ⊢
 clear w5
 refine Ok.seqR fun X hX=>?_
 simp_arith [and_self]
 rw [hX];clear hX;simp only [yd]
 have rq:∀ (hs:List Hs),hs.length<=50->(∀ x ∈ hs,x.name.length<=8/\x.asks.length<=50/\∀ q ∈ x.asks,q = q0)->RowP true (hs.map hsT):=fun hs h1 h2=>zbm h1 fun x hx=>⟨(h2 x hx).1,(h2 x hx).2.1,fun q hq=>by rw [(h2 x hx).2.2 q hq];decide +kernel⟩
 refine Ok.seqR fun X hX=>?_
 simp_arith [zD w6.g,zf3 (.tup [.str "vd",.int 1,.non,.str "bad",.bl false,.bl true]) (k:=4) (by decide) (by decide),w6.ap]
 rw [hX];clear hX;simp only [yd]
 have w7:=w6.app (t:=.tup [.tup [.tup [.str "va",.tup [.tup [.str "vd",.int 1,.non,.str "bad",.bl false,.bl true],.tup [.str "vd",.int 1,.non,.str "bad",.bl false,.bl true],.tup [.str "vd",.int 1,.non,.str "bad",.bl false,.bl true],.tup [.str "vd",.int 1,.non,.str "bad",.bl false,.bl true]]],.tup [.str "vd",.tup []]],.tup []]) (qG (show RowP true (([⟨"va",[q0,q0,q0,q0]⟩,⟨"vd",[]⟩]:List Hs).map hsT) from rq _ (by simp) (by
  intro x hx
  simp only [mem_cons,not_mem_nil,or_false] at hx
  rcases hx with rfl | rfl <;> exact ⟨by decide +kernel,by simp,fun q hq=>by simpa using hq⟩)) nb (by decide +kernel)) (by omega)
 generalize hL7:L6 ++ [FT.T.tup [.tup [.tup [.str "va",.tup [.tup [.str "vd",.int 1,.non,.str "bad",.bl false,.bl true],.tup [.str "vd",.int 1,.non,.str "bad",.bl false,.bl true],.tup [.str "vd",.int 1,.non,.str "bad",.bl false,.bl true],.tup [.str "vd",.int 1,.non,.str "bad",.bl false,.bl true]]],.tup [.str "vd",.tup []]],.tup []]] = L7 at w7 ⊢
 have n7:L7.length<=17:=by rw [← hL7,Qm];simp;omega
 clear hL7
 generalize M6.set F6 (Cell.lst L7) = M7 at w7 ⊢
 clear w6
 refine Ok.seqR fun X hX=>?_
 simp_arith [zD w7.g,zf3 (.tup [.str "vd",.int 1,.non,.str "bad",.bl false,.bl true]) (k:=3) (by decide) (by decide),w7.ap]
 rw [hX];clear hX;simp only [yd]
 have w8:=w7.app (t:=.tup [.tup [.tup [.str "va",.tup [.tup [.str "vd",.int 1,.non,.str "bad",.bl false,.bl true],.tup [.str "vd",.int 1,.non,.str "bad",.bl false,.bl true],.tup [.str "vd",.int 1,.non,.str "bad",.bl false,.bl true]]],.tup [.str "vb",.tup [.tup [.str "vd",.int 1,.non,.str "bad",.bl false,.bl true],.tup [.str "vd",.int 1,.non,.str "bad",.bl false,.bl true],.tup [.str "vd",.int 1,.non,.str "bad",.bl false,.bl true]]],.tup [.str "vc",.tup [.tup [.str "vd",.int 1,.non,.str "bad",.bl false,.bl true]]],.tup [.str "vd",.tup []]],.tup []]) (qG (show RowP true (([⟨"va",[q0,q0,q0]⟩,⟨"vb",[q0,q0,q0]⟩,⟨"vc",[q0]⟩,⟨"vd",[]⟩]:List Hs).map hsT) from rq _ (by simp) (by
  intro x hx
  simp only [mem_cons,not_mem_nil,or_false] at hx
  rcases hx with rfl | rfl | rfl | rfl <;> exact ⟨by decide +kernel,by simp,fun q hq=>by simpa using hq⟩)) nb (by decide +kernel)) (by omega)
 generalize hL8:L7 ++ [FT.T.tup [.tup [.tup [.str "va",.tup [.tup [.str "vd",.int 1,.non,.str "bad",.bl false,.bl true],.tup [.str "vd",.int 1,.non,.str "bad",.bl false,.bl true],.tup [.str "vd",.int 1,.non,.str "bad",.bl false,.bl true]]],.tup [.str "vb",.tup [.tup [.str "vd",.int 1,.non,.str "bad",.bl false,.bl true],.tup [.str "vd",.int 1,.non,.str "bad",.bl false,.bl true],.tup [.str "vd",.int 1,.non,.str "bad",.bl false,.bl true]]],.tup [.str "vc",.tup [.tup [.str "vd",.int 1,.non,.str "bad",.bl false,.bl true]]],.tup [.str "vd",.tup []]],.tup []]] = L8 at w8 ⊢
 have n8:L8.length<=18:=by rw [← hL8,Qm];simp;omega
 clear hL8
 generalize M7.set F6 (Cell.lst L8) = M8 at w8 ⊢
 clear w7
 have ad:qo (.ref F6) (.lst [.tup [.tup [.tup [.str "vd",.tup [.tup [.str "vd",.int 1,.non,.str "bad",.bl false,.bl true]]]],.tup []],.tup [.tup [.tup [.str "vd",.tup []],.tup [.str "va",.tup [.tup [.str "vd",.int 1,.non,.str "bad",.bl false,.bl true]]]],.tup []]]) M8 = .ok (.lst (L8 ++ [.tup [.tup [.tup [.str "vd",.tup [.tup [.str "vd",.int 1,.non,.str "bad",.bl false,.bl true]]]],.tup []],.tup [.tup [.tup [.str "vd",.tup []],.tup [.str "va",.tup [.tup [.str "vd",.int 1,.non,.str "bad",.bl false,.bl true]]]],.tup []]])) M8:=by
  unfold qo
  simp only [zaw w8.g,show qm (.lst [.tup [.tup [.tup [.str "vd",.tup [.tup [.str "vd",.int 1,.non,.str "bad",.bl false,.bl true]]]],.tup []],.tup [.tup [.tup [.str "vd",.tup []],.tup [.str "va",.tup [.tup [.str "vd",.int 1,.non,.str "bad",.bl false,.bl true]]]],.tup []]]) M8 = some [.tup [.tup [.tup [.str "vd",.tup [.tup [.str "vd",.int 1,.non,.str "bad",.bl false,.bl true]]]],.tup []],.tup [.tup [.tup [.str "vd",.tup []],.tup [.str "va",.tup [.tup [.str "vd",.int 1,.non,.str "bad",.bl false,.bl true]]]],.tup []]] from rfl]
  exact if_pos (by rw [sizeLine_eq];simp;omega)
 simp_arith [ad]
 refine Ok.ret ⟨_,rfl,fun t ht=>?_,by simp,by simp;omega,w8.fr⟩
 rcases mem_append.mp ht with ht | ht
 ·exact w8.bt t ht
 ·simp only [mem_cons,not_mem_nil,or_false] at ht
  rcases ht with rfl | rfl
  ·exact qG (show RowP true (([⟨"vd",[q0]⟩]:List Hs).map hsT) from rq _ (by simp) (by
  intro x hx
  simp only [mem_cons,not_mem_nil,or_false] at hx
  rcases hx with rfl <;> exact ⟨by decide +kernel,by simp,fun q hq=>by simpa using hq⟩)) nb (by decide +kernel)
  ·exact qG (show RowP true (([⟨"vd",[]⟩,⟨"va",[q0]⟩]:List Hs).map hsT) from rq _ (by simp) (by
  intro x hx
  simp only [mem_cons,not_mem_nil,or_false] at hx
  rcases hx with rfl | rfl <;> exact ⟨by decide +kernel,by simp,fun q hq=>by simpa using hq⟩)) nb (by decide +kernel)
end
theorem zif:NP (.tup [.tup [.tup [.str "va",.tup [.tup [.str "vd",.int 1,.non,.str "bad",.bl false,.bl true],.tup [.str "vd",.int 1,.non,.str "bad",.bl false,.bl true],.tup [.str "vd",.int 1,.non,.str "bad",.bl false,.bl true]]],.tup [.str "vb",.tup [.tup [.str "vd",.int 1,.non,.str "bad",.bl false,.bl true],.tup [.str "vd",.int 1,.non,.str "bad",.bl false,.bl true],.tup [.str "vd",.int 1,.non,.str "bad",.bl false,.bl true]]],.tup [.str "vc",.tup []],.tup [.str "vd",.tup []]],.tup []])/\zaa (.tup [.tup [.tup [.str "va",.tup [.tup [.str "vd",.int 1,.non,.str "bad",.bl false,.bl true],.tup [.str "vd",.int 1,.non,.str "bad",.bl false,.bl true],.tup [.str "vd",.int 1,.non,.str "bad",.bl false,.bl true]]],.tup [.str "vb",.tup [.tup [.str "vd",.int 1,.non,.str "bad",.bl false,.bl true],.tup [.str "vd",.int 1,.non,.str "bad",.bl false,.bl true],.tup [.str "vd",.int 1,.non,.str "bad",.bl false,.bl true]]],.tup [.str "vc",.tup []],.tup [.str "vd",.tup []]],.tup []]) = true:=by
 have nb:RowP false ([]:List FT.T):=⟨by simp,fun o ho=>by cases ho⟩
 refine ⟨(zbr (show RowP true (([⟨"va",[q0,q0,q0]⟩,⟨"vb",[q0,q0,q0]⟩,⟨"vc",[]⟩,⟨"vd",[]⟩]:List Hs).map hsT) from zbm (by simp) (by
  intro x hx
  simp only [mem_cons,not_mem_nil,or_false] at hx
  rcases hx with rfl | rfl | rfl | rfl <;> exact ⟨by decide +kernel,by simp,fun q hq=>by
   have:q = q0:=by simpa using hq
   rw [this];decide +kernel⟩)) nb).1,by decide +kernel⟩
theorem zce (h:yp t = true) (hp:plT t = true):BT t:=⟨⟨hp,fun H P e=>by subst e;cases h⟩,.scl h,by cases t <;> first | rfl | cases h⟩
theorem things:∀ t ∈ ([.non,.int 0,.bl true,.str "",.str "net",.tup [],.tup [.tup [],.tup []],.lst [],.lst [.lst [],.lst []],.tup [.int 0,.int 0],.tup [.tup [.tup [.str "va",.tup []]]],.tup [.tup [.str "va",.tup []],.tup []]]:List FT.T),BT t:=by
 intro t ht
 have nb:∀ b,RowP b ([]:List FT.T):=fun b=>⟨by simp,fun o ho=>by cases ho⟩
 have e0:PD 11 (.tup []):=(nb true).pd
 simp only [mem_cons,not_mem_nil,or_false] at ht
 rcases ht with rfl | rfl | rfl | rfl | rfl | rfl | rfl | rfl | rfl | rfl | rfl | rfl
 ·exact zce rfl rfl
 ·exact zce rfl rfl
 ·exact zce rfl rfl
 ·exact zce rfl (by decide +kernel)
 ·exact zce rfl (by decide +kernel)
 ·exact ⟨⟨rfl,fun H P e=>by cases e⟩,e0.mono (by decide),rfl⟩
 ·exact qG (nb _) (nb _) (by decide +kernel)
 ·exact ⟨⟨rfl,fun H P e=>by cases e⟩,.lst (fun x hx=>by cases hx),rfl⟩
 ·refine ⟨⟨rfl,fun H P e=>by cases e⟩,.lst fun x hx=>?_,rfl⟩
  simp only [mem_cons,not_mem_nil,or_false] at hx
  rcases hx with rfl | rfl <;> exact .lst (fun x hx=>by cases hx)
 ·exact zby (fun xs e=>by cases e) (fun xs e=>by cases e) (.scl rfl) (.scl rfl) rfl rfl rfl
 ·refine ⟨⟨rfl,fun H P e=>by cases e⟩,.tup fun x hx=>?_,rfl⟩
  rw [mem_singleton.mp hx]
  exact (show RowP true (([⟨"va",[]⟩]:List Hs).map hsT) from zbm (by simp) (by
   intro x hx
   rw [mem_singleton.mp hx]
   exact ⟨by decide +kernel,by simp,fun q hq=>by cases hq⟩)).pd.mono (by decide)
 ·refine zby (fun xs e=>?_) (fun xs e=>?_) (.tup fun x hx=>?_) e0 rfl rfl (by decide +kernel)
  ·cases e
   refine ⟨by simp,fun o ho=>?_⟩
   simp only [mem_cons,not_mem_nil,or_false] at ho
   rcases ho with rfl | rfl
   ·exact eps rfl (by decide +kernel)
   ·exact ⟨rfl,fun x r e=>(by cases e),fun _ a b e=>(by cases e),fun _ a b c e=>(by cases e),.tup (fun x hx=>by cases hx)⟩
  ·cases e;exact nb _
  ·simp only [mem_cons,not_mem_nil,or_false] at hx
   rcases hx with rfl | rfl
   ·exact .scl rfl
   ·exact .tup (fun x hx=>by cases hx)
theorem zlb (b:Bool) (M:Mem):zw (.bl b) (.ty "bool") M = .ok (.bl true) M:=rfl
theorem law_true (ns:List Int) (hl:ns.length<=63):∃ M,zeb [.lst (ns.map .int)] [] = .ok (.bl true) M:=by
 have key:Ok (zeb [.lst (ns.map .int)] []) fun t M'=>t = .bl true:=by
  refine zE rfl ?_
  unfold ziM
  rw [show startT 8 [.lst (ns.map .int)] = [some (.lst (ns.map .int)),none,none,none,none,none,none,none] from rfl]
  obtain ⟨m,hm,hmm⟩:∃ m:Nat,(if (if (ns.length:Int) < 63 then (ns.length:Int) else 63) > 5 then (if (ns.length:Int) < 63 then (ns.length:Int) else 63) else 5) = (m:Int)/\m<=63:=by
   refine ⟨(if (if (ns.length:Int) < 63 then (ns.length:Int) else 63) > 5 then (if (ns.length:Int) < 63 then (ns.length:Int) else 63) else 5).toNat,?_,?_⟩ <;> (split <;> split <;> omega)
  refine Ok.seqR fun X hX=>?_
  simp_arith [and_self]
  rw [hX];clear hX;simp only [yd]
  refine Ok.seqR fun X hX=>?_
  simp_arith [zf3 (.tup [.str "vd",.int 1,.non,.str "bad",.bl false,.bl true]) (k:=3) (by decide) (by decide)]
  rw [hX];clear hX;simp only [yd]
  obtain ⟨gnp,gnb⟩:=zif
  have gi:=zc4 gnp []
  rw [gnb] at gi
  refine Ok.seqR fun X hX=>?_
  simp_arith [gi]
  rw [hX];clear hX;simp only [yd]
  refine Ok.seqR fun X hX=>?_
  simp_arith [and_self]
  rw [show [FT.T.non,.int 0,.bl true,.str "",.str "net",.tup [],.tup [.tup [],.tup []],.lst [],.lst [.lst [],.lst []],.tup [.int 0,.int 0],.tup [.tup [.tup [.str "va",.tup []]]],.tup [.tup [.str "va",.tup []],.tup []]] = ([.non,.int 0,.bl true,.str "",.str "net",.tup [],.tup [.tup [],.tup []],.lst [],.lst [.lst [],.lst []],.tup [.int 0,.int 0],.tup [.tup [.tup [.str "va",.tup []]]],.tup [.tup [.str "va",.tup []],.tup []]]:List FT.T).map (fun x:FT.T=>x) from rfl]
  refine Ok.bind (Ok.for (r:=fun x:FT.T=>x) (fun k σ M'=>(∃ o3,σ = [some (.lst (ns.map .int)),some (.tup [.str "vd",.int 1,.non,.str "bad",.bl false,.bl true]),some (.tup [.tup [.tup [.str "va",.tup [.tup [.str "vd",.int 1,.non,.str "bad",.bl false,.bl true],.tup [.str "vd",.int 1,.non,.str "bad",.bl false,.bl true],.tup [.str "vd",.int 1,.non,.str "bad",.bl false,.bl true]]],.tup [.str "vb",.tup [.tup [.str "vd",.int 1,.non,.str "bad",.bl false,.bl true],.tup [.str "vd",.int 1,.non,.str "bad",.bl false,.bl true],.tup [.str "vd",.int 1,.non,.str "bad",.bl false,.bl true]]],.tup [.str "vc",.tup []],.tup [.str "vd",.tup []]],.tup []]),o3,none,none,none,none])/\M' = []) ⟨⟨_,rfl⟩,rfl⟩ ?_) ?_
  ·rintro k t σ M' ht ⟨⟨o3,rfl⟩,rfl⟩
   have bt:=things t (Q9 ht)
   have ie:=zc4 bt.np []
   rw [bt.no] at ie
   unfold zht
   simp_arith [ie,zlb]
   exact Ok.ret ⟨_,rfl,⟨_,rfl⟩,rfl⟩
  rintro fl M0 ⟨σ,rfl,⟨o3,rfl⟩,rfl⟩
  rw [hX];clear hX;simp only [yd]
  refine Ok.seqR fun X hX=>?_
  simp_arith [Qg,zdv]
  rw [hm]
  simp_arith [ziY (i:=0) (j:=(m:Int)) (M:=[]) ⟨by omega,by omega⟩]
  refine Ok.bind (Ok.for (r:=FT.T.int) (fun i σ M'=>∃ o1 o2 o3 o4 o5 o6 o7,σ = [some (.lst (ns.map .int)),o1,o2,o3,o4,o5,o6,o7]) ⟨_,_,_,_,_,_,_,rfl⟩ ?_) ?_
  ·rintro k x σ M hx ⟨o1,o2,o3,o4,o5,o6,o7,rfl⟩
   obtain ⟨hk,rfl⟩:=ziZ hx
   rw [show (0:Int) + (k:Int) = (k:Int) by omega]
   unfold zhr
   obtain ⟨c,hc⟩:=zjV (ns:=ns) (n:=k) (by omega) M
   refine Ok.seqX fun X hX=>?_
   simp_arith [hc,zh4]
   rw [hX];clear hX;simp only [yd]
   refine Ok.seqX fun X hX=>?_
   simp_arith [and_self]
   refine Ok.bind (zkW PO.app) ?_
   rintro t M1 ⟨n,rfl,gn,p1,f1⟩
   try simp_arith [and_self]
   rw [hX];clear hX;simp only [yd]
   refine Ok.seqX fun X hX=>?_
   simp_arith [and_self]
   refine Ok.bind (zjY gn M1) ?_
   rintro t M2 ⟨F,ts,rfl,g2,hb,nl,f2⟩
   try simp_arith [and_self]
   refine Ok.bind (ziQ gn M2) ?_
   rintro t M3 ⟨us,rfl,hu,u0,u1,f3⟩
   have ad:qo (.ref F) (.lst us) M3 = .ok (.lst (ts ++ us)) M3:=by
    unfold qo
    simp only [zaw (f3.get0 g2),show qm (.lst us) M3 = some us from rfl]
    exact if_pos (by rw [sizeLine_eq];omega)
   simp_arith [ad]
   rw [hX];clear hX;simp only [yd]
   have p3:PO M.length M3:=(p1.fr f2 (by simp)).fr f3 (by simp)
   obtain ⟨W,hW⟩:∃ W,W = ts ++ us:=⟨_,rfl⟩
   have nW:0 < W.length/\W.length<=5000:=by rw [hW,Qm];omega
   have bW:∀ t ∈ W,BT t:=fun t ht=>by
    rw [hW] at ht
    exact (mem_append.mp ht).elim (hb t) (hu t)
   rw [← hW]
   clear hW ad hb hu
   refine Ok.seqX fun X hX=>?_
   refine Ok.bind (P:=fun fl M'=>∃ Z,fl = Fl.nx [some (.lst (ns.map .int)),o1,o2,o3,some (.int (k:Int)),some (.ref M.length),some (zH n),some (.lst Z)]/\(∀ t ∈ Z,BT t)) ?_ ?_
   ·by_cases h1:1 < k
    ·simp_arith [Qt (show (1:Int) < (k:Int) by omega),(yT (j:=20) (M:=M3) (by omega)).trans (show _ = .ok ((rgI 20).map FT.T.int) M3 from rfl)]
     refine Ok.bind (Ok.comp (r:=FT.T.int) (fun i acc σ M'=>(∀ t ∈ acc,BT t)/\(∃ o,σ = [o,some (.lst W),some (.ref M.length)])/\PO M.length M') (rgI 20) 0 [] ⟨(fun t ht=>by cases ht),⟨_,rfl⟩,p3⟩ (by rw [qT,sizeLine_eq];simp) ?_) ?_
     ·rintro j x σ M4 acc hj ⟨ha,⟨o,rfl⟩,p4⟩
      simp_arith [and_self]
      refine Ok.bind (zx p4 (by omega) (zee (by omega) (by omega))) ?_
      rintro t M5 ⟨d,rfl,d0,d1,p5,f5⟩
      obtain ⟨t,ht,htm⟩:=zfa (xs:=W) d0 (by omega)
      simp_arith [ht]
      refine Ok.ret ⟨fun u hu=>?_,⟨_,rfl⟩,p5⟩
      rcases mem_append.mp hu with hu | hu
      ·exact ha u hu
      ·rw [mem_singleton.mp hu];exact bW t htm
     ·rintro Z M4 ⟨σ,ha,_,p4⟩
      try simp_arith [and_self]
      exact Ok.ret ⟨Z,rfl,ha⟩
    ·simp_arith [Qu (show ¬ (1:Int) < (k:Int) by omega)]
     exact Ok.ret ⟨W,rfl,bW⟩
   rintro fl M4 ⟨Z,rfl,hZ⟩
   rw [hX];clear hX;simp only [yd]
   refine Ok.seqX fun X hX=>?_
   simp_arith [and_self]
   rw [show Z = Z.map (fun x:FT.T=>x) from (map_id' Z).symm]
   refine Ok.bind (Ok.for (r:=fun x:FT.T=>x) (fun i σ M'=>(∃ o3,σ = [some (.lst (ns.map .int)),o1,o2,o3,some (.int (k:Int)),some (.ref M.length),some (zH n),some (.lst (Z.map fun x:FT.T=>x))])/\M' = M4) ⟨⟨_,rfl⟩,rfl⟩ ?_) ?_
   ·rintro j t σ M5 ht ⟨⟨o3,rfl⟩,rfl⟩
    have bt:=hZ t (Q9 ht)
    have ie:=zc4 bt.np M5
    rw [bt.no] at ie
    obtain ⟨b,hbq⟩:=zjU M5 19 bt.pd (zkJ gn)
    have ne:neX t (zH n) M5 = .ok (.bl (!b)) M5:=by unfold neX;rw [hbq]
    unfold zhs
    cases b with
    | true=>simp_arith [ne];exact Ok.ret ⟨_,rfl,⟨_,rfl⟩,rfl⟩
    | false=>simp_arith [ne,ie];exact Ok.ret ⟨_,rfl,⟨_,rfl⟩,rfl⟩
   rintro fl M5 ⟨σ,rfl,⟨o3,rfl⟩,rfl⟩
   rw [hX];clear hX;simp only [yd]
   have ie:=fun M=>zc4 (zkS gn) M
   rw [zjp gn] at ie
   simp_arith [ie]
   exact Ok.ret ⟨_,rfl,_,_,_,_,_,_,_,rfl⟩
  ·rintro fl M ⟨σ,rfl,o1,o2,o3,o4,o5,o6,o7,rfl⟩
   rw [hX];clear hX;simp only [yd]
   simp_arith [and_self]
   exact Ok.ret rfl
 obtain ⟨t,M,e,rfl⟩:=key
 exact ⟨M,e⟩
end My
theorem My.e1 {α:Type} {P:List α->Prop} (h:∀ a,P [a]):∀ us:List α,us.length = 1->P us
 | [a],_=>h a
theorem My.e2 {α:Type} {P:List α->Prop} (h:∀ a b,P [a,b]):∀ us:List α,us.length = 2->P us
 | [a,b],_=>h a b
theorem My.e3 {α:Type} {P:List α->Prop} (h:∀ a b c,P [a,b,c]):∀ us:List α,us.length = 3->P us
 | [a,b,c],_=>h a b c
theorem My.e4 {α:Type} {P:List α->Prop} (h:∀ a b c d,P [a,b,c,d]):∀ us:List α,us.length = 4->P us
 | [a,b,c,d],_=>h a b c d
local macro_rules | `(tactic| rfl') => do
 let K:=Lean.mkIdent `KX
 let G:=Lean.mkIdent `G
 `(tactic| (dsimp only [L2.KOf];refine' L2.zK $K $G ?a ?l ?c ?k ?b;(case a=>k_is);(case l=>k_is);(case c=>k_is);(case k=>k_is)))
open PySem PySem.W PyProof.Rows
set_option maxRecDepth 100000 in
set_option maxHeartbeats 0 in
theorem PySem.Challenge.cw_tryweir_k35_what_is_no_net_holds : PySem.Challenge.rw_tryweir_k35_what_is_no_net.Holds := by
 refine My.hdD.2 ?_
 dsimp only [My.hdD]
 k_fill
 refine L2.zhB (l:=PySem.Challenge.rw_tryweir_k35_what_is_no_net) (n:=63) (k:=6) (x:="script") (CX:=L2.CX0) (sp:=fun K=>FT.spT K My.zeb) rfl (by decide) rfl ⟨rfl,by decide,by decide⟩ (fun w h Y=>PySem.W.kIn_of Y) ?F ?S ?C
 case F=>
  intro w mg fa h KX G hmg
  have ue:L2.Df (L2.KOf KX) mg "is_tuple_of" My.zaC ["thing","size"]:=by rfl';exact fun _ _ _ _ _ _=>My.e2 fun _ _=>rfl
  have uo:L2.Df (L2.KOf KX) mg "is_word" My.zbZ ["thing"]:=by rfl';exact fun _ _ _ _ _ _=>My.e1 fun _=>rfl
  have uh:L2.Df (L2.KOf KX) mg "are_named" My.zbh ["thing","size","least","most"]:=by rfl';exact fun _ _ _ _ _ _=>My.e4 fun _ _ _ _=>rfl
  have um:L2.Df (L2.KOf KX) mg "is_whole" My.zbG ["thing"]:=by rfl';exact fun _ _ _ _ _ _=>My.e1 fun _=>rfl
  have ui:L2.Df (L2.KOf KX) mg "is_within" My.zbg ["thing","low","high"]:=by rfl';exact fun _ _ _ _ _ _=>My.e3 fun _ _ _=>rfl
  have uq:L2.Df (L2.KOf KX) mg "is_ask" My.zcH ["thing","later","purses"]:=by rfl';exact fun _ _ _ _ _ _=>My.e3 fun _ _ _=>rfl
  have ul:L2.Df (L2.KOf KX) mg "are_asks" My.zbH ["thing","later","purses"]:=by rfl';exact fun _ _ _ _ _ _=>My.e3 fun _ _ _=>rfl
  have ur:L2.Df (L2.KOf KX) mg "is_net" My.zcG ["thing"]:=by rfl';exact fun _ _ _ _ _ _=>My.e1 fun _=>rfl
  have ux:L2.Df (L2.KOf KX) mg "_law_dig" My.zdl ["cell"]:=by rfl';exact fun _ _ _ _ _ _=>My.e1 fun _=>rfl
  have uw:L2.Df (L2.KOf KX) mg "_law_next" My.zcC ["pool","base"]:=by rfl';exact fun _ _ _ _ _ _=>My.e2 fun _ _=>rfl
  have up:L2.Df (L2.KOf KX) mg "_law_words" My.zbY ["pool","many"]:=by rfl';exact fun _ _ _ _ _ _=>My.e2 fun _ _=>rfl
  have ut:L2.Df (L2.KOf KX) mg "_law_asks" My.zcF ["pool","later","purses","most"]:=by rfl';exact fun _ _ _ _ _ _=>My.e4 fun _ _ _ _=>rfl
  have uz:L2.Df (L2.KOf KX) mg "_law_net" My.zdk ["pool"]:=by rfl';exact fun _ _ _ _ _ _=>My.e1 fun _=>rfl
  have uv:L2.Df (L2.KOf KX) mg "_law_cell" My.zcD ["script","k"]:=by rfl';exact fun _ _ _ _ _ _=>My.e2 fun _ _=>rfl
  have uA:L2.Df (L2.KOf KX) mg "_law_put" My.zdj ["things","at","thing"]:=by rfl';exact fun _ _ _ _ _ _=>My.e3 fun _ _ _=>rfl
  have uu:L2.Df (L2.KOf KX) mg "_law_bent" My.zcE ["net","pool"]:=by rfl';exact fun _ _ _ _ _ _=>My.e2 fun _ _=>rfl
  have us:L2.Df (L2.KOf KX) mg "_law_wide" My.zcB ["net"]:=by rfl';exact fun _ _ _ _ _ _=>My.e1 fun _=>rfl
  have uB:mg "tuple" = none:=by refine' PySem.W.mg_none_of KX G ?z18;k_is
  have uf:mg "isinstance" = none:=by refine' PySem.W.mg_none_of KX G ?z19;k_is
  have uF:mg "len" = none:=by refine' PySem.W.mg_none_of KX G ?z20;k_is
  have uH:mg "str" = none:=by refine' PySem.W.mg_none_of KX G ?z21;k_is
  have uE:mg "all" = none:=by refine' PySem.W.mg_none_of KX G ?z22;k_is
  have uL:mg "set" = none:=by refine' PySem.W.mg_none_of KX G ?z23;k_is
  have uJ:mg "int" = none:=by refine' PySem.W.mg_none_of KX G ?z24;k_is
  have uD:mg "bool" = none:=by refine' PySem.W.mg_none_of KX G ?z25;k_is
  have uj:mg "enumerate" = none:=by refine' PySem.W.mg_none_of KX G ?z26;k_is
  have uI:mg "sum" = none:=by refine' PySem.W.mg_none_of KX G ?z27;k_is
  have uK:mg "max" = none:=by refine' PySem.W.mg_none_of KX G ?z28;k_is
  have uy:mg "range" = none:=by refine' PySem.W.mg_none_of KX G ?z29;k_is
  have uG:mg "min" = none:=by refine' PySem.W.mg_none_of KX G ?z30;k_is
  have uC:mg "list" = none:=by refine' PySem.W.mg_none_of KX G ?z31;k_is
  have ub:∃ t,mg "MOST_LETTERS" = some (.int 8 t):=by
   have h:∃ v,mg "MOST_LETTERS" = some v/\∃ t,v = .int 8 t:=by
    refine' ⟨_,PySem.W.mg_of KX G ?z32,?y32⟩
    (case z32=>k_is)
    exact ⟨_,rfl⟩
   obtain ⟨v,h1,t,h2⟩:=h
   exact ⟨t,by rw [h1,h2]⟩
  have ug:∃ t,mg "MOST_TRIES" = some (.int 4 t):=by
   have h:∃ v,mg "MOST_TRIES" = some v/\∃ t,v = .int 4 t:=by
    refine' ⟨_,PySem.W.mg_of KX G ?z33,?y33⟩
    (case z33=>k_is)
    exact ⟨_,rfl⟩
   obtain ⟨v,h1,t,h2⟩:=h
   exact ⟨t,by rw [h1,h2]⟩
  have ua:∃ t,mg "MOST_ASKS_OF_ONE" = some (.int 3 t):=by
   have h:∃ v,mg "MOST_ASKS_OF_ONE" = some v/\∃ t,v = .int 3 t:=by
    refine' ⟨_,PySem.W.mg_of KX G ?z34,?y34⟩
    (case z34=>k_is)
    exact ⟨_,rfl⟩
   obtain ⟨v,h1,t,h2⟩:=h
   exact ⟨t,by rw [h1,h2]⟩
  have ud:∃ t,mg "MOST_HOUSES" = some (.int 4 t):=by
   have h:∃ v,mg "MOST_HOUSES" = some v/\∃ t,v = .int 4 t:=by
    refine' ⟨_,PySem.W.mg_of KX G ?z35,?y35⟩
    (case z35=>k_is)
    exact ⟨_,rfl⟩
   obtain ⟨v,h1,t,h2⟩:=h
   exact ⟨t,by rw [h1,h2]⟩
  have uc:∃ t,mg "MOST_PURSES" = some (.int 2 t):=by
   have h:∃ v,mg "MOST_PURSES" = some v/\∃ t,v = .int 2 t:=by
    refine' ⟨_,PySem.W.mg_of KX G ?z36,?y36⟩
    (case z36=>k_is)
    exact ⟨_,rfl⟩
   obtain ⟨v,h1,t,h2⟩:=h
   exact ⟨t,by rw [h1,h2]⟩
  have un:∃ t,mg "MOST_PER" = some (.int 9 t):=by
   have h:∃ v,mg "MOST_PER" = some v/\∃ t,v = .int 9 t:=by
    refine' ⟨_,PySem.W.mg_of KX G ?z37,?y37⟩
    (case z37=>k_is)
    exact ⟨_,rfl⟩
   obtain ⟨v,h1,t,h2⟩:=h
   exact ⟨t,by rw [h1,h2]⟩
  have uk:∃ t,mg "MOST_ASKS" = some (.int 6 t):=by
   have h:∃ v,mg "MOST_ASKS" = some v/\∃ t,v = .int 6 t:=by
    refine' ⟨_,PySem.W.mg_of KX G ?z38,?y38⟩
    (case z38=>k_is)
    exact ⟨_,rfl⟩
   obtain ⟨v,h1,t,h2⟩:=h
   exact ⟨t,by rw [h1,h2]⟩
  have L:=by
   refine' L2.zk2 (st:=My.zfW) KX G ?la ?ll ?lc ?lk ?lb
   (case la=>k_is);(case ll=>k_is);(case lc=>k_is);(case lk=>k_is)
   exact fun _ _ _ _ _ _ s u=>.of_eq rfl
  obtain ⟨f,fd,F,g,hb⟩:=L
  have e:=hmg.symm.trans g
  cases e
  have T:My.Txt mg:=⟨uB,uf,uF,uH,uE,uL,uJ,uD,uj,uI,uK,uy,uG,uC,ub,ug,ua,ud,uc,un,uk⟩
  refine ⟨fd,hb,fun base _ _=>?_⟩
  have qv:=My.qv (P:=My.pg) (w:=w) (base:=base) ue T
  have zaB:=My.zaB (P:=My.pg) (w:=w) (base:=base) uo T
  have zQ:=My.zQ uh T qv zaB
  have zae:=My.zae (P:=My.pg) (w:=w) (base:=base) um T
  have yG:=My.yG ui T zae
  have za7:=My.za7 uq T qv yG
  have zaf:=My.zaf ul T za7
  have zO:=My.zO ur T qv zQ zaf yG
  have zbx:=My.zbx (P:=My.pg) (w:=w) (base:=base) ux T
  have yn:=My.yn (P:=My.pg) (w:=w) (base:=base) uw T
  have z8:=My.z8 up T yn
  have za6:=My.za6 ut T yn
  have zbw:=My.zbw uz T z8 yn za6
  have za4:=My.za4 (P:=My.pg) (w:=w) (base:=base) uv T
  have qV:=My.qV (P:=My.pg) (w:=w) (base:=base) uA T
  have za5:=My.za5 uu T qV
  have za3:=My.za3 (P:=My.pg) (w:=w) (base:=base) us T
  exact My.zkR F T zO zbx zbw za4 za5 za3 yn
 case S=>
  intro K H a ns hl _ hS
  obtain ⟨M,h⟩:=My.law_true ns hl
  exact FT.zjw hS h
 case C=>exact fun _ _ _ _ z=>z
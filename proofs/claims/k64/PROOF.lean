import PyProof.Rows.All
import KE.KDictList
import KE.KDictOf
import KE.KFromBytes
import KE.KIsAll
import KE.KItem
import KE.KRevIter
import Lean
import PySem.Challenge.RW_tryweir_k64_whole_failed_together
open PySem.W (Frag)
open List (mem_filter mem_range filterMap_cons mem_cons_self mem_cons_of_mem mem_cons mem_append mem_append_left getElem?_set_ne mem_filterMap mem_append_right length_cons map_cons length_map append_nil nodup_cons of_mem_zip length_take getElem?_append_right getElem?_append_left getElem?_map mem_of_getElem? length_append length_replicate size_toArray length_set all_cons replicate_succ flatten_cons append_assoc length_singleton map_nil find?_cons any_cons lookup_cons all_eq_true getElem_of_mem getElem_mem nil_append mem_singleton sum_append take_length contains_cons length_nil getElem?_set getElem?_take getElem?_eq_getElem mem_map getElem_toArray map_append map_take getElem?_cons_succ mem_iff_getElem? getD_eq_getElem?_getD map_map set_append_right getElem?_eq_none not_mem_nil take_succ foldl_append)
set_option Elab.async false
set_option linter.all false
set_option maxRecDepth 100000
local macro_rules | `(tactic| ac_rfl) => `(tactic| exact ⟨rfl, rfl, rfl, by decide +kernel, rfl, by decide +kernel, by decide +kernel⟩)
abbrev Q0:=@List.getElem?_eq_getElem
abbrev Q2:=@PySem.wpAny_bind
abbrev Q3:=@PySem.Heap.get?_push_of_some
abbrev Q4:=@Nat.le_refl
abbrev Q5:=@Bool.false_ne_true
abbrev Q6:=@Nat.lt_of_lt_of_le
abbrev Q7:=@List.getElem?_append_left
abbrev Q8:=@List.getD_eq_getElem?_getD
abbrev Q9:=@List.getElem?_append_right
abbrev Qa:=@Int.fmod_eq_emod_of_nonneg
abbrev Qb:=@List.mem_of_getElem?
abbrev Qc:=@List.getElem?_map
abbrev Qd:=@List.getElem?_set
abbrev Qe:=@Option.some.inj
abbrev Qf:=@PySem.Heap.lt_size
abbrev Qg:=@PySem.wpAny_pure
abbrev Qh:=@PySem.wpAny_mono
abbrev Qi:=@List.length_map
abbrev Qj:=@List.size_toArray
abbrev Qk:=@Nat.le_trans
abbrev Ql:=@Nat.ne_of_lt
abbrev Qm:=@PySem.Heap.get?_push_size
abbrev Qn:=@List.mem_append_right
abbrev Qo:=@List.length_append
abbrev Qp:=@Nat.lt_irrefl
abbrev Qq:=@List.length_cons
abbrev Qr:=@PySem.Heap.get?_update_other
abbrev Qs:=@List.map_append
abbrev Qu:=@Bool.and_eq_true
abbrev Qv:=@PySem.wpAny_newObj_type
abbrev Qw:=@List.length_singleton
abbrev Qx:=@decide_eq_true
abbrev Qy:=@decide_eq_false
abbrev Qz:=@beq_self_eq_true
namespace My
open PySem
noncomputable def zrn:Stmt->Bool
 | .Assign [.Name x _] _ _=>!(x == "__name__")
 | _=>true
noncomputable abbrev pg:Program:=PySem.Challenge.rw_tryweir_k64_whole_failed_together.prog
noncomputable def vw:Program:={ pg with main:={ pg.main with body:=pg.main.body.filter zrn } }
end My
section
open PySem PySem.W PyProof.Rows in
local macro_rules | `(tactic| o_head $H) => `(tactic| refine holds_open (q := My.vw) (loose := []) (Xt := fun s => xlAt My.vw [] s && recOk (RowW.records (OpenRow.toRowW (OpenLaw.row PySem.Challenge.rw_tryweir_k64_whole_failed_together))) s) (XP := XL My.vw []) (Yf := Hook.obs $H) (Ya := Hook.val $H) (YP := Hook.says $H) (N := 40000) (by intro w; kernel_rfl) (Hook.of $H) (Hook.keeps $H) (fun s e => xl_of s (Bool.and_eq_true_iff.mp e).1) XL.keeps (by rfl) (by rfl) (by rfl) (fun s e => recFacts_of (Bool.and_eq_true_iff.mp e).2) (by rfl) (by first | assumption | decide +kernel) (by decide +kernel) ⟨rfl, rfl, rfl, rfl, rfl, by decide +kernel⟩ ?hw ?hc)
open PySem PySem.W PyProof.Rows in
set_option maxHeartbeats 0 in
noncomputable def My.hdD:Σ' P:Prop,P->PySem.Challenge.rw_tryweir_k64_whole_failed_together.Holds:=by
 refine ⟨?P,fun hc=>?_⟩
 rotate_left
 ·w_on;o_law;k_head;(case hw=>w_witness2)
  exact hc
end
namespace L2
open PySem PySem.Spec PyProof.Rows
noncomputable abbrev Key:=Sum Int Str
noncomputable def zmn:Key->Value->Bool
 | .inl k,v=>Value.isInt k v
 | .inr x,v=>Value.isStrOf x v
noncomputable def zrl (w:World):Key->Int
 | .inl k=>hashInt k
 | .inr x=>hashStr w x
theorem yO:∀ {k:Key} {v:Value},zmn k v = true->(∃ i t,k = Sum.inl i/\v = Value.int i t)\/(∃ x t,k = Sum.inr x/\v = Value.str x t)
 | .inl i,v,h=>by
  obtain ⟨t,e⟩:=Value.isInt_shape (k:=i) (v:=v) h
  exact .inl ⟨i,t,rfl,e⟩
 | .inr x,v,h=>by
  obtain ⟨t,e⟩:=Value.isStrOf_shape (x:=x) (v:=v) h
  exact .inr ⟨x,t,rfl,e⟩
theorem zpf (a b:Int):decide ((Sum.inl a:Key) = Sum.inl b) = (a == b):=by
 by_cases e:a = b
 ·subst e;simp
 ·have h:¬ (Sum.inl a:Key) = Sum.inl b:=fun q=>e (Sum.inl.inj q)
  rw [Qy h]
  exact (beq_eq_false_iff_ne.mpr e).symm
theorem zpc (a b:Str):decide ((Sum.inr a:Key) = Sum.inr b) = decide (a = b):=by
 by_cases e:a = b
 ·subst e;simp
 ·have h:¬ (Sum.inr a:Key) = Sum.inr b:=fun q=>e (Sum.inr.inj q)
  rw [Qy h,Qy e]
theorem zpe (a:Int) (b:Str):decide ((Sum.inl a:Key) = Sum.inr b) = false:=Qy (fun q=>nomatch q)
theorem zpd (a:Str) (b:Int):decide ((Sum.inr a:Key) = Sum.inl b) = false:=Qy (fun q=>nomatch q)
noncomputable def ziH (prog:Program) (w:World):PySem.KeyKind prog w Key where
 is:=zmn
 hash:=zrl w
 inj:=fun v a b ha hb=>by
  rcases yO ha with ⟨i,t,rfl,rfl⟩ | ⟨x,t,rfl,rfl⟩
  ·rcases yO hb with ⟨j,u,rfl,e⟩ | ⟨y,u,rfl,e⟩
   ·injection e with e1 _;rw [e1]
   ·exact nomatch e
  ·rcases yO hb with ⟨j,u,rfl,e⟩ | ⟨y,u,rfl,e⟩
   ·exact nomatch e
   ·injection e with e1 _;rw [e1]
 byValue:=fun k v h=>by
  rcases yO h with ⟨i,t,rfl,rfl⟩ | ⟨x,t,rfl,rfl⟩ <;> rfl
 pyHash:=fun hv h=>by
  rcases yO hv with ⟨i,t,rfl,rfl⟩ | ⟨x,t,rfl,rfl⟩
  ·exact wpAny_pyHash_int h
  ·exact wpAny_pyHash_str h
 eqBool:=fun hu hv h=>by
  rcases yO hu with ⟨i,t,rfl,rfl⟩ | ⟨x,t,rfl,rfl⟩
  ·rcases yO hv with ⟨j,u,rfl,rfl⟩ | ⟨y,u,rfl,rfl⟩
   ·rw [zpf] at h;exact wpAny_eqBool_int h
   ·rw [zpe] at h;exact SeqAt.EqAt.int_str i t y u _ _ _ _ h
  ·rcases yO hv with ⟨j,u,rfl,rfl⟩ | ⟨y,u,rfl,rfl⟩
   ·rw [zpd] at h;exact SeqAt.EqAt.str_int x t j u _ _ _ _ h
   ·rw [zpc] at h;exact wpAny_eqBool_str h
 «strs»:=fun k x t v h=>by
  rcases yO h with ⟨i,u,rfl,e⟩ | ⟨y,u,rfl,e⟩
  ·exact nomatch e
  ·injection e with e1 _
   subst e1
   cases v <;> rfl
inductive V where
 | non | bl (b:Bool) | int (i:Int) | str (x:Str) | byt (b:Array UInt8) | flt (b:UInt64) | ref (a:Addr) | ty (n:String)
 deriving DecidableEq
noncomputable def RelV:V->Value->Prop
 | .non,u=>u = Value.none
 | .bl b,u=>u = Value.bool b
 | .int i,u=>∃ t,u = Value.int i t
 | .str x,u=>∃ t,u = Value.str x t
 | .byt b,u=>∃ t,u = Value.bytes b t
 | .flt b,u=>∃ t,u = Value.float b t
 | .ref a,u=>u = Value.ref a
 | .ty n,u=>u = Value.type n
noncomputable abbrev Vals:List V->List Value->Prop:=Paired RelV
variable {xs:List V} {us:List Value}
theorem Vals.length (r:Vals xs us):xs.length = us.length:=Paired.length r
theorem Vals.get:∀ {xs:List V} {us:List Value} {i:Nat} {x:V},Vals xs us->xs[i]? = some x->∃ u,us[i]? = some u/\RelV x u
 | _,_,_,_,.nil,e=>by simp at e
 | _,_,0,_,.cons r _,e=>by simp at e;subst e;exact ⟨_,rfl,r⟩
 | _,_,i + 1,x,.cons _ t,e=>by
  obtain ⟨u,h1,h2⟩:=Vals.get (i:=i) (x:=x) t (by simpa using e)
  exact ⟨u,by simpa using h1,h2⟩
theorem Vals.set {x:V} {u:Value} (r:RelV x u):∀ {xs:List V} {us:List Value} (i:Nat),Vals xs us->Vals (xs.set i x) (us.set i u)
 | _,_,_,.nil=>.nil
 | _,_,0,.cons _ t=>.cons r t
 | _,_,i + 1,.cons q t=>.cons q (Vals.set r i t)
theorem Vals.append:∀ {xs ys:List V} {us ws:List Value},Vals xs us->Vals ys ws->Vals (xs ++ ys) (us ++ ws)
 | _,_,_,_,.nil,s=>s
 | _,_,_,_,.cons r t,s=>.cons r (Vals.append t s)
theorem Vals.take:∀ {xs:List V} {us:List Value} (n:Nat),Vals xs us->Vals (xs.take n) (us.take n)
 | _,_,0,_=>.nil
 | _,_,_ + 1,.nil=>.nil
 | _,_,n + 1,.cons r t=>.cons r (Vals.take n t)
theorem Vals.drop:∀ {xs:List V} {us:List Value} (n:Nat),Vals xs us->Vals (xs.drop n) (us.drop n)
 | _,_,0,r=>r
 | _,_,_ + 1,.nil=>.nil
 | _,_,n + 1,.cons _ t=>Vals.drop n t
theorem Vals.none_of:∀ {xs:List V} {us:List Value} {i:Nat},Vals xs us->xs[i]? = none->us[i]? = none:=fun {xs us i} r e=>by
 have h1:=r.length
 have h2:xs.length<=i:=List.getElem?_eq_none_iff.mp e
 exact List.getElem?_eq_none_iff.mpr (by omega)
noncomputable def RelO:Option V->Option Value->Prop
 | some v,some u=>RelV v u
 | none,none=>True
 | _,_=>False
noncomputable def KV {κ:Type}:List (κ × V)->List (κ × Value)->Prop:=Paired fun (p:κ × V) (q:κ × Value)=>p.1 = q.1/\RelV p.2 q.2
noncomputable def kV:Key->V
 | .inl i=>.int i
 | .inr x=>.str x
inductive HO where
 | lst (xs:List V)
 | tup (xs:List V)
 | dK (kvs:List (Key × V)) | dT (kvs:List (List Key × V))
 | set (S:Int->Bool) (n:Nat)
 | ins (C dx:Addr) (fs:List (Str × V))
 | own (x:Addr)
 | xd (fs:List (Str × V))
 | met (f x:Addr)
 | rng (lo hi:Int)
 | frz (o:Obj) (u:HO)
 | tbl (ps:Array Value)
 | ext (φ:Heap->Prop)
noncomputable abbrev Hp:=Addr->Option HO
noncomputable def upd (H:Hp) (a:Addr) (o:HO):Hp:=fun b=>if b = a then some o else H b
variable {o:HO} {H:Hp}
theorem yt {a:Addr} :upd H a o a = some o:=by unfold upd;rw [if_pos rfl]
theorem yh {a b:Addr} (h:b ≠ a):upd H a o b = H b:=by unfold upd;rw [if_neg h]
theorem zen {a b:Addr} {u:HO} (h:H a = some o) (h':H b = some u) (d:o ≠ u):a ≠ b:=by
 intro e;subst e;rw [h] at h';exact d (Qe h')
theorem yA {a b:Addr} (h:H a = some o) (h':H b = none):a ≠ b:=by
 intro e;subst e;rw [h] at h';cases h'
def NoDict (h:Heap) (a:Addr):Prop:=∀ o,h.get? a = some o->o.dict = none
variable {h:Heap} {n:Nat}
theorem NoDict.new {its:Array Value} {n:Nat}:NoDict (h.push { cls:=.type "tuple",data:=.seq its n }) h.objs.size:=fun o e=>by
 rw [Qm _ rfl] at e;cases e;rfl
section
variable (P:Program) (w:World)
noncomputable def ObjOk (H:Hp) (h:Heap) (a:Addr):HO->Prop
 | .lst xs=>xs.length<=sizeLine/\∃ (its:List Value) (n:Nat),Vals xs its/\h.get? a = some { cls:=.type "list",data:=.seq its.toArray n }
 | .tup xs=>xs.length<=sizeLine/\∃ its:List Value,Vals xs its/\IsTup h a its.toArray/\NoDict h a
 | .dK kvs=>kvs.length<=sizeLine/\(a == sysModules) = false/\∃ vs,KV kvs vs/\h.DictOf (ziH P w) a vs
 | .dT kvs=>kvs.length<=sizeLine/\(a == sysModules) = false/\∃ xs:List (List Key × Addr × Value),
   Paired (fun (p:List Key × V) (q:List Key × Addr × Value)=>p.1 = q.1/\H q.2.1 = some (.tup (p.1.map kV))/\RelV p.2 q.2.2) kvs xs /\
   ∃ o es ep,h.get? a = some o/\o.ExactDict/\o.data = .dict es ep/\es.toList = xs.map (entryOfKey (tupleKind (ziH P w)))/\(xs.map (·.1)).Nodup
 | .set S n=>h.SetOf (intKind P w) a S n
 | .ins C dx fs=>H dx = some (.own a)/\fs.length<=1000/\dx ≠ a/\h.get? a = some (PySem.W.instObj C dx) /\
   ∃ mA,h.Ns1 dx mA/\(∀ f,RelO (fs.lookup f) (mA f))/\PySem.Within mA (fs.map (·.1))
 | .own _=>∃ o,h.get? a = some o
 | .xd fs=>∃ mA,h.Ns1 a mA/\∀ f,RelO (fs.lookup f) (mA f)
 | .rng lo hi=>∃ t u v,h.get? a = some { cls:=.type "range",data:=.fields #[.int lo t,.int hi u,.int 1 v] }
 | .frz o u=>h.get? a = some o/\ObjOk H h a u
 | .tbl ps=>h.get? a = some { cls:=.none,data:=.fields ps }
 | .met f x=>h.get? a = some (PySem.W.methodObj (.ref f) (.ref x))
 | .ext φ=>φ h/\(∃ o,h.get? a = some o)/\∀ h1 h2:Heap,φ h1->(∀ o,h1.get? a = some o->h2.get? a = some o)->φ h2
def HOk (H:Hp) (h:Heap):Prop:=∀ a o,H a = some o->ObjOk P w H h a o
end
variable {h':Heap} {H':Hp} {P:Program} {w:World}
section
variable {a:Addr}
theorem ObjOk.lt (x:ObjOk P w H h a o):a < h.objs.size:=by
 cases o with
 | lst xs=>obtain ⟨_,_,_,_,e⟩:=x;exact Qf e
 | tup xs=>obtain ⟨_,_,_,p,_⟩:=x;exact p.lt
 | dK kvs=>obtain ⟨_,_,_,_,o,_,_,e,_⟩:=x;exact Qf e
 | dT kvs=>obtain ⟨_,_,_,_,o,_,_,e,_⟩:=x;exact Qf e
 | set S n=>obtain ⟨o,_,_,_,e,_⟩:=x;exact Qf e
 | ins C dx fs=>obtain ⟨_,_,_,e,_⟩:=x;exact Qf e
 | own y=>obtain ⟨_,e⟩:=x;exact Qf e
 | xd fs=>obtain ⟨_,⟨_,_,_,e,_⟩,_⟩:=x;exact Qf e
 | rng lo hi=>obtain ⟨_,_,_,e⟩:=x;exact Qf e
 | frz ob u=>obtain ⟨e,_⟩:=x;exact Qf e
 | tbl ps=>exact Qf (show h.get? a = some _ from x)
 | met f y=>exact Qf (show h.get? a = some _ from x)
 | ext φ=>obtain ⟨_,⟨_,e⟩,_⟩:=x;exact Qf e
theorem Paired.mapP {α β:Type} {F G:α->β->Prop}:∀ {l₁:List α} {l₂:List β},Paired F l₁ l₂->(∀ a b,F a b->G a b)->Paired G l₁ l₂
 | _,_,.nil,_=>.nil
 | _,_,.cons r t,f=>.cons (f _ _ r) (Paired.mapP t f)
theorem ObjOk.stay (x:ObjOk P w H h a o) (k:∀ b u,(b = a\/H b = some (.own a))->h.get? b = some u->h'.get? b = some u)
  (ho:∀ b,H b = some (.own a)->H' b = some (.own a)) (ht:∀ b xs,H b = some (.tup xs)->H' b = some (.tup xs)):ObjOk P w H' h' a o:=by
 induction o with
 | lst xs=>obtain ⟨z,its,n,r,e⟩:=x;exact ⟨z,its,n,r,k _ _ (.inl rfl) e⟩
 | tup xs=>obtain ⟨z,its,r,⟨ob,e,c⟩,nd⟩:=x;exact ⟨z,its,r,⟨ob,k _ _ (.inl rfl) e,c⟩,fun o q=>nd o (by rw [k _ _ (.inl rfl) e] at q;rw [e];exact q)⟩
 | dK kvs=>obtain ⟨z,y,vs,r,ob,es,ep,e,c⟩:=x;exact ⟨z,y,vs,r,ob,es,ep,k _ _ (.inl rfl) e,c⟩
 | dT kvs=>
  obtain ⟨z,y,xs,r,ob,es,ep,e,c⟩:=x
  exact ⟨z,y,xs,Paired.mapP r fun p q z=>⟨z.1,ht _ _ z.2.1,z.2.2⟩,ob,es,ep,k _ _ (.inl rfl) e,c⟩
 | set S n=>obtain ⟨ob,es,ep,t,e,c⟩:=x;exact ⟨ob,es,ep,t,k _ _ (.inl rfl) e,c⟩
 | ins C dx fs=>
  obtain ⟨d,z,ne,e,mA,⟨od,es,ep,e2,c⟩,r⟩:=x
  exact ⟨ho _ d,z,ne,k _ _ (.inl rfl) e,mA,⟨od,es,ep,k _ _ (.inr d) e2,c⟩,r⟩
 | own y=>obtain ⟨ob,e⟩:=x;exact ⟨ob,k _ _ (.inl rfl) e⟩
 | xd fs=>obtain ⟨mA,⟨od,es,ep,e,c⟩,r⟩:=x;exact ⟨mA,⟨od,es,ep,k _ _ (.inl rfl) e,c⟩,r⟩
 | rng lo hi=>obtain ⟨t,u,v,e⟩:=x;exact ⟨t,u,v,k _ _ (.inl rfl) e⟩
 | frz ob u ih=>obtain ⟨e,q⟩:=x;exact ⟨k _ _ (.inl rfl) e,ih q⟩
 | tbl ps=>
  have e:h.get? a = some { cls:=.none,data:=.fields ps }:=x
  show h'.get? a = some { cls:=.none,data:=.fields ps }
  exact k a _ (.inl rfl) e
 | met f y=>
  have e:h.get? a = some (PySem.W.methodObj (.ref f) (.ref y)):=x
  show h'.get? a = some (PySem.W.methodObj (.ref f) (.ref y))
  exact k a _ (.inl rfl) e
 | ext φ=>obtain ⟨p,⟨o,e⟩,st⟩:=x;exact ⟨st _ _ p fun o q=>k _ _ (.inl rfl) q,⟨o,k _ _ (.inl rfl) e⟩,st⟩
theorem HOk.lt (x:HOk P w H h) (e:H a = some o):a < h.objs.size:=(x a o e).lt
theorem HOk.fresh (x:HOk P w H h) (e:h.objs.size<=a):H a = none:=by
 cases q:H a with
 | none=>rfl
 | some u=>exact absurd (Q6 (x.lt q) e) (Qp _)
theorem HOk.kept (x:HOk P w H h) (k:∀ b u,h.get? b = some u->h'.get? b = some u):HOk P w H h':=fun a o e=>
 (x a o e).stay (fun b u _ q=>k b u q) (fun _ q=>q) fun _ _ q=>q
theorem HOk.laid (x:HOk P w H h) (k:∀ b u,h.get? b = some u->h'.get? b = some u) (hp:h.objs.size<=a) (new:ObjOk P w (upd H a o) h' a o):HOk P w (upd H a o) h':=fun b u e=>by
 have hn:=x.fresh hp
 by_cases hb:b = a
 ·subst hb;rw [yt] at e;cases e;exact new
 ·rw [yh hb] at e
  exact (x b u e).stay (fun c v _ q=>k c v q) (fun c q=>by rw [yh (yA q hn)];exact q) fun c xs q=>by rw [yh (yA q hn)];exact q
end
def Rd (H:Hp) (a:Addr) (u:HO):Prop:=H a = some u\/∃ o,H a = some (.frz o u)
theorem Rd.ok {a:Addr} {u:HO} (r:Rd H a u) (x:HOk P w H h):ObjOk P w H h a u:=by
 rcases r with r | ⟨o,r⟩
 ·exact x a u r
 ·obtain ⟨_,q⟩:=x a _ r
  exact q
noncomputable def Mut:Option HO->Prop
 | some (.lst _)=>True
 | some (.dK _)=>True
 | some (.dT _)=>True
 | some (.set _ _)=>True
 | some (.ins _ _ _)=>True
 | some (.ext _)=>True
 | _=>False
section
variable {x e:Addr} {o':HO}
theorem HOk.write (ok:HOk P w H h) (mu:Mut (H x)) (he:e = x\/H e = some (.own x)) (k:∀ b u,b ≠ e->h.get? b = some u->h'.get? b = some u) (heo:∃ u,h'.get? e = some u)
  (new:ObjOk P w (upd H x o') h' x o'):HOk P w (upd H x o') h':=fun b u q=>by
 have nown:∀ c y,H c = some (.own y)->c ≠ x:=fun c y r z=>by subst z;rw [r] at mu;exact mu
 have ntup:∀ c xs,H c = some (.tup xs)->c ≠ x:=fun c xs r z=>by subst z;rw [r] at mu;exact mu
 by_cases hb:b = x
 ·subst hb;rw [yt] at q;cases q;exact new
 ·rw [yh hb] at q
  by_cases hbe:b = e
  ·have q':H b = some (.own x):=by
    rcases he with z | z
    ·exact absurd (hbe.trans z) hb
    ·rw [hbe];exact z
   rw [q] at q';cases q'
   obtain ⟨v,hv⟩:=heo
   exact ⟨v,by rw [hbe];exact hv⟩
  ·refine (ok b u q).stay (fun c v hc r=>k c v ?_ r) (fun c r=>by rw [yh (nown c b r)];exact r) fun c xs r=>by rw [yh (ntup c xs r)];exact r
   rcases hc with rfl | hc
   ·exact hbe
   ·rintro rfl
    rcases he with z | z
    ·exact nown c b hc z
    ·rw [hc] at z;cases z;exact hb rfl
end
structure Un (fs ex:List Addr) (H H':Hp) (h h':Heap):Prop where
 keep:∀ b o,h.get? b = some o->H b = none->b ∉ fs->b ∉ ex->h'.get? b = some o
 slot:∀ b o,h.get? b = some o->H b = none->b ∈ fs->b ∉ ex->∃ sl,h'.get? b = some { o with slots:=sl }
 free:∀ b o,h.get? b = some o->H b = none->b ∉ ex->H' b = none
 there:∀ b o,h.get? b = some o->b ∉ ex->∃ o',h'.get? b = some o'
 tups:∀ b xs,H b = some (.tup xs)->H' b = some (.tup xs)
 frzs:∀ b o u,H b = some (.frz o u)->H' b = some (.frz o u)
 tbls:∀ b ps,H b = some (.tbl ps)->∃ more,H' b = some (.tbl (ps ++ more))
section
variable {fs fs' ex ex':List Addr} {H1 H2:Hp} {h1 h2:Heap} {a x e:Addr}
theorem Un.any (u:Un fs ex H H1 h h1) {b:Addr} {ob:Obj} (q:h.get? b = some ob) (n:H b = none) (hx:b ∉ ex):∃ sl,h1.get? b = some { ob with slots:=sl }:=by
 by_cases hb:b ∈ fs
 ·exact u.slot b ob q n hb hx
 ·exact ⟨ob.slots,u.keep b ob q n hb hx⟩
theorem Un.kept (k:∀ b u,h.get? b = some u->h'.get? b = some u):Un fs ex H H h h':=
 ⟨fun b ob q _ _ _=>k b ob q,fun b ob q _ _ _=>⟨ob.slots,k b ob q⟩,fun _ _ _ n _=>n,fun b ob q _=>⟨ob,k b ob q⟩,fun _ _ q=>q,fun _ _ _ q=>q,fun _ ps q=>⟨#[],by rw [q];simp⟩⟩
theorem Un.refl:Un fs ex H H h h:=Un.kept fun _ _ q=>q
theorem Un.laid (k:∀ b u,h.get? b = some u->h'.get? b = some u) (hp:h.objs.size<=a) (hn:H a = none):Un fs ex H (upd H a o) h h' where
 keep:=fun b u q _ _ _=>k b u q
 slot:=fun b u q _ _ _=>⟨u.slots,k b u q⟩
 free:=fun b u q n _=>by rw [yh (Ql (Q6 (Qf q) hp))];exact n
 there:=fun b u q _=>⟨u,k b u q⟩
 tups:=fun b xs q=>by rw [yh (yA q hn)];exact q
 frzs:=fun b u xs q=>by rw [yh (yA q hn)];exact q
 tbls:=fun b ps q=>⟨#[],by rw [yh (yA q hn),q];simp⟩
theorem Un.write (mu:Mut (H x)) (he:e = x\/H e = some (.own x)) (k:∀ b u,b ≠ e->h.get? b = some u->h'.get? b = some u) (heo:∃ u,h'.get? e = some u):Un fs ex H (upd H x o) h h':=by
 have hx:∀ b,H b = none->b ≠ x:=fun b n z=>by subst z;rw [n] at mu;exact mu
 have hb:∀ b,H b = none->b ≠ e:=fun b n z=>by
  subst z
  rcases he with r | r
  ·exact hx b n r
  ·rw [n] at r;cases r
 have hm:∀ b u,H b = some u->¬ Mut (some u)->b ≠ x:=fun b u q nm z=>by subst z;rw [q] at mu;exact nm mu
 refine ⟨fun b u q n _ _=>k b u (hb b n) q,fun b u q n _ _=>⟨u.slots,k b u (hb b n) q⟩,fun b u q n _=>by rw [yh (hx b n)];exact n,fun b u q _=>?_,
  fun b xs q=>by rw [yh (hm b _ q fun z=>z)];exact q,fun b u xs q=>by rw [yh (hm b _ q fun z=>z)];exact q,fun b ps q=>⟨#[],by rw [yh (hm b _ q fun z=>z),q];simp⟩⟩
 by_cases hbe:b = e
 ·subst hbe;exact heo
 ·exact ⟨u,k b u hbe q⟩
end
noncomputable def trk (h:Heap) (H:Hp):List Addr:=(List.range h.objs.size).filter fun a=>(H a).isSome
noncomputable def zdF (h:Heap) (H:Hp):Heap:=PySem.W.hideAll h (trk h H)
theorem zkt (h:Heap) (H:Hp):(zdF h H).objs.size = h.objs.size:=PySem.W.hideAll_size _ _
theorem zlT {b:Addr} {o:Obj} (e:h.get? b = some o) (n:H b = none):(zdF h H).get? b = some o:=
 PySem.W.hideAll_get _ e fun hm=>by
  have q:(H b).isSome = true:=(mem_filter.mp hm).2
  rw [n] at q;simp at q
theorem znh {b:Addr} {o:Obj} (e:(zdF h H).get? b = some o):h.get? b = some o/\H b = none:=by
 have e':h.get? b = some o:=PySem.W.of_hideAll (trk h H) e
 refine ⟨e',?_⟩
 cases q:H b with
 | none=>rfl
 | some x=>
  have hm:b ∈ trk h H:=mem_filter.mpr ⟨mem_range.mpr (Qf e'),by simp [q]⟩
  have z:(zdF h H).get? b = none:=PySem.W.hideAll_none (trk h H) hm
  rw [z] at e;cases e
noncomputable def zn6 (g h:Heap) (L:Addr):List (Addr × Obj):=(List.range h.objs.size).filterMap fun a=>if a = L\/(g.get? a).isSome = true then none else (h.get? a).map fun o=>(a,o)
noncomputable def rest (g h:Heap) (L d:Addr):List (Addr × Obj):=(zn6 g h L).filter fun p=>decide (p.1 ≠ d)
structure Mod (K:Frag) (mg:Str->Option Value) (base:Heap):Prop where
 kin:K.In base
 glob:base.Ns mainGlobals mg
 blt:∃ mb,base.Ns builtinsNs mb/\∀ x:Str,x ≠ "__name__"->mb x = bootBuiltins x
 nolimit:base.NoLimit
structure Cx where
 prog:Program
 w:World
 K:Frag
 mg:Str->Option Value
 base:Heap
 A:Around
 N:List Str
 s₀:Shared
 H₀:Hp
 env:Env
 outer:List Env
 stack:List Env
 ex:List Addr
 fn:Str->Bool
 calm:Bool
 pn:List (Addr × Obj)
 xe:Value->Shared->Prop
noncomputable def frs (l:List Env):List Addr:=l.filterMap (·.frame)
noncomputable abbrev Cx.fs (X:Cx):List Addr:=frs X.outer
def Vis (sc:Scope) (x:Str):Prop:=sc.names.lookup x = some .local\/sc.names.lookup x = some .cell\/sc.names.lookup x = some .free
def Loc (sc:Scope) (x:Str):Prop:=sc.names.lookup x = some .local\/sc.names.lookup x = some .cell
def Look (env:Env) (h:Heap) (m:Str->Option Value) (x:Str) (u:Value):Prop:=
 (env.kindOf x = some .local/\m x = some u)\/((env.kindOf x = some .cell\/env.kindOf x = some .free)/\∃ c,env.cells.lookup x = some c/\h.IsCell c (some u))
structure Cx.Ok (X:Cx):Prop where
 mod:Mod X.K X.mg X.base
 kind:X.env.scope.kind = .function
 glob:X.env.globals = mainGlobals
 blt:X.env.builtins = builtinsNs
 above:X.s₀.heap.objs.size<=X.env.locals
 inj:∀ x y c,X.env.cells.lookup x = some c->X.env.cells.lookup y = some c->x = y
 has:∀ x,(X.env.kindOf x = some .cell\/X.env.kindOf x = some .free)->∃ c,X.env.cells.lookup x = some c
 cab:∀ x c,X.fn x = true->X.env.cells.lookup x = some c->X.s₀.heap.objs.size<=c
 hd:X.calm = true->X.A.handled = none
 frames:X.A.frames = some X.stack
 stk:X.stack = X.outer\/(X.stack = X.env :: X.outer/\X.env.frame = some X.env.locals)
 exf:∀ b ∈ X.ex,b ≠ X.env.locals/\∀ x c,X.env.cells.lookup x = some c->c ≠ b
 bs:∀ b o,X.base.get? b = some o->X.s₀.heap.get? b = some o/\X.H₀ b = none
 bsz:X.base.objs.size<=X.s₀.heap.objs.size
 noex:∀ b o,X.base.get? b = some o->b ∉ X.ex
 exfs:∀ b ∈ X.ex,b ∉ X.fs
 funs:X.s₀.heap.FunFrames X.base X.outer
 frf:∀ b ∈ X.fs,X.H₀ b = none
structure Inv (X:Cx) (pins:List (Addr × Obj)) (σ:List (Option V)) (H:Hp) (s:Shared):Prop where
 ok:X.Ok
 os:s.os = X.s₀.os
 bare:AllBare s.gens
 base:Un X.fs X.ex X.H₀ H X.s₀.heap s.heap
 loc:∃ m,s.heap.Ns X.env.locals m/\∀ (i:Nat) (x:Str) (v:V),X.N[i]? = some x->σ[i]? = some (some v)->Vis X.env.scope x->∃ u,RelV v u/\Look X.env s.heap m x u
 cell:∀ x c,X.env.cells.lookup x = some c->∃ v,s.heap.IsCell c v
 free:H X.env.locals = none
 freeC:∀ x c,X.env.cells.lookup x = some c->H c = none
 pin:∀ p ∈ X.pn ++ pins,s.heap.get? p.1 = some p.2/\H p.1 = none/\p.1 ≠ X.env.locals/\p.1 ∉ X.fs/\∀ v,p.2.data ≠ .cell v
 hok:HOk X.prog X.w H s.heap
 len:σ.length = X.N.length
variable {it:Addr} {A:Around} {g':Array GenState} {X:Cx} {d':Drawn} {pins:List (Addr × Obj)} {ch:List Addr} {N:List Str} {M:Model} {i j t':Nat} {s s':Shared} {x:Str} {v:V} {u:Value} {E:Value->Shared->Prop}
section
variable {σ:List (Option V)}
theorem Cx.Ok.nofr (ok:X.Ok) {b:Addr} {o:Obj} (e:X.base.get? b = some o):b ∉ X.fs:=fun hb=>by
 have:=(ok.funs.mem hb).1
 rw [e] at this;cases this
theorem Inv.bs (I:Inv X pins σ H s):∀ b o,X.base.get? b = some o->s.heap.get? b = some o/\H b = none:=fun b o e=>
 ⟨I.base.keep b o (I.ok.bs b o e).1 (I.ok.bs b o e).2 (I.ok.nofr e) (I.ok.noex b o e),I.base.free b o (I.ok.bs b o e).1 (I.ok.bs b o e).2 (I.ok.noex b o e)⟩
theorem Inv.bk (I:Inv X pins σ H s):∀ b o,X.base.get? b = some o->s.heap.get? b = some o:=fun b o e=>(I.bs b o e).1
theorem Inv.mod (I:Inv X pins σ H s):Mod X.K X.mg X.base:=I.ok.mod
theorem Inv.kIn (I:Inv X pins σ H s):X.K.In s.heap:=I.ok.mod.kin.keeps I.bk
theorem Inv.fr (I:Inv X pins σ H s):∃ m,Fr X.base X.env.locals s.heap m:=
 let ⟨m,hn,_⟩:=I.loc
 ⟨m,hn,I.bk,Qk I.ok.bsz I.ok.above⟩
theorem Inv.lt (I:Inv X pins σ H s):X.env.locals < s.heap.objs.size:=let ⟨_,hn,_⟩:=I.loc;hn.lt
theorem Inv.sz (I:Inv X pins σ H s):X.s₀.heap.objs.size<=s.heap.objs.size:=Qk I.ok.above (Nat.le_of_lt I.lt)
theorem Inv.nofs (I:Inv X pins σ H s) {a:Addr} (h:s.heap.objs.size<=a):a ∉ X.fs:=fun hb=>by
 obtain ⟨_,o,ho,_⟩:=I.ok.funs.mem hb
 exact absurd (Q6 (Qf ho) (Qk I.sz h)) (Qp _)
theorem Inv.cne (I:Inv X pins σ H s):∀ x c,X.env.cells.lookup x = some c->c ≠ X.env.locals:=fun x c e z=>by
 obtain ⟨v,o,ho,hd⟩:=I.cell x c e
 obtain ⟨m,⟨o',es,ep,ho',hd',_⟩,_⟩:=I.loc
 rw [z,ho'] at ho;cases ho;rw [hd'] at hd;cases hd
theorem Inv.funs (I:Inv X pins σ H s):s.heap.FunFrames X.base X.outer:=by
 have all:∀ (l:List Env),(∀ b ∈ frs l,b ∈ X.fs)->X.s₀.heap.FunFrames X.base l->s.heap.FunFrames X.base l:=by
  intro l
  induction l with
  | nil=>intro _ _;trivial
  | cons env r ih=>
   intro hs hl
   obtain ⟨hk,⟨L,o,hf,hn,ho,hd⟩,hr⟩:=hl
   have hL:L ∈ X.fs:=hs L (by unfold frs;rw [filterMap_cons,hf];exact mem_cons_self)
   obtain ⟨sl,e⟩:=I.base.slot L o ho (I.ok.frf L hL) hL fun z=>I.ok.exfs L z hL
   exact ⟨hk,⟨L,_,hf,hn,e,hd⟩,ih (fun b hb=>hs b (by unfold frs;rw [filterMap_cons,hf];exact mem_cons_of_mem _ hb)) hr⟩
 exact all X.outer (fun _ hb=>hb) I.ok.funs
theorem Inv.stack (I:Inv X pins σ H s):s.heap.FunFrames X.base X.stack:=by
 rcases I.ok.stk with e | ⟨e,hf⟩
 ·rw [e];exact I.funs
 ·rw [e]
  obtain ⟨m,hn,_⟩:=I.loc
  refine .cons (by rw [I.ok.kind];decide) hf hn ?_ I.funs
  exact Heap.get?_none_of_le (Qk I.ok.bsz I.ok.above)
theorem Inv.stkSub (I:Inv X pins σ H s):∀ b ∈ frs X.stack,b ∈ X.env.locals :: X.fs:=fun b hb=>by
 rcases I.ok.stk with e | ⟨e,hf⟩
 ·rw [e] at hb;exact mem_cons_of_mem _ hb
 ·rw [e] at hb
  unfold frs at hb
  rw [filterMap_cons,hf] at hb
  exact hb
theorem Inv.stkFree (I:Inv X pins σ H s):∀ b ∈ frs X.stack,H b = none:=fun b hb=>by
 rcases mem_cons.mp (I.stkSub b hb) with e | hb
 ·rw [e];exact I.free
 ·obtain ⟨_,o,ho,_⟩:=I.ok.funs.mem hb
  exact I.base.free b o ho (I.ok.frf b hb) fun z=>I.ok.exfs b z hb
theorem Inv.step {t':Nat} {d':Drawn} (I:Inv X pins σ H s)
 (hch:∀ b ∈ ch,(b ∈ X.ex\/X.s₀.heap.objs.size<=b)/\b ≠ X.env.locals/\(∀ x c,X.env.cells.lookup x = some c->c ≠ b)/\∀ p ∈ X.pn ++ pins,p.1 ≠ b)
 (keep:∀ b o,b ≠ X.env.locals->b ∉ X.fs->b ∉ ch->s.heap.get? b = some o->H b = none->h'.get? b = some o)
 (slot:∀ b o,b ≠ X.env.locals->b ∈ X.fs->b ∉ ch->s.heap.get? b = some o->H b = none->∃ sl,h'.get? b = some { o with slots:=sl }) (free:∀ b o,b ∉ ch->s.heap.get? b = some o->H b = none->H' b = none)
 (there:∀ b o,b ∉ ch->s.heap.get? b = some o->∃ o',h'.get? b = some o')
 (tups:∀ b xs,H b = some (.tup xs)->H' b = some (.tup xs)) (frzs:∀ b o u,H b = some (.frz o u)->H' b = some (.frz o u)) (tbls:∀ b ps,H b = some (.tbl ps)->∃ more,H' b = some (.tbl (ps ++ more)))
 (ns:∀ m,s.heap.Ns X.env.locals m->h'.Ns X.env.locals m) (hok:HOk X.prog X.w H' h') (hg:AllBare g') :
  Inv X pins σ H' { s with heap:=h',gens:=g',drawn:=d',toks:=t' }:=by
 have neL:∀ b o,X.s₀.heap.get? b = some o->b ≠ X.env.locals:=fun b o e=>Ql (Q6 (Qf e) I.ok.above)
 have neC:∀ b o,X.s₀.heap.get? b = some o->b ∉ X.ex->b ∉ ch:=fun b o e hx hb=>by
  rcases (hch b hb).1 with z | z
  ·exact hx z
  ·exact absurd (Q6 (Qf e) z) (Qp _)
 have cellK:∀ x c,X.env.cells.lookup x = some c->∀ v,s.heap.IsCell c v->h'.IsCell c v:=fun x c e v h9=>by
  obtain ⟨o,ho,hd⟩:=h9
  have nch:c ∉ ch:=fun z=>(hch c z).2.2.1 x c e rfl
  by_cases hc:c ∈ X.fs
  ·obtain ⟨sl,q⟩:=slot c o (I.cne x c e) hc nch ho (I.freeC x c e)
   exact ⟨_,q,hd⟩
  ·exact ⟨o,keep c o (I.cne x c e) hc nch ho (I.freeC x c e),hd⟩
 refine ⟨I.ok,I.os,hg,⟨fun b o e n hb hx=>?_,fun b o e n hb hx=>?_,fun b o e n hx=>?_,fun b o e hx=>?_,fun b xs e=>tups b xs (I.base.tups b xs e),fun b o xs e=>frzs b o xs (I.base.frzs b o xs e),fun b ps e=>?_⟩,?_,fun x c e=>?_,?_,fun x c e=>?_,fun p hp=>?_,hok,I.len⟩
 ·exact keep b o (neL b o e) hb (neC b o e hx) (I.base.keep b o e n hb hx) (I.base.free b o e n hx)
 ·obtain ⟨sl,e1⟩:=I.base.slot b o e n hb hx
  obtain ⟨sl',e2⟩:=slot b _ (neL b o e) hb (neC b o e hx) e1 (I.base.free b o e n hx)
  exact ⟨sl',e2⟩
 ·obtain ⟨o',e1⟩:=I.base.there b o e hx
  exact free b o' (neC b o e hx) e1 (I.base.free b o e n hx)
 ·obtain ⟨o',e1⟩:=I.base.there b o e hx
  exact there b o' (neC b o e hx) e1
 ·obtain ⟨m1,e1⟩:=I.base.tbls b ps e
  obtain ⟨m2,e2⟩:=tbls b _ e1
  exact ⟨m1 ++ m2,by rw [e2,Array.append_assoc]⟩
 ·obtain ⟨m,hn,hl⟩:=I.loc
  refine ⟨m,ns m hn,fun i x v e1 e2 e3=>?_⟩
  obtain ⟨u,r,l⟩:=hl i x v e1 e2 e3
  refine ⟨u,r,?_⟩
  rcases l with l | ⟨k,c,e,z⟩
  ·exact .inl l
  ·exact .inr ⟨k,c,e,cellK x c e _ z⟩
 ·obtain ⟨v,z⟩:=I.cell x c e
  exact ⟨v,cellK x c e v z⟩
 ·obtain ⟨m,⟨o,_,_,ho,_⟩,_⟩:=I.loc
  exact free _ o (fun z=>(hch _ z).2.1 rfl) ho I.free
 ·obtain ⟨v,o,ho,hd⟩:=I.cell x c e
  exact free c o (fun z=>(hch c z).2.2.1 x c e rfl) ho (I.freeC x c e)
 ·obtain ⟨e,n,ne,nf,d⟩:=I.pin p hp
  have nch:p.1 ∉ ch:=fun z=>(hch p.1 z).2.2.2 p hp rfl
  exact ⟨keep p.1 p.2 ne nf nch e n,free p.1 p.2 nch e n,ne,nf,d⟩
theorem Inv.un {t':Nat} (I:Inv X pins σ H s) (u:Un X.fs [] H H' s.heap h') (hok:HOk X.prog X.w H' h'):Inv X pins σ H' { s with heap:=h',toks:=t' }:=by
 obtain ⟨m,⟨o,es,ep,ho,r⟩,_⟩:=id I.loc
 obtain ⟨sl,hL⟩:=u.any ho I.free (by simp)
 exact I.step (g':=s.gens) (d':=s.drawn) (ch:=[]) (fun _ z=>nomatch z) (fun b o _ hb _ e n=>u.keep b o e n hb (by simp)) (fun b o _ hb _ e n=>u.slot b o e n hb (by simp)) (fun b o _ e n=>u.free b o e n (by simp)) (fun b o _ e=>u.there b o e (by simp)) u.tups u.frzs u.tbls (fun m' hm=>by
  obtain ⟨o',es',ep',ho',r'⟩:=hm
  rw [ho] at ho';cases ho'
  exact ⟨_,es',ep',hL,r'⟩) hok I.bare
theorem Inv.call {t':Nat} {d':Drawn} (I:Inv X pins σ H s) (u:Un (frs X.stack) ch H H' s.heap h') (hok:HOk X.prog X.w H' h') (hg:AllBare g')
 (hch:∀ b ∈ ch,(b ∈ X.ex\/X.s₀.heap.objs.size<=b)/\b ≠ X.env.locals/\(∀ x c,X.env.cells.lookup x = some c->c ≠ b)/\∀ p ∈ X.pn ++ pins,p.1 ≠ b) :
  Inv X pins σ H' { s with heap:=h',gens:=g',drawn:=d',toks:=t' }:=by
 obtain ⟨m,⟨o,es,ep,ho,r⟩,_⟩:=id I.loc
 obtain ⟨sl,hL⟩:=u.any ho I.free fun z=>(hch _ z).2.1 rfl
 exact I.step (ch:=ch) hch (fun b o hL hb hc e n=>u.keep b o e n (fun z=>(mem_cons.mp (I.stkSub b z)).elim hL hb) hc) (fun b o _ _ hc e n=>u.any e n hc) (fun b o hc e n=>u.free b o e n hc) (fun b o hc e=>u.there b o e hc) u.tups u.frzs u.tbls (fun m' hm=>by
  obtain ⟨o',es',ep',ho',r'⟩:=hm
  rw [ho] at ho';cases ho'
  exact ⟨_,es',ep',hL,r'⟩) hok hg
theorem Inv.turned {t':Nat} (I:Inv X pins σ H s) (k:∀ b o,b ≠ it->s.heap.get? b = some o->h'.get? b = some o) (hn:H it = none) (hL:it ≠ X.env.locals)
 (h1:it ∈ X.ex\/X.s₀.heap.objs.size<=it) (h2:∀ x c,X.env.cells.lookup x = some c->c ≠ it) (h3:∀ p ∈ X.pn ++ pins,p.1 ≠ it):Inv X pins σ H { s with heap:=h',toks:=t' }:=by
 have nit:∀ b u,H b = some u->b ≠ it:=fun b u e z=>by rw [z,hn] at e;cases e
 refine I.step (g':=s.gens) (d':=s.drawn) (ch:=[it]) (fun b hb=>?_) (fun b o _ _ hc e _=>k b o (fun z=>hc (by simp [z])) e) (fun b o _ _ hc e _=>⟨o.slots,k b o (fun z=>hc (by simp [z])) e⟩) (fun _ _ _ _ n=>n)
  (fun b o hc e=>⟨o,k b o (fun z=>hc (by simp [z])) e⟩) (fun _ _ e=>e) (fun _ _ _ e=>e) (fun b ps e=>⟨#[],by rw [e];simp⟩) (fun m hm=>?_) (fun b u e=>?_) I.bare
 ·have e:b = it:=by simpa using hb
  subst e
  exact ⟨h1,hL,h2,h3⟩
 ·obtain ⟨o,es,ep,ho,r⟩:=hm
  exact ⟨o,es,ep,k _ o (Ne.symm hL) ho,r⟩
 ·refine (I.hok b u e).stay (fun c v hc q=>k c v ?_ q) (fun _ q=>q) fun _ _ q=>q
  rcases hc with z | z
  ·rw [z];exact nit b u e
  ·exact nit c _ z
theorem Inv.tok (I:Inv X pins σ H s) (t:Nat):Inv X pins σ H { s with toks:=t }:=I.un (h':=s.heap) (t':=t) Un.refl I.hok
theorem Inv.kept {t':Nat} (I:Inv X pins σ H s) (k:∀ b u,s.heap.get? b = some u->h'.get? b = some u):Inv X pins σ H { s with heap:=h',toks:=t' }:=I.un (Un.kept k) (I.hok.kept k)
theorem Inv.laid {a:Addr} {t':Nat} (I:Inv X pins σ H s) (k:∀ b u,s.heap.get? b = some u->h'.get? b = some u) (hp:s.heap.objs.size<=a) (new:ObjOk X.prog X.w (upd H a o) h' a o) :
  Inv X pins σ (upd H a o) { s with heap:=h',toks:=t' }:=I.un (Un.laid k hp (I.hok.fresh hp)) (I.hok.laid k hp new)
theorem Inv.write {x e:Addr} {t':Nat} (I:Inv X pins σ H s) (mu:Mut (H x)) (he:e = x\/H e = some (.own x)) (k:∀ b u,b ≠ e->s.heap.get? b = some u->h'.get? b = some u) (heo:∃ u,h'.get? e = some u)
 (new:ObjOk X.prog X.w (upd H x o) h' x o):Inv X pins σ (upd H x o) { s with heap:=h',toks:=t' }:=I.un (Un.write mu he k heo) (I.hok.write mu he k heo new)
theorem Inv.pins_of {pins':List (Addr × Obj)} (I:Inv X pins σ H s) (h:∀ p ∈ pins',s.heap.get? p.1 = some p.2/\H p.1 = none/\p.1 ≠ X.env.locals/\p.1 ∉ X.fs/\∀ v,p.2.data ≠ .cell v):Inv X pins' σ H s:=
 ⟨I.ok,I.os,I.bare,I.base,I.loc,I.cell,I.free,I.freeC,fun p hp=>(mem_append.mp hp).elim (fun z=>I.pin p (mem_append_left _ z)) (h p),I.hok,I.len⟩
theorem ze3 (hN:N.Nodup) (a:N[i]? = some x) (b:N[j]? = some x):i = j:=by
 obtain ⟨h1,e1⟩:=List.getElem?_eq_some_iff.mp a
 obtain ⟨h2,e2⟩:=List.getElem?_eq_some_iff.mp b
 exact (List.getElem_inj hN).mp (e1.trans e2.symm)
theorem zgt {Q:Unit->Shared->Prop} (I:Inv X pins σ H s) (hN:X.N.Nodup) (hi:X.N[i]? = some x) (hx:Loc X.env.scope x) (r:RelV v u)
 (h:∀ s',Inv X pins (σ.set i (some v)) H s'->(∃ a,Heap.SameBut a s.heap s'.heap/\(a = X.env.locals\/X.env.cells.lookup x = some a))->Q () s') (hf:X.fn x = true\/X.env.scope.names.lookup x = some .local:=by first | exact .inl rfl | exact .inr rfl | assumption):wpAny M A (storeName X.env x u) Q E s:=by
 obtain ⟨m,hn,hl⟩:=id I.loc
 have hcls:(X.env.scope.kind == .class || (X.env.scope.kind == .module && X.env.locals != X.env.globals)) = false:=by rw [I.ok.kind];rfl
 have hiσ:i < σ.length:=by rw [I.len];exact (List.getElem?_eq_some_iff.mp hi).1
 have cne:=I.cne
 have tracked:∀ {a:Addr} {h':Heap},(∃ o,s.heap.get? a = some o/\H a = none)->Heap.SameBut a s.heap h'->HOk X.prog X.w H h':=fun {a h'} ha hs b ob e=>by
  obtain ⟨_,_,hfree⟩:=ha
  refine (I.hok b ob e).stay (fun c w' hc q=>(hs.2 c ?_).trans q) (fun _ q=>q) fun _ _ q=>q
  rintro rfl
  rcases hc with rfl | hc
  ·rw [hfree] at e;cases e
  ·rw [hfree] at hc;cases hc
 rcases hx with hk | hk
 ·refine wpAny_storeName_local hk hn (fun h' hn' hs=>?_) hcls
  obtain ⟨oL,_,_,hoL,_⟩:=id hn
  refine h _ ⟨I.ok,I.os,I.bare,⟨fun b o e n hb hx=>?_,fun b o e n hb hx=>?_,I.base.free,fun b o e hx=>?_,I.base.tups,I.base.frzs,I.base.tbls⟩,⟨_,hn',fun j y v' e1 e2 e3=>?_⟩,fun y c e=>?_,I.free,I.freeC,fun p hp=>?_,tracked ⟨oL,hoL,I.free⟩ hs,by simpa using I.len⟩ ⟨_,hs,.inl rfl⟩
  ·exact (hs.2 b (Ql (Q6 (Qf e) I.ok.above))).trans (I.base.keep b o e n hb hx)
  ·obtain ⟨sl,e1⟩:=I.base.slot b o e n hb hx
   exact ⟨sl,(hs.2 b (Ql (Q6 (Qf e) I.ok.above))).trans e1⟩
  ·obtain ⟨o',e1⟩:=I.base.there b o e hx
   exact ⟨o',(hs.2 b (Ql (Q6 (Qf e) I.ok.above))).trans e1⟩
  ·by_cases hj:j = i
   ·subst hj
    rw [hi] at e1;cases e1
    rw [List.getElem?_set_self hiσ] at e2
    cases e2
    exact ⟨u,r,.inl ⟨hk,by simp⟩⟩
   ·rw [getElem?_set_ne (Ne.symm hj)] at e2
    obtain ⟨u',r',q⟩:=hl j y v' e1 e2 e3
    refine ⟨u',r',?_⟩
    rcases q with ⟨k,e⟩ | ⟨k,c,e,z⟩
    ·refine .inl ⟨k,?_⟩
     have:y ≠ x:=fun e=>hj (ze3 hN e1 (e ▸ hi))
     simp [this,e]
    ·exact .inr ⟨k,c,e,z.sameBut hs (cne y c e)⟩
  ·obtain ⟨w',z⟩:=I.cell y c e
   exact ⟨w',z.sameBut hs (cne y c e)⟩
  ·obtain ⟨e,n,ne,nf,d⟩:=I.pin p hp
   exact ⟨(hs.2 p.1 ne).trans e,n,ne,nf,d⟩
 ·have hfn:X.fn x = true:=by
   rcases hf with z | z
   ·exact z
   ·rw [z] at hk;cases hk
  obtain ⟨c,hc⟩:=I.ok.has x (.inl hk)
  obtain ⟨w',z⟩:=I.cell x c hc
  refine wpAny_storeName_cell I.ok.kind hk hc z (fun h' hc' hs=>?_)
  obtain ⟨oc,hoc,hocd⟩:=id z
  refine h { s with heap:=h' } ⟨I.ok,I.os,I.bare,⟨fun b o e n hb hx=>?_,fun b o e n hb hx=>?_,I.base.free,fun b o e hx=>?_,I.base.tups,I.base.frzs,I.base.tbls⟩,⟨m,hn.sameBut hs (Ne.symm (cne x c hc)),fun j y v' e1 e2 e3=>?_⟩,fun y c' e=>?_,I.free,I.freeC,fun p hp=>?_,tracked ⟨oc,hoc,I.freeC x c hc⟩ hs,by simpa using I.len⟩ ⟨c,hs,.inr hc⟩
  ·exact (hs.2 b (Ql (Q6 (Qf e) (I.ok.cab x c hfn hc)))).trans (I.base.keep b o e n hb hx)
  ·obtain ⟨sl,e1⟩:=I.base.slot b o e n hb hx
   exact ⟨sl,(hs.2 b (Ql (Q6 (Qf e) (I.ok.cab x c hfn hc)))).trans e1⟩
  ·obtain ⟨o',e1⟩:=I.base.there b o e hx
   exact ⟨o',(hs.2 b (Ql (Q6 (Qf e) (I.ok.cab x c hfn hc)))).trans e1⟩
  ·by_cases hj:j = i
   ·subst hj
    rw [hi] at e1;cases e1
    rw [List.getElem?_set_self hiσ] at e2
    cases e2
    exact ⟨u,r,.inr ⟨.inl hk,c,hc,hc'⟩⟩
   ·rw [getElem?_set_ne (Ne.symm hj)] at e2
    obtain ⟨u',r',q⟩:=hl j y v' e1 e2 e3
    refine ⟨u',r',?_⟩
    rcases q with q | ⟨k,c',e,z'⟩
    ·exact .inl q
    ·refine .inr ⟨k,c',e,z'.sameBut hs ?_⟩
     rintro rfl
     exact hj (ze3 hN e1 (I.ok.inj _ _ _ e hc ▸ hi))
  ·by_cases hcc:c' = c
   ·subst hcc;exact ⟨_,hc'⟩
   ·obtain ⟨w2,z2⟩:=I.cell y c' e
    exact ⟨w2,z2.sameBut hs hcc⟩
  ·obtain ⟨e,n,ne,nf,d⟩:=I.pin p hp
   refine ⟨(hs.2 p.1 ?_).trans e,n,ne,nf,d⟩
   intro q
   rw [q,hoc] at e
   have q':oc = p.2:=Qe e
   exact d w' (by rw [← q'];exact hocd)
theorem zcr {Q:Unit->Shared->Prop} (I:Inv X pins σ H s) (hN:X.N.Nodup) (hi:X.N[i]? = some x) (hx:Loc X.env.scope x) (r:RelV v u)
 (h:∀ s',Inv X pins (σ.set i (some v)) H s'->Q () s') (hf:X.fn x = true\/X.env.scope.names.lookup x = some .local:=by first | exact .inl rfl | exact .inr rfl | assumption):wpAny M A (storeName X.env x u) Q E s:=
 zgt I hN hi hx r (fun s' I' _=>h s' I') hf
theorem Inv.call' (I:Inv X pins σ H s) (ho:s'.os = s.os) (u:Un (frs X.stack) ch H H' s.heap s'.heap) (hok:HOk X.prog X.w H' s'.heap) (hg:AllBare s'.gens)
 (hch:∀ b ∈ ch,(b ∈ X.ex\/X.s₀.heap.objs.size<=b)/\b ≠ X.env.locals/\(∀ x c,X.env.cells.lookup x = some c->c ≠ b)/\∀ p ∈ X.pn ++ pins,p.1 ≠ b):Inv X pins σ H' s':=by
 obtain ⟨h',g',d',t',o'⟩:=s'
 have e:o' = s.os:=ho
 subst e
 exact I.call (g':=g') (t':=t') (d':=d') u hok hg hch
end
noncomputable abbrev XK:=Value->Option Addr->Hp->Prop
noncomputable abbrev St:=List (Option V)
noncomputable abbrev VK:=V->Hp->Prop
noncomputable abbrev TE:=St->Hp->VK->Prop
noncomputable abbrev TT:=St->Hp->(Bool->Hp->Prop)->Prop
noncomputable abbrev TA:=St->Hp->(List V->Hp->Prop)->Prop
structure Ends where
 nx:St->Hp->Prop
 rt:VK
 bk:St->Hp->Prop:=fun _ _=>False
 ct:St->Hp->Prop:=fun _ _=>False
noncomputable abbrev TS:=Ends->St->Hp->Prop
def EP (X:Cx) (pins:List (Addr × Obj)) (σ:St) (Q:VK) (u:Value) (s':Shared):Prop:=∃ v H',Inv X pins σ H' s'/\RelV v u/\Q v H'
def TP (X:Cx) (pins:List (Addr × Obj)) (σ:St) (Q:Bool->Hp->Prop) (b:Bool) (s':Shared):Prop:=∃ H',Inv X pins σ H' s'/\Q b H'
def AP (X:Cx) (pins:List (Addr × Obj)) (σ:St) (Q:List V->Hp->Prop) (us:List Value) (s':Shared):Prop:=∃ vs H',Inv X pins σ H' s'/\Vals vs us/\Q vs H'
def SP (X:Cx) (pins:List (Addr × Obj)) (D:Ends) (f:Flow) (s':Shared):Prop:=
 match f with
 | .next=>∃ σ' H',Inv X pins σ' H' s'/\D.nx σ' H'
 | .brk=>∃ σ' H',Inv X pins σ' H' s'/\D.bk σ' H'
 | .cont=>∃ σ' H',Inv X pins σ' H' s'/\D.ct σ' H'
 | .ret u=>∃ v σ' H',Inv X pins σ' H' s'/\RelV v u/\D.rt v H'
def PE (X:Cx) (e:Expr) (t:TE):Prop:=
 ∀ (pins:List (Addr × Obj)) (s:Shared) (σ:St) (H:Hp) (Q:VK),Inv X pins σ H s->t σ H Q->wpAny (model X.prog X.w) X.A (eval e X.env) (EP X pins σ Q) X.xe s
def PT (X:Cx) (e:Expr) (t:TT):Prop:=
 ∀ (pins:List (Addr × Obj)) (s:Shared) (σ:St) (H:Hp) (Q:Bool->Hp->Prop),Inv X pins σ H s->t σ H Q->wpAny (model X.prog X.w) X.A (isTrue e X.env (eval e X.env)) (TP X pins σ Q) X.xe s
def PW (X:Cx) (e:Expr) (t:TT):Prop:=
 ∀ (whole:Sem Value) (pins:List (Addr × Obj)) (s:Shared) (σ:St) (H:Hp) (Q:Bool->Hp->Prop),Inv X pins σ H s->t σ H Q->wpAny (model X.prog X.w) X.A (isTrue e X.env whole) (TP X pins σ Q) X.xe s
variable {e:Expr}
theorem PW.pt {t:TT} (h:PW X e t):PT X e t:=h _
def PA (X:Cx) (es:List Expr) (t:TA):Prop:=
 ∀ (pos:Pos) (pins:List (Addr × Obj)) (s:Shared) (σ:St) (H:Hp) (Q:List V->Hp->Prop),Inv X pins σ H s->t σ H Q->wpAny (model X.prog X.w) X.A (spliced (backTo pos (starEach es X.env))) (AP X pins σ Q) X.xe s
def PS (X:Cx) (st:Stmt) (t:TS):Prop:=
 ∀ (pins:List (Addr × Obj)) (s:Shared) (σ:St) (H:Hp) (D:Ends),Inv X pins σ H s->t D σ H->wpAny (model X.prog X.w) X.A (exec st X.env) (SP X pins D) X.xe s
def PSs (X:Cx) (st:List Stmt) (t:TS):Prop:=
 ∀ (pins:List (Addr × Obj)) (s:Shared) (σ:St) (H:Hp) (D:Ends),Inv X pins σ H s->t D σ H->wpAny (model X.prog X.w) X.A (execs st X.env) (SP X pins D) X.xe s
theorem thn {α:Type} {t:Sem α} {Q Q':α->Shared->Prop} (h:wpAny M A t Q E s) (hQ:∀ a s,Q a s->Q' a s):wpAny M A t Q' E s:=Qh h hQ fun _ _ x=>x
variable {op:CmpOp} {pos:Pos} {σ:St} {t ta tb:TE} {R:V->V->Hp->Prop} {Q:Value->Shared->Prop}
section
theorem bin {a b:Expr} (ha:PE X a ta) (hb:PE X b tb) (I:Inv X pins σ H s) (h:ta σ H fun x H1=>tb σ H1 fun y H2=>R x y H2)
 {α:Type} {Q:α->Shared->Prop} {f:Value->Value->Sem α}
 (hf:∀ v u s2 x y H2,Inv X pins σ H2 s2->RelV x v->RelV y u->R x y H2->wpAny (model X.prog X.w) X.A (f v u) Q X.xe s2) :
  wpAny (model X.prog X.w) X.A (eval a X.env) (fun v s₁=>wpAny (model X.prog X.w) X.A (eval b X.env) (fun u s₂=>wpAny (model X.prog X.w) X.A (f v u) Q X.xe s₂) X.xe s₁) X.xe s:=by
 refine thn (ha pins s σ H _ I h) fun v s1 ⟨x,H1,I1,r1,q1⟩=>?_
 refine thn (hb pins s1 σ H1 _ I1 q1) fun u s2 ⟨y,H2,I2,r2,q2⟩=>?_
 exact hf v u s2 x y H2 I2 r1 r2 q2
noncomputable def zje (i:Nat):TE:=fun σ H Q=>∃ v,σ[i]? = some (some v)/\Q v H
noncomputable def tC (v:V):TE:=fun _ H Q=>Q v H
theorem zhp (hN:X.N[i]? = some x) (hv:Vis X.env.scope x) (hd:(x == ("__debug__":Str)) = false:=by decide) (hcd:(x == ("__classdict__":Str)) = false:=by decide):PE X (.Name x pos) (zje i):=by
 intro pins s σ H Q I h
 obtain ⟨v,e,h⟩:=h
 obtain ⟨m,hn,hl⟩:=I.loc
 obtain ⟨u,r,l⟩:=hl i x v hN e hv
 have fin:EP X pins σ Q u s:=⟨v,H,I,r,h⟩
 rcases l with ⟨hk,hm⟩ | ⟨hk,c,hc,hcell⟩
 ·exact wpAny_Name (wpAny_loadName_local I.ok.kind hk hn hm fin) hd
 ·rcases hk with hk | hk
  ·exact wpAny_Name (wpAny_loadName_cell I.ok.kind hk hc hcell fin) hd
  ·exact wpAny_Name (wpAny_loadName_free I.ok.kind hk hc hcell fin hcd) hd
theorem zka {i j pos}:PE X (.Constant (.int i) j pos) (tC (.int i)):=fun _ _ _ H _ I h=>wpAny_Constant_int ⟨.int i,H,I.tok _,⟨_,rfl⟩,h⟩
theorem zqp {b j pos}:PE X (.Constant (.bool b) j pos) (tC (.bl b)):=fun _ _ _ H _ I h=>Constant_bool ⟨.bl b,H,I,rfl,h⟩
theorem zoM {j pos}:PE X (.Constant .none j pos) (tC .non):=fun _ _ _ H _ I h=>Constant_none ⟨.non,H,I,rfl,h⟩
theorem zoJ {x j pos}:PE X (.Constant (.str x) j pos) (tC (.str x)):=fun _ _ _ H _ I h=>Calls.Constant_str ⟨.str x,H,I.tok _,⟨_,rfl⟩,h⟩
def Gl (X:Cx) (x:Str):Prop:=X.env.kindOf x = some .globalImplicit
theorem zbH (I:Inv X pins σ H s) (hg:Gl X x) (hm:X.mg x = some u) (h:Q u s)
 (hd:(x == ("__debug__":Str)) = false:=by decide):wpAny (model X.prog X.w) X.A (eval (.Name x pos) X.env) Q E s:=
 Calls.Name_function_global I.ok.kind hg (Calls.loadGlobal_global (by rw [I.ok.glob];exact I.mod.glob.keeps I.bk) hm h) hd
theorem zfA (I:Inv X pins σ H s) (hg:Gl X x) (hm:X.mg x = none) (hv:bootBuiltins x = some u) (h:Q u s)
 (hn:x ≠ "__name__":=by decide) (hd:(x == ("__debug__":Str)) = false:=by decide):wpAny (model X.prog X.w) X.A (eval (.Name x pos) X.env) Q E s:=by
 obtain ⟨mb,h1,h2⟩:=I.mod.blt
 exact Calls.Name_function_global I.ok.kind hg (Calls.loadGlobal_builtin (by rw [I.ok.glob];exact I.mod.glob.keeps I.bk) hm (by rw [I.ok.blt];exact h1.keeps I.bk) ((h2 x hn).trans hv) h) hd
theorem zm5 (hg:Gl X x) (hm:X.mg x = some u) (r:RelV v u) (hd:(x == ("__debug__":Str)) = false:=by decide):PE X (.Name x pos) (tC v):=
 fun _ _ _ H _ I h=>zbH I hg hm ⟨v,H,I,r,h⟩ hd
theorem zm7 (hg:Gl X x) (hm:X.mg x = none) (hv:bootBuiltins x = some u) (r:RelV v u) (hn:x ≠ "__name__":=by decide) (hd:(x == ("__debug__":Str)) = false:=by decide):PE X (.Name x pos) (tC v):=
 fun _ _ _ H _ I h=>zfA I hg hm hv ⟨v,H,I,r,h⟩ hn hd
variable {a b:Expr}
def PC (X:Cx) (op:CmpOp) (a b:Expr) (t:TE):Prop:=
 ∀ (pins:List (Addr × Obj)) (s:Shared) (σ:St) (H:Hp) (Q:VK),Inv X pins σ H s->t σ H Q->
  wpAny (model X.prog X.w) X.A (eval a X.env) (fun v s₁=>wpAny (model X.prog X.w) X.A (eval b X.env) (fun u s₂=>wpAny (model X.prog X.w) X.A (compareOp op v u) (EP X pins σ Q) X.xe s₂) X.xe s₁) X.xe s
theorem zlH (b:Expr) (h:op ≠ .In) (h2:op ≠ .NotIn):behindInMarks op b = false:=by
 have e1:(op == CmpOp.In) = false:=by cases op <;> first | rfl | exact absurd rfl h
 have e2:(op == CmpOp.NotIn) = false:=by cases op <;> first | rfl | exact absurd rfl h2
 cases b <;> simp [behindInMarks,e1,e2]
noncomputable def tB (t:TE):TT:=fun σ H Q=>t σ H fun x H1=>∃ c,x = .bl c/\Q c H1
theorem zrL (h:PC X op a b t) (h1:behindInMarks op b = false:=by first | exact zlH _ (by decide) (by decide) | rfl):PT X (.Compare a [op] [b] pos) (tB t):=by
 intro pins s σ H Q I hw
 refine wpAny_isTrue_Compare1 (thn (h pins s σ H _ I hw) fun v s1 h1=>thn h1 fun u s2 h2=>thn h2 fun c s3 ⟨x,H1,I1,r1,q1⟩=>?_) h1
 obtain ⟨d,rfl,q⟩:=q1
 cases r1
 exact wpAny_truthy_bool ⟨H1,I1,q⟩
theorem zox (h:PE X e t) (he:∀ whole,isTrue e X.env whole = (do let v ← whole;standAt e.pos;holding [v] (truthy v)):=by intro _;rfl):PT X e (tB t):=by
 intro pins s σ H Q I hw
 refine isTrue_plain (thn (h pins s σ H _ I hw) fun v s1 ⟨x,H1,I1,r1,q1⟩=>?_) (he _)
 obtain ⟨d,rfl,q⟩:=q1
 cases r1
 exact wpAny_truthy_bool ⟨H1,I1,q⟩
variable {tA tB':TT} {rest:List Expr}
noncomputable def zq6 (t u:TT):TT:=fun σ H Q=>t σ H fun c H1=>if c = true then u σ H1 Q else Q false H1
noncomputable def tOr (t u:TT):TT:=fun σ H Q=>t σ H fun c H1=>if c = true then Q true H1 else u σ H1 Q
noncomputable def zqZ (t:TT):TT:=fun σ H Q=>t σ H fun c H1=>Q (!c) H1
theorem zmT (ha:PT X a tA):PW X (.BoolOp .And [a] pos) tA:=by
 intro wh pins s σ H Q I h
 refine isTrue_and (thn (ha pins s σ H Q I h) fun c s1 e=>?_)
 cases c with
 | true=>exact isTrue_and_nil e
 | false=>exact e
theorem zov (ha:PT X a tA):PW X (.BoolOp .Or [a] pos) tA:=by
 intro wh pins s σ H Q I h
 refine isTrue_or (thn (ha pins s σ H Q I h) fun c s1 e=>?_)
 cases c with
 | false=>exact isTrue_or_nil e
 | true=>exact e
theorem zow (ha:PT X a tA) (hb:PW X (.BoolOp .And (b :: rest) pos) tB'):PW X (.BoolOp .And (a :: b :: rest) pos) (zq6 tA tB'):=by
 intro wh pins s σ H Q I h
 refine isTrue_and (thn (ha pins s σ H _ I h) fun c s1 ⟨H1,I1,q1⟩=>?_)
 cases c with
 | true=>exact hb wh pins s1 σ H1 Q I1 q1
 | false=>exact ⟨H1,I1,q1⟩
theorem zqj (ha:PT X a tA) (hb:PW X (.BoolOp .Or (b :: rest) pos) tB'):PW X (.BoolOp .Or (a :: b :: rest) pos) (tOr tA tB'):=by
 intro wh pins s σ H Q I h
 refine isTrue_or (thn (ha pins s σ H _ I h) fun c s1 ⟨H1,I1,q1⟩=>?_)
 cases c with
 | true=>exact ⟨H1,I1,q1⟩
 | false=>exact hb wh pins s1 σ H1 Q I1 q1
theorem zoy (ha:PT X a tA):PT X (.UnaryOp .Not a pos) (zqZ tA):=by
 intro pins s σ H Q I h
 exact isTrue_not (ha pins s σ H (fun c H1=>Q (!c) H1) I h)
noncomputable def zqa (ta tb:TE):TE:=fun σ H Q=>ta σ H fun x H1=>∃ c,x = .bl c/\if c = true then tb σ H1 Q else Q (.bl false) H1
noncomputable def zqY (ta tb:TE):TE:=fun σ H Q=>ta σ H fun x H1=>∃ c,x = .bl c/\if c = true then Q (.bl true) H1 else tb σ H1 Q
noncomputable def zp4 (ta:TE):TE:=fun σ H Q=>ta σ H fun x H1=>∃ c,x = .bl c/\Q (.bl (!c)) H1
theorem zoK {op} (h:PE X a t):PE X (.BoolOp op [a] pos) t:=fun pins s σ H Q I hw=>BoolOp_one (h pins s σ H Q I hw)
theorem zoQ (ha:PE X a ta) (hb:PE X (.BoolOp .And (b :: rest) pos) tb):PE X (.BoolOp .And (a :: b :: rest) pos) (zqa ta tb):=by
 intro pins s σ H Q I h
 refine BoolOp_and (thn (ha pins s σ H _ I h) fun v s1 ⟨x,H1,I1,r1,q1⟩=>?_)
 obtain ⟨c,rfl,q1⟩:=q1
 cases r1
 refine wpAny_truthy_bool ?_
 cases c with
 | true=>exact hb pins s1 σ H1 Q I1 q1
 | false=>exact ⟨.bl false,H1,I1,rfl,q1⟩
theorem zqn (ha:PE X a ta) (hb:PE X (.BoolOp .Or (b :: rest) pos) tb):PE X (.BoolOp .Or (a :: b :: rest) pos) (zqY ta tb):=by
 intro pins s σ H Q I h
 refine BoolOp_or (thn (ha pins s σ H _ I h) fun v s1 ⟨x,H1,I1,r1,q1⟩=>?_)
 obtain ⟨c,rfl,q1⟩:=q1
 cases r1
 refine wpAny_truthy_bool ?_
 cases c with
 | false=>exact hb pins s1 σ H1 Q I1 q1
 | true=>exact ⟨.bl true,H1,I1,rfl,q1⟩
theorem zoL (ha:PE X a ta):PE X (.UnaryOp .Not a pos) (zp4 ta):=by
 intro pins s σ H Q I h
 refine UnaryOp_ (thn (ha pins s σ H _ I h) fun v s1 ⟨x,H1,I1,r1,q1⟩=>?_)
 obtain ⟨c,rfl,q1⟩:=q1
 cases r1
 exact not_of (wpAny_truthy_bool ⟨.bl (!c),H1,I1,rfl,q1⟩)
noncomputable def tIf (t:TT) (ta tb:TE):TE:=fun σ H Q=>t σ H fun c H1=>if c = true then ta σ H1 Q else tb σ H1 Q
theorem zlz {c:Expr} (hc:PT X c tA) (ha:PE X a ta) (hb:PE X b tb):PE X (.IfExp c a b pos) (tIf tA ta tb):=by
 intro pins s σ H Q I h
 refine wpAny_IfExp (thn (hc pins s σ H _ I h) fun d s1 ⟨H1,I1,q1⟩=>?_)
 cases d with
 | true=>exact ha pins s1 σ H1 Q I1 q1
 | false=>exact hb pins s1 σ H1 Q I1 q1
end
def SqL (K:Frag) (H:Hp) (a:Addr) (xs:List V):Prop:=
 Rd H a (.lst xs) \/
  ∃ (o:Obj) (its:Array Value) (n:Nat),K.lookup a = some o/\o.cls = .type "list"/\o.dict = none/\o.data = .seq its n/\its.size<=sizeLine/\Vals xs its.toList
def SqT (K:Frag) (H:Hp) (a:Addr) (xs:List V):Prop:=
 Rd H a (.tup xs) \/
  ∃ (o:Obj) (its:Array Value) (n:Nat),K.lookup a = some o/\o.cls = .type "tuple"/\o.dict = none/\o.data = .seq its n/\its.size<=sizeLine/\Vals xs its.toList
noncomputable def zrw:Value->Option V
 | .none=>some .non
 | .bool b=>some (.bl b)
 | .int i _=>some (.int i)
 | .str x _=>some (.str x)
 | .bytes b _=>some (.byt b)
 | .float b _=>some (.flt b)
 | .ref a=>some (.ref a)
 | .type n=>some (.ty n)
 | _=>none
theorem RelV.abs {x:V} (r:RelV x u):zrw u = some x:=by
 cases x with
 | non=>cases r;rfl
 | bl _=>cases r;rfl
 | int _=>obtain ⟨t,rfl⟩:=r;rfl
 | str _=>obtain ⟨t,rfl⟩:=r;rfl
 | byt _=>obtain ⟨t,rfl⟩:=r;rfl
 | flt _=>obtain ⟨t,rfl⟩:=r;rfl
 | ref _=>cases r;rfl
 | ty _=>cases r;rfl
variable {y:V}
theorem RelV.inj {x:V} (r:RelV x u) (q:RelV y u):x = y:=Qe (r.abs.symm.trans q.abs)
theorem Vals.inj:∀ {xs ys:List V} {us:List Value},Vals xs us->Vals ys us->xs = ys
 | _,_,_,.nil,.nil=>rfl
 | _,_,_,.cons r t,.cons r' t'=>by rw [r.inj r',Vals.inj t t']
section
variable {a:Addr} {ys:List V}
theorem Inv.list (I:Inv X pins σ H s) (h:SqL X.K H a xs):∃ its:List Value,Vals xs its/\PlainL s.heap a its.toArray/\xs.length<=sizeLine:=by
 rcases h with h | ⟨o,its,n,hk,hc,hd,hs,hz,r⟩
 ·obtain ⟨z,its,n,r,e⟩:=h.ok I.hok
  exact ⟨its,r,⟨_,n,e,rfl,rfl,rfl⟩,z⟩
 ·refine ⟨its.toList,r,⟨o,n,I.kIn a o hk,hc,hd,by simpa using hs⟩,?_⟩
  have e:=r.length
  simp only [Array.length_toList] at e
  omega
theorem Inv.tuple (I:Inv X pins σ H s) (h:SqT X.K H a xs):∃ its:List Value,Vals xs its/\IsTup s.heap a its.toArray/\xs.length<=sizeLine:=by
 rcases h with h | ⟨o,its,n,hk,hc,_,hs,hz,r⟩
 ·obtain ⟨z,its,r,p,_⟩:=h.ok I.hok
  exact ⟨its,r,p,z⟩
 ·refine ⟨its.toList,r,⟨o,I.kIn a o hk,hc,n,by simpa using hs⟩,?_⟩
  have e:=r.length
  simp only [Array.length_toList] at e
  omega
theorem Inv.list_inj (I:Inv X pins σ H s) (h:SqL X.K H a xs) (h':SqL X.K H a ys):xs = ys:=by
 obtain ⟨its,r,⟨o,n,e,_,_,d⟩,_⟩:=I.list h
 obtain ⟨its',r',⟨o',n',e',_,_,d'⟩,_⟩:=I.list h'
 rw [e] at e';cases e'
 rw [d] at d'
 injection d' with d1 _
 have:its = its':=by simpa using congrArg Array.toList d1
 subst this
 exact r.inj r'
theorem Inv.tuple_inj (I:Inv X pins σ H s) (h:SqT X.K H a xs) (h':SqT X.K H a ys):xs = ys:=by
 obtain ⟨its,r,⟨o,e,_,n,d⟩,_⟩:=I.tuple h
 obtain ⟨its',r',⟨o',e',_,n',d'⟩,_⟩:=I.tuple h'
 rw [e] at e';cases e'
 rw [d] at d'
 injection d' with d1 _
 have:its = its':=by simpa using congrArg Array.toList d1
 subst this
 exact r.inj r'
end
noncomputable abbrev Cx.wish (X:Cx) (E:Value->Shared->Prop):Cx:={ X with xe:=E }
noncomputable abbrev Cx.nox (X:Cx):Cx:=X.wish fun _ _=>False
theorem Cx.Ok.wish (ok:X.Ok) (E:Value->Shared->Prop):(X.wish E).Ok:=
 ⟨ok.mod,ok.kind,ok.glob,ok.blt,ok.above,ok.inj,ok.has,ok.cab,ok.hd,ok.frames,ok.stk,ok.exf,ok.bs,ok.bsz,ok.noex,ok.exfs,ok.funs,ok.frf⟩
theorem Cx.Ok.unwish (ok:(X.wish E).Ok):X.Ok:=
 ⟨ok.mod,ok.kind,ok.glob,ok.blt,ok.above,ok.inj,ok.has,ok.cab,ok.hd,ok.frames,ok.stk,ok.exf,ok.bs,ok.bsz,ok.noex,ok.exfs,ok.funs,ok.frf⟩
section
theorem Inv.wish (I:Inv X pins σ H s) (E:Value->Shared->Prop):Inv (X.wish E) pins σ H s:=⟨I.ok.wish E,I.os,I.bare,I.base,I.loc,I.cell,I.free,I.freeC,I.pin,I.hok,I.len⟩
theorem Inv.unwish (I:Inv (X.wish E) pins σ H s):Inv X pins σ H s:=⟨I.ok.unwish,I.os,I.bare,I.base,I.loc,I.cell,I.free,I.freeC,I.pin,I.hok,I.len⟩
theorem SP.unwish {D:Ends} {f:Flow} (h:SP (X.wish E) pins D f s'):SP X pins D f s':=by
 cases f with
 | next=>obtain ⟨σ',H',I,q⟩:=h;exact ⟨σ',H',I.unwish,q⟩
 | brk=>obtain ⟨σ',H',I,q⟩:=h;exact ⟨σ',H',I.unwish,q⟩
 | cont=>obtain ⟨σ',H',I,q⟩:=h;exact ⟨σ',H',I.unwish,q⟩
 | ret u=>obtain ⟨v,σ',H',I,r,q⟩:=h;exact ⟨v,σ',H',I.unwish,r,q⟩
theorem PE.nox (h:PE X.nox e t):PE X e t:=fun pins s σ H Q I hw=>
 Qh (h pins s σ H Q (I.wish _) hw) (fun _ _ ⟨v,H',I',r,q⟩=>⟨v,H',I'.unwish,r,q⟩) fun _ _ z=>False.elim z
theorem PT.nox {t:TT} (h:PT X.nox e t):PT X e t:=fun pins s σ H Q I hw=>
 Qh (h pins s σ H Q (I.wish _) hw) (fun _ _ ⟨H',I',q⟩=>⟨H',I'.unwish,q⟩) fun _ _ z=>False.elim z
theorem PSs.nox {st:List Stmt} {t:TS} (h:PSs X.nox st t):PSs X st t:=fun pins s σ H D I hw=>
 Qh (h pins s σ H D (I.wish _) hw) (fun _ _ q=>q.unwish) fun _ _ z=>False.elim z
end
variable {te:TE} {tc:TT}
section
variable {st:Stmt} {rest:List Stmt} {t u:TS}
noncomputable def zp5:TS:=fun D σ H=>D.nx σ H
noncomputable def zqW (t u:TS):TS:=fun D σ H=>t { D with nx:=u D } σ H
theorem zmX:PSs X [] zp5:=fun _ _ σ H _ I h=>wpAny_execs_nil ⟨σ,H,I,h⟩
theorem zlv (h1:PS X st t) (h2:PSs X rest u):PSs X (st :: rest) (zqW t u):=by
 intro pins s σ H D I h
 refine wpAny_execs_cons (thn (h1 pins s σ H { D with nx:=u D } I h) fun f s1 q=>?_)
 cases f with
 | next=>
  obtain ⟨σ',H',I',q⟩:=q
  exact h2 pins s1 σ' H' D I' q
 | ret v=>exact q
 | brk=>exact q
 | cont=>exact q
theorem ziz (h1:PS X st t):PSs X [st] t:=by
 intro pins s σ H D I h
 refine wpAny_execs_cons (thn (h1 pins s σ H D I h) fun f s1 q=>?_)
 cases f with
 | next=>exact wpAny_execs_nil q
 | ret v=>exact q
 | brk=>exact q
 | cont=>exact q
theorem Inv.quiet (I:Inv X pins σ H s):interactive X.env = false:=by simp [interactive,I.ok.kind]
noncomputable def zp7 (te:TE):TS:=fun D σ H=>te σ H fun _ H1=>D.nx σ H1
theorem zmZ (he:PE X e te) (hs:swapsWith e none pos.line X.env = pure false:=by rfl):PS X (.Expr e pos) (zp7 te):=by
 intro pins s σ H D I h
 exact wpAny_Expr_any (thn (he pins s σ H _ I h) fun v s1 ⟨x,H1,I1,r1,q1⟩=>⟨σ,H1,I1,q1⟩) I.quiet hs
noncomputable def zqX (te:TE):TS:=fun D σ H=>te σ H D.rt
theorem zoB (he:PE X e te):PS X (.Return (some e) pos) (zqX te):=by
 intro pins s σ H D I h
 exact wpAny_Return_some (thn (he pins s σ H _ I h) fun v s1 ⟨x,H1,I1,r1,q1⟩=>⟨x,σ,H1,I1,r1,q1⟩)
noncomputable def zq2 (c:TT) (t u:TS):TS:=fun D σ H=>c σ H fun b H1=>if b = true then t D σ H1 else u D σ H1
theorem zqk {c:Expr} {a b:List Stmt} (hc:PT X c tc) (ha:PSs X a t) (hb:PSs X b u):PS X (.If c a b pos) (zq2 tc t u):=by
 intro pins s σ H D I h
 refine wpAny_If (thn (hc pins s σ H _ I h) fun d s1 ⟨H1,I1,q1⟩=>?_)
 cases d with
 | true=>exact ha pins s1 σ H1 D I1 q1
 | false=>exact hb pins s1 σ H1 D I1 q1
end
noncomputable abbrev TG:=V->St->Hp->(St->Hp->Prop)->Prop
noncomputable abbrev TGs:=List V->St->Hp->(St->Hp->Prop)->Prop
def PG (X:Cx) (target:Expr) (t:TG):Prop:=
 ∀ (pins:List (Addr × Obj)) (s:Shared) (σ:St) (H:Hp) (v:V) (u:Value) (Q:St->Hp->Prop),Inv X pins σ H s->RelV v u->t v σ H Q->
  wpAny (model X.prog X.w) X.A (assign target X.env u) (fun _ s'=>∃ σ' H',Inv X pins σ' H' s'/\Q σ' H') X.xe s
def PGs (X:Cx) (ts:List Expr) (t:TGs):Prop:=
 ∀ (pins:List (Addr × Obj)) (s:Shared) (σ:St) (H:Hp) (vs:List V) (us:List Value) (Q:St->Hp->Prop),Inv X pins σ H s->Vals vs us->t vs σ H Q->
  wpAny (model X.prog X.w) X.A (assignInOrder ((assignEach ts X.env).map (·.2)) us) (fun _ s'=>∃ σ' H',Inv X pins σ' H' s'/\Q σ' H') X.xe s
noncomputable abbrev zgm:=V->V->V->Hp->(Hp->Prop)->Prop
def zed (X:Cx) (t:zgm):Prop:=
 ∀ (pins:List (Addr × Obj)) (s:Shared) (σ:St) (H:Hp) (o i v:V) (ov iv u:Value) (Q:Hp->Prop),Inv X pins σ H s->RelV o ov->RelV i iv->RelV v u->t o i v H Q->
  wpAny (model X.prog X.w) X.A (setItem ov iv u) (fun _ s'=>∃ H',Inv X pins σ H' s'/\Q H') X.xe s
noncomputable abbrev TIp:=V->V->Hp->VK->Prop
def PIp (X:Cx) (op:Operator) (t:TIp):Prop:=
 ∀ (pins:List (Addr × Obj)) (s:Shared) (σ:St) (H:Hp) (x y:V) (v u:Value) (Q:VK),Inv X pins σ H s->RelV x v->RelV y u->t x y H Q->
  wpAny (model X.prog X.w) X.A (inplaceOp op v u) (EP X pins σ Q) X.xe s
variable {tg:Expr} {es:List Expr} {k:Nat} {pos' tpos:Pos} {ti to:TE} {g:TG}
section
noncomputable def zgW (i:Nat):TG:=fun v σ H Q=>Q (σ.set i (some v)) H
theorem qp (hN:X.N.Nodup) (hi:X.N[i]? = some x) (hx:Loc X.env.scope x) (hf:X.fn x = true\/X.env.scope.names.lookup x = some .local:=by first | exact .inl rfl | exact .inr rfl | assumption):PG X (.Name x pos) (zgW i):=by
 intro pins s σ H v u Q I r h
 exact wpAny_assign_Name (zcr I hN hi hx r (fun s' I'=>⟨_,H,I',h⟩) hf)
noncomputable def zrq:TGs:=fun vs σ H Q=>vs = []/\Q σ H
noncomputable def zjB (t:TG) (u:TGs):TGs:=fun vs σ H Q=>∃ v r,vs = v :: r/\t v σ H fun σ' H'=>u r σ' H' Q
theorem zm3:PGs X [] zrq:=by
 intro pins s σ H vs us Q I r h
 obtain ⟨e,h⟩:=h
 subst e
 cases r
 exact assignInOrder_nil ⟨σ,H,I,h⟩
theorem yz {t:TG} {u:TGs} (h1:PG X e t) (h2:PGs X es u)
 (hs:(assignEach (e :: es) X.env).map (·.2) = assign e X.env :: (assignEach es X.env).map (·.2):=by rfl):PGs X (e :: es) (zjB t u):=by
 intro pins s σ H vs us Q I r h
 obtain ⟨v,vr,e1,h⟩:=h
 subst e1
 cases r with
 | cons r rr=>
  rw [hs]
  refine assignInOrder_cons (thn (h1 pins s σ H _ _ _ I r h) fun _ s1 ⟨σ1,H1,I1,q1⟩=>?_)
  exact h2 pins s1 σ1 H1 _ _ Q I1 rr q1
noncomputable def zl3 (K:Frag) (n:Nat) (t:TGs):TG:=fun v σ H Q=>∃ a xs,v = .ref a/\SqT K H a xs/\xs.length = n/\t xs σ H Q
theorem zaW {t:TGs} (hc:X.calm = true) (h:PGs X es t)
 (hn:(assignEach es X.env).length = n:=by rfl) (hst:(assignEach es X.env).findIdx? (·.1) = none:=by rfl):PG X (.Tuple es k pos) (zl3 X.K n t):=by
 intro pins s σ H v u Q I r hw
 obtain ⟨a,xs,e1,hq,hl,hw⟩:=hw
 subst e1
 cases r
 obtain ⟨its,rv,ht,hz⟩:=I.tuple hq
 refine assign_Tuple_tuple (I.ok.hd hc) ht (by simp [hn,← hl,rv.length]) hst fun h' hx=>?_
 have I1:Inv X pins σ H { s with heap:=h' }:=I.kept (t':=s.toks) fun b o e=>hx b o (Ql (Qf e)) e
 exact h pins _ σ H xs _ Q I1 (by simpa using rv) hw
noncomputable def zrp (to ti:TE) (t:zgm):TG:=fun v σ H Q=>to σ H fun o H1=>ti σ H1 fun i H2=>t o i v H2 fun H3=>Q σ H3
theorem zoG {o i:Expr} {t:zgm} (ho:PE X o to) (hi:PE X i ti) (hs:zed X t)
 (ha:∀ v,assign (.Subscript o i pos) X.env v = (do
 let ov ← holding [v] (eval o X.env)
 let iv ← holding [v,ov] (eval i X.env)
 standAt pos
 holding [v,ov,iv] (setItem ov iv v)
 release [v,ov,iv] []):=by intro _;rfl):PG X (.Subscript o i pos) (zrp to ti t):=by
 intro pins s σ H v u Q I r h
 rw [ha]
 refine Q2 (wpAny_holding (thn (ho pins s σ H _ I h) fun ov s1 ⟨x,H1,I1,r1,q1⟩=>?_))
 refine Q2 (wpAny_holding (thn (hi pins s1 σ H1 _ I1 q1) fun iv s2 ⟨y,H2,I2,r2,q2⟩=>?_))
 refine Q2 (wpAny_standAt (Q2 (wpAny_holding (thn (hs pins s2 σ H2 x y v ov iv u _ I2 r1 r2 r q2) fun _ s3 ⟨H3,I3,q3⟩=>?_))))
 exact wpAny_release ⟨σ,H3,I3,q3⟩
noncomputable def zoi (te:TE) (g:TG):TS:=fun D σ H=>te σ H fun x H1=>g x σ H1 D.nx
theorem zoE (he:PE X e te) (hg:PG X tg g) (hs:swapsWithSole [tg] e pos.line X.env = pure false:=by rfl) (hw:swappedStores [tg] e X.env = pure none:=by rfl)
 (h1:(assignEach [tg] X.env).map (·.2) = [assign tg X.env]:=by rfl):PS X (.Assign [tg] e pos) (zoi te g):=by
 intro pins s σ H D I h
 refine wpAny_Assign_stores (thn (he pins s σ H _ I h) fun v s1 ⟨x,H1,I1,r1,q1⟩=>?_) hs hw
 rw [h1]
 exact thn (hg pins s1 σ H1 x v _ I1 r1 q1) fun _ s2 q=>q
theorem zoA (hN:X.N.Nodup) (hi:X.N[i]? = some x) (hx:Loc X.env.scope x) (he:PE X e te) (hs:swapsWith e (some (.Name x pos')) pos.line X.env = pure false:=by rfl) (hf:X.fn x = true\/X.env.scope.names.lookup x = some .local:=by first | exact .inl rfl | exact .inr rfl | assumption) :
  PS X (.Assign [.Name x pos'] e pos) (zoi te (zgW i)):=by
 intro pins s σ H D I h
 refine wpAny_Assign_Name (thn (he pins s σ H _ I h) fun v s1 ⟨y,H1,I1,r1,q1⟩=>?_) hs
 exact zcr I1 hN hi hx r1 (fun s2 I2=>⟨_,H1,I2,q1⟩) hf
noncomputable def zq5 (i:Nat) (te:TE) (ti:TIp):TS:=fun D σ H=>∃ x,σ[i]? = some (some x)/\te σ H fun y H1=>ti x y H1 fun z H2=>D.nx (σ.set i (some z)) H2
theorem zoD {op:Operator} {ti:TIp} (hN:X.N.Nodup) (hi:X.N[i]? = some x) (hx:Loc X.env.scope x) (he:PE X e te) (ho:PIp X op ti) (hf:X.fn x = true\/X.env.scope.names.lookup x = some .local:=by first | exact .inl rfl | exact .inr rfl | assumption) :
  PS X (.AugAssign (.Name x pos') op e pos) (zq5 i te ti):=by
 intro pins s σ H D I h
 obtain ⟨v,e1,h⟩:=h
 obtain ⟨m,hn,hl⟩:=I.loc
 have vis:Vis X.env.scope x:=by rcases hx with k | k;exact .inl k;exact .inr (.inl k)
 obtain ⟨u,r,l⟩:=hl i x v hi e1 vis
 refine wpAny_AugAssign_Name ?_
 have go:wpAny (model X.prog X.w) X.A (eval e X.env) (fun w s₂=>wpAny (model X.prog X.w) X.A (inplaceOp op u w) (fun r s₃=>wpAny (model X.prog X.w) X.A (storeName X.env x r) (fun _=>SP X pins D .next) X.xe s₃) X.xe s₂) X.xe s:=by
  refine thn (he pins s σ H _ I h) fun w s1 ⟨y,H1,I1,r1,q1⟩=>?_
  refine thn (ho pins s1 σ H1 v y u w _ I1 r r1 q1) fun z s2 ⟨zv,H2,I2,r2,q2⟩=>?_
  exact zcr I2 hN hi hx r2 (fun s3 I3=>⟨_,H2,I3,q2⟩) hf
 rcases l with ⟨hk,hm⟩ | ⟨hk,c,hc,hcell⟩
 ·exact wpAny_loadName_local I.ok.kind hk hn hm go
 ·rcases hk with hk | hk
  ·exact wpAny_loadName_cell I.ok.kind hk hc hcell go
  ·rcases hx with k | k
   ·have:X.env.scope.names.lookup x = some .free:=hk
    rw [k] at this;cases this
   ·have:X.env.scope.names.lookup x = some .free:=hk
    rw [k] at this;cases this
noncomputable def zp9 (to ti te:TE) (tget:V->V->Hp->VK->Prop) (tip:TIp) (tset:zgm):TS:=fun D σ H=>to σ H fun o H1=>ti σ H1 fun i H2=>tget o i H2 fun x H3=>te σ H3 fun y H4=>tip x y H4 fun z H5=>tset o i z H5 fun H6=>D.nx σ H6
def zh2 (X:Cx) (t:V->V->Hp->VK->Prop):Prop:=
 ∀ (pins:List (Addr × Obj)) (s:Shared) (σ:St) (H:Hp) (o i:V) (ov iv:Value) (Q:VK),Inv X pins σ H s->RelV o ov->RelV i iv->t o i H Q->
  wpAny (model X.prog X.w) X.A (getItem ov iv) (EP X pins σ Q) X.xe s
theorem zm0 {o i:Expr} {tget:V->V->Hp->VK->Prop} {tip:TIp} {tset:zgm} {op:Operator} (ho:PE X o to) (hi:PE X i ti) (hg:zh2 X tget) (he:PE X e te) (hp:PIp X op tip) (hs:zed X tset)
 (ha:∀ ov iv new,augStore i ov iv new = (do holding [new,ov,iv] (setItem ov iv new);release [new,ov,iv] [];pure .next):=by intros;rfl):PS X (.AugAssign (.Subscript o i tpos) op e pos) (zp9 to ti te tget tip tset):=by
 intro pins s σ H D I h
 refine wpAny_AugAssign_SubscriptAny (thn (ho pins s σ H _ I h) fun ov s1 ⟨x1,H1,I1,r1,q1⟩=>?_) ha
 refine thn (hi pins s1 σ H1 _ I1 q1) fun iv s2 ⟨x2,H2,I2,r2,q2⟩=>?_
 refine thn (hg pins s2 σ H2 x1 x2 ov iv _ I2 r1 r2 q2) fun old s3 ⟨x3,H3,I3,r3,q3⟩=>?_
 refine thn (he pins s3 σ H3 _ I3 q3) fun v s4 ⟨x4,H4,I4,r4,q4⟩=>?_
 refine thn (hp pins s4 σ H4 x3 x4 old v _ I4 r3 r4 q4) fun new s5 ⟨x5,H5,I5,r5,q5⟩=>?_
 exact thn (hs pins s5 σ H5 x1 x2 x5 ov iv new _ I5 r1 r2 r5 q5) fun _ s6 ⟨H6,I6,q6⟩=>⟨σ,H6,I6,q6⟩
noncomputable def ipI (f:Int->Int->Int):TIp:=fun x y H Q=>∃ i j,x = .int i/\y = .int j/\Q (.int (f i j)) H
theorem zpk:PIp X .Add (ipI fun i j=>i + j):=by
 intro pins s σ H x y v u Q I r1 r2 h
 obtain ⟨i,j,e1,e2,q⟩:=h
 subst e1;subst e2
 obtain ⟨t,rfl⟩:=r1
 obtain ⟨t',rfl⟩:=r2
 exact iadd_int ⟨.int _,H,I.tok _,⟨_,rfl⟩,q⟩
end
variable {body:List Stmt}
section
noncomputable def zog (c:TT) (tb:TS):TS:=fun D σ H=>∃ W:Nat->St->Hp->Prop,(∃ m,W m σ H)/\∀ m σ H,W m σ H->
 c σ H fun b H1=>if b = true then ∃ N:St->Hp->Prop,(∀ σ' H',N σ' H'->∃ m',m' < m/\W m' σ' H')/\tb { D with nx:=N,ct:=N,bk:=D.nx } σ H1 else D.nx σ H1
theorem zlw {c:Expr} {tb:TS} (hp:PassesOwn (model X.prog X.w) X.A X.env X.xe) (hc:PT X c tc) (hb:PSs X body tb):PS X (.While c body [] pos) (zog tc tb):=by
 intro pins s σ H D I h
 obtain ⟨W,⟨m0,w0⟩,turn⟩:=h
 refine wpAny_While (codeAny_whileLoop (fun n s'=>∃ σ' H',Inv X pins σ' H' s'/\W n σ' H') ?_ m0 ⟨σ,H,I,w0⟩)
 rintro n s1 ⟨σ1,H1,I1,w1⟩
 refine wpAny_passesOwn hp (thn (hc pins s1 σ1 H1 _ I1 (turn n σ1 H1 w1)) fun b s2 ⟨H2,I2,q2⟩=>?_)
 cases b with
 | true=>
  obtain ⟨N,hN,q2⟩:=q2
  rw [if_pos rfl]
  refine wpAny_passesOwn hp (thn (hb pins s2 σ1 H2 _ I2 q2) fun f s3 q3=>?_)
  cases f with
  | next=>
   obtain ⟨σ3,H3,I3,n3⟩:=q3
   obtain ⟨m',hm,w3⟩:=hN σ3 H3 n3
   exact ⟨m',hm,σ3,H3,I3,w3⟩
  | cont=>
   obtain ⟨σ3,H3,I3,n3⟩:=q3
   obtain ⟨m',hm,w3⟩:=hN σ3 H3 n3
   exact ⟨m',hm,σ3,H3,I3,w3⟩
  | brk=>exact q3
  | ret v=>exact q3
 | false=>
  rw [if_neg Q5]
  exact wpAny_execs_nil ⟨σ1,H2,I2,q2⟩
end
structure It where
 go:Nat->Hp->Prop
 yld:Nat->Hp->V->Hp->Prop
 stop:Nat->Hp->Prop
def zee (X:Cx) (pins:List (Addr × Obj)) (H:Hp) (b:Addr):Prop:=
 H b = none/\b ≠ X.env.locals/\b ∉ X.fs/\(b ∈ X.ex\/X.s₀.heap.objs.size<=b)/\(∀ x c,X.env.cells.lookup x = some c->c ≠ b)/\∀ p ∈ X.pn ++ pins,p.1 ≠ b
theorem Inv.fpOk {b:Addr} (I:Inv X pins σ H s) (hb:s.heap.objs.size<=b) (hn:H' b = none):zee X pins H' b:=by
 refine ⟨hn,Nat.ne_of_gt (Q6 I.lt hb),I.nofs hb,.inr (Qk I.sz hb),fun x c e z=>?_,fun p hp z=>?_⟩
 ·obtain ⟨v,q⟩:=I.cell x c e
  exact absurd (Q6 q.lt (by rw [z];exact hb)) (Qp _)
 ·exact absurd (Q6 (Qf (I.pin p hp).1) (by rw [z];exact hb)) (Qp _)
structure Turn (P:Program) (w:World) (K:Frag) (tg:Expr) (J:It) (fp:List Addr) (it:Addr) (tn:Nat->Heap->Prop):Prop where
 mem:it ∈ fp
 obj:∀ i h,tn i h->∀ b ∈ fp,∃ o,h.get? b = some o/\∀ v,o.data ≠ .cell v
 keep:∀ i h h',tn i h->(∀ b ∈ fp,∀ o,h.get? b = some o->h'.get? b = some o)->tn i h'
 item:∀ (X:Cx),X.prog = P->X.w = w->X.K = K->X.calm = true->∀ (i:Nat) (pins:List (Addr × Obj)) (s:Shared) (σ:St) (H:Hp) (E:Value->Shared->Prop),Inv X pins σ H s->(∀ b ∈ fp,zee X pins H b)->tn i s.heap->J.go i H->
  wpAny (model P w) X.A (pyNext (.ref it)) (fun r s1=>∃ u,r = some u /\
   wpAny (model P w) X.A (letOwnedTupleGo tg (.ref it) u) (fun _ s2=>∃ x H',Inv X pins σ H' s2/\RelV x u/\J.yld i H x H'/\tn (i + 1) s2.heap/\∀ b ∈ fp,H' b = none) E s1) E s
 done:∀ (X:Cx),X.prog = P->X.w = w->X.K = K->X.calm = true->∀ (i:Nat) (pins:List (Addr × Obj)) (s:Shared) (σ:St) (H:Hp) (E:Value->Shared->Prop),Inv X pins σ H s->(∀ b ∈ fp,zee X pins H b)->tn i s.heap->J.stop i H->
  wpAny (model P w) X.A (pyNext (.ref it)) (fun r s1=>r = none/\Inv X pins σ H s1) E s
 self:∀ (A:Around) (i:Nat) (s:Shared) (Q:Value->Shared->Prop) (E:Value->Shared->Prop),tn i s.heap->Q (.ref it) s->wpAny (model P w) A (pyIter (.ref it)) Q E s
noncomputable abbrev TI:=St->Hp->(It->Hp->Prop)->Prop
def PIE (X:Cx) (pins:List (Addr × Obj)) (σ:St) (tg:Expr) (R:It->Hp->Prop) (itv:Value) (s2:Shared):Prop:=
 ∃ (it:Addr) (fp:List Addr) (tn:Nat->Heap->Prop) (J:It) (H':Hp),itv = .ref it/\Inv X pins σ H' s2/\Turn X.prog X.w X.K tg J fp it tn/\tn 0 s2.heap/\(∀ b ∈ fp,zee X pins H' b)/\R J H'
def PI (X:Cx) (tg iter:Expr) (wi:TI):Prop:=
 ∀ (pins:List (Addr × Obj)) (s:Shared) (σ:St) (H:Hp) (R:It->Hp->Prop),Inv X pins σ H s->wi σ H R->
  wpAny (model X.prog X.w) X.A (eval iter X.env) (fun v s1=>wpAny (model X.prog X.w) X.A (pyIter v) (PIE X pins σ tg R) X.xe s1) X.xe s
theorem zjz {o:Obj} {n:String} {vs:Array Value} {Q:Unit->Shared->Prop} (ho:s.heap.get? it = some o) (hc:o.cls = .type n) (hd:o.data = .fields vs)
 (hn:["enumerate","zip","dict_itemiterator","dict_reverseitemiterator","odict_iterator","itertools.zip_longest","itertools.pairwise"].contains n = false) (hQ:Q () s):wpAny M A (letOwnedTupleGo tg (.ref it) u) Q E s:=by
 unfold letOwnedTupleGo
 cases tg <;> first
  | exact Qg hQ
  | (cases u <;> first
    | exact Qg hQ
    | (refine Q2 (wpAny_load ho ?_)
       rw [hc,hd]
       show wpAny M A (if (["enumerate","zip","dict_itemiterator","dict_reverseitemiterator","odict_iterator","itertools.zip_longest","itertools.pairwise"].contains n && vs[0]? == some (rawInt _)) = true then _ else _) Q E s
       rw [if_neg (by intro h;rw [hn,Bool.false_and] at h;cases h)]
       exact Qg hQ))
noncomputable def Itl (K:Frag) (a:Addr):It:=
 ⟨fun i H=>∃ xs x,SqL K H a xs/\xs[i]? = some x,fun i H x H'=>H' = H/\∀ xs,SqL K H a xs->xs[i]? = some x,fun i H=>∃ xs,SqL K H a xs/\xs.length<=i⟩
noncomputable def Itt (K:Frag) (a:Addr):It:=
 ⟨fun i H=>∃ xs x,SqT K H a xs/\xs[i]? = some x,fun i H x H'=>H' = H/\∀ xs,SqT K H a xs->xs[i]? = some x,fun i H=>∃ xs,SqT K H a xs/\xs.length<=i⟩
noncomputable def Itr (lo:Int) (n:Nat):It:=⟨fun i _=>i < n,fun i H x H'=>H' = H/\x = .int (lo + i),fun i _=>n<=i⟩
variable {K:Frag}
theorem zjV (a it:Addr):Turn P w K tg (Itl K a) [it] it (fun i h=>h.IsListIter it a i) where
 mem:=by simp
 obj:=fun i h st b hb=>by
  have e:b = it:=by simpa using hb
  subst e
  obtain ⟨o,e,c,d⟩:=st
  exact ⟨o,e,fun v z=>by rw [d] at z;cases z⟩
 keep:=fun i h h' st k=>st.at fun o e=>k it (by simp) o e
 item:=by
  intro X hP hw hK hc i pins s σ H E I hf st hg
  subst hP hw hK
  obtain ⟨xs,x,hq,hx⟩:=hg
  obtain ⟨its,rv,p,hz⟩:=I.list hq
  obtain ⟨u,hu,ru⟩:=rv.get hx
  obtain ⟨f0,f1,f2,f3,f4,f5⟩:=hf it (by simp)
  refine wpAny_pyNext_list_item st p.isList (x:=u) (by simpa using hu) fun h' st' sb=>?_
  have I1:Inv X pins σ H { s with heap:=h' }:=I.turned (t':=s.toks) (fun b o hb e=>(sb.2 b hb).trans e) f0 f1 f3 f4 f5
  obtain ⟨o,e,c,d⟩:=id st'
  exact ⟨u,rfl,zjz (s:={ s with heap:=h' }) e c d (by decide) ⟨x,H,I1,ru,⟨rfl,fun ys hy=>by rw [I.list_inj hy hq];exact hx⟩,st',fun b hb=>(hf b hb).1⟩⟩
 done:=by
  intro X hP hw hK hc i pins s σ H E I hf st hg
  subst hP hw hK
  obtain ⟨xs,hq,hx⟩:=hg
  obtain ⟨its,rv,p,hz⟩:=I.list hq
  obtain ⟨f0,f1,f2,f3,f4,f5⟩:=hf it (by simp)
  have hl:=rv.length
  exact wpAny_pyNext_list_end (I.ok.hd hc) st p.isList (by simp;omega) fun h' eb=>⟨rfl,I.turned (t':=s.toks) (fun b o hb e=>eb b o hb e) f0 f1 f3 f4 f5⟩
 self:=fun _ _ _ _ _ st h=>wpAny_pyIter_listiter st h
theorem zi9 (a it:Addr):Turn P w K tg (Itt K a) [it] it (fun i h=>h.IsTupleIter it a i) where
 mem:=by simp
 obj:=fun i h st b hb=>by
  have e:b = it:=by simpa using hb
  subst e
  obtain ⟨o,e,c,d⟩:=st
  exact ⟨o,e,fun v z=>by rw [d] at z;cases z⟩
 keep:=fun i h h' st k=>st.at fun o e=>k it (by simp) o e
 item:=by
  intro X hP hw hK hc i pins s σ H E I hf st hg
  subst hP hw hK
  obtain ⟨xs,x,hq,hx⟩:=hg
  obtain ⟨its,rv,p,hz⟩:=I.tuple hq
  obtain ⟨u,hu,ru⟩:=rv.get hx
  obtain ⟨f0,f1,f2,f3,f4,f5⟩:=hf it (by simp)
  refine wpAny_pyNext_tuple_item st (show s.heap.IsTuple a its.toArray from p) (x:=u) (by simpa using hu) fun h' st' sb=>?_
  have I1:Inv X pins σ H { s with heap:=h' }:=I.turned (t':=s.toks) (fun b o hb e=>(sb.2 b hb).trans e) f0 f1 f3 f4 f5
  obtain ⟨o,e,c,d⟩:=id st'
  exact ⟨u,rfl,zjz (s:={ s with heap:=h' }) e c d (by decide) ⟨x,H,I1,ru,⟨rfl,fun ys hy=>by rw [I.tuple_inj hy hq];exact hx⟩,st',fun b hb=>(hf b hb).1⟩⟩
 done:=by
  intro X hP hw hK hc i pins s σ H E I hf st hg
  subst hP hw hK
  obtain ⟨xs,hq,hx⟩:=hg
  obtain ⟨its,rv,p,hz⟩:=I.tuple hq
  obtain ⟨f0,f1,f2,f3,f4,f5⟩:=hf it (by simp)
  have hl:=rv.length
  exact wpAny_pyNext_tuple_end (I.ok.hd hc) st (show s.heap.IsTuple a its.toArray from p) (by simp;omega) fun h' eb=>⟨rfl,I.turned (t':=s.toks) (fun b o hb e=>eb b o hb e) f0 f1 f3 f4 f5⟩
 self:=fun _ _ _ _ _ st h=>wpAny_pyIter_tupleiter st h
theorem zja (it:Addr) (lo:Int) (n:Nat):Turn P w K tg (Itr lo n) [it] it (fun i h=>IsRangeIter h it (lo + (i:Nat) * 1) ((n:Int) - (i:Nat)) 1) where
 mem:=by simp
 obj:=fun i h st b hb=>by
  have e:b = it:=by simpa using hb
  subst e
  exact ⟨_,st,fun v z=>by
   have z':Data.fields _ = Data.cell v:=z
   cases z'⟩
 keep:=fun i h h' st k=>k it (by simp) _ st
 item:=by
  intro X hP hw hK hc i pins s σ H E I hf st hg
  subst hP hw hK
  obtain ⟨f0,f1,f2,f3,f4,f5⟩:=hf it (by simp)
  have W:=Walks.range (prog:=X.prog) (w:=X.w) (I.ok.hd hc) it lo 1 n
  refine W.item i s _ _ hg st fun v h' tk hv st' kk=>?_
  obtain ⟨t,rfl⟩:=hv
  have I1:Inv X pins σ H { s with heap:=h',toks:=tk }:=I.turned (fun b o hb e=>kk b o (by simpa using hb) e) f0 f1 f3 f4 f5
  refine ⟨_,rfl,zjz (s:={ s with heap:=h',toks:=tk }) (n:="range_iterator") st' rfl rfl (by decide) ⟨.int (lo + i),H,I1,⟨t,?_⟩,⟨rfl,rfl⟩,st',fun b hb=>(hf b hb).1⟩⟩
  rw [Int.mul_one]
 done:=by
  intro X hP hw hK hc i pins s σ H E I hf st hg
  subst hP hw hK
  obtain ⟨f0,f1,f2,f3,f4,f5⟩:=hf it (by simp)
  exact wpAny_pyNext_range_end (I.ok.hd hc) st (by have:n<=i:=hg;omega) fun h' eb=>⟨rfl,I.turned (t':=s.toks) (fun b o hb e=>eb b o hb e) f0 f1 f3 f4 f5⟩
 self:=fun _ _ _ _ _ st h=>wpAny_pyIter_rangeiter st h
variable {l:Expr} {fp:List Addr} {p:Pos} {tl:TE}
section
noncomputable def zqz (K:Frag) (tl:TE):TI:=fun σ H R=>tl σ H fun x H1=>∃ a,x = .ref a/\(∃ xs,SqL K H1 a xs)/\R (Itl K a) H1
noncomputable def zro (K:Frag) (tl:TE):TI:=fun σ H R=>tl σ H fun x H1=>∃ a,x = .ref a/\(∃ xs,SqT K H1 a xs)/\R (Itt K a) H1
theorem zf5 (hl:PE X l tl):PI X tg l (zqz X.K tl):=by
 intro pins s σ H R I h
 refine thn (hl pins s σ H _ I h) fun v s1 ⟨x,H1,I1,r1,q1⟩=>?_
 obtain ⟨a,e,⟨xs,hq⟩,q⟩:=q1
 subst e
 cases r1
 obtain ⟨its,rv,p,hz⟩:=I1.list hq
 refine wpAny_pyIter_list p.isList ?_
 refine ⟨s1.heap.objs.size,[s1.heap.objs.size],_,_,H1,rfl,I1.kept (t':=s1.toks) fun b o e=>Q3 _ e,zjV a _,⟨_,Qm _ rfl,rfl,rfl⟩,fun b hb=>?_,q⟩
 have e:b = s1.heap.objs.size:=by simpa using hb
 subst e
 exact I1.fpOk (Q4 _) (I1.hok.fresh (Q4 _))
theorem zoF (hl:PE X l tl):PI X tg l (zro X.K tl):=by
 intro pins s σ H R I h
 refine thn (hl pins s σ H _ I h) fun v s1 ⟨x,H1,I1,r1,q1⟩=>?_
 obtain ⟨a,e,⟨xs,hq⟩,q⟩:=q1
 subst e
 cases r1
 obtain ⟨its,rv,p,hz⟩:=I1.tuple hq
 refine wpAny_pyIter_tuple (show s1.heap.IsTuple a its.toArray from p) ?_
 refine ⟨s1.heap.objs.size,[s1.heap.objs.size],_,_,H1,rfl,I1.kept (t':=s1.toks) fun b o e=>Q3 _ e,zi9 a _,⟨_,Qm _ rfl,rfl,rfl⟩,fun b hb=>?_,q⟩
 have e:b = s1.heap.objs.size:=by simpa using hb
 subst e
 exact I1.fpOk (Q4 _) (I1.hok.fresh (Q4 _))
theorem zls {R:It->Hp->Prop} {lo hi:Int} {t u v:Tok} {tk:Nat} (I:Inv X pins σ H s) (h1:-(2 ^ 62)<=lo) (h2:lo < 2 ^ 62) (h3:-(2 ^ 62)<=hi) (h4:hi < 2 ^ 62)
 (q:R (Itr lo (hi - lo).toNat) H):wpAny (model X.prog X.w) X.A (pyIter (.ref s.heap.objs.size)) (PIE X pins σ tg R) E { s with heap:=s.heap.push { cls:=.type "range",data:=.fields #[.int lo t,.int hi u,.int 1 v] },toks:=tk }:=by
 refine wpAny_pyIter_range (IsRange.new ..) (small_one h1 h2 h3 h4) ?_
 have I1:Inv X pins σ H { s with heap:=s.heap.push { cls:=.type "range",data:=.fields #[.int lo t,.int hi u,.int 1 v] },toks:=tk }:=I.kept fun b o e=>Q3 _ e
 refine ⟨(s.heap.push { cls:=.type "range",data:=.fields #[.int lo t,.int hi u,.int 1 v] }).objs.size,[(s.heap.push { cls:=.type "range",data:=.fields #[.int lo t,.int hi u,.int 1 v] }).objs.size],_,_,H,rfl,
  I1.kept (t':=tk) fun b o e=>Q3 _ e,zja _ lo (hi - lo).toNat,?_,fun b hb=>?_,q⟩
 ·have e1:lo + ((0:Nat):Int) * 1 = lo:=by simp
  have e2:(((hi - lo).toNat:Nat):Int) - ((0:Nat):Int) = Builtin.Range.rangeSize lo hi 1:=by rw [rangeSize_one];split <;> omega
  show IsRangeIter _ _ (lo + ((0:Nat):Int) * 1) ((((hi - lo).toNat:Nat):Int) - ((0:Nat):Int)) 1
  rw [e1,e2]
  exact Qm _ rfl
 ·have e:b = (s.heap.push { cls:=.type "range",data:=.fields #[.int lo t,.int hi u,.int 1 v] }).objs.size:=by simpa using hb
  subst e
  exact I1.fpOk (Q4 _) (I1.hok.fresh (Q4 _))
noncomputable def zqy (ta:TA):TI:=fun σ H R=>ta σ H fun vs H1=>∃ j:Int,vs = [.int j]/\-(2 ^ 62)<=j/\j < 2 ^ 62/\R (Itr 0 j.toNat) H1
theorem zj9 {a:Expr} {ta:TA} (hg:Gl X "range") (hm:X.mg "range" = none) (ha:PA X [a] ta) (hs:starEach [a] X.env = [(false,eval a X.env)]:=by rfl):PI X tg (.Call (.Name "range" p) [a] [] pos) (zqy ta):=by
 intro pins s σ H R I h
 refine Call_ (zfA I hg hm boot_range (PyProof.Rows.callWith_type1 (thn (ha pos pins s σ H _ I h) fun us s1 ⟨vs,H1,I1,r1,q1⟩=>?_) hs rfl))
 obtain ⟨j,e,q1,q2,q⟩:=q1
 subst e
 cases r1 with
 | cons r rr=>
  cases rr
  obtain ⟨t,rfl⟩:=r
  exact call_range_1 (zls I1 (by omega) (by omega) q1 q2 (by simpa using q))
noncomputable def zq3 (wi:TI) (g:TG) (tb:TS):TS:=fun D σ H=>wi σ H fun J H1=>∃ W:Nat->Nat->St->Hp->Prop,(∃ m,W 0 m σ H1)/\∀ i m σ H,W i m σ H->
 (J.stop i H/\D.nx σ H)\/(J.go i H/\∃ N:St->Hp->Prop,(∀ σ' H',N σ' H'->∃ m',m' < m/\W (i + 1) m' σ' H')/\∀ x H',J.yld i H x H'->g x σ H' fun σ2 H2=>tb { D with nx:=N,ct:=N,bk:=D.nx } σ2 H2)
noncomputable def zde (fp:List Addr) (h:Heap):List (Addr × Obj):=fp.filterMap fun b=>(h.get? b).map fun o=>(b,o)
theorem zaK {b:Addr} {o:Obj} (hb:b ∈ fp) (e:h.get? b = some o):(b,o) ∈ zde fp h:=mem_filterMap.mpr ⟨b,hb,by rw [e];rfl⟩
theorem zke {p:Addr × Obj} (hp:p ∈ zde fp h):p.1 ∈ fp/\h.get? p.1 = some p.2:=by
 obtain ⟨b,hb,e⟩:=mem_filterMap.mp hp
 cases q:h.get? b with
 | none=>rw [q] at e;cases e
 | some o=>
  rw [q] at e
  have e':(b,o) = p:=Qe e
  subst e'
  exact ⟨hb,q⟩
theorem Inv.pinned (I:Inv X pins σ H s) (hf:∀ b ∈ fp,zee X pins H b) (ho:∀ b ∈ fp,∃ o,s.heap.get? b = some o/\∀ v,o.data ≠ .cell v):Inv X (pins ++ zde fp s.heap) σ H s:=
 I.pins_of fun p hp=>(mem_append.mp hp).elim (fun z=>I.pin p (Qn _ z)) fun z=>by
  obtain ⟨hb,e⟩:=zke z
  obtain ⟨f0,f1,f2,_⟩:=hf p.1 hb
  obtain ⟨o,e',d⟩:=ho p.1 hb
  rw [e] at e';cases e'
  exact ⟨e,f0,f1,f2,d⟩
theorem Inv.unpinned {pl:List (Addr × Obj)} (I:Inv X (pins ++ pl) σ H s):Inv X pins σ H s:=I.pins_of fun p hp=>I.pin p (Qn _ (mem_append_left _ hp))
theorem zhn {iter:Expr} {wi:TI} {tb:TS} (hp:PassesOwn (model X.prog X.w) X.A X.env X.xe) (hc:X.calm = true) (hi:PI X tg iter wi) (hg:PG X tg g) (hb:PSs X body tb)
 (hs:∀ x,foldedSetIterable iter X.env x = pure x:=by intro _;rfl):PS X (.For tg iter body [] pos) (zq3 wi g tb):=by
 intro pins s σ H D I h
 refine wpAny_For (thn (hi pins s σ H _ I h) fun v s1 h1=>thn h1 fun itv s2 h2=>?_) hs
 obtain ⟨it,fp,tn,J,H2,e,I2,T,st2,f2,W,⟨m0,w0⟩,turn⟩:=h2
 subst e
 -- what stays true of the iterator's objects through the loop
 have stat:∀ {H':Hp},(∀ b ∈ fp,H' b = none)->∀ b ∈ fp,zee X pins H' b:=fun hn b hb=>⟨hn b hb,(f2 b hb).2⟩
 refine codeAny_forLoop_any (fun n s'=>∃ i σ' H',Inv X pins σ' H' s'/\tn i s'.heap/\(∀ b ∈ fp,H' b = none)/\W i n σ' H') ?_ m0 ⟨0,σ,H2,I2,st2,fun b hb=>(f2 b hb).1,w0⟩
 rintro n s3 ⟨i,σ3,H3,I3,st3,fr3,w3⟩
 rcases turn i n σ3 H3 w3 with ⟨stop,qn⟩ | ⟨go,N,hN,step⟩
 ·refine wpAny_passesOwn hp (thn (T.done X rfl rfl rfl hc i pins s3 σ3 H3 X.xe I3 (stat fr3) st3 stop) fun r s4 ⟨hr,I4⟩=>?_)
  subst hr
  exact wpAny_execs_nil ⟨σ3,H3,I4,qn⟩
 ·refine wpAny_passesOwn hp (thn (T.item X rfl rfl rfl hc i pins s3 σ3 H3 X.xe I3 (stat fr3) st3 go) fun r s4 ⟨u,hr,h4⟩=>?_)
  subst hr
  refine wpAny_passesOwn hp (thn h4 fun _ s5 ⟨x,H5,I5,r5,y5,st5,fr5⟩=>?_)
  have I5':=I5.pinned (stat fr5) (T.obj _ _ st5)
  refine wpAny_passesOwn hp (thn (hg _ s5 σ3 H5 x u _ I5' r5 (step x H5 y5)) fun _ s6 ⟨σ6,H6,I6,q6⟩=>?_)
  refine wpAny_passesOwn hp (thn (hb _ s6 σ6 H6 _ I6 q6) fun f s7 q7=>?_)
  have again:∀ {σ7:St} {H7:Hp},Inv X (pins ++ zde fp s5.heap) σ7 H7 s7->N σ7 H7->∃ m,m < n/\∃ i σ' H',Inv X pins σ' H' s7/\tn i s7.heap/\(∀ b ∈ fp,H' b = none)/\W i m σ' H':=fun {σ7 H7} I7 n7=>by
   obtain ⟨m',hm,w7⟩:=hN σ7 H7 n7
   refine ⟨m',hm,i + 1,σ7,H7,I7.unpinned,T.keep _ _ _ st5 fun b hb o e=>(I7.pin (b,o) (Qn _ (Qn _ (zaK hb e)))).1,fun b hb=>?_,w7⟩
   obtain ⟨o,e,d⟩:=T.obj _ _ st5 b hb
   exact (I7.pin (b,o) (Qn _ (Qn _ (zaK hb e)))).2.1
  cases f with
  | next=>obtain ⟨σ7,H7,I7,n7⟩:=q7;exact again I7 n7
  | cont=>obtain ⟨σ7,H7,I7,n7⟩:=q7;exact again I7 n7
  | brk=>obtain ⟨σ7,H7,I7,q7⟩:=q7;exact ⟨σ7,H7,I7.unpinned,q7⟩
  | ret v=>obtain ⟨x7,σ7,H7,I7,r7,q7⟩:=q7;exact ⟨x7,σ7,H7,I7.unpinned,r7,q7⟩
end
noncomputable abbrev R2:=V->V->Hp->VK->Prop
def OpR (X:Cx) (f:Value->Value->Sem Value) (r:R2):Prop:=
 ∀ (pins:List (Addr × Obj)) (s:Shared) (σ:St) (H:Hp) (x y:V) (v u:Value) (Q:VK),Inv X pins σ H s->RelV x v->RelV y u->r x y H Q->
  wpAny (model X.prog X.w) X.A (f v u) (EP X pins σ Q) X.xe s
def UnR (X:Cx) (f:Value->Sem Value) (r:V->Hp->VK->Prop):Prop:=
 ∀ (pins:List (Addr × Obj)) (s:Shared) (σ:St) (H:Hp) (x:V) (v:Value) (Q:VK),Inv X pins σ H s->RelV x v->r x H Q->
  wpAny (model X.prog X.w) X.A (f v) (EP X pins σ Q) X.xe s
def CallR (X:Cx) (f:Value) (r:List V->Hp->VK->Prop):Prop:=
 ∀ (pins:List (Addr × Obj)) (s:Shared) (σ:St) (H:Hp) (xs:List V) (us:List Value) (Q:VK),Inv X pins σ H s->Vals xs us->r xs H Q->
  wpAny (model X.prog X.w) X.A (call f us) (EP X pins σ Q) X.xe s
noncomputable def tOp (r:R2) (ta tb:TE):TE:=fun σ H Q=>ta σ H fun x H1=>tb σ H1 fun y H2=>r x y H2 Q
noncomputable def tUn (r:V->Hp->VK->Prop) (ta:TE):TE:=fun σ H Q=>ta σ H fun x H1=>r x H1 Q
noncomputable def rI (C:Int->Int->Prop) (g:Int->Int->V):R2:=fun x y H Q=>∃ i j,x = .int i/\y = .int j/\C i j/\Q (g i j) H
noncomputable def rI0 (g:Int->Int->V):R2:=fun x y H Q=>∃ i j,x = .int i/\y = .int j/\Q (g i j) H
noncomputable def rU (g:Int->V):V->Hp->VK->Prop:=fun x H Q=>∃ i,x = .int i/\Q (g i) H
variable {r:R2} {f:Value->Value->Sem Value}
section
variable {a b c:Expr} {tc:TE}
theorem zmc (ha:PE X a ta) (hb:PE X b tb) (I:Inv X pins σ H s)
 (h:ta σ H fun x H1=>tb σ H1 fun y H2=>R x y H2) 
 (hf:∀ v u s2 x y H2,Inv X pins σ H2 s2->RelV x v->RelV y u->R x y H2->wpAny (model X.prog X.w) X.A (f v u) Q X.xe s2) :
  wpAny (model X.prog X.w) X.A (eval a X.env) (fun v s₁=>wpAny (model X.prog X.w) X.A (eval b X.env) (fun u s₂=>wpAny (model X.prog X.w) X.A (f v u) Q X.xe s₂) X.xe s₁) X.xe s:=by
 refine thn (ha pins s σ H _ I h) fun v s1 ⟨x,H1,I1,r1,q1⟩=>?_
 refine thn (hb pins s1 σ H1 _ I1 q1) fun u s2 ⟨y,H2,I2,r2,q2⟩=>?_
 exact hf v u s2 x y H2 I2 r1 r2 q2
theorem zml {op:Operator} (ho:OpR X (binaryOp op) r) (ha:PE X a ta) (hb:PE X b tb):PE X (.BinOp a op b pos) (tOp r ta tb):=by
 intro pins s σ H Q I h
 exact wpAny_BinOp (zmc ha hb I h fun v u s2 x y H2 I2 rx ry q=>ho pins s2 σ H2 x y v u Q I2 rx ry q)
theorem zqm {op:UnaryOp} {r:V->Hp->VK->Prop} (ho:UnR X (unaryOp op) r) (ha:PE X a ta):PE X (.UnaryOp op a pos) (tUn r ta):=by
 intro pins s σ H Q I h
 exact UnaryOp_ (thn (ha pins s σ H _ I h) fun v s1 ⟨x,H1,I1,r1,q1⟩=>ho pins s1 σ H1 x v Q I1 r1 q1)
theorem opI {C:Int->Int->Prop} {g:Int->Int->Int}
 (rule:∀ (i j:Int) (t u:Tok) (s:Shared) (Q:Value->Shared->Prop) (E:Value->Shared->Prop),C i j->Q (.int (g i j) s.toks) { s with toks:=s.toks + 1 }->wpAny (model X.prog X.w) X.A (f (.int i t) (.int j u)) Q E s) :
  OpR X f (rI C fun i j=>.int (g i j)):=by
 intro pins s σ H x y v u Q I rx ry h
 obtain ⟨i,j,rfl,rfl,hc,q⟩:=h
 obtain ⟨t,rfl⟩:=rx
 obtain ⟨t',rfl⟩:=ry
 exact rule i j t t' s _ _ hc ⟨.int (g i j),H,I.tok _,⟨_,rfl⟩,q⟩
theorem zoX {g:Int->Int->Int}
 (rule:∀ (i j:Int) (t u:Tok) (s:Shared) (Q:Value->Shared->Prop) (E:Value->Shared->Prop),Q (.int (g i j) s.toks) { s with toks:=s.toks + 1 }->wpAny (model X.prog X.w) X.A (f (.int i t) (.int j u)) Q E s) :
  OpR X f (rI0 fun i j=>.int (g i j)):=by
 intro pins s σ H x y v u Q I rx ry h
 obtain ⟨i,j,rfl,rfl,q⟩:=h
 obtain ⟨t,rfl⟩:=rx
 obtain ⟨t',rfl⟩:=ry
 exact rule i j t t' s _ _ ⟨.int (g i j),H,I.tok _,⟨_,rfl⟩,q⟩
theorem zlD {g:Int->Int->Bool}
 (rule:∀ (i j:Int) (t u:Tok) (s:Shared) (Q:Value->Shared->Prop) (E:Value->Shared->Prop),Q (.bool (g i j)) s->wpAny (model X.prog X.w) X.A (f (.int i t) (.int j u)) Q E s) :
  OpR X f (rI0 fun i j=>.bl (g i j)):=by
 intro pins s σ H x y v u Q I rx ry h
 obtain ⟨i,j,rfl,rfl,q⟩:=h
 obtain ⟨t,rfl⟩:=rx
 obtain ⟨t',rfl⟩:=ry
 exact rule i j t t' s _ _ ⟨.bl (g i j),H,I,rfl,q⟩
def zrx (i j:Int):Prop:=0<=j/\j<=1000000/\i.natAbs < 2 ^ 64
def CMul (i j:Int):Prop:=(-(2 ^ 64) < i/\i < 2 ^ 64)\/(-(2 ^ 64) < j/\j < 2 ^ 64)
theorem CMul.ok {i j:Int} (h:CMul i j):IntMulOk i j:=by
 rcases h with ⟨h1,h2⟩ | ⟨h1,h2⟩
 ·exact .of_left (intBits_le_64 h1 h2)
 ·exact .of_right (intBits_le_64 h1 h2)
theorem zoW:OpR X (binaryOp .Add) (rI0 fun i j=>.int (i + j)):=zoX fun _ _ _ _ _ _ _ q=>add_int q
theorem zoS:OpR X (binaryOp .Sub) (rI0 fun i j=>.int (i - j)):=zoX fun _ _ _ _ _ _ _ q=>sub_int q
theorem znd:OpR X (binaryOp .Mod) (rI (fun _ j=>j ≠ 0) fun i j=>.int (i.fmod j)):=opI fun _ _ _ _ _ _ _ hc q=>mod_int' hc q
theorem zoT:OpR X (binaryOp .Pow) (rI zrx fun i j=>.int (i ^ j.toNat)):=opI fun _ _ _ _ _ _ _ hc q=>pow_int_small hc.1 hc.2.1 hc.2.2 q
theorem unI {f:Value->Sem Value} {g:Int->Int}
  (rule:∀ (i:Int) (t:Tok) (s:Shared) (Q:Value->Shared->Prop) (E:Value->Shared->Prop),Q (.int (g i) s.toks) { s with toks:=s.toks + 1 }->wpAny (model X.prog X.w) X.A (f (.int i t)) Q E s) :
  UnR X f (rU fun i=>.int (g i)):=by
 intro pins s σ H x v Q I rx h
 obtain ⟨i,rfl,q⟩:=h
 obtain ⟨t,rfl⟩:=rx
 exact rule i t s _ _ ⟨.int (g i),H,I.tok _,⟨_,rfl⟩,q⟩
theorem zoe:UnR X (unaryOp .USub) (rU fun i=>.int (-i)):=unI fun _ _ _ _ _ q=>neg_int q
end
section
variable {a b c:Expr} {tc:TE}
theorem zkC {Q:VK} {k k':Bool} (I:Inv X pins σ H s) (q:Q (.bl k) H) (e:k = k'):EP X pins σ Q (.bool k') s:=by
 subst e
 exact ⟨.bl k,H,I,rfl,q⟩
theorem zqq:OpR X (compareOp .Lt) (rI0 fun i j=>.bl (decide (i < j))):=zlD fun _ _ _ _ _ _ _ q=>lt_int q
theorem zqr:OpR X (compareOp .LtE) (rI0 fun i j=>.bl (decide (i<=j))):=zlD fun _ _ _ _ _ _ _ q=>le_int q
theorem zqs:OpR X (compareOp .Gt) (rI0 fun i j=>.bl (decide (j < i))):=zlD fun _ _ _ _ _ _ _ q=>gt_int q
theorem zoU:OpR X (compareOp .Is) (fun x y H Q=>y = .non/\Q (.bl (decide (x = .non))) H):=by
 intro pins s σ H x y v u Q I rx ry h
 obtain ⟨rfl,q⟩:=h
 cases ry
 refine is_none_gen (zkC I q ?_)
 cases x <;> first
  | (cases rx;rfl)
  | (obtain ⟨t,rfl⟩:=rx;rfl)
theorem znb:OpR X (compareOp .IsNot) (fun x y H Q=>y = .non/\Q (.bl (!decide (x = .non))) H):=by
 intro pins s σ H x y v u Q I rx ry h
 obtain ⟨rfl,q⟩:=h
 cases ry
 refine isnot_none_gen (zkC I q ?_)
 cases x <;> first
  | (cases rx;rfl)
  | (obtain ⟨t,rfl⟩:=rx;rfl)
theorem yo (b:Expr) (h:op ≠ .In:=by decide) (h2:op ≠ .NotIn:=by decide):behindInMarks op b = false:=by
 have e1:(op == CmpOp.In) = false:=by cases op <;> first | rfl | exact absurd rfl h
 have e2:(op == CmpOp.NotIn) = false:=by cases op <;> first | rfl | exact absurd rfl h2
 cases b <;> simp [behindInMarks,e1,e2]
theorem zm6 (ho:OpR X (compareOp op) r) (ha:PE X a ta) (hb:PE X b tb) (hm:behindInMarks op b = false):PE X (.Compare a [op] [b] pos) (tOp r ta tb):=by
 intro pins s σ H Q I h
 exact wpAny_Compare1 (zmc ha hb I h fun v u s2 x y H2 I2 rx ry q=>ho pins s2 σ H2 x y v u Q I2 rx ry q) hm
noncomputable def zp2 (t:TE):TT:=fun σ H Q=>t σ H fun x H'=>∃ k,x = .bl k/\Q k H'
theorem zmW (ho:OpR X (compareOp op) r) (ha:PE X a ta) (hb:PE X b tb) (hm:behindInMarks op b = false):PT X (.Compare a [op] [b] pos) (zp2 (tOp r ta tb)):=by
 intro pins s σ H Q I h
 refine wpAny_isTrue_Compare1 (thn (ha pins s σ H _ I h) fun v s1 ⟨x,H1,I1,r1,q1⟩=>thn (hb pins s1 σ H1 _ I1 q1) fun u s2 ⟨y,H2,I2,r2,q2⟩=>
  thn (ho pins s2 σ H2 x y v u _ I2 r1 r2 q2) fun c s3 ⟨z,H3,I3,r3,k,e,q3⟩=>?_) hm
 subst e
 cases r3
 exact wpAny_truthy_bool ⟨H3,I3,q3⟩
noncomputable def zjX (r r':R2) (ta tb tc:TE):TE:=fun σ H Q=>ta σ H fun x H1=>tb σ H1 fun y H2=>r x y H2 fun z H3=>∃ k,z = .bl k /\
 (if k = true then tc σ H3 fun w' H4=>r' y w' H4 Q else Q (.bl false) H3)
theorem zlA {op':CmpOp} {r':R2} (ho:OpR X (compareOp op) r) (ho':OpR X (compareOp op') r') (ha:PE X a ta) (hb:PE X b tb) (hc:PE X c tc)
 (hm:lastMarks [op,op'] [b,c] = false:=by with_unfolding_all rfl):PE X (.Compare a [op,op'] [b,c] pos) (zjX r r' ta tb tc):=by
 intro pins s σ H Q I h
 refine Compare_chain (thn (ha pins s σ H _ I h) fun v s1 ⟨x,H1,I1,r1,q1⟩=>chain_link (thn (hb pins s1 σ H1 _ I1 q1) fun u s2 ⟨y,H2,I2,r2,q2⟩=>
  thn (ho pins s2 σ H2 x y v u _ I2 r1 r2 q2) fun d s3 ⟨z,H3,I3,r3,k,e,q3⟩=>?_)) hm
 subst e
 cases r3
 refine wpAny_truthy_bool ?_
 cases k with
 | false=>exact ite_ff ⟨.bl false,H3,I3,rfl,q3⟩
 | true=>exact ite_tt (chain_last (thn (hc pins s3 σ H3 _ I3 q3) fun w' s4 ⟨z',H4,I4,r4,q4⟩=>ho' pins s4 σ H4 y z' u w' Q I4 r2 r4 q4))
theorem zb1:(sizeLine:Nat) < 2 ^ 63:=by rw [sizeLine_eq];decide
theorem zjq:OpR X (binaryOp .Add) (fun x y H Q=>∃ i j,x = .str i/\y = .str j/\i.length + j.length<=sizeLine/\Q (.str (i ++ j)) H):=by
 intro pins s σ H x y v u Q I rx ry h
 obtain ⟨i,j,rfl,rfl,hz,q⟩:=h
 obtain ⟨t,rfl⟩:=rx
 obtain ⟨t',rfl⟩:=ry
 exact add_str (fun t' tk=>⟨.str (i ++ j),H,I.tok _,⟨_,rfl⟩,q⟩) hz
theorem vals1 {x:V} (r:Vals [x] us):∃ u,us = [u]/\RelV x u:=by
 cases r with
 | cons r1 r2=>cases r2;exact ⟨_,rfl,r1⟩
theorem vals2 {x:V} (r:Vals [x,y] us):∃ u w',us = [u,w']/\RelV x u/\RelV y w':=by
 cases r with
 | cons r1 r2=>
  cases r2 with
  | cons r3 r4=>cases r4;exact ⟨_,_,rfl,r1,r3⟩
theorem zkV (hc:X.calm = true):CallR X (.builtin "max") (fun xs H Q=>∃ i j,xs = [.int i,.int j]/\Q (.int (if j > i then j else i)) H):=by
 intro pins s σ H xs us Q I r h
 obtain ⟨i,j,rfl,q⟩:=h
 obtain ⟨u,w',rfl,⟨t,rfl⟩,⟨t',rfl⟩⟩:=vals2 r
 refine max_two_ints (I.ok.hd hc) fun h' tk k=>⟨_,H,I.kept k,?_,q⟩
 by_cases hj:j > i
 ·rw [if_pos hj,if_pos hj];exact ⟨_,rfl⟩
 ·rw [if_neg hj,if_neg hj];exact ⟨_,rfl⟩
theorem zkT (hc:X.calm = true):CallR X (.builtin "min") (fun xs H Q=>∃ i j,xs = [.int i,.int j]/\Q (.int (if j < i then j else i)) H):=by
 intro pins s σ H xs us Q I r h
 obtain ⟨i,j,rfl,q⟩:=h
 obtain ⟨u,w',rfl,⟨t,rfl⟩,⟨t',rfl⟩⟩:=vals2 r
 refine min_two_ints (I.ok.hd hc) fun h' tk k=>⟨_,H,I.kept k,?_,q⟩
 by_cases hj:j < i
 ·rw [if_pos hj,if_pos hj];exact ⟨_,rfl⟩
 ·rw [if_neg hj,if_neg hj];exact ⟨_,rfl⟩
end
structure ObjM (h:Heap) (x dx C:Addr) (mA:Str->Option Value):Prop where
 obj:h.get? x = some (PySem.W.instObj C dx)
 ns:h.Ns1 dx mA
 ne:dx ≠ x
variable {dx:Addr} {mA:Str->Option Value}
theorem zkm (n:h.Ns1 dx mA):∃ od,h.get? dx = some od/\∀ name,PySem.W.lookIn name od = some (mA name):=by
 obtain ⟨o,es,ep,ho,hd,hk,_,hm⟩:=n
 refine ⟨o,ho,fun name=>?_⟩
 have e:=hm name
 unfold nsFind findBy at e
 rw [← Array.find?_toList] at e
 unfold PySem.W.lookIn
 rw [hd]
 dsimp only
 split
 ·rename_i y q
  rw [q] at e
  exact congrArg some e
 ·rename_i q
  rw [q] at e
  have a:es.toList.any (·.refKey) = false:=by
   rw [List.any_eq_false]
   intro y hy
   obtain ⟨z,t,hkey⟩:=hk y (Array.mem_toList_iff.mp hy)
   simp [DictEntry.refKey,hkey]
  have a':¬ es.toList.any (·.refKey) = true:=by rw [a];exact Q5
  rw [if_neg a']
  exact congrArg some e
variable {C:Addr}
theorem ObjM.look {x:Addr} (I:ObjM h x dx C mA):∃ od,PySem.W.InstAt h x (PySem.W.instObj C dx) C (some od)/\∀ name,PySem.W.lookIn name od = some (mA name):=
 let ⟨od,ho,hl⟩:=zkm I.ns
 ⟨od,⟨I.obj,rfl,rfl,ho⟩,hl⟩
variable {kw:List (Str × Value)} {prog:Program} {name:Str}
section
variable {x f:Addr} {v:Value}
theorem get_map {expr:Bool} (X:K.In s.heap) (I:ObjM s.heap x dx C mA) (hg:PySem.W.plainGet K C name = true) (hh:PySem.W.hasDictIn K C = true)
 (ha:PySem.W.findIn K (.ref C) name = some none) (hv:mA name = some v) (hv':PySem.W.handedIn v = true) (h:Q v { s with toks:=s.toks + 1 }) :
  wpAny (model prog w) A (getAttr (.ref x) name expr) Q E s:=by
 obtain ⟨od,J,hl⟩:=I.look
 exact PySem.W.get_value X J (PySem.W.plainGet_of hg).1 (PySem.W.findObj_own hh ha rfl (by rw [hl,hv])) hv' h
theorem zmO {ns:List Str} {Q:Unit->Shared->Prop} (X:K.In s.heap) (I:ObjM s.heap x dx C mA)
  (hs:PySem.W.findIn K (.ref C) "__setattr__" = some (some (.builtin "object.__setattr__"))) (hp:PySem.W.plainOver K C = true) (ht:PySem.W.takerIn K C name = some none) (hh:PySem.W.hasDictIn K C = true)
  (hw:PySem.Within mA ns) (hsz:ns.length<=sizeLine)
  (h:∀ h',ObjM h' x dx C (fun y=>if y = name then some v else mA y)->Heap.SameBut dx s.heap h'->Q () { s with heap:=h',toks:=s.toks + 2 }) :
  wpAny (model prog w) A (setAttr (.ref x) name v) Q E s:=by
 obtain ⟨od,J,hl⟩:=I.look
 refine PySem.W.set_plain X J hs (PySem.W.osa_open (s:={ s with toks:=s.toks + 1 }) (r:=none) X J hp ht fun b=>?_)
 obtain ⟨cd,hc,hd'⟩:=PySem.W.any_some hh
 have hx:s.heap.get? x = some ⟨.ref C,some dx,.plain,#[]⟩:=I.obj
 refine Q2 (Qg (Q2 (Q2 (wpAny_loadPart hx (Q2 (PySem.W.Looks.here (s:={ s with toks:=s.toks + 1 }) (PySem.W.looks_clsIn X hc) ?_))))))
 rw [hd']
 refine Qg (a:=some dx) (Q2 (Qg (Q2 ?_)))
 refine wpAny_nsSet1 (s:={ s with toks:=s.toks + 1 }) I.ns fun h' hn2 hs2=>?_
 obtain ⟨oD,esD,epD,hoD,hdD,hcD⟩:=hn2.count (PySem.Within.cons name v hw)
 refine Q2 (wpAny_lookBehind hoD (by rw [hdD];exact pastItsLine_dict (Qk hcD (by rw [Qq];omega))) ?_)
 exact Qg (h _ ⟨(hs2.2 _ (Ne.symm I.ne)).trans I.obj,hn2,I.ne⟩ hs2)
theorem zlK {R:Result->Shared->Prop} {vs:List Value} (X:K.In s.heap) (hm:PySem.W.makesIn K C = true)
 (hi:PySem.W.findIn K (.ref C) "__init__" = some (some (.ref f))) (hf:PySem.W.typeIn K (.ref f) = some (.type "function"))
 (h:codeAny (model prog w) (A.under (.builtin "type.__call__" ⟨.ref C :: vs,kw⟩)) (.call (.ref f) ⟨.ref (s.heap.objs.size + 1) :: vs,kw⟩) (PySem.W.InitBack (s.heap.objs.size + 1) R)
 { s with heap:=(s.heap.push PySem.W.emptyDict).push (PySem.W.instObj C s.heap.objs.size) }) :
  codeAny (model prog w) A (.call (.ref C) ⟨vs,kw⟩) R s:=by
 obtain ⟨hh,g,d,t,os⟩:=s
 exact PySem.W.make_core (PySem.W.makes_of X hm) (PySem.W.looks_findIn X hi) (fun self=>PySem.W.bind_fn X self hf) (.inl rfl) h
end
noncomputable def qU (f:Str) (v:V):List (Str × V)->List (Str × V)
 | []=>[(f,v)]
 | (g,x) :: r=>if g = f then (g,v) :: r else (g,x) :: qU f v r
theorem zeB (f g:Str) (v:V):∀ fs:List (Str × V),(qU f v fs).lookup g = if g = f then some v else fs.lookup g
 | []=>by
  show List.lookup g [(f,v)] = _
  by_cases h:g = f
  ·have hb:(g == f) = true:=beq_iff_eq.mpr h
   simp only [List.lookup,hb,if_pos h]
  ·have hb:(g == f) = false:=beq_eq_false_iff_ne.mpr h
   simp only [List.lookup,hb,if_neg h]
 | (k,x) :: r=>by
  have ih:=zeB f g v r
  rw [show qU f v ((k,x) :: r) = (if k = f then (k,v) :: r else (k,x) :: qU f v r) from rfl]
  by_cases hk:k = f
  ·rw [if_pos hk]
   by_cases h:g = k
   ·have hb:(g == k) = true:=beq_iff_eq.mpr h
    simp only [List.lookup,hb,if_pos (h.trans hk)]
   ·have hb:(g == k) = false:=beq_eq_false_iff_ne.mpr h
    simp only [List.lookup,hb,if_neg (fun e:g = f=>h (e.trans hk.symm))]
  ·rw [if_neg hk]
   by_cases h:g = k
   ·have hb:(g == k) = true:=beq_iff_eq.mpr h
    simp only [List.lookup,hb,if_neg (fun e:g = f=>hk (h.symm.trans e))]
   ·have hb:(g == k) = false:=beq_eq_false_iff_ne.mpr h
    simp only [List.lookup,hb]
    exact ih
theorem zd1 (f:Str) (v:V):∀ fs:List (Str × V),f ∈ (qU f v fs).map (·.1)/\∀ g,g ∈ fs.map (·.1)->g ∈ (qU f v fs).map (·.1)
 | []=>⟨by simp [qU],fun g h=>by simp at h⟩
 | (k,x) :: r=>by
  obtain ⟨i1,i2⟩:=zd1 f v r
  rw [show qU f v ((k,x) :: r) = (if k = f then (k,v) :: r else (k,x) :: qU f v r) from rfl]
  by_cases hk:k = f
  ·rw [if_pos hk]
   subst hk
   exact ⟨by simp,fun g h=>by simpa using h⟩
  ·rw [if_neg hk]
   refine ⟨?_,fun g h=>?_⟩
   ·rw [map_cons]
    exact mem_cons_of_mem _ i1
   ·rw [map_cons] at h ⊢
    rcases mem_cons.mp h with e | e
    ·exact mem_cons.mpr (.inl e)
    ·exact mem_cons_of_mem _ (i2 g e)
theorem zeC (f:Str) (v:V):∀ fs:List (Str × V),(qU f v fs).length<=fs.length + 1
 | []=>by simp [qU]
 | (k,x) :: r=>by
  have ih:=zeC f v r
  rw [show qU f v ((k,x) :: r) = (if k = f then (k,v) :: r else (k,x) :: qU f v r) from rfl]
  by_cases hk:k = f
  ·rw [if_pos hk,Qq,Qq];omega
  ·rw [if_neg hk,Qq,Qq];omega
theorem RelO.some_of {o:Option Value} (r:RelO (some v) o):∃ u,o = some u/\RelV v u:=by
 cases o with
 | none=>exact (show False from r).elim
 | some u=>exact ⟨u,rfl,r⟩
theorem zku (r:RelV v u):PySem.W.handedIn u = true:=by
 cases v with
 | non=>cases (show u = Value.none from r);rfl
 | bl b=>cases (show u = Value.bool b from r);rfl
 | int i=>obtain ⟨t,e⟩:=(show ∃ t,u = Value.int i t from r);cases e;rfl
 | str x=>obtain ⟨t,e⟩:=(show ∃ t,u = Value.str x t from r);cases e;rfl
 | byt b=>obtain ⟨t,e⟩:=(show ∃ t,u = Value.bytes b t from r);cases e;rfl
 | flt b=>obtain ⟨t,e⟩:=(show ∃ t,u = Value.float b t from r);cases e;rfl
 | ref a=>cases (show u = Value.ref a from r);rfl
 | ty n=>cases (show u = Value.type n from r);rfl
section
variable {a:Addr} {fs fs':List (Str × V)}
theorem ziN (hok:HOk P w H h) (e:H a = some (.ins C dx fs)):∃ mA,ObjM h a dx C mA/\(∀ f,RelO (fs.lookup f) (mA f))/\PySem.Within mA (fs.map (·.1))/\fs.length<=1000/\H dx = some (.own a):=by
 obtain ⟨d,z,ne,ob,mA,n,r,q⟩:=(show ObjOk P w H h a (.ins C dx fs) from hok a _ e)
 exact ⟨mA,⟨ob,n,ne⟩,r,q,z,d⟩
end
structure Cls (K:Frag) (C:Addr):Prop where
 pg:PySem.W.plainGet K C Str.empty = true
 hd:PySem.W.hasDictIn K C = true
 po:PySem.W.plainOver K C = true
 sa:PySem.W.findIn K (.ref C) "__setattr__" = some (some (.builtin "object.__setattr__"))
theorem Cls.get (c:Cls K C) (f:Str):PySem.W.plainGet K C f = true:=c.pg
def NoAttr (K:Frag) (C:Addr) (f:Str):Prop:=PySem.W.findIn K (.ref C) f = some none
theorem NoAttr.taker {f:Str} (n:NoAttr K C f):PySem.W.takerIn K C f = some none:=by
 unfold PySem.W.takerIn
 rw [show PySem.W.findIn K (.ref C) f = some none from n]
 rfl
structure Con (K:Frag) (C:Addr) (f:Str) (v:V) (u:Value):Prop where
 at_:PySem.W.findIn K (.ref C) f = some (some u)
 rel:RelV v u
 get:PySem.W.specialIn K u "__get__" = some none
 cp:PySem.W.copiedNames.contains f = false
structure Meth (K:Frag) (C:Addr) (m:Str) (f:Addr):Prop where
 at_:PySem.W.findIn K (.ref C) m = some (some (.ref f))
 fn:PySem.W.isFn K (.ref f) = true
 kp:PySem.W.keepIn K (.ref f) = true
section
variable {a:Addr} {fs:List (Str × V)} {f:Str}
theorem zfC {b:Bool} (I:Inv X pins σ H s) (e:H a = some (.ins C dx fs)) (c:Cls X.K C) (n:NoAttr X.K C f) (l:fs.lookup f = some v)
 (h:∀ u s',Inv X pins σ H s'->RelV v u->Q u s'):wpAny (model X.prog X.w) A (getAttr (.ref a) f b) Q E s:=by
 obtain ⟨mA,O,r,_,_,_⟩:=ziN I.hok e
 obtain ⟨u,hu,ru⟩:=RelO.some_of (v:=v) (o:=mA f) (by rw [← l];exact r f)
 exact get_map I.kIn O (c.get f) c.hd n hu (zku ru) (h u _ (I.tok _) ru)
theorem zfm {Q:Unit->Shared->Prop} (I:Inv X pins σ H s) (e:H a = some (.ins C dx fs)) (c:Cls X.K C) (n:NoAttr X.K C f) (hl:fs.length < 1000) (ry:RelV y u)
 (h:∀ s',Inv X pins σ (upd H a (.ins C dx (qU f y fs))) s'->Q () s'):wpAny (model X.prog X.w) A (setAttr (.ref a) f u) Q E s:=by
 obtain ⟨mA,O,r,wi,_,ho⟩:=ziN I.hok e
 have hz:(fs.map (·.1)).length<=sizeLine:=by rw [Qi,sizeLine_eq];omega
 refine zmO I.kIn O c.sa c.po n.taker c.hd wi hz fun h' O' sb=>h _ ?_
 have hd:∃ o,h'.get? dx = some o:=let ⟨o,_,_,e',_⟩:=O'.ns;⟨o,e'⟩
 refine I.write (x:=a) (e:=dx) (by rw [e];exact True.intro) (.inr ho) (fun b q hb z=>(sb.2 b hb).trans z) hd ?_
 refine ⟨by rw [yh O.ne];exact ho,?_,O.ne,O'.obj,_,O'.ns,fun g=>?_,fun g hg=>?_⟩
 ·have:=zeC f y fs;omega
 ·show RelO ((qU f y fs).lookup g) (if g = f then some u else mA g)
  rw [zeB]
  by_cases q:g = f
  ·rw [if_pos q,if_pos q];exact ry
  ·rw [if_neg q,if_neg q];exact r g
 ·by_cases q:g = f
  ·rw [q];exact (zd1 f y fs).1
  ·refine (zd1 f y fs).2 g (wi g fun z=>hg ?_)
   show (if g = f then some u else mA g) = none
   rw [if_neg q];exact z
theorem Inv.made (I:Inv X pins σ H s):Inv X pins σ (upd (upd H s.heap.objs.size (.own (s.heap.objs.size + 1))) (s.heap.objs.size + 1) (.ins C s.heap.objs.size []))
  { s with heap:=(s.heap.push PySem.W.emptyDict).push (PySem.W.instObj C s.heap.objs.size) }:=by
 have e1:(s.heap.push PySem.W.emptyDict).get? s.heap.objs.size = some PySem.W.emptyDict:=Qm s.heap rfl
 have e2:((s.heap.push PySem.W.emptyDict).push (PySem.W.instObj C s.heap.objs.size)).get? (s.heap.objs.size + 1) = some (PySem.W.instObj C s.heap.objs.size):=by
  have:=Qm (s.heap.push PySem.W.emptyDict) (o:=PySem.W.instObj C s.heap.objs.size) rfl
  rwa [Heap.size_push] at this
 have e3:(s.heap.push PySem.W.emptyDict).Ns s.heap.objs.size (fun _=>none):=⟨PySem.W.emptyDict,#[],_,e1,rfl,(fun e he=>absurd he (by simp)),fun _=>rfl⟩
 have I1:=I.laid (a:=s.heap.objs.size) (o:=.own (s.heap.objs.size + 1)) (h':=s.heap.push PySem.W.emptyDict) (t':=s.toks) (fun b u q=>Q3 _ q) (Q4 _) ⟨_,e1⟩
 refine I1.laid (a:=s.heap.objs.size + 1) (o:=.ins C s.heap.objs.size []) (t':=s.toks) (fun b u q=>Q3 _ q) (Nat.le_of_eq (Heap.size_push _ _)) ?_
 have ne:s.heap.objs.size ≠ s.heap.objs.size + 1:=Ql (Nat.lt_succ_self _)
 refine ⟨by rw [yh ne,yt],Nat.zero_le _,ne,e2,fun _=>none,(Heap.Ns1.of_empty e3).at fun o q=>Q3 _ q,fun _=>True.intro,fun y hy=>absurd rfl hy⟩
theorem ziZ {env:Env} (hb:attributeBase e f env (eval e env) = eval e env)
 (h:wpAny (model prog w) A (eval e env) (fun o s₁=>wpAny (model prog w) A (getAttr o f true) Q E s₁) E s):wpAny (model prog w) A (eval (.Attribute e f pos) env) Q E s:=
 Attribute_any_ h (by rw [arm_eval_Attribute,hb])
end
noncomputable def zq4 (K:Frag) (ta:TE) (f:Str):TE:=fun σ H Q=>ta σ H fun x H1=>∃ a C dx fs v,x = .ref a/\H1 a = some (.ins C dx fs)/\Cls K C/\NoAttr K C f/\fs.lookup f = some v/\Q v H1
noncomputable def zq8 (K:Frag) (ta tv:TE) (f:Str):TS:=fun D σ H=>tv σ H fun y H1=>ta σ H1 fun x H2=>∃ a C dx fs,x = .ref a/\H2 a = some (.ins C dx fs)/\Cls K C/\NoAttr K C f/\fs.length < 1000 /\
 D.nx σ (upd H2 a (.ins C dx (qU f y fs)))
def zpW (X:Cx) (op:Operator) (rd:V->V->Hp->VK->Prop):Prop:=
 ∀ (pins:List (Addr × Obj)) (s:Shared) (σ:St) (H:Hp) (x y:V) (u v:Value) (Q:VK),Inv X pins σ H s->RelV x u->RelV y v->rd x y H Q->wpAny (model X.prog X.w) X.A (inplaceOp op u v) (EP X pins σ Q) X.xe s
noncomputable def zmR (K:Frag) (ta tv:TE) (rd:V->V->Hp->VK->Prop) (f:Str):TS:=fun D σ H=>ta σ H fun x H1=>∃ a C dx fs v,x = .ref a/\H1 a = some (.ins C dx fs)/\Cls K C/\NoAttr K C f/\fs.lookup f = some v /\
 tv σ H1 fun y H2=>rd v y H2 fun z H3=>∃ dx' fs',H3 a = some (.ins C dx' fs')/\fs'.length < 1000/\D.nx σ (upd H3 a (.ins C dx' (qU f z fs')))
section
variable {o value:Expr} {f:Str} {tv:TE}
theorem zoO (he:PE X e ta) (hb:attributeBase e f X.env (eval e X.env) = eval e X.env):PE X (.Attribute e f pos) (zq4 X.K ta f):=by
 intro pins s σ H Q I h
 refine ziZ hb (thn (he pins s σ H _ I h) fun u s1 ⟨x,H1,I1,rx,a,C,dx,fs,v,ex,ea,c,n,l,q⟩=>?_)
 subst ex
 obtain rfl:u = Value.ref a:=rx
 exact zfC I1 ea c n l fun u' s2 I2 ru=>⟨v,H1,I2,ru,q⟩
theorem zoC (ha:PE X o ta) (hv:PE X value tv) (hs:swapsWith value (some (.Attribute o f pos')) pos.line X.env = pure false):PS X (.Assign [.Attribute o f pos'] value pos) (zq8 X.K ta tv f):=by
 intro pins s σ H D I h
 refine plainObj_wpAny_Assign_Attribute (thn (hv pins s σ H _ I h) fun u s1 ⟨y,H1,I1,ry,q⟩=>thn (ha pins s1 σ H1 _ I1 q) fun ov s2 ⟨x,H2,I2,rx,a,C,dx,fs,ex,ea,c,n,l,q2⟩=>?_) hs
 subst ex
 obtain rfl:ov = Value.ref a:=rx
 exact zfm I2 ea c n l ry fun s3 I3=>⟨σ,_,I3,q2⟩
theorem zj5 {op:Operator} {rd:V->V->Hp->VK->Prop} (ha:PE X o ta) (hv:PE X value tv) (hop:zpW X op rd):PS X (.AugAssign (.Attribute o f tpos) op value pos) (zmR X.K ta tv rd f):=by
 intro pins s σ H D I h
 refine wpAny_AugAssign_AttributeAny (thn (ha pins s σ H _ I h) fun ov s1 ⟨x,H1,I1,rx,a,C,dx,fs,v,ex,ea,c,n,l,q⟩=>?_)
 subst ex
 obtain rfl:ov = Value.ref a:=rx
 refine zfC I1 ea c n l fun u s2 I2 ru=>thn (hv pins s2 σ H1 _ I2 q) fun w3 s3 ⟨y,H2,I3,ry,q3⟩=>thn (hop pins s3 σ H2 v y u w3 _ I3 ru ry q3) fun w4 s4 ⟨z,H3,I4,rz,dx',fs',ea',l',q4⟩=>?_
 exact zfm I4 ea' c n l' rz fun s5 I5=>⟨σ,_,I5,q4⟩
noncomputable def zre:V->V->Hp->VK->Prop:=fun x y H Q=>∃ i j,x = .int i/\y = .int j/\Q (.int (i + j)) H
theorem zpm:zpW X .Add zre:=by
 rintro pins s σ H x y u v Q I rx ry ⟨i,j,rfl,rfl,q⟩
 obtain ⟨t,rfl⟩:=(show ∃ t,u = Value.int i t from rx)
 obtain ⟨t',rfl⟩:=(show ∃ t',v = Value.int j t' from ry)
 exact PyProof.Rows.iadd_int ⟨.int (i + j),H,I.tok _,⟨_,rfl⟩,q⟩
end
section
variable {c:Value} {b:Bool}
inductive TyOf (K:Frag) (H:Hp):V->Value->Prop where
 | non:TyOf K H .non (.type "NoneType")
 | bl (x:Bool):TyOf K H (.bl x) (.type "bool")
 | int (i:Int):TyOf K H (.int i) (.type "int")
 | str (x:Str):TyOf K H (.str x) (.type "str")
 | flt (x:UInt64):TyOf K H (.flt x) (.type "float")
 | lst {a:Addr} {xs:List V} (e:H a = some (.lst xs)):TyOf K H (.ref a) (.type "list")
 | frz {a:Addr} {o:Obj} {xs:List V} (e:H a = some (.frz o (.lst xs))):TyOf K H (.ref a) (.type "list")
 | tup {a:Addr} {xs:List V} (e:H a = some (.tup xs)):TyOf K H (.ref a) (.type "tuple")
 | dK {a:Addr} {kvs:List (Key × V)} (e:H a = some (.dK kvs)):TyOf K H (.ref a) (.type "dict")
 | dT {a:Addr} {kvs:List (List Key × V)} (e:H a = some (.dT kvs)):TyOf K H (.ref a) (.type "dict")
 | ins {a C dx:Addr} {fs:List (Str × V)} (e:H a = some (.ins C dx fs)) (cl:Cls K C) (ha:PySem.W.findIn K (.ref C) "__class__" = some (some (.builtin "object.__class__")))
   (hn:PySem.W.specialIn K (.builtin "object.__class__") "__get__" = some (some (.builtin "getset_descriptor.__get__"))) (htk:PySem.W.takesIn K (.builtin "object.__class__") = some true)
   (hm:PySem.W.mroIn K C (.type "object") = some true):TyOf K H (.ref a) (.ref C)
end
structure Room (k:Nat) (A:Around):Prop where
 hd:A.handled = none
 dp:A.depth + 3 * k + 5 < recursionLimit
 un:A.units + 16 * k + 200 < cLine
theorem Room.mono (r:Room k A) (h:j<=k):Room j A:=⟨r.hd,by have:=r.dp;omega,by have:=r.un;omega⟩
theorem Room.deeper (r:Room (k + 1) A) (env:Env):Room k (A.deeper env):=
 ⟨r.hd,by have:=r.dp;show A.depth + 1 + 3 * k + 5 < _;omega,by have:=r.un;show A.units + 3 + 16 * k + 200 < _;omega⟩
theorem Room.in1 (r:Room (k + 1) A):Room k A.in1:=
 ⟨r.hd,by have:=r.dp;show A.depth + 3 * k + 5 < _;omega,by have:=r.un;show A.units + 1 + 16 * k + 200 < _;omega⟩
theorem zjw:(A.under (.builtin "type.__call__" ⟨.ref C :: us,kw⟩)).depth = A.depth + 1:=by
 first | rfl | simp [Around.under,Code.weight,Code.isCreation,Code.isGuard,Code.isCaller,Code.frames,Code.isFrame,guardIds]
theorem zjv:(A.under (.builtin "type.__call__" ⟨.ref C :: us,kw⟩)).units = A.units + 1:=by
 first | rfl | simp [Around.under,Code.cUnits,Code.frames,Code.isFrame]
theorem Room.make (r:Room (k + 1) A) (C:Addr) (us:List Value) (kw:List (Str × Value)):Room k (A.under (.builtin "type.__call__" ⟨.ref C :: us,kw⟩)):=
 ⟨r.hd,by have:=r.dp;rw [zjw];omega,by have:=r.un;rw [zjv];omega⟩
theorem Room.depth (r:Room k A):A.depth < recursionLimit:=by have:=r.dp;omega
theorem Room.units (r:Room k A):A.units + 64 < cLine:=by have:=r.un;omega
theorem Room.units0 (r:Room k A):A.units < cLine:=by have:=r.un;omega
noncomputable def zq0:TA:=fun _ H Q=>Q [] H
noncomputable def zp8 (ta:TE) (tr:TA):TA:=fun σ H Q=>ta σ H fun x H1=>tr σ H1 fun xs H2=>Q (x :: xs) H2
section
variable {t:TA}
theorem zoR:PA X [] zq0:=fun _ _ _ _ H Q I h=>Calls.spliced_nil ⟨[],H,I,.nil,h⟩
theorem zm9 (ha:PE X e te) (hr:PA X es t) (hs:starEach (e :: es) X.env = (false,eval e X.env) :: starEach es X.env:=by rfl):PA X (e :: es) (zp8 te t):=by
 intro pos pins s σ H Q I h
 rw [hs]
 show wpAny _ _ (spliced ((false,eval e X.env) :: backTo pos (starEach es X.env))) _ _ s
 refine Calls.spliced_cons (thn (ha pins s σ H _ I h) fun u s1 ⟨x,H1,I1,r1,q1⟩=>?_)
 exact thn (hr pos pins s1 σ H1 _ I1 q1) fun us s2 ⟨xs,H2,I2,r2,q2⟩=>⟨x :: xs,H2,I2,.cons r1 r2,q2⟩
noncomputable def zqV (t:TA):TE:=fun σ H Q=>t σ H fun xs H1=>xs.length<=sizeLine/\∀ p,H1 p = none->Q (.ref p) (upd H1 p (.tup xs))
noncomputable def zq1 (t:TA):TE:=fun σ H Q=>t σ H fun xs H1=>xs.length<=sizeLine/\∀ p,H1 p = none->Q (.ref p) (upd H1 p (.lst xs))
theorem zoI {x1} (h:PA X es t):PE X (.Tuple es x1 pos) (zqV t):=by
 intro pins s σ H Q I hq
 refine wpAny_Tuple_spliced (thn (h pos pins s σ H _ I hq) fun us s1 ⟨xs,H1,I1,r,z,q⟩=>⟨by rw [← r.length];exact z,?_⟩)
 have hf:H1 s1.heap.objs.size = none:=I1.hok.fresh (Q4 _)
 refine ⟨.ref s1.heap.objs.size,upd H1 s1.heap.objs.size (.tup xs),I1.laid (t':=s1.toks) (fun b u e=>Q3 _ e) (Q4 _) ?_,rfl,q _ hf⟩
 exact ⟨z,us,r,⟨_,Qm _ rfl,rfl,_,rfl⟩,NoDict.new⟩
theorem zoN (h:PA X es t):PE X (.List es pos) (zq1 t):=by
 intro pins s σ H Q I hq
 refine wpAny_List_spliced (thn (h pos pins s σ H _ I hq) fun us s1 ⟨xs,H1,I1,r,z,q⟩=>⟨by rw [← r.length];exact z,?_⟩)
 have hf:H1 s1.heap.objs.size = none:=I1.hok.fresh (Q4 _)
 refine ⟨.ref s1.heap.objs.size,upd H1 s1.heap.objs.size (.lst xs),I1.laid (t':=s1.toks) (fun b u e=>Q3 _ e) (Q4 _) ?_,rfl,q _ hf⟩
 exact ⟨z,us,0,r,Qm _ rfl⟩
end
noncomputable abbrev Sp:=List V->Hp->VK->XK->Prop
noncomputable abbrev CXT:=List Env->Hp->Shared->XK->Value->Shared->Prop
structure Env0 (P:Program) (w:World) (K:Frag) (mg:Str->Option Value) (base:Heap) (A:Around) (outer:List Env) (s:Shared) (H:Hp):Prop where
 frames:A.frames = some outer
 mod:Mod K mg base
 bs:∀ b o,base.get? b = some o->s.heap.get? b = some o/\H b = none
 bsz:base.objs.size<=s.heap.objs.size
 funs:s.heap.FunFrames base outer
 frf:∀ b ∈ frs outer,H b = none
 hok:HOk P w H s.heap
 bare:AllBare s.gens
def CE (outer:List Env) (P:Program) (w:World) (H:Hp) (s:Shared) (Q:VK) (u:Value) (s':Shared):Prop:=
 ∃ v H',s'.os = s.os/\AllBare s'.gens/\Un (frs outer) [] H H' s.heap s'.heap/\HOk P w H' s'.heap/\RelV v u/\Q v H'
def CR (CX:CXT) (outer:List Env) (P:Program) (w:World) (H:Hp) (s:Shared) (Q:VK) (E:XK) (r:Result) (s':Shared):Prop:=
 match r with
 | .ok (.ret u)=>CE outer P w H s Q u s'
 | .ok _=>False
 | .error e=>CX outer H s E e s'
structure FnOk (P:Program) (w:World) (K:Frag) (mg:Str->Option Value) (base:Heap) (CX:CXT) (k:Nat) (f:Addr) (fd:FuncData) (ps:List Str) (sp:Sp):Prop where
 len:∀ vs H Q E,sp vs H Q E->vs.length = ps.length
 run:∀ (A:Around) (outer:List Env) (s:Shared) (H:Hp) (args:Args) (us:List Value) (vs:List V) (Q:VK) (E:XK),Room k A->Env0 P w K mg base A outer s H->BindsTo s fd args (ps.zip us)->Vals vs us->sp vs H Q E->
  codeAny (model P w) A (.call (.ref f) args) (CR CX outer P w H s Q E) s
variable {CX:CXT} {fd:FuncData} {base:Heap} {ps:List Str} {sp:Sp} {mg:Str->Option Value}
theorem FnOk.mono {f:Addr} (F:FnOk P w K mg base CX j f fd ps sp) (h:j<=k) :
  FnOk P w K mg base CX k f fd ps sp:=⟨F.len,fun A outer s H args us vs Q E hr=>F.run A outer s H args us vs Q E (hr.mono h)⟩
variable {outer:List Env}
theorem Env0.make (e:Env0 P w K mg base A outer s H) (C:Addr) (us:List Value) (kw:List (Str × Value)) :
  Env0 P w K mg base (A.under (.builtin "type.__call__" ⟨.ref C :: us,kw⟩)) outer s H:=⟨by first | exact e.frames | (simpa [Around.under,Code.envs,Code.isFrame,pushEnvs] using e.frames),e.mod,e.bs,e.bsz,e.funs,e.frf,e.hok,e.bare⟩
section
theorem Inv.env0 (I:Inv X pins σ H s):Env0 X.prog X.w X.K X.mg X.base X.A X.stack s H:=
 ⟨I.ok.frames,I.ok.mod,I.bs,Qk I.ok.bsz I.sz,I.stack,I.stkFree,I.hok,I.bare⟩
theorem Inv.after {Q:VK} (I:Inv X pins σ H s) (h:CE X.stack X.prog X.w H s Q u s'):EP X pins σ Q u s':=by
 obtain ⟨v,H',os,bare,un,hok,r,q⟩:=h
 obtain ⟨hh,g,d,t,os'⟩:=s'
 obtain rfl:os' = s.os:=os
 exact ⟨v,H',I.call (h':=hh) (g':=g) (d':=d) (t':=t) (ch:=[]) un hok bare (fun b z=>absurd z (by simp)),r,q⟩
end
noncomputable def zmi (sp:Sp) (dvs:List V) (E:XK) (t:TA):TE:=fun σ H Q=>t σ H fun vs H1=>sp (vs ++ dvs) H1 Q E
noncomputable def zp6 (C:Addr) (sp:Sp) (dvs:List V) (E:XK) (t:TA):TE:=fun σ H Q=>t σ H fun vs H1=>∀ x dx,H1 x = none->H1 dx = none->dx ≠ x->
 sp (.ref x :: (vs ++ dvs)) (upd (upd H1 dx (.own x)) x (.ins C dx [])) (fun v H2=>v = .non/\Q (.ref x) H2) E
def Binds (K:Frag) (fd:FuncData) (ps:List Str) (ds:List Value):Prop:=
 ∀ (s:Shared) (us:List Value),K.In s.heap->(us ++ ds).length = ps.length->BindsTo s fd ⟨us,[]⟩ (ps.zip (us ++ ds))
theorem Binds.all (h:∀ us:List Value,us.length = ps.length->bindArgs fd ⟨us,[]⟩ = pure (ps.zip us)):Binds K fd ps []:=fun s us _ hl=>by
 rw [append_nil] at hl ⊢
 exact .of_eq (h us hl)
def Passes (CX:CXT) (X:Cx) (E:XK):Prop:=∀ (pins:List (Addr × Obj)) (σ:St) (H:Hp) (s:Shared) (e:Value) (s':Shared),Inv X pins σ H s->CX X.stack H s E e s'->X.xe e s'
variable {vs:List V} {apos:Pos} {m:Str}
section
variable {f:Addr} {dvs:List V} {ds:List Value} {E:XK} {o:Expr} {t:TA}
theorem zoo {Q:VK} (F:FnOk X.prog X.w X.K X.mg X.base CX k f fd ps sp) (hr:Room k X.A) (hb:Binds X.K fd ps ds) (hd:Vals dvs ds) (hx:Passes CX X E)
 (I:Inv X pins σ H s) (r:Vals vs us) (h:sp (vs ++ dvs) H Q E):wpAny (model X.prog X.w) X.A (call (.ref f) us) (EP X pins σ Q) X.xe s:=by
 have r2:Vals (vs ++ dvs) (us ++ ds):=r.append hd
 have hl:(us ++ ds).length = ps.length:=by rw [← r2.length];exact F.len _ _ _ _ h
 refine wpAny_call (codeAny_mono (F.run X.A X.stack s H ⟨us,[]⟩ (us ++ ds) (vs ++ dvs) Q E hr I.env0 (hb s us I.kIn hl) r2 h) fun r s' hq=>?_)
 cases r with
 | error e=>exact hx pins σ H s e s' I hq
 | ok fl=>
  cases fl with
  | ret u=>exact I.after hq
  | next=>exact False.elim hq
  | brk=>exact False.elim hq
  | cont=>exact False.elim hq
theorem ziC (F:FnOk X.prog X.w X.K X.mg X.base CX k f fd ps sp) (hr:Room k X.A) (hg:Gl X x) (hm:X.mg x = some (.ref f)) (hk:PySem.W.keepIn X.K (.ref f) = true) (hb:Binds X.K fd ps ds) (hd:Vals dvs ds) (hx:Passes CX X E)
  (ha:PA X (e :: es) t) (hdb:(x == ("__debug__":Str)) = false:=by decide) (he:starEach (e :: es) X.env = (false,eval e X.env) :: starEach es X.env:=by rfl) (hpl:(backTo pos (starEach es X.env)).any (·.1) = false:=by rfl) :
  PE X (.Call (.Name x p) (e :: es) [] pos) (zmi sp dvs E t):=by
 intro pins s σ H Q I h
 refine wpAny_Call_Name_kw (zbH I hg hm ?_ hdb)
 refine PySem.W.callWith_K (h₀:=X.base) I.ok.mod.kin hk (thn (ha pos pins s σ H _ I h) fun us s1 ⟨vs,H1,I1,r,q⟩=>⟨I1.kIn,?_⟩) he hpl
 exact zoo F hr hb hd hx I1 r q
structure Mk (K:Frag) (C f:Addr):Prop where
 makes:PySem.W.makesIn K C = true
 init:PySem.W.findIn K (.ref C) "__init__" = some (some (.ref f))
 fn:PySem.W.isFn K (.ref f) = true
 kp:PySem.W.keepIn K (.ref C) = true
theorem zlo {Q:VK} (M:Mk X.K C f) (F:FnOk X.prog X.w X.K X.mg X.base CX k f fd ps sp) (hr:Room (k + 1) X.A) (hb:Binds X.K fd ps ds) (hd:Vals dvs ds)
 (hx:Passes CX X E) (I:Inv X pins σ H s) (r:Vals vs us)
 (h:∀ x dx,H x = none->H dx = none->dx ≠ x->sp (.ref x :: (vs ++ dvs)) (upd (upd H dx (.own x)) x (.ins C dx [])) (fun v H2=>v = .non/\Q (.ref x) H2) E) :
  wpAny (model X.prog X.w) X.A (call (.ref C) us) (EP X pins σ Q) X.xe s:=by
 have hq:=h (s.heap.objs.size + 1) s.heap.objs.size (I.hok.fresh (Nat.le_succ _)) (I.hok.fresh (Q4 _)) (Ql (Nat.lt_succ_self _))
 have I2:=Inv.made (C:=C) I
 have r2:Vals (V.ref (s.heap.objs.size + 1) :: (vs ++ dvs)) (Value.ref (s.heap.objs.size + 1) :: (us ++ ds)):=.cons rfl (r.append hd)
 have hl:(Value.ref (s.heap.objs.size + 1) :: us ++ ds).length = ps.length:=by
  have e:=r2.length
  rw [F.len _ _ _ _ hq] at e
  exact e.symm
 refine wpAny_call (zlK (f:=f) I.kIn M.makes M.init (beq_iff_eq.mp M.fn) (codeAny_mono (F.run _ X.stack _ _ ⟨Value.ref (s.heap.objs.size + 1) :: us,[]⟩ (Value.ref (s.heap.objs.size + 1) :: (us ++ ds)) _ _ E (hr.make C us [])
  (I2.env0.make C us []) (hb _ (Value.ref (s.heap.objs.size + 1) :: us) I2.kIn hl) r2 hq) fun r s' hq'=>?_))
 cases r with
 | error e=>exact hx pins σ _ _ e s' I2 hq'
 | ok fl=>
  cases fl with
  | ret u=>
   obtain ⟨v,H',I3,rv,ev,q3⟩:=I2.after hq'
   subst ev
   exact ⟨rv,⟨V.ref (s.heap.objs.size + 1),H',I3,rfl,q3⟩⟩
  | next=>exact False.elim hq'
  | brk=>exact False.elim hq'
  | cont=>exact False.elim hq'
theorem zm4 (M:Mk X.K C f) (F:FnOk X.prog X.w X.K X.mg X.base CX k f fd ps sp) (hr:Room (k + 1) X.A) (hg:Gl X x) (hm:X.mg x = some (.ref C)) (hb:Binds X.K fd ps ds) (hd:Vals dvs ds) (hx:Passes CX X E)
  (ha:PA X (e :: es) t) (hdb:(x == ("__debug__":Str)) = false:=by decide) (he:starEach (e :: es) X.env = (false,eval e X.env) :: starEach es X.env:=by rfl) (hpl:(backTo pos (starEach es X.env)).any (·.1) = false:=by rfl) :
  PE X (.Call (.Name x p) (e :: es) [] pos) (zp6 C sp dvs E t):=by
 intro pins s σ H Q I h
 refine wpAny_Call_Name_kw (zbH I hg hm ?_ hdb)
 refine PySem.W.callWith_K (h₀:=X.base) I.ok.mod.kin M.kp (thn (ha pos pins s σ H _ I h) fun us s1 ⟨vs,H1,I1,r,q⟩=>⟨I1.kIn,?_⟩) he hpl
 exact zlo M F hr hb hd hx I1 r q
end
section
variable {f:Addr} {ks:List Str} {E:XK} {kpos:Pos} {o:Expr} {kws:List Keyword} {t tk:TA} {nm:Option Str}
structure KBinds (K:Frag) (fd:FuncData) (ps ks:List Str) (g:List Value->List Value->List Value) (gV:List V->List V->List V):Prop where
 to:∀ (s:Shared) (us ws:List Value),K.In s.heap->(g us ws).length = ps.length->BindsTo s fd ⟨us,ks.zip ws⟩ (ps.zip (g us ws))
 rel:∀ {vs:List V} {us:List Value} {zs:List V} {ws:List Value},Vals vs us->Vals zs ws->Vals (gV vs zs) (g us ws)
end
structure FnScope (N P:List Str) (sc:Scope):Prop where
 kind:sc.kind = .function
 co:sc.isCoroutine = false
 gen:sc.isGenerator = false
 nd:N.Nodup
 pre:N.take P.length = P
 par:∀ x ∈ P,sc.names.lookup x = some .local\/sc.names.lookup x = some .cell
 nofree:∀ y ∈ sc.names,y.2 ≠ .free
theorem zgI {kindOf:Str->Option NameKind} {x:Str}:∀ {binds:List (Str × Value)} {m:Str->Option Value},(∀ v,(x,v) ∉ binds)->bindL kindOf binds m x = m x
 | [],_,_=>rfl
 | (n,v) :: r,m,h=>by
  unfold bindL
  rw [zgI fun w hw=>h w (mem_cons_of_mem _ hw)]
  split
  ·have:x ≠ n:=by rintro rfl;exact h v mem_cons_self
   simp [this]
  ·rfl
theorem zgK {kindOf:Str->Option NameKind} {x:Str}:∀ {binds:List (Str × Value)} {m:Str->Option Value},(∀ v,(x,v) ∉ binds)->bindC kindOf binds m x = m x
 | [],_,_=>rfl
 | (n,v) :: r,m,h=>by
  unfold bindC
  rw [zgK fun w hw=>h w (mem_cons_of_mem _ hw)]
  split
  ·rfl
  ·have:x ≠ n:=by rintro rfl;exact h v mem_cons_self
   simp [this]
theorem zgJ {kindOf:Str->Option NameKind} {x:Str} {v:Value}:∀ {P:List Str} {vs:List Value} {i:Nat} {m:Str->Option Value},P.Nodup->P[i]? = some x->vs[i]? = some v->kindOf x = some .local->
  bindL kindOf (P.zip vs) m x = some v
 | [],_,_,_,_,h,_,_=>by simp at h
 | _ :: _,[],_,_,_,_,h,_=>by simp at h
 | p :: P,w :: vs,0,m,nd,h1,h2,hk=>by
  simp at h1 h2;subst h1;subst h2
  show bindL kindOf ((p,w) :: P.zip vs) m p = _
  unfold bindL
  rw [zgI fun v hv=>(nodup_cons.mp nd).1 (of_mem_zip hv).1,if_pos hk]
  simp
 | p :: P,w :: vs,i + 1,m,nd,h1,h2,hk=>by
  show bindL kindOf ((p,w) :: P.zip vs) m x = _
  unfold bindL
  exact zgJ (i:=i) (nodup_cons.mp nd).2 (by simpa using h1) (by simpa using h2) hk
theorem zgL {kindOf:Str->Option NameKind} {x:Str} {v:Value}:∀ {P:List Str} {vs:List Value} {i:Nat} {m:Str->Option Value},P.Nodup->P[i]? = some x->vs[i]? = some v->kindOf x ≠ some .local->
  bindC kindOf (P.zip vs) m x = some v
 | [],_,_,_,_,h,_,_=>by simp at h
 | _ :: _,[],_,_,_,_,h,_=>by simp at h
 | p :: P,w :: vs,0,m,nd,h1,h2,hk=>by
  simp at h1 h2;subst h1;subst h2
  show bindC kindOf ((p,w) :: P.zip vs) m p = _
  unfold bindC
  rw [zgK fun v hv=>(nodup_cons.mp nd).1 (of_mem_zip hv).1,if_neg hk]
  simp
 | p :: P,w :: vs,i + 1,m,nd,h1,h2,hk=>by
  show bindC kindOf ((p,w) :: P.zip vs) m x = _
  unfold bindC
  exact zgL (i:=i) (nodup_cons.mp nd).2 (by simpa using h1) (by simpa using h2) hk
noncomputable def start (N:List Str) (vs:List V):St:=vs.map some ++ List.replicate (N.length - vs.length) none
noncomputable def zbc (CX:CXT) (P:Program) (w:World) (K:Frag) (mg:Str->Option Value) (base:Heap) (N:List Str) (qual:Str) (scope:Scope) (f:Addr) (cd:Value) (A:Around) (outer:List Env) (s:Shared) (H:Hp) (E:XK):Cx where
 prog:=P
 w:=w
 K:=K
 mg:=mg
 base:=base
 A:=A.deeper (envOfC qual scope s.heap.objs.size f cd)
 N:=N
 s₀:=s
 H₀:=H
 env:=envOfC qual scope s.heap.objs.size f cd
 outer:=outer
 stack:=envOfC qual scope s.heap.objs.size f cd :: outer
 ex:=[]
 calm:=true
 fn:=fun _=>true
 pn:=[]
 xe:=fun e s'=>wpAny (model P w) (A.deeper (envOfC qual scope s.heap.objs.size f cd)) (leaving (envOfC qual scope s.heap.objs.size f cd) e) (fun _ s''=>CX outer H s E e s'') (fun e' s''=>CX outer H s E e' s'') s'
theorem zhQ {sc:Scope} (h:sc.names.lookup x = some .cell):∃ c,(cellsFrom n sc.names []).lookup x = some c:=by
 have q:=PySem.W.cellsFrom_some sc.names n [] (.inl h)
 exact Option.isSome_iff_exists.mp q
variable {scope:Scope} {qual:Str}
theorem zkr {f:Addr} {cd:Value} {s1:Shared} {E:XK} 
 (S:FnScope N ps scope) (hd:A.handled = none) (e0:Env0 P w K mg base A outer s H) (hl:vs.length = ps.length) (r:Vals vs us)
 (x:InCallC s s.heap.objs.size (bindL (envOfC qual scope s.heap.objs.size f cd).kindOf (ps.zip us) fun _=>none) (cellsFrom (s.heap.objs.size + 1) scope.names []) (bindC (envOfC qual scope s.heap.objs.size f cd).kindOf (ps.zip us) fun _=>none) s1) :
  Inv (zbc CX P w K mg base N qual scope f cd A outer s H E) [] (start N vs) H s1:=by
 have hpl:ps.length<=N.length:=by have:=congrArg List.length S.pre;rw [length_take] at this;omega
 obtain ⟨h1,tk,rfl,hk⟩:=x.done
 have noA:∀ b:Addr,b ∉ (zbc CX P w K mg base N qual scope f cd A outer s H E).ex:=fun b z=>absurd (show b ∈ ([]:List Addr) from z) (by simp)
 refine ⟨⟨e0.mod,S.kind,rfl,rfl,Q4 _,fun y z c h1 h2=>?_,fun y hy=>?_,fun y c _ h=>?_,fun _=>hd,Around.frames_deeper e0.frames,.inr ⟨rfl,rfl⟩,fun b z=>absurd z (noA b),e0.bs,e0.bsz,fun b _ _=>noA b,fun b z=>absurd z (noA b),e0.funs,e0.frf⟩,
  rfl,e0.bare,Un.kept hk,⟨_,x.toInCall.ns,fun i y v h1 h2 h3=>?_⟩,fun y c h=>⟨_,x.cell y c h⟩,e0.hok.fresh (Q4 _),fun y c h=>?_,fun p hp=>absurd (show p ∈ ([]:List (Addr × Obj)) from hp) (by simp),e0.hok.kept hk,?_⟩
 ·exact name_of_addr x.apart (PySem.mem_of_lookup h1) (PySem.mem_of_lookup h2)
 ·have hy:scope.names.lookup y = some .cell\/scope.names.lookup y = some .free:=hy
  rcases hy with hy | hy
  ·exact zhQ hy
  ·exact absurd rfl (S.nofree _ (PySem.mem_of_lookup hy))
 ·exact Nat.le_of_lt (x.above y c (PySem.mem_of_lookup h))
 ·have hi:i < vs.length:=by
   unfold start at h2
   by_cases hi:i < vs.length
   ·exact hi
   ·rw [Q9 (by simpa using hi)] at h2
    rw [List.getElem?_replicate] at h2
    split at h2 <;> cases h2
  have ha:vs[i]? = some v:=by
   unfold start at h2
   rw [Q7 (by simpa using hi),Qc] at h2
   cases e:vs[i]? with
   | none=>rw [e] at h2;cases h2
   | some a=>rw [e] at h2;cases h2;rfl
  obtain ⟨u,hu,rv⟩:=r.get ha
  have hp:ps[i]? = some y:=by
   rw [← S.pre,List.getElem?_take_of_lt (by omega)];exact h1
  have ndP:ps.Nodup:=by rw [← S.pre];exact S.nd.sublist (List.take_sublist _ _)
  refine ⟨u,rv,?_⟩
  rcases S.par y (Qb hp) with k | k
  ·exact .inl ⟨k,zgJ ndP hp hu k⟩
  ·obtain ⟨c,e⟩:=zhQ (n:=s.heap.objs.size + 1) k
   refine .inr ⟨.inl k,c,e,?_⟩
   have q:=x.cell y c e
   rw [zgL ndP hp hu (by show scope.names.lookup y ≠ _;rw [k];decide)] at q
   exact q
 ·exact e0.hok.fresh (Nat.le_of_lt (x.above y c (PySem.mem_of_lookup h)))
 ·unfold start
  show _ = N.length
  rw [Qo,Qi,length_replicate]
  omega
theorem zmr {f:Addr} {params:Arguments} {dV kV doc pm cdv ct oc:Value} {an od:Option Addr}
 {osl:Array (Option Value)} (lk:K.lookup f = some ⟨oc,od,.func (PySem.W.fnOf name qual params body scope dV kV doc pm an cdv ct),osl⟩) (hcd:PySem.W.codeIn K cdv qual = true) (S:FnScope N ps scope)
 (len:∀ vs H Q E,sp vs H Q E->vs.length = ps.length)
 (hbody:∀ (A:Around) (outer:List Env) (s:Shared) (H:Hp) (vs:List V) (Q:VK) (E:XK),Room k (A.deeper (envOfC qual scope s.heap.objs.size f cdv))->sp vs H Q E->
 ∃ t,PSs (zbc CX P w K mg base N qual scope f cdv A outer s H E) body t/\t { nx:=fun _ H'=>Q .non H',rt:=Q } (start N vs) H) :
  FnOk P w K mg base CX (k + 1) f (PySem.W.fnOf name qual params body scope dV kV doc pm an cdv ct) ps sp:=by
 refine ⟨len,fun A outer s H args us vs Q E hr e0 hb r hsp=>?_⟩
 have hl:=len _ _ _ _ hsp
 have KX:K.In s.heap:=e0.mod.kin.keeps fun b o e=>(e0.bs b o e).1
 have lim:s.heap.NoLimit:=e0.mod.nolimit.keeps fun b o e=>(e0.bs b o e).1
 have hkind:∀ y ∈ ps.zip us,scope.names.lookup y.1 = some .local\/(scope.names.lookup y.1 = some .cell/\((cellsFrom (s.heap.objs.size + 1) scope.names []).lookup y.1).isSome = true):=fun ⟨n,v⟩ hy=>by
  rcases S.par n (of_mem_zip hy).1 with q | q
  ·exact .inl q
  ·exact .inr ⟨q,PySem.W.cellsFrom_some _ _ _ (.inl q)⟩
 refine codeAny_call_function hr.depth (KX _ _ lk) rfl S.co S.gen rfl (PySem.W.codeRec_of KX hcd) (hb _ _ _ _ ?_)
 refine wpAny_newFunctionEnv_cells S.kind hkind fun env he s1 x=>?_
 subst he
 refine ⟨lim.keeps x.toInCall.keep,codeAny_func ?_⟩
 obtain ⟨t,ht,hq⟩:=hbody A outer s H vs Q E (hr.deeper _) hsp
 have I:Inv (zbc CX P w K mg base N qual scope f cdv A outer s H E) [] (start N vs) H s1:=zkr S hr.hd e0 hl r x
 refine Qh (ht [] s1 (start N vs) H _ I hq) (fun fl s' hs=>?_) fun e s' hs=>hs
 have fin:∀ {σ':St} {H':Hp} {v:V} {u:Value},Inv (zbc CX P w K mg base N qual scope f cdv A outer s H E) [] σ' H' s'->RelV v u->Q v H'->CE outer P w H s Q u s':=
  fun {σ' H' v u} J rv q=>⟨v,H',J.os,J.bare,J.base,J.hok,rv,q⟩
 cases fl with
 | ret u=>
  obtain ⟨v,σ',H',J,rv,q⟩:=hs
  exact fin J rv q
 | next=>
  obtain ⟨σ',H',J,q⟩:=hs
  exact fin (v:=V.non) (u:=Value.none) J rfl q
 | brk=>
  obtain ⟨_,_,_,q⟩:=hs
  exact False.elim q
 | cont=>
  obtain ⟨_,_,_,q⟩:=hs
  exact False.elim q
section
variable {t:TA} {id T:String} {r:List V->Hp->VK->Prop}
noncomputable def tCB (r:List V->Hp->VK->Prop) (t:TA):TE:=fun σ H Q=>t σ H fun vs H1=>r vs H1 Q
theorem zlB (hc:CallR X (.builtin id) r) (hg:Gl X x) (hm:X.mg x = none) (hv:bootBuiltins x = some (.builtin id)) (ha:PA X (e :: es) t) (hn:x ≠ "__name__":=by decide) (hdb:(x == ("__debug__":Str)) = false:=by decide)
  (he:starEach (e :: es) X.env = (false,eval e X.env) :: starEach es X.env:=by rfl) (hpl:(backTo pos (starEach es X.env)).any (·.1) = false:=by rfl):PE X (.Call (.Name x p) (e :: es) [] pos) (tCB r t):=by
 intro pins s σ H Q I h
 refine wpAny_Call_Name_kw (zfA I hg hm hv ?_ hn hdb)
 exact PyProof.Rows.callWith_builtin1 (thn (ha pos pins s σ H _ I h) fun us s1 ⟨vs,H1,I1,r1,q1⟩=>hc pins s1 σ H1 vs us Q I1 r1 q1) he hpl
theorem zkb (hc:CallR X (.type T) r) (hg:Gl X x) (hm:X.mg x = none) (hv:bootBuiltins x = some (.type T)) (ha:PA X (e :: es) t) (hn:x ≠ "__name__":=by decide) (hdb:(x == ("__debug__":Str)) = false:=by decide)
  (he:starEach (e :: es) X.env = (false,eval e X.env) :: starEach es X.env:=by rfl) (hpl:(backTo pos (starEach es X.env)).any (·.1) = false:=by rfl):PE X (.Call (.Name x p) (e :: es) [] pos) (tCB r t):=by
 intro pins s σ H Q I h
 refine wpAny_Call_Name_kw (zfA I hg hm hv ?_ hn hdb)
 exact PyProof.Rows.callWith_type1 (thn (ha pos pins s σ H _ I h) fun us s1 ⟨vs,H1,I1,r1,q1⟩=>hc pins s1 σ H1 vs us Q I1 r1 q1) he hpl
end
end L2
namespace HT
open PySem PyProof.Rows
variable {sl t:Addr} {vl vu:Value} {Q:Value->Shared->Prop}
section
variable {prog:Program} {w:World} {A:Around} {E:Value->Shared->Prop} {s:Shared}
theorem zn1 {b:Addr} {vs ws:List Value} (ht:IsTup s.heap t vs.toArray) (hb:IsTup s.heap b ws.toArray) (hv:vs ≠ [])
 (h1:ws = []->Q (.ref t) s) (h2:ws ≠ []->Q (.ref s.heap.objs.size) { s with heap:=s.heap.push { cls:=.type "tuple",data:=.seq (vs ++ ws).toArray } })
 (hsz:vs.length + ws.length<=sizeLine):wpAny (model prog w) A (binaryOp .Add (.ref t) (.ref b)) Q E s:=by
 obtain ⟨⟨cls,dd,data,sl⟩,ho,hc,n,hd⟩:=id ht
 obtain ⟨⟨cls2,dd2,data2,sl2⟩,ho2,hc2,n2,hd2⟩:=id hb
 simp only at hc hd hc2 hd2
 subst hc hd hc2 hd2
 have e:vs.toArray ++ ws.toArray = (vs ++ ws).toArray:=by simp
 by_cases hw:ws = []
 ·exact concat_meets ⟨_,ho,rfl⟩ ⟨_,ho2,rfl⟩ noFill_tuple_add seq_tuple_add PySem.F.slot_tuple_add PySem.F.entry_tuple_add (PySem.F.args_tuple_add_2 _ _)
   (tuple_addW1 t b vs.toArray ws.toArray n n2 dd dd2 sl sl2 (by simpa using hv) (by simp [hw])) ⟨ho,ho2,h1 hw⟩
 ·refine concat_meets ⟨_,ho,rfl⟩ ⟨_,ho2,rfl⟩ noFill_tuple_add seq_tuple_add PySem.F.slot_tuple_add PySem.F.entry_tuple_add (PySem.F.args_tuple_add_2 _ _)
   (tuple_addW2 t b vs.toArray ws.toArray n n2 dd dd2 sl sl2 (by simpa using hv) (by simpa using hw) (by rw [Qj,Qj];exact hsz)) ⟨ho,ho2,?_⟩
  rw [e]
  exact h2 hw
noncomputable def sIx (n d:Nat):Option Int->Nat
 | none=>d
 | some v=>if v < 0 then (v + (n:Int)).toNat else min v.toNat n
theorem zlm (n d:Nat):sIx n d none = d:=rfl
theorem zmQ (n d k:Nat):sIx n d (some (k:Int)) = min k n:=by
 show (if (k:Int) < 0 then ((k:Int) + (n:Int)).toNat else min (k:Int).toNat n) = min k n
 rw [if_neg (by omega),Int.toNat_natCast]
theorem zom (n d:Nat) (hd:d<=n) (o:Option Int):sIx n d o<=n:=by
 cases o with
 | none=>exact hd
 | some v=>
  show (if v < 0 then (v + (n:Int)).toNat else min v.toNat n)<=n
  by_cases hv:v < 0
  ·rw [if_pos hv];omega
  ·rw [if_neg hv];exact Nat.min_le_right _ _
theorem ziW (v:Int) (n d:Nat):(if v < 0 then max (v + (n:Int)) 0 else min v (n:Int)) = ((sIx n d (some v):Nat):Int):=by
 show (if v < 0 then max (v + (n:Int)) 0 else min v (n:Int)) = (((if v < 0 then (v + (n:Int)).toNat else min v.toNat n):Nat):Int)
 by_cases hv:v < 0
 ·simp only [if_pos hv];omega
 ·simp only [if_neg hv];omega
theorem zjM (lo hi:Option Int) (n:Nat):Builtin.Slice.sliceAdjust lo hi 1 (n:Int) = (((sIx n 0 lo:Nat):Int),((sIx n n hi:Nat):Int)):=by
 have h1:¬ ((1:Int) < 0):=by omega
 unfold Builtin.Slice.sliceAdjust
 simp only [h1,if_false]
 refine Prod.ext ?_ ?_
 ·cases lo with
  | none=>rfl
  | some v=>exact ziW v n 0
 ·cases hi with
  | none=>rfl
  | some v=>exact ziW v n n
theorem zjp (i j:Nat):Builtin.Slice.slicePlaces (i:Int) (j:Int) 1 = j - i:=by
 unfold Builtin.Slice.slicePlaces
 have h1:(1:Int) > 0:=by omega
 simp only [h1,if_true,Int.ediv_one]
 split <;> omega
theorem zfl {v:Value} {o:Option Int} {Q:Option Int->Shared->Prop} (p:IsPart v o) (h:Q o s):wpAny (model prog w) A (Builtin.Slice.slicePartIndex v) Q E s:=by
 cases p with
 | none=>exact slicePart_none h
 | int i t=>exact slicePart_int h
theorem zcs {lo hi:Option Int} {n:Nat} {Q:Int × Int × Nat->Shared->Prop} (hs:s.heap.IsSliceOf sl vl vu .none) (pl:IsPart vl lo) (pu:IsPart vu hi)
 (h:Q (((sIx n 0 lo:Nat):Int),1,sIx n n hi - sIx n 0 lo) s):wpAny (model prog w) A (Builtin.Slice.sliceApplied (.ref sl) (pure (n:Int))) Q E s:=by
 obtain ⟨os,hos,hcs,hds⟩:=id hs
 unfold Builtin.Slice.sliceApplied Builtin.Slice.sliceFields
 refine Q2 (Q2 (wpAny_field hos hds (x:=vl) rfl (Q2 (wpAny_field hos hds (x:=vu) rfl (Q2 (wpAny_field hos hds (x:=.none) rfl (Qg ?_)))))))
 refine Q2 (slicePart_none ?_)
 show wpAny _ _ (if ((1:Int) == 0) = true then _ else _) _ _ s
 rw [if_neg (by decide)]
 refine Q2 (zfl pl (Q2 (zfl pu (Q2 (Qg ?_)))))
 show wpAny _ _ (match Builtin.Slice.sliceAdjust lo hi 1 (n:Int) with | (lo,hi)=>pure (lo,(1:Int),Builtin.Slice.slicePlaces lo hi 1)) _ _ s
 rw [zjM lo hi n]
 show wpAny _ _ (pure (((sIx n 0 lo:Nat):Int),(1:Int),Builtin.Slice.slicePlaces ((sIx n 0 lo:Nat):Int) ((sIx n n hi:Nat):Int) 1)) _ _ s
 rw [zjp]
 exact Qg h
theorem zlx (xs:Array Value) (i k:Nat):((List.range k).filterMap fun (m:Nat)=>xs[((i:Int) + (m:Int) * 1).toNat]?).toArray = ((xs.toList.drop i).take k).toArray:=by
 have e:(fun (m:Nat)=>xs[((i:Int) + (m:Int) * 1).toNat]?) = fun m=>xs[i + m]?:=by
  funext m
  have:((i:Int) + (m:Int) * 1).toNat = i + m:=by omega
  rw [this]
 rw [e]
 have:=pick_run xs i k
 rw [List.filterMap_map] at this
 have e2:((fun x=>xs[x]?) ∘ fun x=>i + x) = fun m=>xs[i + m]?:=rfl
 rw [e2] at this
 rw [this]
theorem zey {items:Array Value} {lo hi:Option Int} (ht:IsTup s.heap t items) (hs:s.heap.IsSliceOf sl vl vu .none) (pl:IsPart vl lo) (pu:IsPart vu hi)
 (hw:¬ (sIx items.size 0 lo = 0/\sIx items.size items.size hi = items.size))
 (h:Q (.ref s.heap.objs.size) { s with heap:=s.heap.push { cls:=.type "tuple",data:=.seq ((items.toList.drop (sIx items.size 0 lo)).take (sIx items.size items.size hi - sIx items.size 0 lo)).toArray } })
 (hsz:items.size<=sizeLine):wpAny (model prog w) A (getItem (.ref t) (.ref sl)) Q E s:=by
 have htake:sizeOk (.seq ((items.toList.drop (sIx items.size 0 lo)).take (sIx items.size items.size hi - sIx items.size 0 lo)).toArray):=by
  show ((items.toList.drop (sIx items.size 0 lo)).take (sIx items.size items.size hi - sIx items.size 0 lo)).toArray.size<=sizeLine
  rw [Qj,length_take,List.length_drop,Array.length_toList]
  omega
 have hj:sIx items.size items.size hi<=items.size:=zom _ _ (Q4 _) hi
 obtain ⟨os,hos,hcs,hds⟩:=id hs
 have hTs:s.TypeIs (.ref sl) "slice":=⟨os,hos,hcs⟩
 unfold getItem
 try with_reducible refine wpAny_holding ?_
 first | refine Q2 (Qg ?_) | skip
 refine Q2 (wpAny_sequenceKey ht.typeIs (by decide) ?_)
 refine Q2 (wpAny_callSpecial?_slot (name:=Str.ofString "__getitem__") ht.typeIs PyProof.Rows.slot_tuple_getitem
  (wpAny_call_entry PyProof.Rows.slot_tuple_getitem ht.typeIs entry_tuple_getitem ?_ (args_tuple_getitem _ _)))
 show wpAny _ _ (Builtin.Tuple.tupleItemsOf (.ref t) >>= _) _ _ s
 refine Q2 (tupleItemsOf_ ht ?_)
 refine Q2 (wpAny_typeOf hTs ?_)
 rw [if_pos (by decide)]
 refine Q2 (zcs hs pl pu ?_)
 have hno:¬ ((((sIx items.size 0 lo:Nat):Int) == 0 && (1:Int) == 1 && (sIx items.size items.size hi - sIx items.size 0 lo) == items.size) = true):=by
  intro q
  rw [Qu,Qu] at q
  have q1:((sIx items.size 0 lo:Nat):Int) = 0:=eq_of_beq q.1.1
  have q2:sIx items.size items.size hi - sIx items.size 0 lo = items.size:=eq_of_beq q.2
  exact hw ⟨by omega,by omega⟩
 show wpAny _ _ (if (((sIx items.size 0 lo:Nat):Int) == 0 && (1:Int) == 1 && (sIx items.size items.size hi - sIx items.size 0 lo) == items.size) = true then _ else _) _ _ s
 rw [if_neg hno,zlx]
 first
  | exact Q2 (m:=Builtin.Tuple.tupleExact _) (Qv (Qg ⟨_,rfl,Qg h⟩) htake)
  | exact Q2 (m:=Builtin.Tuple.tupleExact _) (Qv (Q2 (Qg (Qg ⟨_,rfl,Qg h⟩))) htake)
  | exact Q2 (Q2 (m:=Builtin.Tuple.tupleExact _) (Qv (Qg (Qg ⟨_,rfl,Qg h⟩)) htake))
  | exact Q2 (Q2 (m:=Builtin.Tuple.tupleExact _) (Qv (Qg ⟨_,rfl,Qg h⟩) htake))
end
end HT
namespace L2
open PySem PySem.Spec PyProof.Rows
noncomputable abbrev TO:=St->Hp->(Option Int->Hp->Prop)->Prop
def PO (X:Cx) (e:Option Expr) (t:TO):Prop:=
 ∀ (pins:List (Addr × Obj)) (s:Shared) (σ:St) (H:Hp) (Q:Option Int->Hp->Prop),Inv X pins σ H s->t σ H Q->
  wpAny (model X.prog X.w) X.A (evalPart e X.env) (fun u s'=>∃ o H',Inv X pins σ H' s'/\IsPart u o/\Q o H') X.xe s
noncomputable def zmJ:TO:=fun _ H Q=>Q none H
noncomputable def zp3 (t:TE):TO:=fun σ H Q=>t σ H fun x H1=>∃ i,x = .int i/\Q (some i) H1
variable {X:Cx} {e:Expr} {xs:List V} {pos:Pos}
section
variable {te:TE} {lo hi:Option Expr} {tl th:TO} {p2:Pos}
theorem zm2:PO X none zmJ:=by
 intro pins s σ H Q I h
 rw [evalPart_none]
 exact Qg ⟨none,H,I,.none,h⟩
theorem zm1 (h:PE X e te):PO X (some e) (zp3 te):=by
 intro pins s σ H Q I hw
 rw [evalPart_some]
 refine thn (h pins s σ H _ I hw) fun u s1 ⟨x,H1,I1,r1,q1⟩=>?_
 obtain ⟨i,rfl,q⟩:=q1
 obtain ⟨t,rfl⟩:=r1
 exact ⟨some i,H1,I1,.int i t,q⟩
def SlR (X:Cx) (r:V->Option Int->Option Int->Hp->VK->Prop):Prop:=
 ∀ (pins:List (Addr × Obj)) (s:Shared) (σ:St) (H:Hp) (x:V) (v vl vu:Value) (lo hi:Option Int) (sl:Addr) (Q:VK),Inv X pins σ H s->RelV x v->s.heap.IsSliceOf sl vl vu .none->IsPart vl lo->IsPart vu hi->r x lo hi H Q->
  ∃ T id,typeLookup (.type T) "__getitem__" = pure (some (.builtin id))/\s.TypeIs v T/\wpAny (model X.prog X.w) X.A (getItem v (.ref sl)) (EP X pins σ Q) X.xe s
noncomputable def tSl (r:V->Option Int->Option Int->Hp->VK->Prop) (te:TE) (tl th:TO):TE:=fun σ H Q=>te σ H fun x H1=>tl σ H1 fun l H2=>th σ H2 fun u H3=>r x l u H3 Q
theorem zly {r:V->Option Int->Option Int->Hp->VK->Prop} (hr:SlR X r) (he:PE X e te) (hl:PO X lo tl) (hu:PO X hi th):PE X (.Subscript e (.Slice lo hi none p2) pos) (tSl r te tl th):=by
 intro pins s σ H Q I h
 refine Subscript_ (thn (he pins s σ H _ I h) fun v s1 ⟨x,H1,I1,r1,q1⟩=>?_)
 refine wpAny_Slice (thn (hl pins s1 σ H1 _ I1 q1) fun vl s2 ⟨l,H2,I2,pl,q2⟩=>thn (hu pins s2 σ H2 _ I2 q2) fun vu s3 ⟨u,H3,I3,pu,q3⟩=>?_)
 rw [evalPart_none]
 refine Qg ?_
 have I4:Inv X pins σ H3 { s3 with heap:=s3.heap.push { cls:=.type "slice",data:=.fields #[vl,vu,.none] } }:=I3.kept (t':=s3.toks) fun b ob q=>Q3 _ q
 obtain ⟨T,id,hT,ht,hg⟩:=hr pins { s3 with heap:=s3.heap.push { cls:=.type "slice",data:=.fields #[vl,vu,.none] } } σ H3 x v vl vu l u s3.heap.objs.size Q I4 r1 (Heap.IsSliceOf.new ..) pl pu q3
 show wpAny (model X.prog X.w) X.A (subscriptTail e (.Slice lo hi none p2) v (.ref s3.heap.objs.size)) (EP X pins σ Q) X.xe { s3 with heap:=s3.heap.push { cls:=.type "slice",data:=.fields #[vl,vu,.none] } }
 exact tail_any (ops:=[.ref s3.heap.objs.size,v]) ht hT hg (by with_unfolding_all rfl)
noncomputable def cutV (xs:List V) (lo hi:Option Int):List V:=(xs.drop (HT.sIx xs.length 0 lo)).take (HT.sIx xs.length xs.length hi - HT.sIx xs.length 0 lo)
theorem zeM (xs:List V) (lo hi:Option Int):(cutV xs lo hi).length<=xs.length:=by
 unfold cutV
 rw [length_take,List.length_drop]
 omega
noncomputable def zrb (K:Frag):V->Option Int->Option Int->Hp->VK->Prop:=fun x lo hi H Q=>∃ a xs,x = .ref a/\SqT K H a xs /\
 ¬ (HT.sIx xs.length 0 lo = 0/\HT.sIx xs.length xs.length hi = xs.length)/\∀ p,H p = none->Q (.ref p) (upd H p (.tup (cutV xs lo hi)))
theorem zok:SlR X (zrb X.K):=by
 intro pins s σ H x v vl vu lo hi sl Q I rx hs pl pu h
 obtain ⟨a,xs,rfl,hx,hw,q⟩:=h
 cases rx
 obtain ⟨its,r,ht,hz⟩:=I.tuple hx
 have hlen:its.toArray.size = xs.length:=by rw [Qj];exact r.length.symm
 refine ⟨"tuple",_,PyProof.Rows.slot_tuple_getitem.lookup,ht.typeIs,?_⟩
 refine HT.zey ht hs pl pu (by rw [hlen];exact hw) ?_ (by rw [hlen];exact hz)
 rw [hlen]
 refine ⟨.ref s.heap.objs.size,_,I.laid (t':=s.toks) (o:=.tup (cutV xs lo hi)) (fun b ob q=>Q3 _ q) (Q4 _) ?_,rfl,q _ (I.hok.fresh (Q4 _))⟩
 exact ⟨Qk (zeM xs lo hi) hz,_,(r.drop (HT.sIx xs.length 0 lo)).take (HT.sIx xs.length xs.length hi - HT.sIx xs.length 0 lo),IsTup.new _ _,NoDict.new⟩
noncomputable def zqg (K:Frag):R2:=fun x y H Q=>∃ a b xs ys,x = .ref a/\y = .ref b/\SqT K H a xs/\SqT K H b ys/\xs ≠ []/\xs.length + ys.length<=sizeLine /\
 (ys = []->Q (.ref a) H)/\(ys ≠ []->∀ p,H p = none->Q (.ref p) (upd H p (.tup (xs ++ ys))))
theorem Vals.nil_iff {us:List Value} (r:Vals xs us):us = [] ↔ xs = []:=by
 cases r with
 | nil=>simp
 | cons _ _=>simp
theorem zne:OpR X (binaryOp .Add) (zqg X.K):=by
 intro pins s σ H x y v u Q I rx ry h
 obtain ⟨a,b,xs,ys,rfl,rfl,ha,hb,hx,hz,q1,q2⟩:=h
 cases rx
 cases ry
 obtain ⟨its,r1,p1,_⟩:=I.tuple ha
 obtain ⟨its2,r2,p2,_⟩:=I.tuple hb
 refine HT.zn1 p1 p2 (fun z=>hx (r1.nil_iff.mp z)) (fun z=>⟨.ref a,H,I,rfl,q1 (r2.nil_iff.mp z)⟩) (fun z=>?_) (by rw [← r1.length,← r2.length];exact hz)
 refine ⟨.ref s.heap.objs.size,_,I.laid (t':=s.toks) (o:=.tup (xs ++ ys)) (fun b ob q=>Q3 _ q) (Q4 _) ?_,rfl,q2 (fun w=>z (r2.nil_iff.mpr w)) _ (I.hok.fresh (Q4 _))⟩
 exact ⟨by rw [Qo];exact hz,_,r1.append r2,IsTup.new _ _,NoDict.new⟩
end
noncomputable def ixN (n:Nat) (i:Int):Option Nat:=if 0<=i then (if i < n then some i.toNat else none) else if -(n:Int)<=i then some (i + n).toNat else none
noncomputable def atI {α:Type} (xs:List α) (i:Int):Option α:=(ixN xs.length i).bind fun j=>xs[j]?
variable {i:Int} {j n:Nat}
theorem ziM (h:ixN n i = some j):seqIndex? i n = some j/\j < n/\-(n:Int)<=i/\i < n:=by
 unfold ixN at h
 by_cases h0:0<=i
 ·rw [if_pos h0] at h
  by_cases h1:i < n
  ·rw [if_pos h1] at h
   have e:i.toNat = j:=Qe h
   exact ⟨by rw [seqIndex_of h0 h1,e],by omega,by omega,h1⟩
  ·rw [if_neg h1] at h;cases h
 ·rw [if_neg h0] at h
  by_cases h1:-(n:Int)<=i
  ·rw [if_pos h1] at h
   have e:(i + n).toNat = j:=Qe h
   exact ⟨by rw [seqIndex_neg (by omega) h1,e],by omega,h1,by omega⟩
  ·rw [if_neg h1] at h;cases h
theorem zex {α:Type} {xs:List α} {v:α} (h:atI xs i = some v):∃ j,seqIndex? i xs.length = some j/\xs[j]? = some v/\j < xs.length/\-(xs.length:Int)<=i/\i < xs.length:=by
 unfold atI at h
 cases e:ixN xs.length i with
 | none=>rw [e] at h;cases h
 | some j=>
  rw [e] at h
  obtain ⟨h1,h2,h3,h4⟩:=ziM e
  exact ⟨j,h1,h,h2,h3,h4⟩
theorem zbi {α:Type} {xs:List α} {v:α} (h:xs[j]? = some v):atI xs (j:Int) = some v:=by
 have hj:j < xs.length:=(List.getElem?_eq_some_iff.mp h).1
 have e:ixN xs.length (j:Int) = some j:=by
  unfold ixN
  rw [if_pos (by omega),if_pos (by omega)];simp
 unfold atI;rw [e];exact h
theorem zmd {α:Type} (xs:List α) (v:α):atI (xs ++ [v]) (-1) = some v:=by
 have hl:(xs ++ [v]).length = xs.length + 1:=by simp
 have e:ixN (xs ++ [v]).length (-1) = some xs.length:=by
  unfold ixN
  rw [hl,if_neg (by decide),if_pos (by omega)]
  congr 1
  omega
 unfold atI
 rw [e]
 show (xs ++ [v])[xs.length]? = some v
 simp
def zgn (b:Expr):Prop:=∀ o i,subscripted b false o i = operate [o,i] (getItem o i)
def IxR (X:Cx) (r:R2):Prop:=
 ∀ (value slice:Expr) (pins:List (Addr × Obj)) (s:Shared) (σ:St) (H:Hp) (x y:V) (v u:Value) (Q:VK),Inv X pins σ H s->RelV x v->RelV y u->r x y H Q->
  subscripted slice false v u = operate [v,u] (getItem v u)->wpAny (model X.prog X.w) X.A (subscriptTail value slice v u) (EP X pins σ Q) X.xe s
def MtR (X:Cx) (id:String) (r:V->List V->Hp->VK->Prop):Prop:=
 ∀ (pins:List (Addr × Obj)) (s:Shared) (σ:St) (H:Hp) (x:V) (xs:List V) (v:Value) (us:List Value) (Q:VK),Inv X pins σ H s->RelV x v->Vals xs us->r x xs H Q->
  wpAny (model X.prog X.w) X.A (call (.builtin id) (v :: us)) (EP X pins σ Q) X.xe s
variable {p:Addr} {H:Hp} {pins:List (Addr × Obj)} {ys:List V} {its its':List Value} {r:R2} {s:Shared} {σ:St} {x y:V} {u:Value}
section
variable {a b:Expr} {ta tb:TE}
theorem IxR.or {r':R2} (h:IxR X r) (h':IxR X r'):IxR X (fun x y H Q=>r x y H Q\/r' x y H Q):=by
 intro value slice pins s σ H x y v u Q I rx ry q hs
 rcases q with q | q
 ·exact h value slice pins s σ H x y v u Q I rx ry q hs
 ·exact h' value slice pins s σ H x y v u Q I rx ry q hs
theorem zqo (hr:IxR X r) (ha:PE X a ta) (hb:PE X b tb) (hs:zgn b):PE X (.Subscript a b pos) (tOp r ta tb):=by
 intro pins s σ H Q I h
 exact Subscript_ (zmc ha hb I h fun v u s2 x y H2 I2 rx ry q=>hr a b pins s2 σ H2 x y v u Q I2 rx ry q (hs _ _))
noncomputable def zlt (K:Frag):R2:=fun x y H Q=>∃ p xs i v,x = .ref p/\y = .int i/\SqL K H p xs/\atI xs i = some v/\Q v H
noncomputable def zor (K:Frag):R2:=fun x y H Q=>∃ p xs i v,x = .ref p/\y = .int i/\SqT K H p xs/\atI xs i = some v/\Q v H
noncomputable def zos:R2:=fun x y H Q=>∃ z i c,x = .str z/\y = .int i/\z.length<=sizeLine/\atI z.cps.toList i = some c/\Q (.str ⟨#[c]⟩) H
theorem znt:IxR X (zlt X.K):=by
 intro value slice pins s σ H x y v u Q I rx ry h hs
 obtain ⟨p,xs,i,z,rfl,rfl,hq,he,q⟩:=h
 cases rx
 obtain ⟨t,rfl⟩:=ry
 obtain ⟨its,r,pl,hz⟩:=I.list hq
 obtain ⟨j,h1,h2,h3,h4,h5⟩:=zex he
 obtain ⟨w,ew,rw'⟩:=r.get h2
 have hl:=r.length
 have hn:=zb1
 have fin:EP X pins σ Q w s:=⟨z,H,I,rw',q⟩
 by_cases h0:0<=i
 ·have hj:i.toNat = j:=by
   rw [seqIndex_of h0 h5] at h1
   exact Qe h1
  exact item_listR pl.isList h0 (by omega) (by rw [hj];simpa using ew) fin hs
 ·have hj:(i + (its.toArray.size:Int)).toNat = j:=by
   rw [seqIndex_neg (by omega) h4] at h1
   rw [Qj,← hl]
   exact Qe h1
  exact subscriptTail_builtinR (x:=w) pl.isList.typeIs slot_list_getitem.lookup
   (wpAny_getItem_list_neg (Q:=fun r s'=>r = w/\EP X pins σ Q r s') pl.isList (by omega) (by rw [Qj] <;> omega) (by omega) (by rw [hj];simpa using ew) ⟨rfl,fin⟩) hs
theorem zpg:IxR X (zor X.K):=by
 intro value slice pins s σ H x y v u Q I rx ry h hs
 obtain ⟨p,xs,i,z,rfl,rfl,hq,he,q⟩:=h
 cases rx
 obtain ⟨t,rfl⟩:=ry
 obtain ⟨its,r,pl,hz⟩:=I.tuple hq
 obtain ⟨j,h1,h2,h3,h4,h5⟩:=zex he
 obtain ⟨w,ew,rw'⟩:=r.get h2
 have hl:=r.length
 have hn:=zb1
 have fin:EP X pins σ Q w s:=⟨z,H,I,rw',q⟩
 exact subscriptTail_builtinR (x:=w) pl.typeIs slot_tuple_getitem.lookup
  (getItem_tuple (j:=j) (Q:=fun r s'=>r = w/\EP X pins σ Q r s') pl (by omega) (by omega) (by rw [Qj,← hl];exact h1) (by simpa using ew) ⟨rfl,fin⟩) hs
theorem zph:IxR X zos:=by
 intro value slice pins s σ H x y v u Q I rx ry h hs
 obtain ⟨z,i,c,rfl,rfl,hz,he,q⟩:=h
 obtain ⟨t,rfl⟩:=rx
 obtain ⟨t',rfl⟩:=ry
 obtain ⟨j,h1,h2,h3,h4,h5⟩:=zex he
 have hl:z.cps.toList.length = z.length:=by simp [Str.length]
 rw [hl] at h1 h4 h5
 have hn:=zb1
 exact tail_any (typeIs_str s z t) slot_str_getitem.lookup (getItem_str (c:=c) (by
  have e1:decide (i < -(2 ^ 63:Int)) = false:=Qy (by omega)
  have e2:decide (i ≥ 2 ^ 63) = false:=Qy (by omega)
  rw [e1,e2,Bool.or_false]) (by rw [h1];simpa using h2) ⟨.str ⟨#[c]⟩,H,I.tok _,⟨_,rfl⟩,q⟩) hs
noncomputable def rIx (K:Frag):R2:=fun x y H Q=>zlt K x y H Q\/zor K x y H Q\/zos x y H Q
theorem zpi:IxR X (rIx X.K):=znt.or (zpg.or zph)
theorem zju (its:List Value) (n j:Nat) (u:Value):Obj.mapSeq (·.setIfInBounds j u) { cls:=.type "list",data:=.seq its.toArray n } = { cls:=.type "list",data:=.seq (its.set j u).toArray n }:=by
 simp [Obj.mapSeq]
theorem Inv.lst (I:Inv X pins σ H s) (h:H p = some (.lst xs)) :
  ∃ (its:List Value) (n:Nat),Vals xs its/\s.heap.get? p = some { cls:=.type "list",data:=.seq its.toArray n }/\xs.length<=sizeLine:=by
 obtain ⟨z,its,n,r,e⟩:=I.hok p _ h
 exact ⟨its,n,r,e,z⟩
theorem Inv.lstUpd {n':Nat} {f:Obj->Obj} (I:Inv X pins σ H s) (h:H p = some (.lst xs))
 (ho:s.heap.get? p = some { cls:=.type "list",data:=.seq its.toArray n }) (hf:f { cls:=.type "list",data:=.seq its.toArray n } = { cls:=.type "list",data:=.seq its'.toArray n' }) (r:Vals ys its') (hz:ys.length<=sizeLine) (t:Nat) :
  Inv X pins σ (upd H p (.lst ys)) { s with heap:=s.heap.update p f,toks:=t }:=by
 have e:(s.heap.update p f).get? p = some { cls:=.type "list",data:=.seq its'.toArray n' }:=by
  rw [Heap.get?_update_self f ho (by rw [hf] <;> rfl),hf]
 refine I.write (x:=p) (e:=p) (by rw [h];trivial) (.inl rfl) (fun b u hb q=>(Qr _ _ (Ne.symm hb)).trans q) ⟨_,e⟩ ?_
 exact ⟨hz,its',n',r,e⟩
noncomputable def zqd:V->V->V->Hp->(Hp->Prop)->Prop:=fun o i v H Q=>∃ p xs k j,o = .ref p/\i = .int k/\H p = some (.lst xs)/\ixN xs.length k = some j/\Q (upd H p (.lst (xs.set j v)))
theorem set_list:zed X zqd:=by
 intro pins s σ H o i v ov iv u Q I ro ri rv h
 obtain ⟨p,xs,k,j,rfl,rfl,hp,hj,q⟩:=h
 cases ro
 obtain ⟨t,rfl⟩:=ri
 obtain ⟨its,n,r,ho,hz⟩:=I.lst hp
 obtain ⟨h1,h2,h3,h4⟩:=ziM hj
 have hl:=r.length
 have hn:=zb1
 have I':Inv X pins σ (upd H p (.lst (xs.set j v))) { s with heap:=s.heap.update p (Obj.mapSeq (·.setIfInBounds j u)) }:=
  I.lstUpd hp ho (zju its n j u) (r.set rv j) (by rw [length_set];exact hz) s.toks
 by_cases h0:0<=k
 ·have hk:k.toNat = j:=by
   rw [seqIndex_of h0 h4] at h1
   exact Qe h1
  exact PySem.W.ki_setAt ho h0 (by omega) (by rw [Qj,← hl];exact h4) (by rw [hk];exact ⟨_,I',q⟩)
 ·have hk:(k + (its.toArray.size:Int)).toNat = j:=by
   rw [seqIndex_neg (by omega) h3] at h1
   rw [Qj,← hl]
   exact Qe h1
  exact PySem.W.ki_setBack ho (by omega) (by rw [Qj,← hl];exact h3) (by omega) (by rw [hk];exact ⟨_,I',q⟩)
theorem zhc (lo hi:Option Int) (n:Nat):(sliceBounds lo hi none n).1 = ((HT.sIx n 0 lo:Nat):Int)/\(sliceBounds lo hi none n).2.1 = ((HT.sIx n n hi:Nat):Int)/\(sliceBounds lo hi none n).2.2 = 1:=by
 refine ⟨?_,?_,rfl⟩
 ·cases lo with
  | none=>simp [sliceBounds,HT.sIx]
  | some i=>
   simp only [sliceBounds,HT.sIx,Option.getD_none,show (1:Int) > 0 by decide,if_true]
   by_cases h:i < 0
   ·simp only [h,if_true] <;> omega
   ·simp only [h,if_false] <;> omega
 ·cases hi with
  | none=>simp [sliceBounds,HT.sIx]
  | some i=>
   simp only [sliceBounds,HT.sIx,Option.getD_none,show (1:Int) > 0 by decide,if_true]
   by_cases h:i < 0
   ·simp only [h,if_true] <;> omega
   ·simp only [h,if_false] <;> omega
theorem zgN (its:List Value) (lo hi:Option Int):slicePick its.toArray lo hi none = ((its.drop (HT.sIx its.length 0 lo)).take (HT.sIx its.length its.length hi - HT.sIx its.length 0 lo)).toArray:=by
 obtain ⟨h1,h2,h3⟩:=zhc lo hi its.toArray.size
 unfold slicePick
 rw [h1,h2,h3]
 simp only [sliceRange_one,pick_run,Qj] <;> rfl
noncomputable def zrc (K:Frag):V->Option Int->Option Int->Hp->VK->Prop:=fun x lo hi H Q=>∃ a xs,x = .ref a/\SqL K H a xs/\∀ p,H p = none->Q (.ref p) (upd H p (.lst (cutV xs lo hi)))
theorem zmN:SlR X (zrc X.K):=by
 intro pins s σ H x v vl vu lo hi sl Q I rx hs pl pu h
 obtain ⟨a,xs,rfl,hx,q⟩:=h
 cases rx
 obtain ⟨its,r,ht,hz⟩:=I.list hx
 have hlen:=r.length
 refine ⟨"list",_,slot_list_getitem.lookup,ht.isList.typeIs,?_⟩
 refine wpAny_getItem_list_slice ht.isList hs pl pu .none (by simp) ?_ (by rw [Qj] <;> omega)
 rw [zgN,← hlen]
 refine ⟨.ref s.heap.objs.size,_,I.laid (t':=s.toks) (o:=.lst (cutV xs lo hi)) (fun b ob q=>Q3 _ q) (Q4 _) ?_,rfl,q _ (I.hok.fresh (Q4 _))⟩
 exact ⟨Qk (zeM xs lo hi) hz,_,0,(r.drop (HT.sIx xs.length 0 lo)).take (HT.sIx xs.length xs.length hi - HT.sIx xs.length 0 lo),Qm _ rfl⟩
noncomputable def zba:V->Bool
 | .non=>true
 | .bl _=>true
 | .int _=>true
 | .str _=>true
 | _=>false
noncomputable def eqV:V->V->Bool
 | .non,.non=>true
 | .bl a,.bl b=>a == b
 | .bl a,.int b=>(if a then 1 else 0) == b
 | .int a,.bl b=>a == (if b then 1 else 0)
 | .int a,.int b=>a == b
 | .str a,.str b=>a == b
 | _,_=>false
theorem zhL {A:Around} {v:Value} (ry:RelV y u) (rx:RelV x v) (fy:zba y = true) (fx:zba x = true):SeqAt.EqAt A s u v (eqV y x):=by
 cases y with
 | non=>
  cases ry
  cases x with
  | non=>cases rx;exact SeqAt.EqAt.same _
  | bl b=>cases rx;exact SeqAt.EqAt.none_bool b
  | int b=>obtain ⟨t,rfl⟩:=rx;exact SeqAt.EqAt.none_int b t
  | str b=>obtain ⟨t,rfl⟩:=rx;exact SeqAt.EqAt.none_str b t
  | _=>exact absurd (show false = true from fx) Q5
 | bl a=>
  cases ry
  cases x with
  | non=>cases rx;exact SeqAt.EqAt.bool_none a
  | bl b=>cases rx;exact SeqAt.EqAt.bool_bool a b
  | int b=>obtain ⟨t,rfl⟩:=rx;exact SeqAt.EqAt.bool_int a b t
  | str b=>obtain ⟨t,rfl⟩:=rx;exact SeqAt.EqAt.bool_str a b t
  | _=>exact absurd (show false = true from fx) Q5
 | int a=>
  obtain ⟨t',rfl⟩:=ry
  cases x with
  | non=>cases rx;exact SeqAt.EqAt.int_none a t'
  | bl b=>cases rx;exact SeqAt.EqAt.int_bool a t' b
  | int b=>obtain ⟨t,rfl⟩:=rx;exact SeqAt.EqAt.int_int a t' b t
  | str b=>obtain ⟨t,rfl⟩:=rx;exact SeqAt.EqAt.int_str a t' b t
  | _=>exact absurd (show false = true from fx) Q5
 | str a=>
  obtain ⟨t',rfl⟩:=ry
  cases x with
  | non=>cases rx;exact SeqAt.EqAt.str_none a t'
  | bl b=>cases rx;exact SeqAt.EqAt.str_bool a t' b
  | int b=>obtain ⟨t,rfl⟩:=rx;exact SeqAt.EqAt.str_int a t' b t
  | str b=>obtain ⟨t,rfl⟩:=rx;exact SeqAt.EqAt.str_str a t' b t
  | _=>exact absurd (show false = true from fx) Q5
 | _=>exact absurd (show false = true from fy) Q5
noncomputable def eqU (x:V) (u:Value):Bool:=match u with
 | .none=>eqV .non x
 | .bool b=>eqV (.bl b) x
 | .int i _=>eqV (.int i) x
 | .str z _=>eqV (.str z) x
 | _=>false
theorem zkF (r:RelV y u) (f:zba y = true):eqU x u = eqV y x:=by
 cases y with
 | non=>cases r;rfl
 | bl b=>cases r;rfl
 | int i=>obtain ⟨t,rfl⟩:=r;rfl
 | str z=>obtain ⟨t,rfl⟩:=r;rfl
 | _=>exact absurd (show false = true from f) Q5
theorem zhw {A:Around} {s:Shared} {x:V} {v:Value} (rx:RelV x v) (fx:zba x = true):∀ {xs:List V} {us:List Value},Vals xs us->xs.all zba = true->∀ u ∈ us,SeqAt.EqAt A s u v (eqU x u)
 | _,_,.nil,_=>fun u hu=>by cases hu
 | y :: xs,u :: us,.cons r t,f=>fun u' hu=>by
  rw [all_cons,Qu] at f
  rcases mem_cons.mp hu with rfl | hu
  ·rw [zkF r f.1];exact zhL r rx f.1 fx
  ·exact zhw rx fx t f.2 u' hu
noncomputable def inV (x:V) (xs:List V):Bool:=xs.any fun y=>eqV y x
theorem zhS:CallR X (.builtin "len") (fun xs H Q=>∃ p ys,xs = [.ref p]/\(SqL X.K H p ys\/SqT X.K H p ys)/\Q (.int ys.length) H):=by
 intro pins s σ H xs us Q I r h
 obtain ⟨p,ys,rfl,hq,q⟩:=h
 obtain ⟨u,rfl,rx⟩:=vals1 r
 cases rx
 have hn:=zb1
 rcases hq with hq | hq
 ·obtain ⟨its,r',pl,hz⟩:=I.list hq
  have hlen:=r'.length
  exact Calls.call_len_list pl.isList (by simp only [Qj] <;> omega) ⟨.int ys.length,H,I.tok _,⟨s.toks + 1,by rw [Qj,hlen]⟩,q⟩
 ·obtain ⟨its,r',pl,hz⟩:=I.tuple hq
  have hlen:=r'.length
  exact len_tuple pl (by simp only [Qj] <;> omega) ⟨.int ys.length,H,I.tok _,⟨s.toks + 1,by rw [Qj,hlen]⟩,q⟩
theorem zhR:CallR X (.builtin "len") (fun xs H Q=>∃ z,xs = [.str z]/\z.length<=sizeLine/\Q (.int z.length) H):=by
 intro pins s σ H xs us Q I r h
 obtain ⟨z,rfl,hz,q⟩:=h
 obtain ⟨u,rfl,t,rfl⟩:=vals1 r
 have hn:=zb1
 exact len_str (by omega) ⟨.int z.length,H,I.tok _,⟨_,rfl⟩,q⟩
theorem zgQ:CallR X (.type "tuple") (fun xs H Q=>∃ p ys,xs = [.ref p]/\((SqL X.K H p ys/\∀ l,H l = none->Q (.ref l) (upd H l (.tup ys)))\/(SqT X.K H p ys/\Q (.ref p) H))):=by
 intro pins s σ H xs us Q I r h
 obtain ⟨p,ys,rfl,h⟩:=h
 obtain ⟨u,rfl,rx⟩:=vals1 r
 cases rx
 rcases h with ⟨hq,q⟩ | ⟨hq,q⟩
 ·obtain ⟨its,r',pl,hz⟩:=I.list hq
  have hlen:=r'.length
  refine call_tuple_list pl.isList (fun h' kp=>?_) (by simp only [Qj] <;> omega)
  have I1:Inv X pins σ H { s with heap:=h' }:=I.kept (t':=s.toks) kp
  have I2:Inv X pins σ (upd H h'.objs.size (.tup ys)) { s with heap:=h'.push { cls:=.type "tuple",data:=.seq its.toArray } }:=
   I1.laid (t':=s.toks) (fun b o e=>Q3 _ e) (Q4 _) (show ObjOk X.prog X.w _ _ _ (.tup ys) from ⟨hz,its,r',IsTup.new _ _,NoDict.new⟩)
  exact ⟨.ref h'.objs.size,_,I2,rfl,q _ (I1.hok.fresh (Q4 _))⟩
 ·obtain ⟨its,r',pl,hz⟩:=I.tuple hq
  exact call_tuple_same pl ⟨.ref p,H,I,rfl,q⟩
def tyV (K:Frag) (T:String) (x:V) (H:Hp):Prop:=match x with
 | .str _=>T = "str"
 | .int _=>T = "int"
 | .ref p=>(T = "list"/\∃ xs,SqL K H p xs)\/(T = "tuple"/\∃ o,K.lookup p = some o/\o.cls = .type "tuple"/\o.dict = none) \/
   (T = "dict"/\((∃ kvs,Rd H p (.dK kvs))\/∃ kvs,H p = some (.dT kvs)))\/(T = "set"/\∃ S n,H p = some (.set S n))
 | _=>False
theorem zof {pins:List (Addr × Obj)} {σ:St} {H:Hp} {s:Shared} {T:String} {x:V} {v:Value} (I:Inv X pins σ H s) (r:RelV x v) (ty:tyV X.K T x H) :
  s.TypeIs v T/\∀ a,v = .ref a->∃ ob,s.heap.get? a = some ob/\ob.dict = none:=by
 cases x with
 | str z=>
  obtain ⟨t,rfl⟩:=r
  cases (show T = "str" from ty)
  exact ⟨typeIs_str s z t,fun _ e=>nomatch e⟩
 | int i=>
  obtain ⟨t,rfl⟩:=r
  cases (show T = "int" from ty)
  exact ⟨typeIs_int s i t,fun _ e=>nomatch e⟩
 | ref p=>
  cases r
  rcases ty with ⟨rfl,xs,hq⟩ | ⟨rfl,o,hk,hc,hd⟩ | ⟨rfl,hk⟩ | ⟨rfl,S,n,hk⟩
  ·obtain ⟨its,_,pl,_⟩:=I.list hq
   refine ⟨pl.isList.typeIs,fun a e=>?_⟩
   cases e
   obtain ⟨o,n,e,c,hd,_⟩:=pl
   exact ⟨o,e,hd⟩
  ·refine ⟨⟨o,I.kIn p o hk,hc⟩,fun a e=>?_⟩
   cases e
   exact ⟨o,I.kIn _ o hk,hd⟩
  ·have z:∃ o,s.heap.get? p = some o/\o.ExactDict:=by
    rcases hk with ⟨kvs,hk⟩ | ⟨kvs,hk⟩
    ·obtain ⟨_,_,_,_,o,_,_,e,ex,_⟩:=(show ObjOk X.prog X.w H s.heap p (.dK kvs) from hk.ok I.hok)
     exact ⟨o,e,ex⟩
    ·obtain ⟨_,_,_,_,o,_,_,e,ex,_⟩:=I.hok p _ hk
     exact ⟨o,e,ex⟩
   obtain ⟨o,e,ex⟩:=z
   refine ⟨⟨o,e,ex.1⟩,fun a e2=>?_⟩
   cases e2
   exact ⟨o,e,ex.2.1⟩
  ·obtain ⟨o,_,_,_,e,ex,_⟩:=I.hok p _ hk
   refine ⟨⟨o,e,ex.1⟩,fun a e2=>?_⟩
   cases e2
   exact ⟨o,e,ex.2.1⟩
 | _=>exact False.elim ty
noncomputable def tBM (K:Frag) (T:String) (r:V->List V->Hp->VK->Prop) (to:TE) (t:TA):TE:=fun σ H Q=>to σ H fun x H1=>tyV K T x H1/\t σ H1 fun xs H2=>r x xs H2 Q
variable {o:Expr} {es:List Expr} {to:TE} {t:TA} {name:Str} {apos cpos:Pos} {T id:String} {r:V->List V->Hp->VK->Prop}
theorem zaJ (pa:PlainAttrs T) (slot:Slot T name id) (hty:typeOf (.builtin id) = pure (.type "method_descriptor")) (hm:MtR X id r) (ho:PE X o to) (ha:PA X (e :: es) t)
  (hbase:attributeBase o name X.env (eval o X.env) = eval o X.env:=by rfl)
  (hfew:((backTo cpos (starEach (e :: es) X.env)).all (fun x=>!x.1) && (backToKw cpos (keywordEach [] X.env)).all (fun x=>x.1.isSome)
   && decide ((e :: es).length + ([]:List Keyword).length + (if ([]:List Keyword).isEmpty then 0 else 1) < 30)) = true:=by rfl)
  (hline:(apos.endLine == cpos.line) = true:=by rfl) (hs:starEach (e :: es) X.env = (false,eval e X.env) :: starEach es X.env:=by rfl) (hplain:(backTo cpos (starEach es X.env)).any (·.1) = false:=by rfl) :
  PE X (.Call (.Attribute o name apos) (e :: es) [] cpos) (tBM X.K T r to t):=by
 intro pins s σ H Q I h
 refine wpAny_Call_method_late hbase hfew hline rfl (thn (ho pins s σ H _ I h) fun v s1 ⟨x,H1,I1,r1,ty,q1⟩=>?_)
 obtain ⟨h1,h2⟩:=zof I1 r1 ty
 refine ⟨T,id,pa,slot,hty,h1,h2,?_⟩
 have hA:=ha cpos pins s1 σ H1 _ I1 q1
 rw [hs] at hA ⊢
 refine Calls.callWith_builtin (by show (false || (backTo cpos (starEach es X.env)).any (·.1)) = false;rw [hplain] <;> rfl) (Calls.evalArgs_plain ?_)
 exact thn hA fun us s2 ⟨vs,H2,I2,r2,q2⟩=>hm pins s2 σ H2 x vs v us Q I2 r1 r2 q2
end
def MtM (X:Cx) (id:String) (r:V->List V->Hp->VK->Prop):Prop:=
 ∀ (pins:List (Addr × Obj)) (s:Shared) (σ:St) (H:Hp) (x:V) (xs:List V) (v:Value) (us:List Value) (Q:VK),Inv X pins σ H s->RelV x v->Vals xs us->r x xs H Q->
  wpAny (model X.prog X.w) X.A (call (.builtin id) (v :: us)) (EP X pins σ Q) X.xe s
theorem Vals.one:∀ {x:V} {us:List Value},Vals [x] us->∃ u,us = [u]/\RelV x u
 | _,_,.cons r .nil=>⟨_,rfl,r⟩
theorem Vals.two:∀ {x y:V} {us:List Value},Vals [x,y] us->∃ u v,us = [u,v]/\RelV x u/\RelV y v
 | _,_,_,.cons r (.cons q .nil)=>⟨_,_,rfl,r,q⟩
theorem Vals.zero:∀ {us:List Value},Vals [] us->us = []
 | _,.nil=>rfl
theorem Vals.eraseIdx:∀ {xs:List V} {us:List Value} (i:Nat),Vals xs us->Vals (xs.eraseIdx i) (us.eraseIdx i)
 | _,_,_,.nil=>.nil
 | _,_,0,.cons _ t=>t
 | _,_,i + 1,.cons r t=>.cons r (Vals.eraseIdx i t)
theorem Vals.rep {xs:List V} {us:List Value} (h:Vals xs us):∀ k:Nat,Vals (List.replicate k xs).flatten (List.replicate k us).flatten
 | 0=>.nil
 | k + 1=>by
  rw [replicate_succ,replicate_succ,flatten_cons,flatten_cons]
  exact Vals.append h (Vals.rep h k)
theorem foldl_rep (its:List Value):∀ (k:Nat) (acc:List Value),
  List.foldl (fun x1 x2=>x1 ++ x2) acc.toArray (List.replicate k its.toArray) = (acc ++ (List.replicate k its).flatten).toArray
 | 0,acc=>by simp
 | k + 1,acc=>by
  have e:acc.toArray ++ its.toArray = (acc ++ its).toArray:=by simp
  have e2:(acc ++ its) ++ (List.replicate k its).flatten = acc ++ (List.replicate (k + 1) its).flatten:=by
   rw [replicate_succ,flatten_cons,append_assoc]
  rw [← e2,← foldl_rep its k (acc ++ its),← e,replicate_succ,List.foldl_cons]
variable {t':Nat}
section
variable {l b:Addr} {zs:List V}
theorem Inv.lset {f:Array Value->Array Value} {t':Nat} (I:Inv X pins σ H s) (hH:H l = some (.lst xs))
 (e:s.heap.get? l = some { cls:=.type "list",data:=.seq its.toArray n }) (hf:f its.toArray = its'.toArray) (hv:Vals ys its') (hz:ys.length<=sizeLine) :
  Inv X pins σ (upd H l (.lst ys)) { s with heap:=s.heap.update l (Obj.mapSeq f),toks:=t' }:=by
 have q:=PySem.IsL.update e f
 rw [hf] at q
 refine I.write (x:=l) (e:=l) (by rw [hH];exact trivial) (.inl rfl) (fun b' u hb hu=>(Qr s.heap (Obj.mapSeq f) (Ne.symm hb)).trans hu) ⟨_,q⟩ ?_
 exact ⟨hz,its',_,hv,q⟩
theorem Inv.lnew {t':Nat} (I:Inv X pins σ H s) (hv:Vals ys its) (hz:ys.length<=sizeLine) :
  Inv X pins σ (upd H s.heap.objs.size (.lst ys)) { s with heap:=s.heap.push { cls:=.type "list",data:=.seq its.toArray },toks:=t' }:=
 I.laid (fun _ _ q=>Q3 _ q) (Q4 _) ⟨hz,its,0,hv,Qm _ rfl⟩
theorem Inv.fresh (I:Inv X pins σ H s):H s.heap.objs.size = none:=I.hok.fresh (Q4 _)
theorem Inv.lstM (I:Inv X pins σ H s) (hH:H l = some (.lst xs)):xs.length<=sizeLine/\∃ (its:List Value) (n:Nat),Vals xs its/\xs.length = its.length/\s.heap.get? l = some { cls:=.type "list",data:=.seq its.toArray n }:=by
 obtain ⟨z,its,n,r,e⟩:=I.hok l _ hH
 exact ⟨z,its,n,r,r.length,e⟩
theorem zlE (h:n<=sizeLine):Builtin.List.listTooLong n = false:=by
 unfold Builtin.List.listTooLong
 exact Qy (by omega)
end
section
noncomputable def zf4:V->List V->Hp->VK->Prop:=fun x vs H Q=>∃ l xs y,x = .ref l/\vs = [y]/\H l = some (.lst xs)/\xs.length < sizeLine/\Q .non (upd H l (.lst (xs ++ [y])))
theorem qJ:MtM X "list.append" zf4:=by
 intro pins s σ H x vs v us Q I rx rv h
 obtain ⟨l,xs,y,rfl,rfl,hH,hz,q⟩:=h
 cases rx
 obtain ⟨u,rfl,ru⟩:=rv.one
 obtain ⟨z,its,n,r,hl,e⟩:=I.lstM hH
 refine call_meets F.slot_list_append ⟨_,e,rfl⟩ F.entry_list_append (F.args_list_append_2 _ _) (PySem.list_append l its.toArray n u (by rw [Qj];omega)) ⟨e,?_⟩
 refine ⟨.non,_,I.lset (its':=its ++ [u]) hH e (by simp) (r.append (.cons ru .nil)) ?_,rfl,q⟩
 rw [Qo,Qw]
 omega
theorem len_rep {α:Type} (xs:List α) (k:Nat):(List.replicate k xs).flatten.length = k * xs.length:=by
 induction k with
 | zero=>simp
 | succ k ih=>rw [replicate_succ,flatten_cons,Qo,ih,Nat.succ_mul,Nat.add_comm]
end
end L2
namespace Att
open PySem PySem.W PySem.Calls PyProof.Rows
variable {h:Heap} {P:Params}
theorem zfB:∀ (ns:List Int) (vs:List Value),WellAll P h vs (ns.map WData.int)->IntsAre vs ns:=by
 intro ns
 induction ns with
 | nil=>
  intro vs w
  rw [map_nil] at w
  cases w
  exact .nil
 | cons n ns ih=>
  intro vs w
  rw [map_cons] at w
  cases w with
  | cons a b=>
   cases a
   exact .cons _ _ (ih _ b)
variable {n:Nat} {l:OpenLaw}
theorem zjY (hn:l.most = some n) {args:List WData} {vals:List Value}
 (hpre:l.row.toRowW.claim.pre args = true) (hwl:WellAll P h vals args) :
  ∃ a vs ns,vals = [Value.ref a]/\args = [WData.list (ns.map WData.int)]/\h.get? a = some { cls:=.type "list",data:=.seq vs.toArray }/\IntsAre vs ns/\ns.length<=n:=by
 have hsh:WShape.hasAll [] args [.list .int] = true:=(pre_splitW hpre).1
 have hc:l.pre.holds [] { args:=args } = true:=(pre_splitW hpre).2
 obtain ⟨d,r,rfl,h1,h2⟩:=hasAllW_cons hsh
 obtain rfl:=hasAllW_nil h2
 obtain ⟨xs,rfl,h3⟩:=hasW_list h1
 obtain ⟨ns,rfl⟩:=items_int h3
 have hlen:ns.length<=n:=by
  unfold OpenLaw.pre at hc
  have h4:(WTm.not (.lt (.lit (.int (n:Int))) (.len (.arg 0)))).holds [] { args:=[.list (ns.map .int)] } = true:=by
   have h4:=(holds_andW hc).1
   rw [hn] at h4
   exact h4
  have h5:=condW_of h4 (w_not (w_lt w_lit (w_len_list (w_arg rfl))))
  rw [Qi] at h5
  refine Nat.le_of_not_lt fun q=>?_
  have q':(n:Int) < ((ns.length:Nat):Int):=by omega
  first
   | (rw [Qx q'] at h5;exact absurd h5 (by decide))
   | (simp at h5;omega)
 cases hwl with
 | cons w1 w2=>
  cases w2
  cases w1 with
  | list ho hall=>exact ⟨_,_,ns,rfl,rfl,ho,zfB ns _ hall,hlen⟩
theorem zj8 (l:OpenLaw) (args:List WData):l.row.toRowW.claim.post args (.bool true) args = true:=
 postW_of (r:=l.row.toRowW) (X:=(true == true))
  (show WShape.has [] (.bool true) .bool = true by first | rfl | decide | simp [WShape.has,WShape.arms,WShape.armsAll])
  (show (WTm.eq .res (.lit (.bool true))).value [] { args:=args,res:=some (.bool true),after:=args } = some (.bool (true == true)) from w_eq_bool (w_res rfl) w_lit) rfl
theorem zij {q:Program} {loose:List Str} {XP:(Str->Option Value)->Heap->Prop} {YP:World->Heap->Prop} {d:DefRec}
 (hn:l.most = some n) (hdf:d.params.defaults = [])
 (call:∀ (w:World) (s₀ s₁:Shared) (mg mb:Str->Option Value) (fa:Addr) (o:Obj) (pm cd doc:Value) (a:Addr) (vs:List Value) (ns:List Int),
 Ground q loose [] XP w s₀ mg mb s₁.heap->YP w s₁.heap->
 s₁.heap.get? fa = some o->o.data = .func (docDef d.name d.params d.body d.scope pm cd doc)->s₁.heap.CodeRec cd d.name->mg d.name = some (.ref fa)->
 s₁.heap.get? a = some { cls:=.type "list",data:=.seq vs.toArray }->IntsAre vs ns->ns.length<=n->s₁.gens = #[]->
 codeAny (model l.prog w) callerA (.call (.ref fa) ⟨[.ref a],[]⟩) (fun r s'=>r = .ok (.ret (.bool true))/\OldK s₁.heap s'.heap/\s'.os = s₁.os/\AllBare s'.gens) s₁) :
  WalkO q loose XP YP l.row.toRowW d [] (fun f vs=>PySem.call f vs):=by
 intro w s₀ s₁ mg mb G Y fa o pm cd doc dV kV ho hd hcd hD hmg hg args vals as hpre hlay hrd hwl hlo
 obtain rfl:dV = .none:=Dflts.none hD hdf
 obtain rfl:kV = .none:=Dflts.noKw hD
 obtain ⟨a,vs,ns,rfl,rfl,hobj,hints,hlen⟩:=zjY hn hpre hwl
 refine enter_call (codeAny_mono (call w s₀ s₁ mg mb fa o pm cd doc a vs ns G Y ho (fd_plain hd) hcd hmg hobj hints hlen hg) fun r s' hq=>?_)
 obtain ⟨rfl,h2,h3,h4⟩:=hq
 exact ⟨.inl ⟨.bool true,.bool true,[],rfl,fun _=>rfl,.bool true,zj8 l _,fun _=>⟨List.Pairwise.nil,fun _ hm=>(nomatch hm)⟩⟩,h2,h3,h4⟩
end Att
namespace L2
open PySem PySem.Spec PyProof.Rows
theorem zgq:∀ {vs:List Value} {ns:List Int},IntsAre vs ns->Vals (ns.map V.int) vs
 | _,_,.nil=>.nil
 | _,_,.cons n t h=>.cons ⟨t,rfl⟩ (zgq h)
def zjN (H:Hp):Prop:=∀ b,H b = none\/∃ o xs,H b = some (.frz o (.lst xs))
variable {CX:CXT} {K:Frag} {fd:FuncData} {k:Nat} {P:Program} {sp:Sp} {x:Str} {mg:Str->Option Value} {w:World}
theorem zlM {mb:Str->Option Value} {fa a:Addr} {s₁:Shared} {vs:List Value} {ns:List Int}
 (KX:K.In s₁.heap) (hns:s₁.heap.Ns mainGlobals mg) (hb:s₁.heap.Ns builtinsNs mb) (hbb:∀ x:Str,x ≠ "__name__"->mb x = bootBuiltins x) (hlim:s₁.heap.NoLimit) (hg:s₁.gens = #[])
 (ha:s₁.heap.get? a = some { cls:=.type "list",data:=.seq vs.toArray }) (hi:IntsAre vs ns) (hl:ns.length<=sizeLine) (hr:Room k callerA)
 (F:∀ base:Heap,K.In base->base.Ns mainGlobals mg->FnOk P w K mg base CX k fa fd [x] sp) (hbind:∀ (s:Shared) (u:Value),BindsTo s fd ⟨[u],[]⟩ [(x,u)])
 (hsp:∀ H:Hp,zjN H->SqL K H a (ns.map V.int)->sp [.ref a] H (fun v _=>v = .bl true) fun _ _ _=>False)
 (hCX:∀ H e s',CX [] H s₁ (fun _ _ _=>False) e s'->False) :
  codeAny (model P w) callerA (.call (.ref fa) ⟨[.ref a],[]⟩) (fun r s'=>r = .ok (.ret (.bool true))/\OldK s₁.heap s'.heap/\s'.os = s₁.os/\AllBare s'.gens) s₁:=by
 have rv:=zgq hi
 have lenV:=hi.length
 -- from an abstract heap in which nothing but the script may be tracked
 have core:∀ H:Hp,zjN H->SqL K H a (ns.map V.int)->HOk P w H s₁.heap->(∀ b,H b ≠ none->b = a)->(H a ≠ none->K.lookup a = none)->
   codeAny (model P w) callerA (.call (.ref fa) ⟨[.ref a],[]⟩) (fun r s'=>r = .ok (.ret (.bool true))/\OldK s₁.heap s'.heap/\s'.os = s₁.os/\AllBare s'.gens) s₁:=by
  intro H hO hS hok hA hK
  have base_of:∀ {b:Addr} {o:Obj},s₁.heap.get? b = some o->H b = none->(zdF s₁.heap H).get? b = some o:=fun e n=>zlT e n
  have noA:∀ {b:Addr} {o:Obj} {es:Array DictEntry} {ep:Nat},s₁.heap.get? b = some o->o.data = .dict es ep->H b = none:=fun {b o es ep} e d=>by
   cases q:H b with
   | none=>rfl
   | some u=>
    have e':b = a:=hA b (by rw [q];simp)
    subst e'
    rw [ha] at e;cases e
    have d':Data.seq vs.toArray _ = Data.dict es ep:=d
    cases d'
  have nsK:∀ {b:Addr} {m:Str->Option Value},s₁.heap.Ns b m->(zdF s₁.heap H).Ns b m:=fun {b m} ⟨o,es,ep,e,d,r⟩=>⟨o,es,ep,base_of e (noA e d),d,r⟩
  have hKb:K.In (zdF s₁.heap H):=fun b o e=>base_of (KX b o e) (by
   cases q:H b with
   | none=>rfl
   | some u=>
    have e':b = a:=hA b (by rw [q];simp)
    subst e'
    rw [hK (by rw [q];simp)] at e;cases e)
  have hM:Mod K mg (zdF s₁.heap H):=⟨hKb,nsK hns,⟨mb,nsK hb,hbb⟩,let ⟨mc,h1,h2⟩:=hlim;⟨mc,nsK h1,h2⟩⟩
  have e0:Env0 P w K mg (zdF s₁.heap H) callerA [] s₁ H:=⟨rfl,hM,fun b o e=>znh e,Nat.le_of_eq (zkt _ _),trivial,fun b hb=>absurd (show b ∈ ([]:List Addr) from hb) (by simp),hok,.of_eq hg⟩
  refine codeAny_mono ((F _ hKb (nsK hns)).run callerA [] s₁ H ⟨[.ref a],[]⟩ [.ref a] [.ref a] _ _ hr e0 (hbind s₁ (.ref a)) (.cons rfl .nil) (hsp H hO hS)) fun r s' h=>?_
  cases r with
  | error e=>exact (hCX H e s' h).elim
  | ok fl=>
   cases fl with
   | next=>exact False.elim h
   | brk=>exact False.elim h
   | cont=>exact False.elim h
   | ret u=>
    obtain ⟨v,H',os,bare,un,hok',r',q⟩:=h
    have q':v = .bl true:=q
    subst q'
    obtain rfl:u = Value.bool true:=r'
    refine ⟨rfl,OldK.of_keep fun b o e=>?_,os,bare⟩
    cases q:H b with
    | none=>exact un.keep b o e q (by intro z;exact absurd (show b ∈ ([]:List Addr) from z) (by simp)) (by simp)
    | some u=>
     rcases hO b with z | ⟨ob,xs,z⟩
     ·rw [q] at z;cases z
     ·have z2:=un.frzs b ob _ z
      obtain ⟨e1,_⟩:=hok b _ z
      obtain ⟨e2,_⟩:=hok' b _ z2
      rw [e] at e1;cases e1
      exact e2
 cases hk:K.lookup a with
 | some o=>
  -- the script is one of the module's own objects
  have e:=KX a o hk
  rw [ha] at e
  cases e
  refine core (fun _=>none) (fun _=>.inl rfl) (.inr ⟨_,vs.toArray,_,hk,rfl,rfl,rfl,by rw [Qj,lenV];exact hl,by simpa using rv⟩) (fun b u z=>by have z':(none:Option HO) = some u:=z;cases z') (fun b z=>absurd rfl z) fun z=>absurd rfl z
 | none=>
  refine core (fun b=>if b = a then some (.frz { cls:=.type "list",data:=.seq vs.toArray } (.lst (ns.map V.int))) else none) (fun b=>?_) (.inl (.inr ⟨{ cls:=.type "list",data:=.seq vs.toArray },if_pos rfl⟩)) (fun b u z=>?_) (fun b z=>?_) fun _=>hk
  ·by_cases hb:b = a
   ·exact .inr ⟨_,_,if_pos hb⟩
   ·exact .inl (if_neg hb)
  ·by_cases hb:b = a
   ·have z':=(if_pos hb).symm.trans z
    cases z'
    subst hb
    exact ⟨ha,by rw [Qi];exact hl,vs,_,rv,ha⟩
   ·have z':=(if_neg hb).symm.trans z
    cases z'
  ·by_cases hb:b = a
   ·exact hb
   ·exact absurd (if_neg hb) z
noncomputable abbrev KOf {K:Frag} {h:Heap} (_:K.In h):Frag:=K
variable {XP:(Str->Option Value)->Heap->Prop} {d:DefRec} {loose:List Str} {n:Nat} {q:Program} {l:PySem.W.OpenLaw} {YP:World->Heap->Prop}
theorem zmA {K:Params->Frag} {CX:World->CXT} {sp:World->Sp} 
 (hn:l.most = some n) (hn2:n<=sizeLine) (hdf:d.params.defaults = []) (hr:Room k callerA)
 (hY:∀ (w:World) (h:Heap),YP w h->(K w.params).In h)
 (F:∀ (w:World) (mg:Str->Option Value) (fa:Addr) (h:Heap),(K w.params).In h->h.Ns mainGlobals mg->mg d.name = some (.ref fa)->
 ∃ fd:FuncData,(∀ (s:Shared) (u:Value),BindsTo s fd ⟨[u],[]⟩ [(x,u)]) /\
 ∀ base:Heap,(K w.params).In base->base.Ns mainGlobals mg->FnOk l.prog w (K w.params) mg base (CX w) k fa fd [x] (sp w))
 (hsp:∀ (w:World) (H:Hp) (a:Addr) (ns:List Int),ns.length<=n->zjN H->SqL (K w.params) H a (ns.map V.int)->sp w [.ref a] H (fun v _=>v = .bl true) fun _ _ _=>False)
 (hCX:∀ (w:World) (H:Hp) (s:Shared) (e:Value) (s':Shared),CX w [] H s (fun _ _ _=>False) e s'->False) :
  PySem.W.WalkO q loose XP YP l.row.toRowW d [] (fun f vs=>PySem.call f vs):=by
 refine Att.zij hn hdf fun w s₀ s₁ mg mb fa o pm cd doc a vs ns G Y ho hd hcd hmg hobj hints hlen hg=>?_
 have KX:=hY w _ Y
 obtain ⟨fd,hb,hF⟩:=F w mg fa _ KX G.T.g hmg
 exact zlM KX G.T.g G.T.b G.T.builtins G.T.nolimit hg hobj hints (Qk hlen hn2) hr hF hb (fun H hO hS=>hsp w H a ns hlen hO hS) fun H e s'=>hCX w H s₁ e s'
theorem zlb {K:Params->Frag} {sp:Frag->Sp} 
 (hn:l.most = some n) (hn2:n<=sizeLine) (hdf:d.params.defaults = []) (hr:Room k callerA)
 (hY:∀ (w:World) (h:Heap),YP w h->(K w.params).In h)
 (F:∀ (w:World) (mg:Str->Option Value) (fa:Addr) (h:Heap),(K w.params).In h->h.Ns mainGlobals mg->mg d.name = some (.ref fa)->
 ∃ fd:FuncData,(∀ (s:Shared) (u:Value),BindsTo s fd ⟨[u],[]⟩ [(x,u)]) /\
 ∀ base:Heap,(K w.params).In base->base.Ns mainGlobals mg->FnOk l.prog w (K w.params) mg base CX k fa fd [x] (sp (K w.params)))
 (hsp:∀ (K:Frag) (H:Hp) (a:Addr) (ns:List Int),ns.length<=n->zjN H->SqL K H a (ns.map V.int)->sp K [.ref a] H (fun v _=>v = .bl true) fun _ _ _=>False)
 (hCX:∀ (H:Hp) (s:Shared) (e:Value) (s':Shared),CX [] H s (fun _ _ _=>False) e s'->False) :
  PySem.W.WalkO q loose XP YP l.row.toRowW d [] (fun f vs=>PySem.call f vs):=
 zmA (K:=K) (CX:=fun _=>CX) (sp:=fun w=>sp (K w.params)) hn hn2 hdf hr hY F (fun w H a ns h1 h2 h3=>hsp (K w.params) H a ns h1 h2 h3) fun _ H s e s'=>hCX H s e s'
noncomputable def inClass (s:Stmt) (j:Nat):Stmt:=match s with
 | .ClassDef _ _ _ body _ _ _ _ _ _ _=>body.getD j (.Pass ⟨0,0,0,0⟩)
 | _=>.Pass ⟨0,0,0,0⟩
noncomputable def qW (s:Stmt):Arguments:=match s with
 | .FunctionDef _ a _ _ _ _ _ _ _ _=>a
 | _=>{ posonlyargs:=[],args:=[],vararg:=none,kwonlyargs:=[],kw_defaults:=[],kwarg:=none,defaults:=[] }
noncomputable def zB (s:Stmt):List Stmt:=match s with
 | .FunctionDef _ _ b _ _ _ _ _ _ _=>b
 | _=>[]
noncomputable def yd (s:Stmt):Scope:=match s with
 | .FunctionDef _ _ _ _ _ _ sc _ _ _=>sc
 | _=>{ kind:=.function,names:=[],isGenerator:=false,isCoroutine:=false }
noncomputable abbrev CX0:CXT:=fun _ _ _ _ _ _=>False
noncomputable abbrev E0:XK:=fun _ _ _=>False
variable {X:Cx}
theorem zmm:Passes CX0 X E0:=fun _ _ _ _ _ _ _ h=>h.elim
structure Fun (K:Frag) (x qual:Str) (st:Stmt) (f:Addr) (fd:FuncData):Prop where
 ex:∃ (oc:Value) (od:Option Addr) (kV doc pm:Value) (an:Option Addr) (cdv ct:Value) (osl:Array (Option Value)),
  fd = PySem.W.fnOf x qual (qW st) (zB st) (yd st) .none kV doc pm an cdv ct/\K.lookup f = some ⟨oc,od,.func fd,osl⟩/\PySem.W.codeIn K cdv qual = true
 kp:PySem.W.keepIn K (.ref f) = true
variable {f:Addr} {ps:List Str} {st:Stmt} {qual:Str}
section
variable {base:Heap}
theorem Fun.ok {N:List Str} (F:Fun K x qual st f fd) (S:FnScope N ps (yd st)) (len:∀ vs H Q E,sp vs H Q E->vs.length = ps.length)
 (hbody:∀ (cdv:Value) (A:Around) (outer:List Env) (s:Shared) (H:Hp) (vs:List V) (Q:VK) (E:XK),Room k (A.deeper (envOfC qual (yd st) s.heap.objs.size f cdv))->sp vs H Q E->
 ∃ t,PSs (zbc CX0 P w K mg base N qual (yd st) f cdv A outer s H E).nox (zB st) t/\t { nx:=fun _ H'=>Q .non H',rt:=Q } (start N vs) H):FnOk P w K mg base CX0 (k + 1) f fd ps sp:=by
 obtain ⟨oc,od,kV,doc,pm,an,cdv,ct,osl,rfl,lk,hcd⟩:=F.ex
 refine zmr lk hcd S len fun A outer s H vs Q E hr hsp=>?_
 obtain ⟨t,h,q⟩:=hbody cdv A outer s H vs Q E hr hsp
 exact ⟨t,h.nox,q⟩
theorem Fun.binds (F:Fun K x qual st f fd)
 (h:∀ (kV doc pm:Value) (an:Option Addr) (cdv ct:Value) (us:List Value),us.length = ps.length->bindArgs (PySem.W.fnOf x qual (qW st) (zB st) (yd st) .none kV doc pm an cdv ct) ⟨us,[]⟩ = pure (ps.zip us)):Binds K fd ps []:=by
 obtain ⟨oc,od,kV,doc,pm,an,cdv,ct,osl,rfl,lk,hcd⟩:=F.ex
 exact .all (h kV doc pm an cdv ct)
theorem zfL {oc:Value} {od an:Option Addr} {osl:Array (Option Value)} {kV doc pm cdv ct:Value} (l:K.lookup f = some ⟨oc,od,.func (PySem.W.fnOf x qual (qW st) (zB st) (yd st) .none kV doc pm an cdv ct),osl⟩)
 (c:PySem.W.codeIn K cdv qual = true) (k:PySem.W.keepIn K (.ref f) = true):Fun K x qual st f (PySem.W.fnOf x qual (qW st) (zB st) (yd st) .none kV doc pm an cdv ct):=⟨⟨oc,od,kV,doc,pm,an,cdv,ct,osl,rfl,l,c⟩,k⟩
end
section
theorem pv (i:Nat) {pos:Pos} (hN:X.N[i]? = some x:=by rfl) (hv:Vis X.env.scope x:=by first | exact Or.inl rfl | exact Or.inr (Or.inl rfl) | exact Or.inr (Or.inr rfl)) (hd:(x == ("__debug__":Str)) = false:=by decide)
 (hcd:(x == ("__classdict__":Str)) = false:=by decide):PE X (.Name x pos) (zje i):=zhp hN hv hd hcd
end
end L2
set_option maxHeartbeats 4000000
namespace L2
open PySem PySem.Spec PyProof.Rows
variable {y:V} {u:Value}
section
variable {κ:Type} [DecidableEq κ]
noncomputable def zcp (kvs:List (κ × V)) (k:κ):Option V:=(kvs.find? fun kv=>decide (kv.1 = k)).map (·.2)
noncomputable def putK (kvs:List (κ × V)) (k:κ) (v:V):List (κ × V):=
 if (kvs.any fun kv=>decide (kv.1 = k)) = true then kvs.map (fun kv=>if kv.1 = k then (kv.1,v) else kv) else kvs ++ [(k,v)]
noncomputable def zr2 (kvs:List (κ × V)) (k:κ):List (κ × V):=kvs.filter fun kv=>decide (kv.1 ≠ k)
theorem zqQ {p:κ × V} {r:List (κ × V)} {k:κ} (e:p.1 = k):zcp (p :: r) k = some p.2:=by simp [zcp,find?_cons,e]
theorem zqR {p:κ × V} {r:List (κ × V)} {k:κ} (e:¬ p.1 = k):zcp (p :: r) k = zcp r k:=by simp [zcp,find?_cons,e]
theorem KV.any {kvs:List (κ × V)} {vs:List (κ × Value)} (r:KV kvs vs) (k:κ):(kvs.any fun kv=>decide (kv.1 = k)) = vs.any fun kv=>decide (kv.1 = k):=by
 unfold KV at r
 induction r with
 | nil=>rfl
 | cons h t ih=>rw [any_cons,any_cons,ih,h.1]
theorem KV.repl {kvs:List (κ × V)} {vs:List (κ × Value)} (r:KV kvs vs) (k:κ) (ry:RelV y u) :
  KV (kvs.map fun kv=>if kv.1 = k then (kv.1,y) else kv) (vs.map fun kv=>if kv.1 = k then (kv.1,u) else kv):=by
 unfold KV at r ⊢
 induction r with
 | nil=>exact .nil
 | @cons p q ps qs h t ih=>
  rw [map_cons,map_cons]
  refine .cons ?_ ih
  obtain ⟨h1,h2⟩:=h
  by_cases e:p.1 = k
  ·rw [if_pos e,if_pos (h1.symm.trans e)];exact ⟨h1,ry⟩
  ·rw [if_neg e,if_neg (fun z=>e (h1.trans z))];exact ⟨h1,h2⟩
theorem KV.put {kvs:List (κ × V)} {vs:List (κ × Value)} (r:KV kvs vs) (k:κ) (ry:RelV y u):KV (putK kvs k y) (stored vs k u):=by
 unfold putK stored
 rw [r.any k]
 by_cases e:(vs.any fun kv=>decide (kv.1 = k)) = true
 ·rw [if_pos e,if_pos e];exact r.repl k ry
 ·rw [if_neg e,if_neg e];exact Paired.snoc r ⟨rfl,ry⟩
end
noncomputable def zki (kvs more:List (Key × V)):List (Key × V):=more.foldl (fun acc kv=>putK acc kv.1 kv.2) kvs
structure M1 (X:Cx) (o:Expr) (m:Str) (apos:Pos) (e:Expr) (cpos:Pos):Prop where
 base:attributeBase o m X.env (eval o X.env) = eval o X.env
 few:((backTo cpos (starEach [e] X.env)).all (fun x=>!x.1) && (backToKw cpos (keywordEach [] X.env)).all (fun x=>x.1.isSome)
  && decide (([e]:List Expr).length + ([]:List Keyword).length + (if ([]:List Keyword).isEmpty then 0 else 1) < 30)) = true
 line:(apos.endLine == cpos.line) = true
 trees:backTo cpos (starEach [e] X.env) = [(false,eval e X.env)]
structure M2 (X:Cx) (o:Expr) (m:Str) (apos:Pos) (e f:Expr) (cpos:Pos):Prop where
 base:attributeBase o m X.env (eval o X.env) = eval o X.env
 few:((backTo cpos (starEach [e,f] X.env)).all (fun x=>!x.1) && (backToKw cpos (keywordEach [] X.env)).all (fun x=>x.1.isSome)
  && decide (([e,f]:List Expr).length + ([]:List Keyword).length + (if ([]:List Keyword).isEmpty then 0 else 1) < 30)) = true
 line:(apos.endLine == cpos.line) = true
 trees:backTo cpos (starEach [e,f] X.env) = [(false,eval e X.env),(false,eval f X.env)]
def Bnd (n:Nat) (i:Int):Prop:=i.natAbs < 10 ^ n
instance (n:Nat) (i:Int):Decidable (Bnd n i):=inferInstanceAs (Decidable (i.natAbs < 10 ^ n))
variable {i j:Int} {n:Nat}
theorem Bnd.add (h:Bnd n i) (k:Bnd n j):Bnd (n + 1) (i + j):=by
 unfold Bnd at *
 have h1:=Int.natAbs_add_le i j
 rw [Nat.pow_succ]
 omega
theorem Bnd.neg (h:Bnd n i):Bnd n (-i):=by
 unfold Bnd at *
 rw [Int.natAbs_neg];exact h
theorem ziY (h:Bnd n i) (hn:n<=3000):Builtin.Int.intBits i<=2 ^ 20:=by
 unfold Builtin.Int.intBits
 split
 ·exact Nat.zero_le _
 ·rename_i h0
  have h1:i.natAbs ≠ 0:=by
   intro z
   have:i = 0:=Int.natAbs_eq_zero.mp z
   subst this
   exact h0 rfl
  have h2:i.natAbs < 2 ^ (4 * n):=by
   have e:(2:Nat) ^ (4 * n) = 16 ^ n:=by rw [Nat.pow_mul]
   rw [e]
   exact Q6 h (Nat.pow_le_pow_left (by decide) n)
  have h3:i.natAbs.log2 < 4 * n:=(Nat.log2_lt h1).mpr h2
  have:(2:Nat) ^ 20 = 1048576:=by decide
  omega
def CMulB (i j:Int):Prop:=(∃ m n,Bnd m i/\Bnd n j/\m<=3000/\n<=3000)\/CMul i j
theorem CMulB.ok (h:CMulB i j):IntMulOk i j:=by
 rcases h with ⟨m,n,h1,h2,h3,h4⟩ | h
 ·exact IntMulOk.of_bits (ziY h1 h3) (ziY h2 h4)
 ·exact h.ok
variable {X:Cx}
section
theorem znc:OpR X (binaryOp .Mult) (rI CMulB fun i j=>.int (i * j)):=opI fun _ _ _ _ _ _ _ hc q=>mul_int q hc.ok
noncomputable def zqh (K:Frag):R2:=fun x y H Q=>∃ l b xs zs,x = .ref l/\y = .ref b/\SqL K H l xs/\SqL K H b zs/\xs.length + zs.length<=sizeLine/\∀ p,H p = none->Q (.ref p) (upd H p (.lst (xs ++ zs)))
theorem ziE:OpR X (binaryOp .Add) (zqh X.K):=by
 intro pins s σ H x y v u Q I rx ry h
 obtain ⟨l,b,xs,zs,rfl,rfl,hH,hB,hz,q⟩:=h
 cases rx
 cases ry
 obtain ⟨its,r,pl,z⟩:=I.list hH
 obtain ⟨its2,r2,pl2,z2⟩:=I.list hB
 obtain ⟨⟨cls,dd,data,sl⟩,n,ho,hc,hdi,hd⟩:=pl
 obtain ⟨⟨cls2,dd2,data2,sl2⟩,n2,ho2,hc2,hdi2,hd2⟩:=pl2
 simp only at hc hd hc2 hd2
 subst hc hd hc2 hd2
 have e1:=r.length
 have e2:=r2.length
 refine concat_meets ⟨_,ho,rfl⟩ ⟨_,ho2,rfl⟩ noFill_list_add seq_list_add PySem.F.slot_list_add PySem.F.entry_list_add (PySem.F.args_list_add_2 _ _) (list_addW l b its.toArray its2.toArray n n2 dd dd2 sl sl2 (by rw [Qj,Qj];omega)) ⟨ho,ho2,?_⟩
 have ea:its.toArray ++ its2.toArray = (its ++ its2).toArray:=by simp
 rw [ea]
 exact ⟨.ref _,_,I.lnew (t':=s.toks) (r.append r2) (by rw [Qo];omega),rfl,q _ I.fresh⟩
end
structure Df (K:Frag) (mg:Str->Option Value) (x:Str) (st:Stmt) (ps:List Str):Prop where
 ex:∃ (f:Addr) (fd:FuncData),Fun K x x st f fd/\Binds K fd ps []/\mg x = some (.ref f)
structure Cal (P:Program) (w:World) (K:Frag) (mg:Str->Option Value) (base:Heap) (k:Nat) (x:Str) (ps:List Str) (sp:Sp):Prop where
 ex:∃ (f:Addr) (fd:FuncData),FnOk P w K mg base CX0 k f fd ps sp/\PySem.W.keepIn K (.ref f) = true/\Binds K fd ps []/\mg x = some (.ref f)
variable {f:Addr} {sl:Array (Option Value)} {K:Frag} {h:Heap} {ps:List Str} {k:Nat} {an od:Option Addr} {P:Program} {sp:Sp} {st:Stmt} {x:Str} {mg:Str->Option Value} {cd ct dc oc pm:Value} {w:World}
section
variable {base:Heap}
theorem Df.ok {N:List Str} (D:Df K mg x st ps) (S:FnScope N ps (yd st)) (len:∀ vs H Q E,sp vs H Q E->vs.length = ps.length)
 (hbody:∀ (f:Addr) (cdv:Value) (A:Around) (outer:List Env) (s:Shared) (H:Hp) (vs:List V) (Q:VK) (E:XK),Room k (A.deeper (envOfC x (yd st) s.heap.objs.size f cdv))->sp vs H Q E->
 ∃ t,PSs (zbc CX0 P w K mg base N x (yd st) f cdv A outer s H E).nox (zB st) t/\t { nx:=fun _ H'=>Q .non H',rt:=Q } (start N vs) H):Cal P w K mg base (k + 1) x ps sp:=by
 obtain ⟨f,fd,F,b,g⟩:=D.ex
 exact ⟨⟨f,fd,F.ok S len (hbody f),F.kp,b,g⟩⟩
theorem zw (X:K.In h) (G:h.Ns mainGlobals mg) {kV:Value}
 (a:PySem.W.nsIn K mainGlobals x = some (some (.ref f)))
 (l:K.lookup f = some ⟨oc,od,.func (PySem.W.fnOf x x (qW st) (zB st) (yd st) .none kV dc pm an cd ct),sl⟩) (c:PySem.W.codeIn K cd x = true) (k:PySem.W.keepIn K (.ref f) = true)
 (hb:∀ (kV doc pm:Value) (an:Option Addr) (cdv ct:Value) (us:List Value),us.length = ps.length->bindArgs (PySem.W.fnOf x x (qW st) (zB st) (yd st) .none kV doc pm an cdv ct) ⟨us,[]⟩ = pure (ps.zip us)):Df K mg x st ps:=by
 have F:=zfL (st:=st) l c k
 exact ⟨⟨f,_,F,F.binds hb,PySem.W.mg_of X G a⟩⟩
end
section
theorem zo8 (X:K.In h) (G:h.Ns mainGlobals mg) {kV:Value}
 (a:PySem.W.nsIn K mainGlobals "law" = some (some (.ref f)))
 (l:K.lookup f = some ⟨oc,od,.func (PySem.W.fnOf "law" "law" (qW st) (zB st) (yd st) .none kV dc pm an cd ct),sl⟩) (c:PySem.W.codeIn K cd "law" = true) (k:PySem.W.keepIn K (.ref f) = true)
 (hb:∀ (kV dc pm:Value) (an:Option Addr) (cd ct:Value) (s:Shared) (u:Value),BindsTo s (PySem.W.fnOf "law" "law" (qW st) (zB st) (yd st) .none kV dc pm an cd ct) ⟨[u],[]⟩ [("script",u)]) :
  ∃ (f:Addr) (fd:FuncData),Fun K "law" "law" st f fd/\mg "law" = some (.ref f)/\∀ (s:Shared) (u:Value),BindsTo s fd ⟨[u],[]⟩ [("script",u)]:=
 ⟨f,_,zfL (st:=st) l c k,PySem.W.mg_of X G a,fun s u=>hb _ _ _ _ _ _ s u⟩
end
variable {pos:Pos}
section
variable {p:Pos} {e:Expr} {es:List Expr} {t:TA}
theorem zoP (C:Cal X.prog X.w X.K X.mg X.base k x ps sp) (hr:Room k X.A) (hg:Gl X x) (ha:PA X (e :: es) t) (hdb:(x == ("__debug__":Str)) = false:=by decide)
  (he:starEach (e :: es) X.env = (false,eval e X.env) :: starEach es X.env:=by rfl) (hpl:(backTo pos (starEach es X.env)).any (·.1) = false:=by rfl) :
  PE X (.Call (.Name x p) (e :: es) [] pos) (zmi sp [] E0 t):=by
 obtain ⟨f,fd,F,kp,b,g⟩:=C.ex
 exact ziC F hr hg g kp b .nil zmm ha hdb he hpl
end
theorem Bnd.of (h1:-(10 ^ n:Int) < i) (h2:i < 10 ^ n):Bnd n i:=by
 unfold Bnd
 have:((10 ^ n:Nat):Int) = (10:Int) ^ n:=by simp
 omega
theorem Bnd.hi (h:Bnd n i):i < 10 ^ n:=by
 unfold Bnd at h
 have:((10 ^ n:Nat):Int) = (10:Int) ^ n:=by simp
 omega
theorem Bnd.lo (h:Bnd n i):-(10 ^ n:Int) < i:=by
 unfold Bnd at h
 have:((10 ^ n:Nat):Int) = (10:Int) ^ n:=by simp
 omega
theorem Bnd.gcd {a b:Int} (h:0 < b) (k:Bnd n b):Bnd n ((Int.gcd a b:Nat):Int):=by
 unfold Bnd at *
 have h1:((Int.gcd a b:Nat):Int) ∣ b:=Int.gcd_dvd_right ..
 have h2:((Int.gcd a b:Nat):Int)<=b:=Int.le_of_dvd h h1
 omega
noncomputable abbrev zcd:List Value:=[.type "ValueError",.type "Exception",.type "BaseException",.type "object"]
structure ExcAt (K:Frag) (mg:Str->Option Value) (x:Str) (C:Addr):Prop where
 bound:mg x = some (.ref C)
 obj:∀ h:Heap,K.In h->∃ bm N nm q bs hdct sn sub ab col dd k0 k1 k2 k3 k5 mN,h.get? C = some (excClassObj nm q C N bs bm hdct sn sub ab col dd k0 k1 k2 k3 k5 "ValueError.__new__")/\h.Ns N mN/\mN "__init__" = none/\OwnTail h zcd bm
noncomputable def zdo (es:Array DictEntry):Bool:=es.toList.all (fun e=>match e.key with | .str _ _=>true | _=>false)
variable {H:Hp}
theorem ObjOk.there {a:Addr} {o:HO} (x:ObjOk P w H h a o):∃ u,h.get? a = some u:=by
 cases o with
 | lst xs=>obtain ⟨_,_,_,_,e⟩:=x;exact ⟨_,e⟩
 | tup xs=>obtain ⟨_,_,_,⟨ob,e,_⟩,_⟩:=x;exact ⟨_,e⟩
 | dK kvs=>obtain ⟨_,_,_,_,o,_,_,e,_⟩:=x;exact ⟨_,e⟩
 | dT kvs=>obtain ⟨_,_,_,_,o,_,_,e,_⟩:=x;exact ⟨_,e⟩
 | set S n=>obtain ⟨o,_,_,_,e,_⟩:=x;exact ⟨_,e⟩
 | ins C dx fs=>obtain ⟨_,_,_,e,_⟩:=x;exact ⟨_,e⟩
 | own y=>obtain ⟨_,e⟩:=x;exact ⟨_,e⟩
 | xd fs=>obtain ⟨_,⟨_,_,_,e,_⟩,_⟩:=x;exact ⟨_,e⟩
 | rng lo hi=>obtain ⟨_,_,_,e⟩:=x;exact ⟨_,e⟩
 | frz ob u=>obtain ⟨e,_⟩:=x;exact ⟨_,e⟩
 | tbl ps=>exact ⟨_,(show h.get? a = some _ from x)⟩
 | met f y=>exact ⟨_,(show h.get? a = some _ from x)⟩
 | ext φ=>obtain ⟨_,⟨_,e⟩,_⟩:=x;exact ⟨_,e⟩
noncomputable def CXC (P:Program) (w:World) (C:Addr):CXT:=fun l H s E ev s'=>∃ (e t:Addr) (B:Heap) (H':Hp),ev = .ref e/\Heap.FlyingW B l e (.ref C) (.ref t) s'.heap/\s'.os = s.os/\AllBare s'.gens /\
 Un (frs l) [] H H' s.heap s'.heap/\HOk P w H' s'.heap/\(∀ b o,s'.heap.get? b = some o->b ∉ frs l->(H' b ≠ none\/∃ o',s.heap.get? b = some o')->B.get? b = some o)/\(∀ b ∈ frs l,H' b = none)/\E (.ref C) none H'
theorem zi8 {l:List Env} {H':Hp} {h1 h2 B:Heap} (u:Un (frs l) [] H H' h h1) (hok:HOk P w H' h1) (hB:∀ b o,h1.get? b = some o->b ∉ frs l->(H' b ≠ none\/∃ o',h.get? b = some o')->B.get? b = some o)
 (hfr:∀ b ∈ frs l,H' b = none) (hfn:∀ b ∈ frs l,∀ o,h1.get? b = some o->∀ vs,o.data ≠ .fields vs) (st:B.StaysIn h2) (up:h1.UpToSlots h2):Un (frs l) [] H H' h h2/\HOk P w H' h2:=by
 refine ⟨⟨fun b o e n nf nx=>?_,fun b o e n hf nx=>?_,u.free,fun b o e nx=>?_,u.tups,u.frzs,u.tbls⟩,fun a o e=>?_⟩
 ·exact st _ _ (hB b o (u.keep b o e n nf nx) nf (.inr ⟨o,e⟩))
 ·obtain ⟨sl,e1⟩:=u.slot b o e n hf nx
  obtain ⟨sl2,e2⟩:=up b _ e1 (hfn b hf _ e1)
  exact ⟨sl2,e2⟩
 ·obtain ⟨o1,e1⟩:=u.there b o e nx
  by_cases hf:b ∈ frs l
  ·obtain ⟨sl2,e2⟩:=up b _ e1 (hfn b hf _ e1)
   exact ⟨_,e2⟩
  ·exact ⟨_,st _ _ (hB b o1 e1 hf (.inr ⟨o,e⟩))⟩
 ·refine (hok a o e).stay (fun b v hb ev=>?_) (fun _ q=>q) fun _ _ q=>q
  have ht:H' b ≠ none:=by
   rcases hb with rfl | hb
   ·rw [e];simp
   ·rw [hb];simp
  exact st _ _ (hB b v ev (fun hf=>ht (hfr b hf)) (.inl ht))
noncomputable abbrev Cx.suite (X:Cx) (ev:Addr):Cx:={ X with A:=X.A.mark (some (.ref ev)),calm:=false,xe:=fun _ _=>False }
variable {D:Ends} {s s':Shared}
section
variable {pins:List (Addr × Obj)} {σ:St} {ev:Addr}
theorem Inv.suite (I:Inv X pins σ H s) (ev:Addr):Inv (X.suite ev) pins σ H s:=
 ⟨⟨I.ok.mod,I.ok.kind,I.ok.glob,I.ok.blt,I.ok.above,I.ok.inj,I.ok.has,I.ok.cab,(fun z=>by cases z),I.ok.frames,I.ok.stk,I.ok.exf,I.ok.bs,I.ok.bsz,I.ok.noex,I.ok.exfs,I.ok.funs,I.ok.frf⟩,I.os,I.bare,I.base,I.loc,I.cell,I.free,I.freeC,I.pin,I.hok,I.len⟩
theorem Inv.unsuite (ok:X.Ok) (I:Inv (X.suite ev) pins σ H s):Inv X pins σ H s:=⟨ok,I.os,I.bare,I.base,I.loc,I.cell,I.free,I.freeC,I.pin,I.hok,I.len⟩
theorem SP.unsuite (ok:X.Ok) {f:Flow} (h:SP (X.suite ev) pins D f s'):SP X pins D f s':=by
 cases f with
 | next=>obtain ⟨σ',H',I,q⟩:=h;exact ⟨σ',H',I.unsuite ok,q⟩
 | brk=>obtain ⟨σ',H',I,q⟩:=h;exact ⟨σ',H',I.unsuite ok,q⟩
 | cont=>obtain ⟨σ',H',I,q⟩:=h;exact ⟨σ',H',I.unsuite ok,q⟩
 | ret u=>obtain ⟨v,σ',H',I,r,q⟩:=h;exact ⟨v,σ',H',I.unsuite ok,r,q⟩
theorem zrV {C:Addr} {E:XK} {s1:Shared} {e:Value} {np hp:Pos} {b0:Stmt} {suite:List Stmt} {rest:List ExceptHandler} {th:TS} (O:ExcAt X.K X.mg x C) (hg:Gl X x) (hst:X.stack = X.env :: X.outer) (hf:X.env.frame = some X.env.locals)
 (I:Inv X pins σ H s1) (hq:CXC X.prog X.w C X.stack H s1 E e s') (hE:∀ H',E (.ref C) none H'->th D σ H') (hs:∀ ev,PSs (X.suite ev) (b0 :: suite) th) (hd:(x == ("__debug__":Str)) = false:=by decide) :
  wpAny (model X.prog X.w) X.A (noteFrame e X.env) (fun _ s₂=>wpAny (model X.prog X.w) X.A (setFlight e none) (fun _ s₃=>
   wpAny (model X.prog X.w) X.A (handleBy e X.env (.ExceptHandler (some (.Name x np)) none (b0 :: suite) hp :: rest)) (SP X pins D) X.xe s₃) X.xe s₂) X.xe s':=by
 obtain ⟨ev,t,B,H',rfl,fl,os,bare,un,hok,hB,hfr,hEE⟩:=hq
 have hfrm:X.A.frames = some (X.env :: X.outer):=by rw [I.ok.frames,hst]
 have hfn:∀ b ∈ frs X.stack,∀ o,s'.heap.get? b = some o->∀ vs,o.data ≠ .fields vs:=fun b hb o e1=>by
  obtain ⟨_,o',e2,n2⟩:=fl.2.2.1.mem hb
  rw [e1] at e2
  cases e2
  exact n2
 have inv_at:∀ h2:Heap,B.StaysIn h2->s'.heap.UpToSlots h2->Inv X pins σ H' { s' with heap:=h2 }:=fun h2 st up=>by
  obtain ⟨un2,hok2⟩:=zi8 un hok hB hfr hfn st up
  exact I.call' (s':={ s' with heap:=h2 }) (ch:=[]) os un2 hok2 bare (fun b z=>absurd z (by simp))
 rw [hst] at fl
 refine wpAny_looks_onW hfrm hf fl fun h4 hl4 up4=>?_
 refine wpAny_landsW hl4 fun h5 fl5 up5=>?_
 have up45:=up4.trans up5
 have I5:=inv_at h5 fl5.1 up45
 refine wpAny_handleBy_cons (codeAny_handlers_test ?_) (by intro q;cases q)
 refine zbH (X:=X.suite ev) (I5.suite ev) hg O.bound ?_ hd
 obtain ⟨bm,N,nm,q,bs,hdct,sn,sub,ab,col,dd,k0,k1,k2,k3,k5,mN,hC,hN,hni,T⟩:=O.obj h5 I5.kIn
 obtain ⟨oe,he,hcls⟩:=fl5.there
 refine wpAny_excMatches_sub_self hC he hcls (T.hasType PySem.F.excBase_ValueError.hasBase) (codeAny_handlers_suite ?_)
 refine lands_againW fl5 fun h6 fl6 up6=>?_
 have I6:=inv_at h6 fl6.1 (up45.trans up6)
 refine Qh (hs ev pins _ σ H' D (I6.suite ev) (hE H' hEE)) (fun f s3 q3=>q3.unsuite I6.ok) fun _ _ z=>False.elim z
end
theorem zl8 (x:V) (f:zba x = true):eqV x x = true:=by
 cases x with
 | non=>rfl
 | bl b=>simp [eqV]
 | int i=>simp [eqV]
 | str z=>simp [eqV]
 | _=>exact absurd (show false = true from f) Q5
section
def CDivS (_ j:Int):Prop:=j ≠ 0/\∃ n,Bnd n j/\n<=2000
theorem CDivS.ok (h:CDivS i j):Builtin.divisionGoesByPylong i j = false:=by
 obtain ⟨h0,n,h1,h2⟩:=h
 refine PyProof.noPylong_of_log2 ?_
 have hz:j.natAbs ≠ 0:=by omega
 have e:(2:Nat) ^ (4 * n) = 16 ^ n:=by rw [Nat.pow_mul]
 have h3:j.natAbs < 2 ^ (4 * n):=by
  rw [e]
  exact Q6 h1 (Nat.pow_le_pow_left (by decide) n)
 have h4:j.natAbs.log2 < 4 * n:=(Nat.log2_lt hz).mpr h3
 omega
theorem zlC:OpR X (binaryOp .FloorDiv) (rI CDivS fun i j=>.int (i.fdiv j)):=opI fun _ _ _ _ _ _ _ hc q=>floordiv_int hc.1 q (.inl hc.ok)
end
structure CalX (P:Program) (w:World) (K:Frag) (mg:Str->Option Value) (base:Heap) (C:Addr) (k:Nat) (x:Str) (ps:List Str) (sp:Sp):Prop where
 ex:∃ (f:Addr) (fd:FuncData),FnOk P w K mg base (CXC P w C) k f fd ps sp/\PySem.W.keepIn K (.ref f) = true/\Binds K fd ps []/\mg x = some (.ref f)
theorem zco {name:Str} {acc:List (Str × Addr)} {c:Addr} (e:((name,n) :: acc).lookup x = some c):(x = name/\c = n)\/acc.lookup x = some c:=by
 rw [lookup_cons] at e
 split at e
 ·rename_i h;cases e;exact .inl ⟨eq_of_beq h,rfl⟩
 ·exact .inr e
theorem zfR:∀ (names:List (Str × NameKind)) (n:Nat) (acc:List (Str × Addr)),(∀ x y c,acc.lookup x = some c->acc.lookup y = some c->x = y)->(∀ x c,acc.lookup x = some c->c < n)->∀ x y c,(cellsFrom n names acc).lookup x = some c->(cellsFrom n names acc).lookup y = some c->x = y
 | [],_,_,h,_,x,y,c,e1,e2=>h x y c e1 e2
 | (name,kind) :: r,n,acc,h,lt,x,y,c,e1,e2=>by
  unfold cellsFrom at e1 e2
  split at e1
  ·rename_i hk
   rw [if_pos hk] at e2
   refine zfR r (n + 1) ((name,n) :: acc) (fun x y c f1 f2=>?_) (fun x c f=>?_) x y c e1 e2
   ·rcases zco f1 with ⟨g1,g2⟩ | g1 <;> rcases zco f2 with ⟨g3,g4⟩ | g3
    ·rw [g1,g3]
    ·subst g2;exact absurd (lt _ _ g3) (Qp _)
    ·subst g4;exact absurd (lt _ _ g1) (Qp _)
    ·exact h x y c g1 g3
   ·rcases zco f with ⟨g1,g2⟩ | g1
    ·subst g2;exact Nat.lt_succ_self _
    ·exact Nat.lt_succ_of_lt (lt _ _ g1)
  ·rename_i hk
   rw [if_neg hk] at e2
   exact zfR r n acc h lt x y c e1 e2
theorem zgY {x:Str} {c:Addr}:∀ (names:List (Str × NameKind)) (n:Nat) (acc:List (Str × Addr)),(cellsFrom n names acc).lookup x = some c->acc.lookup x = some c\/n<=c
 | [],_,_,e=>.inl e
 | (name,kind) :: r,n,acc,e=>by
  unfold cellsFrom at e
  split at e
  ·rcases zgY r (n + 1) _ e with f | f
   ·rcases zco f with ⟨_,g⟩ | g
    ·exact .inr (Nat.le_of_eq g.symm)
    ·exact .inl g
   ·exact .inr (by omega)
  ·exact zgY r n acc e
theorem zjJ {x:Str} {c:Addr} {lo:Nat}:∀ (names:List (Str × NameKind)) (n:Nat) (acc:List (Str × Addr)),lo<=n->(∀ c,acc.lookup x = some c->lo<=c)->(cellsFrom n names acc).lookup x = some c->lo<=c
 | [],_,_,_,h,e=>h _ e
 | (name,kind) :: r,n,acc,hn,h,e=>by
  unfold cellsFrom at e
  split at e
  ·refine zjJ r (n + 1) _ (Nat.le_succ_of_le hn) (fun c f=>?_) e
   rcases zco f with ⟨_,g⟩ | g
   ·subst g;exact hn
   ·exact h _ g
  ·exact zjJ r n acc hn h e
theorem zfP {x:Str} {c:Addr}:∀ (names:List (Str × NameKind)) (n:Nat) (acc:List (Str × Addr)),names.lookup x = some .cell->(cellsFrom n names acc).lookup x = some c->n<=c
 | [],_,_,h,_=>by cases h
 | (name,kind) :: r,n,acc,h,e=>by
  unfold cellsFrom at e
  rw [lookup_cons] at h
  split at h
  ·rename_i hx
   cases h
   rw [if_pos (show (NameKind.cell == NameKind.cell) = true from rfl)] at e
   refine zjJ r (n + 1) _ (Nat.le_succ _) (fun c f=>?_) e
   rw [lookup_cons,hx] at f
   cases f;exact Q4 _
  ·split at e
   ·exact Nat.le_of_succ_le (zfP r (n + 1) _ h e)
   ·exact zfP r n acc h e
theorem zfQ {x:Str}:∀ (names:List (Str × NameKind)) (n:Nat) (acc:List (Str × Addr)),(∀ y ∈ names,y.2 = .cell->y.1 ≠ x)->(cellsFrom n names acc).lookup x = acc.lookup x
 | [],_,_,_=>rfl
 | (name,kind) :: r,n,acc,h=>by
  unfold cellsFrom
  split
  ·rename_i hk
   rw [zfQ r (n + 1) _ fun y hy=>h y (mem_cons_of_mem _ hy),lookup_cons]
   have:(x == name) = false:=by
    cases q:x == name with
    | false=>rfl
    | true=>exact absurd (eq_of_beq q).symm (h (name,kind) mem_cons_self (eq_of_beq hk))
   rw [this]
  ·exact zfQ r n acc fun y hy=>h y (mem_cons_of_mem _ hy)
theorem zev:∀ (names:List (Str × NameKind)) (h:Heap) (acc:List (Str × Addr)),(∀ x c,acc.lookup x = some c->∃ v,h.IsCell c v)->∀ x c,(cellsFrom h.objs.size names acc).lookup x = some c->∃ v,(pushCells h names).IsCell c v
 | [],_,_,k,x,c,e=>k x c e
 | (name,kind) :: r,h,acc,k,x,c,e=>by
  unfold cellsFrom at e
  unfold pushCells
  split at e
  ·rename_i hk
   rw [if_pos hk]
   refine zev r (h.push { cls:=.type "cell",data:=.cell none }) ((name,h.objs.size) :: acc) (fun x c f=>?_) x c (by rw [Heap.size_push];exact e)
   rcases zco f with ⟨_,g⟩ | g
   ·subst g;exact ⟨none,_,Qm _ rfl,rfl⟩
   ·obtain ⟨v,q⟩:=k x c g
    exact ⟨v,q.keeps fun b o e=>Q3 _ e⟩
  ·rename_i hk
   rw [if_neg hk]
   exact zev r h acc k x c e
variable {A:Around} {cl:List (Str × Addr)} {scope:Scope}
theorem zaj {M:Model} {E:Value->Shared->Prop} {globals:Addr} {qual:Str} {env:Env} {builtins:Addr} {Q:Env->Shared->Prop}
 (hQ:∀ h',h'.Ns s.heap.objs.size (fun _=>none)->h' = pushCells (s.heap.push { cls:=.type "dict",data:=.dict #[] }) scope.names->
 Q (newEnv scope s.heap.objs.size globals (cellsFrom (s.heap.objs.size + 1) scope.names cl) qual none .none (some env) builtins) { s with heap:=h' }) :
  wpAny M A (newFunctionEnv scope globals cl [] qual none .none (some env) builtins) Q E s:=by
 simp only [newFunctionEnv,Option.isSome_some,if_true]
 refine Q2 (wpAny_alloc ?_)
 refine Q2 (wpAny_layCells _ (fun name kind cells=>by cases hkc:kind == NameKind.cell <;> simp [hkc]) _ _ _ _ ?_)
 rw [show ({ s with heap:=s.heap.push { cls:=.type "dict",data:=.dict #[] } }:Shared).heap.objs.size = s.heap.objs.size + 1 from Heap.size_push ..]
 refine Q2 ?_
 rw [List.forIn_nil]
 exact Qg (Qg (hQ _ ((Heap.Ns.new s.heap (.type "dict")).keeps (pushCells_keeps _ _)) rfl))
noncomputable def zfg (scope:Scope) (cl:List (Str × Addr)) (C:Addr) (env:Env):Env:={ compEnvC scope cl C env with cells:=cellsFrom (C + 1) scope.names cl }
noncomputable def Cx.block (X:Cx) (scope:Scope) (cl:List (Str × Addr)) (N:List Str) (ex:List Addr) (s0:Shared) (H0:Hp):Cx where
 prog:=X.prog
 w:=X.w
 K:=X.K
 mg:=X.mg
 base:=X.base
 A:=X.A
 N:=N
 s₀:=s0
 H₀:=H0
 env:=zfg scope cl s0.heap.objs.size X.env
 outer:=X.stack
 stack:=X.stack
 ex:=ex
 fn:=fun x=>scope.names.lookup x == some .cell
 calm:=X.calm
 pn:=[]
 xe:=fun _ _=>False
def PTs (X:Cx) (ifs:List Expr) (t:TT):Prop:=
 ∀ (pins:List (Addr × Obj)) (s:Shared) (σ:St) (H:Hp) (Q:Bool->Hp->Prop),Inv X pins σ H s->t σ H Q->
  wpAny (model X.prog X.w) X.A (forIn ifs true fun c r=>if r = true then do let ok ← isTrue c X.env (eval c X.env);pure (ForInStep.yield ok) else pure (ForInStep.yield r)) (TP X pins σ Q) X.xe s
noncomputable def zp1:TT:=fun _ H Q=>Q true H
theorem zmV:PTs X [] zp1:=fun _ _ _ H _ I h=>wpAny_tests_nil ⟨H,I,h⟩
theorem zmU {c:Expr} {t:TT} (h:PT X c t):PTs X [c] t:=fun pins s σ H Q I hq=>wpAny_tests_one (h pins s σ H Q I hq)
noncomputable def zaE (tgs:List Str) (caps:List (Str × Nat)) (σ:St):St:=tgs.map (fun _=>none) ++ caps.map fun c=>(σ[c.2]?).join
noncomputable def zgS (wi:TI) (g:TG) (tc:TT) (te:TE) (σ0:St->St):TE:=fun σ H Q=>wi σ H fun J H1=>∀ D,H1 D = none->∃ W:Nat->Nat->St->Hp->Prop,(∃ m,W 0 m (σ0 σ) (upd H1 D (.lst [])))/\∀ i m σ' H',W i m σ' H'->
 (J.stop i H'/\Q (.ref D) H')\/(J.go i H'/\∃ N:St->Hp->Prop,(∀ σ'' H'',N σ'' H''->∃ m',m' < m/\W (i + 1) m' σ'' H'')/\∀ x H2,J.yld i H' x H2->g x σ' H2 fun σ2 H3=>tc σ2 H3 fun b H4=>
  if b = true then te σ2 H4 fun v H5=>∃ ys,H5 D = some (.lst ys)/\ys.length < sizeLine/\N σ2 (upd H5 D (.lst (ys ++ [v]))) else N σ2 H4)
variable {elt iter:Expr} {ifs:List Expr}
theorem zbw {prog:Program} {R:Result->Shared->Prop} {target:Expr} {it acc:Value} {env:Env} (I:Nat->Shared->Prop)
 (turn:∀ n s,I n s->wpAny (model prog w) A (pyNext it) (fun r s₁=>match r with
 | none=>R (.ok .next) s₁
 | some v=>wpAny (model prog w) A (letOwnedTupleGo target it v) (fun _ s₁'=>wpAny (model prog w) A (assign target env v) (fun _ s₂=>
 wpAny (model prog w) A (forIn ifs true fun c r=>if r = true then do let ok ← isTrue c env (eval c env);pure (ForInStep.yield ok) else pure (ForInStep.yield r)) (fun ok s₃=>
 if ok = true then wpAny (model prog w) A (eval elt env) (fun x s₄=>
 wpAny (model prog w) A (call (.builtin "list.append") [acc,x]) (fun _ s₅=>∃ m,m < n/\I m s₅) (notedBy (model prog w) A env fun e s'=>R (.error e) s') s₄) (notedBy (model prog w) A env fun e s'=>R (.error e) s') s₃
 else ∃ m,m < n/\I m s₃) (notedBy (model prog w) A env fun e s'=>R (.error e) s') s₂) (notedBy (model prog w) A env fun e s'=>R (.error e) s') s₁') (notedBy (model prog w) A env fun e s'=>R (.error e) s') s₁) (notedBy (model prog w) A env fun e s'=>R (.error e) s') s)
 (n:Nat) (h:I n s):codeAny (model prog w) A (.compLoop (.ListComp elt [⟨target,iter,ifs,0⟩] scope pos) 0 it acc env) R s:=by
 refine codeAny_loop rfl I (fun n s hI=>?_) n h
 show wpAny _ A ((compTurn (.ListComp elt [⟨target,iter,ifs,0⟩] scope pos) 0 it acc env).onRaise (fun x=>do noteFrame x env;theTreesLotGoes x)) _ _ s
 refine wpAny_noted ?_
 rw [compTurn_list]
 refine Q2 (wpAny_standAt (Q2 (Qh (turn n s hI) (fun r s₁ h₁=>?_) fun _ _ h'=>h')))
 cases r with
 | none=>exact Qg h₁
 | some v=>
  refine Q2 (Qh h₁ (fun _ s₁' h₁'=>?_) fun _ _ h'=>h')
  refine Q2 (Qh h₁' (fun _ s₂ h₂=>Q2 (Qh h₂ (fun ok s₃ h₃=>?_) fun _ _ h'=>h')) fun _ _ h'=>h')
  cases ok with
  | false=>exact Qg ⟨rfl,h₃⟩
  | true=>
   exact Q2 (Q2 (Qh h₃ (fun x s₄ h₄=>Q2 (Qh h₄ (fun _ s₅ h₅=>Qg (Qg ⟨rfl,h₅⟩)) fun _ _ h'=>h')) fun _ _ h'=>h'))
variable {tg:Expr} {wi:TI}
section
theorem ziB {tgs:List Str} {caps:List (Str × Nat)} {g:TG} {tc:TT} {te:TE}
 (hc:X.calm = true) (hi:PI X tg iter wi) (hclos:closureFor scope X.env = pure cl) (hcell:∀ y ∈ scope.names,y.2 = .cell->y.1 ∉ caps.map (·.1)) (hkind:scope.kind = .function)
 (hnames:∀ y ∈ scope.names,y.2 = .local->scope.names.lookup y.1 = some .local)
 (hcl:∀ y c,cl.lookup y = some c->X.env.cells.lookup y = some c)
 (hhas:∀ n y,((relabel scope X.env).names.lookup y = some .cell\/(relabel scope X.env).names.lookup y = some .free)->∃ c,(cellsFrom n scope.names cl).lookup y = some c)
 (hcap:∀ c ∈ caps,X.N[c.2]? = some c.1/\X.env.kindOf c.1 = some .cell/\((relabel scope X.env).names.lookup c.1 = some .cell\/(relabel scope X.env).names.lookup c.1 = some .free))
 (hg:∀ ex s0 H0,PG (X.block scope cl (tgs ++ caps.map (·.1)) ex s0 H0) tg g) (hif:∀ ex s0 H0,PTs (X.block scope cl (tgs ++ caps.map (·.1)) ex s0 H0) ifs tc) (hel:∀ ex s0 H0,PE (X.block scope cl (tgs ++ caps.map (·.1)) ex s0 H0) elt te)
 (hs:∀ x,foldedSetIterable iter X.env x = pure x:=by intro _;rfl) :
  PE X (.ListComp elt [⟨tg,iter,ifs,0⟩] scope pos) (zgS wi g tc te (zaE tgs caps)):=by
 intro pins s σ H Q I h
 rw [eval_ListComp]
 refine wpAny_comprehension_free (use:=none) rfl hs hclos hkind hnames (thn (hi pins s σ H _ I h) fun v s1 h1=>thn h1 fun itv s2 h2=>?_)
 obtain ⟨it,fp,tn,J,H2,e,I2,T,st2,f2,hrest⟩:=h2
 subst e
 -- the new list
 have hD:H2 s2.heap.objs.size = none:=I2.fresh
 obtain ⟨W,⟨m0,w0⟩,turn⟩:=hrest _ hD
 refine Qv ?_ (by show 0<=sizeLine;decide)
 have I3:Inv X pins σ (upd H2 s2.heap.objs.size (.lst [])) { s2 with heap:=s2.heap.push { cls:=.type "list",data:=.seq ([]:List Value).toArray } }:=I2.lnew (t':=s2.toks) (ys:=[]) (its:=[]) .nil (by show 0<=sizeLine;decide)
 generalize hs3:({ s2 with heap:=s2.heap.push { cls:=.type "list",data:=.seq ([]:List Value).toArray } }:Shared) = s3 at I3
 have lt2:∀ b o,s2.heap.get? b = some o->s3.heap.get? b = some o:=fun b o e=>by rw [← hs3];exact Q3 _ e
 have sz3:s2.heap.objs.size < s3.heap.objs.size:=by rw [← hs3];show _ < (s2.heap.push _).objs.size;rw [Heap.size_push];exact Nat.lt_succ_self _
 have st3:tn 0 s3.heap:=T.keep 0 _ _ st2 fun b _ o e=>lt2 b o e
 have fplt:∀ b ∈ fp,b < s2.heap.objs.size:=fun b hb=>by
  obtain ⟨o,e,_⟩:=T.obj 0 _ st2 b hb
  exact Qf e
 generalize hH3:upd H2 s2.heap.objs.size (.lst []) = H3 at I3 w0
 have fr3:∀ b ∈ fp,H3 b = none:=fun b hb=>by rw [← hH3,yh (Ql (fplt b hb))];exact (f2 b hb).1
 have nstk:∀ b ∈ fp,b ∉ frs X.stack:=fun b hb z=>by
  obtain ⟨_,n1,n2,_⟩:=f2 b hb
  rcases mem_cons.mp (I2.stkSub b z) with z | z
  ·exact n1 z
  ·exact n2 z
 refine zaj fun h4 ns4 sb4=>?_
 have keep4:∀ b o,s3.heap.get? b = some o->h4.get? b = some o:=fun b o e=>by rw [sb4];exact pushCells_keeps _ _ b o (Q3 _ e)
 have clt:∀ x c,cl.lookup x = some c->c < s3.heap.objs.size:=fun x c e=>by
  obtain ⟨v,q⟩:=I3.cell x c (hcl x c e)
  exact q.lt
 have cor:∀ x c,(cellsFrom (s3.heap.objs.size + 1) scope.names cl).lookup x = some c->cl.lookup x = some c\/s3.heap.objs.size + 1<=c:=fun x c e=>zgY _ _ _ e
 have cne:∀ b ∈ fp,∀ x c,(cellsFrom (s3.heap.objs.size + 1) scope.names cl).lookup x = some c->c ≠ b:=fun b hb x c e=>by
  rcases cor x c e with e | e
  ·exact (f2 b hb).2.2.2.2.1 x c (hcl x c e)
  ·exact Nat.ne_of_gt (Q6 (Nat.lt_trans (fplt b hb) sz3) (Nat.le_of_succ_le e))
 have neC:∀ b ∈ fp,b ≠ s3.heap.objs.size:=fun b hb=>Ql (Nat.lt_trans (fplt b hb) sz3)
 have ok':(X.block scope cl (tgs ++ caps.map (·.1)) fp s3 H3).Ok:=
  ⟨I.ok.mod,hkind,I.ok.glob,I.ok.blt,Q4 _,zfR _ _ _ (fun x y c e1 e2=>I.ok.inj x y c (hcl x c e1) (hcl y c e2)) (fun x c e=>Nat.lt_succ_of_lt (clt x c e)),hhas _,(fun x c z e=>Nat.le_of_succ_le (zfP _ _ _ (eq_of_beq z) e)),I.ok.hd,I.ok.frames,.inl rfl,
   fun b hb=>⟨neC b hb,cne b hb⟩,I3.bs,Qk I.ok.bsz I3.sz,fun b o e hb=>by
    rcases (f2 b hb).2.2.2.1 with z | z
    ·exact I.ok.noex b o e z
    ·exact absurd (Q6 (Qf e) (Qk I.ok.bsz z)) (Qp _),
   nstk,I3.stack,I3.stkFree⟩
 have I4:Inv (X.block scope cl (tgs ++ caps.map (·.1)) fp s3 H3) [] (zaE tgs caps σ) H3 { s3 with heap:=h4 }:=by
  refine ⟨ok',rfl,I3.bare,Un.kept keep4,⟨_,ns4,fun i x v e1 e2 e3=>?_⟩,fun x c e=>?_,I3.hok.fresh (Q4 _),fun x c e=>(cor x c e).elim (fun e=>I3.freeC x c (hcl x c e)) (fun e=>I3.hok.fresh (Nat.le_of_succ_le e)),fun p hp=>by simp [Cx.block] at hp,I3.hok.kept keep4,by simp [zaE,Cx.block]⟩
  ·-- a captured name
   have hlen:(tgs.map (fun _=>(none:Option V))).length = tgs.length:=by simp
   by_cases hi:i < tgs.length
   ·have:(zaE tgs caps σ)[i]? = some none:=by
     unfold zaE
     rw [Q7 (by simpa using hi)]
     simp [hi]
    rw [this] at e2
    cases e2
   ·have e1':(tgs ++ caps.map (·.1))[i]? = some x:=e1
    rw [Q9 (by omega),Qc] at e1'
    have e2':=e2
    unfold zaE at e2'
    rw [Q9 (by simpa using hi),hlen,Qc] at e2'
    cases hcq:caps[i - tgs.length]? with
    | none=>rw [hcq] at e1';cases e1'
    | some cq=>
     rw [hcq] at e1' e2'
     have ex:cq.1 = x:=Qe e1'
     have ev:(σ[cq.2]?).join = some v:=Qe e2'
     obtain ⟨c1,c2,c3⟩:=hcap cq (Qb hcq)
     have ev':σ[cq.2]? = some (some v):=by
      cases q:σ[cq.2]? with
      | none=>rw [q] at ev;cases ev
      | some o=>rw [q] at ev;cases o with
       | none=>cases ev
       | some v'=>rw [show v' = v from Qe ev]
     obtain ⟨m,hn,hl⟩:=I3.loc
     obtain ⟨u,r,lk⟩:=hl cq.2 cq.1 v c1 ev' (.inr (.inl c2))
     rcases lk with ⟨k1,_⟩ | ⟨_,c,ec,icl⟩
     ·rw [c2] at k1;cases k1
     ·obtain ⟨c',ec'⟩:=hhas (s3.heap.objs.size + 1) cq.1 c3
      have ec2:=ec'
      rw [zfQ _ _ _ fun y hy hk hyx=>hcell y hy hk (by rw [hyx];exact List.mem_map_of_mem (Qb hcq))] at ec2
      have:=hcl _ _ ec2
      rw [ec] at this
      cases this
      refine ⟨u,r,.inr ⟨?_,c,?_,?_⟩⟩
      ·rw [← ex];exact c3
      ·rw [← ex];exact ec'
      ·obtain ⟨o,ho,hd⟩:=icl
       exact ⟨o,keep4 _ _ ho,hd⟩
  ·show ∃ v,h4.IsCell c v
   rw [sb4]
   refine zev scope.names _ cl (fun x c f=>?_) x c (by rw [Heap.size_push];exact e)
   obtain ⟨v,o,ho,hd⟩:=I3.cell x c (hcl x c f)
   exact ⟨v,o,Q3 _ ho,hd⟩
 have stat:∀ {H':Hp},(∀ b ∈ fp,H' b = none)->∀ b ∈ fp,zee (X.block scope cl (tgs ++ caps.map (·.1)) fp s3 H3) [] H' b:=fun hn b hb=>
  ⟨hn b hb,neC b hb,nstk b hb,.inl hb,cne b hb,fun p hp=>by simp [Cx.block] at hp⟩
 have st4:tn 0 h4:=T.keep 0 _ _ st3 fun b _ o e=>keep4 b o e
 have loop:codeAny (model X.prog X.w) X.A (.compLoop (.ListComp elt [⟨tg,iter,ifs,0⟩] scope pos) 0 (.ref it) (.ref s2.heap.objs.size) (zfg scope cl s3.heap.objs.size X.env))
   (compPost (model X.prog X.w) X.A X.xe none (EP X pins σ Q) (.ref s2.heap.objs.size) s3.heap.objs.size) { s3 with heap:=h4 }:=by
  refine zbw (fun n s'=>∃ i σ' H',Inv (X.block scope cl (tgs ++ caps.map (·.1)) fp s3 H3) [] σ' H' s'/\tn i s'.heap/\(∀ b ∈ fp,H' b = none)/\W i n σ' H') ?_ m0 ⟨0,_,H3,I4,st4,fr3,w0⟩
  rintro n s5 ⟨i,σ5,H5,I5,st5,fr5,w5⟩
  rcases turn i n σ5 H5 w5 with ⟨stop,qn⟩ | ⟨go,N,hN,step⟩
  ·refine Qh (T.done (X.block scope cl (tgs ++ caps.map (·.1)) fp s3 H3) rfl rfl rfl hc i [] s5 σ5 H5 (fun _ _=>False) I5 (stat fr5) st5 stop) (fun r s6 ⟨hr,I6⟩=>?_) fun _ _ z=>False.elim z
   subst hr
   obtain ⟨m6,hn6,_⟩:=I6.loc
   refine ⟨m6,hn6,fun h' sb=>?_⟩
   have nb:∀ b o,s3.heap.get? b = some o->b ≠ s3.heap.objs.size:=fun b o e=>Ql (Qf e)
   have eqb:∀ b,b ≠ s3.heap.objs.size->h'.get? b = s6.heap.get? b:=fun b hb=>sb.2 b hb
   have uX:Un (frs X.stack) fp H3 H5 s3.heap h':=by
    have u:=I6.base
    refine ⟨fun b o e a1 a2 a3=>?_,fun b o e a1 a2 a3=>?_,u.free,fun b o e a3=>?_,u.tups,u.frzs,u.tbls⟩
    ·rw [eqb b (nb b o e)];exact u.keep b o e a1 a2 a3
    ·rw [eqb b (nb b o e)];exact u.slot b o e a1 a2 a3
    ·rw [eqb b (nb b o e)];exact u.there b o e a3
   have hokX:HOk X.prog X.w H5 h':=fun a o e=>(I6.hok a o e).stay (fun b u hb eu=>by
    have hbC:b ≠ s3.heap.objs.size:=fun z=>by
     have hfC:H5 s3.heap.objs.size = none:=I6.free
     rcases hb with rfl | hb
     ·rw [z,hfC] at e;cases e
     ·rw [z,hfC] at hb;cases hb
    rw [eqb b hbC];exact eu) (fun _ q=>q) fun _ _ q=>q
   have os6:s6.os = s3.os:=I6.os
   exact ⟨.ref s2.heap.objs.size,H5,I3.call' (s':={ s6 with heap:=h' }) (ch:=fp) os6 uX hokX I6.bare (fun b hb=>⟨(f2 b hb).2.2.2.1,(f2 b hb).2.1,(f2 b hb).2.2.2.2.1,(f2 b hb).2.2.2.2.2⟩),rfl,qn⟩
  ·refine Qh (T.item (X.block scope cl (tgs ++ caps.map (·.1)) fp s3 H3) rfl rfl rfl hc i [] s5 σ5 H5 (fun _ _=>False) I5 (stat fr5) st5 go) (fun r s6 ⟨u,hr,h6⟩=>?_) fun _ _ z=>False.elim z
   subst hr
   refine Qh h6 (fun _ s7 ⟨x,H7,I7,r7,y7,st7,fr7⟩=>?_) fun _ _ z=>False.elim z
   have I7':=I7.pinned (stat fr7) (T.obj _ _ st7)
   have again:∀ {s9:Shared} {σ9:St} {H9:Hp},Inv (X.block scope cl (tgs ++ caps.map (·.1)) fp s3 H3) ([] ++ zde fp s7.heap) σ9 H9 s9->N σ9 H9->
     ∃ m,m < n/\∃ i σ' H',Inv (X.block scope cl (tgs ++ caps.map (·.1)) fp s3 H3) [] σ' H' s9/\tn i s9.heap/\(∀ b ∈ fp,H' b = none)/\W i m σ' H':=fun {s9 σ9 H9} I9 n9=>by
    obtain ⟨m',hm,w9⟩:=hN σ9 H9 n9
    refine ⟨m',hm,i + 1,σ9,H9,I9.unpinned,T.keep _ _ _ st7 fun b hb o e=>(I9.pin (b,o) (Qn _ (Qn _ (zaK hb e)))).1,fun b hb=>?_,w9⟩
    obtain ⟨o,e,d⟩:=T.obj _ _ st7 b hb
    exact (I9.pin (b,o) (Qn _ (Qn _ (zaK hb e)))).2.1
   refine Qh (hg fp s3 H3 _ s7 σ5 H7 x u _ I7' r7 (step x H7 y7)) (fun _ s8 ⟨σ8,H8,I8,q8⟩=>?_) fun _ _ z=>False.elim z
   refine Qh (hif fp s3 H3 _ s8 σ8 H8 _ I8 q8) (fun b s9 ⟨H9,I9,q9⟩=>?_) fun _ _ z=>False.elim z
   cases b with
   | false=>
    rw [if_neg Q5] at q9
    rw [if_neg Q5]
    exact again I9 q9
   | true=>
    rw [if_pos rfl] at q9
    rw [if_pos rfl]
    refine Qh (hel fp s3 H3 _ s9 σ8 H9 _ I9 q9) (fun xv s10 ⟨v,H10,I10,rv,ys,hy,hl,q10⟩=>?_) fun _ _ z=>False.elim z
    refine Qh (qJ (X:=X.block scope cl (tgs ++ caps.map (·.1)) fp s3 H3) _ s10 σ8 H10 (.ref s2.heap.objs.size) [v] (.ref s2.heap.objs.size) [xv] (fun _ H11=>N σ8 H11) I10 rfl (.cons rv .nil) ⟨_,ys,v,rfl,rfl,hy,hl,q10⟩) (fun _ s11 ⟨_,H11,I11,_,q11⟩=>again I11 q11) fun _ _ z=>False.elim z
 exact codeAny_compStart_list loop (T.self _ 0 _ _ _ st4 loop)
end
noncomputable def Each {α:Type} (P:α->Prop):List α->Prop
 | []=>True
 | a :: l=>P a/\Each P l
theorem Each.of {α:Type} {P:α->Prop}:∀ {l:List α},Each P l->∀ a ∈ l,P a
 | _ :: _,⟨h,_⟩,_,.head _=>h
 | _ :: _,⟨_,h⟩,_,.tail _ m=>Each.of h _ m
variable {l:List (Str × NameKind)}
theorem lookup_mem {y:Str} {k:NameKind} (h:l.lookup y = some k):(y,k) ∈ l:=by
 induction l with
 | nil=>cases h
 | cons p l ih=>
  obtain ⟨n,k'⟩:=p
  rw [lookup_cons] at h
  cases e:y == n with
  | true=>
   rw [e] at h
   cases h
   rw [eq_of_beq e]
   exact .head _
  | false=>
   rw [e] at h
   exact .tail _ (ih h)
theorem zpn (h:Each (fun p=>(p.2 = .cell\/p.2 = .free)->∃ c,cl.lookup p.1 = some c) l) (y:Str) (q:l.lookup y = some .cell\/l.lookup y = some .free):∃ c,cl.lookup y = some c:=by
 rcases q with q | q
 ·exact h.of _ (lookup_mem q) (.inl rfl)
 ·exact h.of _ (lookup_mem q) (.inr rfl)
theorem PI.or {wi':TI} (h:PI X tg iter wi) (h':PI X tg iter wi'):PI X tg iter (fun σ H R=>wi σ H R\/wi' σ H R):=fun pins s σ H R I q=>q.elim (h pins s σ H R I) (h' pins s σ H R I)
theorem zn4 {bs:List Bool} {its:List Value} (r:Vals (bs.map V.bl) its) {i:Nat} {v:Value} (e:its[i]? = some v):∃ b,bs[i]? = some b/\v = .bool b:=by
 have hl:=r.length
 rw [Qi] at hl
 have hi:i < its.length:=(List.getElem?_eq_some_iff.mp e).1
 have eb:bs[i]? = some bs[i]:=by simp [show i < bs.length by omega]
 have em:(bs.map V.bl)[i]? = some (V.bl bs[i]):=by rw [Qc,eb];rfl
 obtain ⟨u,e2,q⟩:=Vals.get r em
 rw [e] at e2
 cases e2
 exact ⟨_,eb,q⟩
theorem range_all (bs:List Bool):(List.range bs.length).all (fun i=>bs.getD i false) = bs.all id:=by
 rw [Bool.eq_iff_iff,all_eq_true,all_eq_true]
 constructor
 ·intro h b hb
  obtain ⟨i,hi,rfl⟩:=getElem_of_mem hb
  have:=h i (mem_range.mpr hi)
  simpa [List.getD,hi] using this
 ·intro h i hi
  have hi':=mem_range.mp hi
  have:=h bs[i] (getElem_mem hi')
  simpa [List.getD,hi'] using this
section
theorem zkX (hc:X.calm = true):CallR X (.builtin "all") (fun xs H Q=>∃ (p:Addr) (bs:List Bool),xs = [.ref p]/\SqL X.K H p (bs.map V.bl)/\Q (.bl (bs.all id)) H):=by
 intro pins s σ H xs us Q I r h
 obtain ⟨p,bs,rfl,hq,q⟩:=h
 obtain ⟨u,rfl,rx⟩:=vals1 r
 cases rx
 obtain ⟨its,r',pl,hz⟩:=I.list hq
 have hlen:=r'.length
 rw [Qi] at hlen
 refine call_all_walk (wpAny_pyIter_list pl.isList ?_)
 have hlt:p < s.heap.objs.size:=by
  obtain ⟨o,n,ho,_⟩:=pl
  exact Qf ho
 refine ⟨s.heap.objs.size,_,_,_,_,_,fun i=>bs.getD i false,rfl,Walks.list (by exact I.ok.hd hc) _ p (Ql hlt) its.toArray,⟨⟨_,Qm _ rfl,rfl,rfl⟩,?_⟩,?_,fun h' tk hk=>?_⟩
 ·obtain ⟨o,ho,c⟩:=pl.isList
  exact ⟨o,Q3 _ ho,c⟩
 ·intro i v s' Q' E' e hq'
  obtain ⟨b,eb,rfl⟩:=zn4 r' (show its[i]? = some v by simpa using e)
  have:bs.getD i false = b:=by simp [List.getD,eb]
  have hq2:Q' (bs.getD i false) s':=hq'
  rw [this] at hq2
  exact wpAny_truthy_bool hq2
 ·have e:(List.range its.toArray.size).all (fun i=>bs.getD i false) = bs.all id:=by
   rw [← range_all bs,show its.toArray.size = bs.length by simp [hlen]]
  rw [e]
  refine ⟨.bl (bs.all id),H,I.kept (t':=tk) (fun b o eb=>hk b o (fun z=>?_) (Q3 _ eb)),rfl,q⟩
  have z':b = s.heap.objs.size:=by simpa using z
  exact absurd (Qf eb) (by rw [z'];exact Qp _)
end
section
noncomputable def zqi (K:Frag):R2:=fun x y H Q=>∃ a b xs ys,x = .ref a/\y = .ref b/\SqT K H a xs/\SqT K H b ys/\xs.length + ys.length<=sizeLine /\
 (xs = []->Q (.ref b) H)/\(xs ≠ []->ys = []->Q (.ref a) H)/\(xs ≠ []->ys ≠ []->∀ p,H p = none->Q (.ref p) (upd H p (.tup (xs ++ ys))))
theorem zng:OpR X (binaryOp .Add) (zqi X.K):=by
 intro pins s σ H x y v u Q I rx ry h
 obtain ⟨a,b,xs,ys,rfl,rfl,ha,hb,hz,q0,q1,q2⟩:=h
 by_cases hx:xs = []
 ·cases rx
  cases ry
  obtain ⟨its,r1,p1,_⟩:=I.tuple ha
  obtain ⟨its2,r2,p2,_⟩:=I.tuple hb
  obtain ⟨⟨cls,dd,data,sl⟩,ho,hc,n,hd⟩:=id p1
  obtain ⟨⟨cls2,dd2,data2,sl2⟩,ho2,hc2,n2,hd2⟩:=id p2
  simp only at hc hd hc2 hd2
  subst hc hd hc2 hd2
  have e:its = []:=r1.nil_iff.mpr hx
  exact concat_meets ⟨_,ho,rfl⟩ ⟨_,ho2,rfl⟩ noFill_tuple_add seq_tuple_add PySem.F.slot_tuple_add PySem.F.entry_tuple_add (PySem.F.args_tuple_add_2 _ _)
   (tuple_addW0 a b its.toArray its2.toArray n n2 dd dd2 sl sl2 (by simp [e])) ⟨ho,ho2,⟨.ref b,H,I,rfl,q0 hx⟩⟩
 ·exact zne pins s σ H _ _ v u Q I rx ry ⟨a,b,xs,ys,rfl,rfl,ha,hb,hx,hz,q1 hx,q2 hx⟩
end
end L2
namespace HT
open PySem PySem.Spec PyProof.Rows
section
variable {prog:Program} {w:World} {A:Around} {E:Value->Shared->Prop} {s:Shared}
theorem zdO {t sl:Addr} {items:Array Value} {vl vu:Value} {lo hi:Option Int} {Q:Value->Shared->Prop} (ht:IsTup s.heap t items) (hs:s.heap.IsSliceOf sl vl vu .none) (pl:IsPart vl lo) (pu:IsPart vu hi)
  (hw:sIx items.size 0 lo = 0/\sIx items.size items.size hi = items.size) (h:Q (.ref t) s):wpAny (model prog w) A (getItem (.ref t) (.ref sl)) Q E s:=by
 obtain ⟨os,hos,hcs,hds⟩:=id hs
 have hTs:s.TypeIs (.ref sl) "slice":=⟨os,hos,hcs⟩
 unfold getItem
 try with_reducible refine wpAny_holding ?_
 first | refine Q2 (Qg ?_) | skip
 refine Q2 (wpAny_sequenceKey ht.typeIs (by decide) ?_)
 refine Q2 (wpAny_callSpecial?_slot (name:=Str.ofString "__getitem__") ht.typeIs PyProof.Rows.slot_tuple_getitem
  (wpAny_call_entry PyProof.Rows.slot_tuple_getitem ht.typeIs entry_tuple_getitem ?_ (args_tuple_getitem _ _)))
 show wpAny _ _ (Builtin.Tuple.tupleItemsOf (.ref t) >>= _) _ _ s
 refine Q2 (tupleItemsOf_ ht ?_)
 refine Q2 (wpAny_typeOf hTs ?_)
 rw [if_pos (by decide)]
 refine Q2 (zcs hs pl pu ?_)
 have hyes:(((sIx items.size 0 lo:Nat):Int) == 0 && (1:Int) == 1 && (sIx items.size items.size hi - sIx items.size 0 lo) == items.size) = true:=by
  rw [hw.1,hw.2];simp
 show wpAny _ _ (if (((sIx items.size 0 lo:Nat):Int) == 0 && (1:Int) == 1 && (sIx items.size items.size hi - sIx items.size 0 lo) == items.size) = true then _ else _) _ _ s
 rw [if_pos hyes]
 refine Q2 ?_
 unfold Builtin.Tuple.tupleIsExact
 refine Q2 (wpAny_typeOf ht.typeIs (Qg ?_))
 rw [if_pos (by decide)]
 exact Q2 (wpAny_rule (Qg ⟨_,rfl,Qg h⟩))
end
end HT
namespace L2
open PySem PySem.Spec PyProof.Rows
variable {X:Cx}
section
noncomputable def zrd (K:Frag):V->Option Int->Option Int->Hp->VK->Prop:=fun x lo hi H Q=>∃ a xs,x = .ref a/\SqT K H a xs /\
 ((HT.sIx xs.length 0 lo = 0/\HT.sIx xs.length xs.length hi = xs.length)->Q (.ref a) H)/\(¬ (HT.sIx xs.length 0 lo = 0/\HT.sIx xs.length xs.length hi = xs.length)->∀ p,H p = none->Q (.ref p) (upd H p (.tup (cutV xs lo hi))))
theorem zmM:SlR X (zrd X.K):=by
 intro pins s σ H x v vl vu lo hi sl Q I rx hs pl pu h
 obtain ⟨a,xs,rfl,hx,q1,q2⟩:=h
 by_cases hw:HT.sIx xs.length 0 lo = 0/\HT.sIx xs.length xs.length hi = xs.length
 ·cases rx
  obtain ⟨its,r,ht,hz⟩:=I.tuple hx
  have hlen:its.toArray.size = xs.length:=by rw [Qj];exact r.length.symm
  refine ⟨"tuple",_,PyProof.Rows.slot_tuple_getitem.lookup,ht.typeIs,?_⟩
  refine HT.zdO ht hs pl pu (by rw [hlen];exact hw) ⟨.ref a,H,I,rfl,q1 hw⟩
 ·exact zok pins s σ H _ v vl vu lo hi sl Q I rx hs pl pu ⟨a,xs,rfl,hx,hw,q2 hw⟩
theorem ze4:fillsNumberSlot (.type "tuple") "mul" = pure false:=
 PySem.fillsNumberSlot_seq (id:="tuple.__mul__") (r:=some (.builtin "tuple.__rmul__")) PySem.F.slot_tuple_mul.lookup (by decide +kernel) PySem.F.slot_tuple_rmul.lookup (by decide +kernel)
theorem zhk:seqRepeat? (.type "tuple") = pure (some (.builtin "tuple.__mul__")):=by
 unfold seqRepeat?
 rw [PySem.seqSlot_of (T:="tuple") (name:="__mul__") (id:="tuple.__mul__") PySem.F.slot_tuple_mul.lookup (by decide +kernel),PySem.seqSlot_of (T:="tuple") (name:="__rmul__") (id:="tuple.__rmul__") PySem.F.slot_tuple_rmul.lookup (by decide +kernel)]
 rfl
theorem zf3 (a:Int) (t:Tok) (l:Addr) (items:Array Value) (n:Nat) (dd:Option Addr) (sl:Array (Option Value)) :
  Meets (Builtin.«int.__rmul__» ⟨[.int a t,.ref l],[]⟩) (fun _ R s=>s.heap.get? l = some { cls:=.type "tuple",dict:=dd,data:=.seq items n,slots:=sl }/\R (.ok (.ret Value.notImplemented)) s):=
 .of_wp fun prog w A R s h=>by obtain ⟨hp,g,d,tk,os⟩:=s;obtain ⟨hl,h⟩:=h;wp_walk;exact ⟨_,rfl,h⟩
theorem zjb (l:Addr) (items:Array Value) (n:Nat) (x:Int) (u:Tok) (dd:Option Addr) (sl:Array (Option Value)) (h0:items.isEmpty = false) (h1:2<=x) (h2:x < 2 ^ 63) (h3:items.size * x.toNat<=sizeLine) :
  Meets (Builtin.«tuple.__mul__» ⟨[.ref l,.int x u],[]⟩) (fun _ R s=>s.heap.get? l = some { cls:=.type "tuple",dict:=dd,data:=.seq items n,slots:=sl }/\R (.ok (.ret (Value.ref s.heap.objs.size))) { s with heap:=s.heap.push { cls:=Value.type "tuple",data:=Data.seq (List.foldl (fun x1 x2=>x1 ++ x2) #[] (List.replicate x.toNat items)) },toks:=s.toks }):=
 .of_wp fun prog w A R s h=>by
  obtain ⟨hp,g,d,tk,os⟩:=s;obtain ⟨hl,h⟩:=h
  have f1:=AutoSeq1.idx_int
  have hA:¬(decide (x < -2 ^ 63) || decide (x ≥ 2 ^ 63)) = true:=by simp;omega
  have hB:¬(items.isEmpty || x == 1) = true:=by rw [h0];simp;omega
  have hC:¬(decide (x<=0) || items.isEmpty) = true:=by rw [h0];simp;omega
  have hm:((items.size:Nat):Int) * x = ((items.size * x.toNat:Nat):Int):=by
   rw [Int.natCast_mul,Int.toNat_of_nonneg (by omega)]
  have hs2:(sizeLine:Nat)<=(2 ^ 63 - 1) / 8:=by decide
  have hD:¬((items.size:Nat):Int) * x > (2 ^ 63 - 1) / 8:=by rw [hm];omega
  have hE:¬Builtin.Tuple.tupleTooMany (((items.size:Nat):Int) * x) = true:=by
   rw [hm]
   show ¬ decide (((items.size * x.toNat:Nat):Int) > ((sizeLine:Nat):Int)) = true
   rw [decide_eq_true_iff];omega
  have hT:IsTup hp l items:=⟨_,hl,rfl,n,rfl⟩
  wp_walk using wpAny_loadPart' hl
  rw [if_neg hA]
  refine Q2 (tupleItemsOf_ hT ?_)
  show wpAny _ _ (if (items.isEmpty || x == 1) = true then _ else _) _ _ _
  rw [if_neg hB]
  show wpAny _ _ (if (decide (x<=0) || items.isEmpty) = true then _ else _) _ _ _
  rw [if_neg hC]
  show wpAny _ _ (if ((items.size:Nat):Int) * x > (2 ^ 63 - 1) / 8 then _ else _) _ _ _
  rw [if_neg hD]
  show wpAny _ _ (if Builtin.Tuple.tupleTooMany (((items.size:Nat):Int) * x) = true then _ else _) _ _ _
  rw [if_neg hE]
  have hj:(List.foldl (fun x1 x2=>x1 ++ x2) #[] (List.replicate x.toNat items)).size<=sizeLine:=by
   have:=foldl_rep items.toList x.toNat []
   rw [nil_append,Array.toArray_toList] at this
   rw [this,Qj,len_rep,Nat.mul_comm,Array.length_toList]
   exact h3
  exact Q2 (m:=Builtin.Tuple.tupleExact _) (Qv (Qg ⟨_,rfl,h⟩) hj)
noncomputable def zqe (K:Frag):R2:=fun x y H Q=>∃ l k xs,x = .ref l/\y = .int k/\SqT K H l xs/\xs ≠ []/\2<=k/\k < 2 ^ 63/\xs.length * k.toNat<=sizeLine /\
 ∀ p,H p = none->Q (.ref p) (upd H p (.tup (List.replicate k.toNat xs).flatten))
theorem zna:OpR X (binaryOp .Mult) (zqe X.K):=by
 intro pins s σ H x y v u Q I rx ry h
 obtain ⟨l,k,xs,rfl,rfl,hH,hx,h1,h2,hz,q⟩:=h
 cases rx
 obtain ⟨t,rfl⟩:=ry
 obtain ⟨its,r,pl,_⟩:=I.tuple hH
 have hl:=r.length
 obtain ⟨⟨cls,dd,data,sl⟩,ho,hc,n,hd⟩:=id pl
 simp only at hc hd
 subst hc hd
 have hlen:its.toArray.size * k.toNat<=sizeLine:=by rw [Qj,← hl];exact hz
 have hne:its.toArray.isEmpty = false:=by
  cases its with
  | nil=>exact absurd (r.nil_iff.mp rfl) hx
  | cons a b=>rfl
 have hnew:List.foldl (fun x1 x2=>x1 ++ x2) #[] (List.replicate k.toNat its.toArray) = (List.replicate k.toNat its).flatten.toArray:=by
  have:=foldl_rep its k.toNat []
  rw [nil_append] at this
  exact this
 refine wpAny_binaryOp_repeat_ref (T:="tuple") (U:="int") (by decide) ⟨_,ho,rfl⟩ (fun s'=>typeIs_int s' k t) ze4 F.fills_int_mul F.slot_int_rmul zhk F.slot_int_index.lookup
  (call_meets F.slot_int_rmul (typeIs_int s k t) F.entry_int_rmul (F.args_int_rmul_2 _ _) (zf3 k t l its.toArray n dd sl)
   ⟨ho,rfl,⟨_,ho,rfl⟩,call_meets F.slot_tuple_mul ⟨_,ho,rfl⟩ F.entry_tuple_mul (F.args_tuple_mul_2 _ _) (zjb l its.toArray n k t dd sl hne h1 h2 hlen) ⟨ho,?_⟩⟩)
 rw [hnew]
 refine ⟨.ref s.heap.objs.size,_,I.laid (t':=s.toks) (o:=.tup (List.replicate k.toNat xs).flatten) (fun b ob q=>Q3 _ q) (Q4 _) ?_,rfl,q _ (I.hok.fresh (Q4 _))⟩
 exact ⟨by rw [len_rep,Nat.mul_comm];exact hz,_,r.rep k.toNat,IsTup.new _ _,NoDict.new⟩
end
section
theorem zdC {i0:Nat} {y0:Str} {py spos:Pos} {tg elt iter:Expr} {ifs:List Expr} {scope:Scope} {cl:List (Str × Addr)} {pos:Pos} {tgs:List Str} {caps:List (Str × Nat)} {wi:TI} {g:TG} {tc:TT} {te:TE}
  (hc:X.calm = true) (hi:PI X tg iter wi) (hclos:closureFor scope X.env = pure cl) (hcell:∀ y ∈ scope.names,y.2 = .cell->y.1 ∉ caps.map (·.1)) (hkind:scope.kind = .function)
  (hnames:∀ y ∈ scope.names,y.2 = .local->scope.names.lookup y.1 = some .local)
  (hcl:∀ y c,cl.lookup y = some c->X.env.cells.lookup y = some c)
  (hhas:∀ n y,((relabel scope X.env).names.lookup y = some .cell\/(relabel scope X.env).names.lookup y = some .free)->∃ c,(cellsFrom n scope.names cl).lookup y = some c)
  (hcap:∀ c ∈ caps,X.N[c.2]? = some c.1/\X.env.kindOf c.1 = some .cell/\((relabel scope X.env).names.lookup c.1 = some .cell\/(relabel scope X.env).names.lookup c.1 = some .free))
  (hg:∀ ex s0 H0,PG (X.block scope cl (tgs ++ caps.map (·.1)) ex s0 H0) tg g) (hif:∀ ex s0 H0,PTs (X.block scope cl (tgs ++ caps.map (·.1)) ex s0 H0) ifs tc) (hel:∀ ex s0 H0,PE (X.block scope cl (tgs ++ caps.map (·.1)) ex s0 H0) elt te)
  (hN0:X.N.Nodup) (hi0:X.N[i0]? = some y0) (hx0:Loc X.env.scope y0)
  (hsw:swapsWith (.ListComp elt [⟨tg,iter,ifs,0⟩] scope pos) (some (.Name y0 py)) spos.line X.env = pure true:=by rfl)
  (hf0:X.fn y0 = true\/X.env.scope.names.lookup y0 = some .local:=by first | exact .inl rfl | exact .inr rfl | assumption)
  (hs:∀ x,foldedSetIterable iter X.env x = pure x:=by intro _;rfl) :
  PS X (.Assign [.Name y0 py] (.ListComp elt [⟨tg,iter,ifs,0⟩] scope pos) spos) (fun D σ H=>zgS wi g tc te (zaE tgs caps) σ H fun v H'=>D.nx (σ.set i0 (some v)) H'):=by
 intro pins s σ H DD I h
 rw [exec_Assign_Name_used _ _ _ _ hsw]
 refine Q2 (wpAny_standAt (Q2 ?_))
 show wpAny _ X.A (do let _ ← comprehension (.ListComp elt [⟨tg,iter,ifs,0⟩] scope pos) scope X.env _ (newList []) false (eval iter X.env) (some (assign (.Name y0 py) X.env))) _ _ s
 refine Q2 (Qh (wpAny_comprehension_free (use:=some (assign (.Name y0 py) X.env)) (Q:=fun _ s'=>SP X pins DD .next s') rfl hs hclos hkind hnames
  (thn (hi pins s σ H _ I h) fun v s1 h1=>thn h1 fun itv s2 h2=>?_)) (fun _ s' hq=>Qg (Qg hq)) fun _ _ e=>e)
 obtain ⟨it,fp,tn,J,H2,e,I2,T,st2,f2,hrest⟩:=h2
 subst e
 -- the new list
 have hD:H2 s2.heap.objs.size = none:=I2.fresh
 obtain ⟨W,⟨m0,w0⟩,turn⟩:=hrest _ hD
 refine Qv ?_ (by show 0<=sizeLine;decide)
 have I3:Inv X pins σ (upd H2 s2.heap.objs.size (.lst [])) { s2 with heap:=s2.heap.push { cls:=.type "list",data:=.seq ([]:List Value).toArray } }:=I2.lnew (t':=s2.toks) (ys:=[]) (its:=[]) .nil (by show 0<=sizeLine;decide)
 generalize hs3:({ s2 with heap:=s2.heap.push { cls:=.type "list",data:=.seq ([]:List Value).toArray } }:Shared) = s3 at I3
 have lt2:∀ b o,s2.heap.get? b = some o->s3.heap.get? b = some o:=fun b o e=>by rw [← hs3];exact Q3 _ e
 have sz3:s2.heap.objs.size < s3.heap.objs.size:=by rw [← hs3];show _ < (s2.heap.push _).objs.size;rw [Heap.size_push];exact Nat.lt_succ_self _
 have st3:tn 0 s3.heap:=T.keep 0 _ _ st2 fun b _ o e=>lt2 b o e
 have fplt:∀ b ∈ fp,b < s2.heap.objs.size:=fun b hb=>by
  obtain ⟨o,e,_⟩:=T.obj 0 _ st2 b hb
  exact Qf e
 generalize hH3:upd H2 s2.heap.objs.size (.lst []) = H3 at I3 w0
 have fr3:∀ b ∈ fp,H3 b = none:=fun b hb=>by rw [← hH3,yh (Ql (fplt b hb))];exact (f2 b hb).1
 have nstk:∀ b ∈ fp,b ∉ frs X.stack:=fun b hb z=>by
  obtain ⟨_,n1,n2,_⟩:=f2 b hb
  rcases mem_cons.mp (I2.stkSub b z) with z | z
  ·exact n1 z
  ·exact n2 z
 refine zaj fun h4 ns4 sb4=>?_
 have keep4:∀ b o,s3.heap.get? b = some o->h4.get? b = some o:=fun b o e=>by rw [sb4];exact pushCells_keeps _ _ b o (Q3 _ e)
 have clt:∀ x c,cl.lookup x = some c->c < s3.heap.objs.size:=fun x c e=>by
  obtain ⟨v,q⟩:=I3.cell x c (hcl x c e)
  exact q.lt
 have cor:∀ x c,(cellsFrom (s3.heap.objs.size + 1) scope.names cl).lookup x = some c->cl.lookup x = some c\/s3.heap.objs.size + 1<=c:=fun x c e=>zgY _ _ _ e
 have cne:∀ b ∈ fp,∀ x c,(cellsFrom (s3.heap.objs.size + 1) scope.names cl).lookup x = some c->c ≠ b:=fun b hb x c e=>by
  rcases cor x c e with e | e
  ·exact (f2 b hb).2.2.2.2.1 x c (hcl x c e)
  ·exact Nat.ne_of_gt (Q6 (Nat.lt_trans (fplt b hb) sz3) (Nat.le_of_succ_le e))
 have neC:∀ b ∈ fp,b ≠ s3.heap.objs.size:=fun b hb=>Ql (Nat.lt_trans (fplt b hb) sz3)
 have ok':(X.block scope cl (tgs ++ caps.map (·.1)) fp s3 H3).Ok:=
  ⟨I.ok.mod,hkind,I.ok.glob,I.ok.blt,Q4 _,zfR _ _ _ (fun x y c e1 e2=>I.ok.inj x y c (hcl x c e1) (hcl y c e2)) (fun x c e=>Nat.lt_succ_of_lt (clt x c e)),hhas _,(fun x c z e=>Nat.le_of_succ_le (zfP _ _ _ (eq_of_beq z) e)),I.ok.hd,I.ok.frames,.inl rfl,
   fun b hb=>⟨neC b hb,cne b hb⟩,I3.bs,Qk I.ok.bsz I3.sz,fun b o e hb=>by
    rcases (f2 b hb).2.2.2.1 with z | z
    ·exact I.ok.noex b o e z
    ·exact absurd (Q6 (Qf e) (Qk I.ok.bsz z)) (Qp _),
   nstk,I3.stack,I3.stkFree⟩
 have I4:Inv (X.block scope cl (tgs ++ caps.map (·.1)) fp s3 H3) [] (zaE tgs caps σ) H3 { s3 with heap:=h4 }:=by
  refine ⟨ok',rfl,I3.bare,Un.kept keep4,⟨_,ns4,fun i x v e1 e2 e3=>?_⟩,fun x c e=>?_,I3.hok.fresh (Q4 _),fun x c e=>(cor x c e).elim (fun e=>I3.freeC x c (hcl x c e)) (fun e=>I3.hok.fresh (Nat.le_of_succ_le e)),fun p hp=>by simp [Cx.block] at hp,I3.hok.kept keep4,by simp [zaE,Cx.block]⟩
  ·-- a captured name
   have hlen:(tgs.map (fun _=>(none:Option V))).length = tgs.length:=by simp
   by_cases hi:i < tgs.length
   ·have:(zaE tgs caps σ)[i]? = some none:=by
     unfold zaE
     rw [Q7 (by simpa using hi)]
     simp [hi]
    rw [this] at e2
    cases e2
   ·have e1':(tgs ++ caps.map (·.1))[i]? = some x:=e1
    rw [Q9 (by omega),Qc] at e1'
    have e2':=e2
    unfold zaE at e2'
    rw [Q9 (by simpa using hi),hlen,Qc] at e2'
    cases hcq:caps[i - tgs.length]? with
    | none=>rw [hcq] at e1';cases e1'
    | some cq=>
     rw [hcq] at e1' e2'
     have ex:cq.1 = x:=Qe e1'
     have ev:(σ[cq.2]?).join = some v:=Qe e2'
     obtain ⟨c1,c2,c3⟩:=hcap cq (Qb hcq)
     have ev':σ[cq.2]? = some (some v):=by
      cases q:σ[cq.2]? with
      | none=>rw [q] at ev;cases ev
      | some o=>rw [q] at ev;cases o with
       | none=>cases ev
       | some v'=>rw [show v' = v from Qe ev]
     obtain ⟨m,hn,hl⟩:=I3.loc
     obtain ⟨u,r,lk⟩:=hl cq.2 cq.1 v c1 ev' (.inr (.inl c2))
     rcases lk with ⟨k1,_⟩ | ⟨_,c,ec,icl⟩
     ·rw [c2] at k1;cases k1
     ·obtain ⟨c',ec'⟩:=hhas (s3.heap.objs.size + 1) cq.1 c3
      have ec2:=ec'
      rw [zfQ _ _ _ fun y hy hk hyx=>hcell y hy hk (by rw [hyx];exact List.mem_map_of_mem (Qb hcq))] at ec2
      have:=hcl _ _ ec2
      rw [ec] at this
      cases this
      refine ⟨u,r,.inr ⟨?_,c,?_,?_⟩⟩
      ·rw [← ex];exact c3
      ·rw [← ex];exact ec'
      ·obtain ⟨o,ho,hd⟩:=icl
       exact ⟨o,keep4 _ _ ho,hd⟩
  ·show ∃ v,h4.IsCell c v
   rw [sb4]
   refine zev scope.names _ cl (fun x c f=>?_) x c (by rw [Heap.size_push];exact e)
   obtain ⟨v,o,ho,hd⟩:=I3.cell x c (hcl x c f)
   exact ⟨v,o,Q3 _ ho,hd⟩
 have stat:∀ {H':Hp},(∀ b ∈ fp,H' b = none)->∀ b ∈ fp,zee (X.block scope cl (tgs ++ caps.map (·.1)) fp s3 H3) [] H' b:=fun hn b hb=>
  ⟨hn b hb,neC b hb,nstk b hb,.inl hb,cne b hb,fun p hp=>by simp [Cx.block] at hp⟩
 have st4:tn 0 h4:=T.keep 0 _ _ st3 fun b _ o e=>keep4 b o e
 have loop:codeAny (model X.prog X.w) X.A (.compLoop (.ListComp elt [⟨tg,iter,ifs,0⟩] scope pos) 0 (.ref it) (.ref s2.heap.objs.size) (zfg scope cl s3.heap.objs.size X.env))
   (compPost (model X.prog X.w) X.A X.xe (some (assign (.Name y0 py) X.env)) (fun _ s'=>SP X pins DD .next s') (.ref s2.heap.objs.size) s3.heap.objs.size) { s3 with heap:=h4 }:=by
  refine zbw (fun n s'=>∃ i σ' H',Inv (X.block scope cl (tgs ++ caps.map (·.1)) fp s3 H3) [] σ' H' s'/\tn i s'.heap/\(∀ b ∈ fp,H' b = none)/\W i n σ' H') ?_ m0 ⟨0,_,H3,I4,st4,fr3,w0⟩
  rintro n s5 ⟨i,σ5,H5,I5,st5,fr5,w5⟩
  rcases turn i n σ5 H5 w5 with ⟨stop,qn⟩ | ⟨go,N,hN,step⟩
  ·refine Qh (T.done (X.block scope cl (tgs ++ caps.map (·.1)) fp s3 H3) rfl rfl rfl hc i [] s5 σ5 H5 (fun _ _=>False) I5 (stat fr5) st5 stop) (fun r s6 ⟨hr,I6⟩=>?_) fun _ _ z=>False.elim z
   subst hr
   obtain ⟨m6,hn6,_⟩:=I6.loc
   have nb:∀ b o,s3.heap.get? b = some o->b ≠ s3.heap.objs.size:=fun b o e=>Ql (Qf e)
   have uX:Un (frs X.stack) fp H3 H5 s3.heap s6.heap:=I6.base
   have os6:s6.os = s3.os:=I6.os
   have I6X:Inv X pins σ H5 s6:=I3.call' (s':=s6) (ch:=fp) os6 uX I6.hok I6.bare (fun b hb=>⟨(f2 b hb).2.2.2.1,(f2 b hb).2.1,(f2 b hb).2.2.2.2.1,(f2 b hb).2.2.2.2.2⟩)
   have hfC:H5 s3.heap.objs.size = none:=I6.free
   show wpAny _ X.A (assign (.Name y0 py) X.env (.ref s2.heap.objs.size)) _ _ s6
   refine wpAny_assign_Name (zgt I6X hN0 hi0 hx0 (v:=.ref s2.heap.objs.size) rfl (fun s7 I7 ⟨a,sa,ha⟩=>?_) hf0)
   have aC:s3.heap.objs.size ≠ a:=fun z=>by
    rcases ha with ha | ha
    ·have h3:=I3.lt
     rw [ha] at z
     rw [← z] at h3
     exact Qp _ h3
    ·obtain ⟨v,q⟩:=I3.cell _ _ ha
     have:=q.lt
     rw [← z] at this
     exact Qp _ this
   refine ⟨m6,hn6.sameBut sa aC,fun h' sb=>?_⟩
   have eqb:∀ b,b ≠ s3.heap.objs.size->h'.get? b = s7.heap.get? b:=fun b hb=>sb.2 b hb
   have uY:Un (frs X.stack) [s3.heap.objs.size] H5 H5 s7.heap h':=by
    refine ⟨fun b o e a1 a2 a3=>?_,fun b o e a1 a2 a3=>?_,fun _ _ _ q _=>q,fun b o e a3=>?_,fun _ _ q=>q,fun _ _ _ q=>q,fun b ps q=>⟨#[],by simpa using q⟩⟩
    ·rw [eqb b (fun z=>a3 (by rw [z];exact .head _))];exact e
    ·exact ⟨o.slots,by rw [eqb b (fun z=>a3 (by rw [z];exact .head _))];exact e⟩
    ·exact ⟨o,by rw [eqb b (fun z=>a3 (by rw [z];exact .head _))];exact e⟩
   have hokY:HOk X.prog X.w H5 h':=fun a o e=>(I7.hok a o e).stay (fun b u hb eu=>by
    have hbC:b ≠ s3.heap.objs.size:=fun z=>by
     rcases hb with rfl | hb
     ·rw [z,hfC] at e;cases e
     ·rw [z,hfC] at hb;cases hb
    rw [eqb b hbC];exact eu) (fun _ q=>q) fun _ _ q=>q
   refine ⟨σ.set i0 (some (.ref s2.heap.objs.size)),H5,I7.call' (s':={ s7 with heap:=h' }) (ch:=[s3.heap.objs.size]) rfl uY hokY I7.bare (fun b hb=>?_),qn⟩
   rw [mem_singleton.mp hb]
   refine ⟨.inr I3.sz,Nat.ne_of_gt I3.lt,fun x c e z=>?_,fun p hp z=>?_⟩
   ·obtain ⟨v,q⟩:=I3.cell x c e
    have:=q.lt
    rw [z] at this
    exact Qp _ this
   ·have:=Qf (I3.pin p hp).1
    rw [z] at this
    exact Qp _ this
  ·refine Qh (T.item (X.block scope cl (tgs ++ caps.map (·.1)) fp s3 H3) rfl rfl rfl hc i [] s5 σ5 H5 (fun _ _=>False) I5 (stat fr5) st5 go) (fun r s6 ⟨u,hr,h6⟩=>?_) fun _ _ z=>False.elim z
   subst hr
   refine Qh h6 (fun _ s7 ⟨x,H7,I7,r7,y7,st7,fr7⟩=>?_) fun _ _ z=>False.elim z
   have I7':=I7.pinned (stat fr7) (T.obj _ _ st7)
   have again:∀ {s9:Shared} {σ9:St} {H9:Hp},Inv (X.block scope cl (tgs ++ caps.map (·.1)) fp s3 H3) ([] ++ zde fp s7.heap) σ9 H9 s9->N σ9 H9->
     ∃ m,m < n/\∃ i σ' H',Inv (X.block scope cl (tgs ++ caps.map (·.1)) fp s3 H3) [] σ' H' s9/\tn i s9.heap/\(∀ b ∈ fp,H' b = none)/\W i m σ' H':=fun {s9 σ9 H9} I9 n9=>by
    obtain ⟨m',hm,w9⟩:=hN σ9 H9 n9
    refine ⟨m',hm,i + 1,σ9,H9,I9.unpinned,T.keep _ _ _ st7 fun b hb o e=>(I9.pin (b,o) (Qn _ (Qn _ (zaK hb e)))).1,fun b hb=>?_,w9⟩
    obtain ⟨o,e,d⟩:=T.obj _ _ st7 b hb
    exact (I9.pin (b,o) (Qn _ (Qn _ (zaK hb e)))).2.1
   refine Qh (hg fp s3 H3 _ s7 σ5 H7 x u _ I7' r7 (step x H7 y7)) (fun _ s8 ⟨σ8,H8,I8,q8⟩=>?_) fun _ _ z=>False.elim z
   refine Qh (hif fp s3 H3 _ s8 σ8 H8 _ I8 q8) (fun b s9 ⟨H9,I9,q9⟩=>?_) fun _ _ z=>False.elim z
   cases b with
   | false=>
    rw [if_neg Q5] at q9
    rw [if_neg Q5]
    exact again I9 q9
   | true=>
    rw [if_pos rfl] at q9
    rw [if_pos rfl]
    refine Qh (hel fp s3 H3 _ s9 σ8 H9 _ I9 q9) (fun xv s10 ⟨v,H10,I10,rv,ys,hy,hl,q10⟩=>?_) fun _ _ z=>False.elim z
    refine Qh (qJ (X:=X.block scope cl (tgs ++ caps.map (·.1)) fp s3 H3) _ s10 σ8 H10 (.ref s2.heap.objs.size) [v] (.ref s2.heap.objs.size) [xv] (fun _ H11=>N σ8 H11) I10 rfl (.cons rv .nil) ⟨_,ys,v,rfl,rfl,hy,hl,q10⟩) (fun _ s11 ⟨_,H11,I11,_,q11⟩=>again I11 q11) fun _ _ z=>False.elim z
 exact codeAny_compStart_list loop (T.self _ 0 _ _ _ st4 loop)
end
theorem zeA (ns:List Int):∀ j,j<=ns.length->preSum (fun i=>ns.getD i 0) j = (ns.take j).sum
 | 0,_=>by simp [preSum]
 | j + 1,h=>by
  have hj:j < ns.length:=h
  unfold preSum
  rw [zeA ns j (Nat.le_of_lt hj),show ns.take (j + 1) = ns.take j ++ [ns[j]] from (by rw [List.take_succ_eq_append_getElem hj]),sum_append]
  simp [List.getD,hj]
theorem ints_get {ns:List Int} {its:List Value} (r:Vals (ns.map V.int) its) {i:Nat} {v:Value} (e:its[i]? = some v):∃ t,v = .int (ns.getD i 0) t:=by
 have hl:=r.length
 rw [Qi] at hl
 have hi:i < its.length:=(List.getElem?_eq_some_iff.mp e).1
 have eb:ns[i]? = some ns[i]:=by simp [show i < ns.length by omega]
 have em:(ns.map V.int)[i]? = some (V.int ns[i]):=by rw [Qc,eb];rfl
 obtain ⟨u,e2,t,q⟩:=Vals.get r em
 rw [e] at e2
 cases e2
 exact ⟨t,by rw [q];simp [List.getD,eb]⟩
section
theorem zkQ (hc:X.calm = true):CallR X (.builtin "sum") (fun xs H Q=>∃ (p:Addr) (ns:List Int),xs = [.ref p]/\SqL X.K H p (ns.map V.int)/\Q (.int ns.sum) H):=by
 intro pins s σ H xs us Q I r h
 obtain ⟨p,ns,rfl,hq,q⟩:=h
 obtain ⟨u,rfl,rx⟩:=vals1 r
 cases rx
 obtain ⟨its,r',pl,hz⟩:=I.list hq
 have hlen:=r'.length
 rw [Qi] at hlen
 refine call_sum_walkAnyS (wpAny_pyIter_list pl.isList ?_)
 have hlt:p < s.heap.objs.size:=by
  obtain ⟨o,n,ho,_⟩:=pl
  exact Qf ho
 refine ⟨s.heap.objs.size,_,_,_,_,_,_,fun i=>ns.getD i 0,rfl,(Walks.list (by exact I.ok.hd hc) _ p (Ql hlt) its.toArray).toS,⟨⟨_,Qm _ rfl,rfl,rfl⟩,?_⟩,?_,fun i v e=>ints_get r' (show its[i]? = some v by simpa using e),fun s' t' hm=>?_⟩
 ·obtain ⟨o,ho,c⟩:=pl.isList
  exact ⟨o,Q3 _ ho,c⟩
 ·intro b hb
  rw [show ({ s with heap:=s.heap.push _ }:Shared).heap.objs.size = s.heap.objs.size + 1 from Heap.size_push ..]
  rcases mem_cons.mp hb with rfl | hb
  ·exact Nat.lt_succ_self _
  ·rw [mem_singleton.mp hb];exact Nat.lt_succ_of_lt hlt
 ·obtain ⟨h',g',d',tk,o'⟩:=s'
  have e1:g' = s.gens:=hm.gens
  have e2:d' = s.drawn:=hm.drawn
  have e3:o' = s.os:=hm.os
  subst e1;subst e2;subst e3
  have e:preSum (fun i=>ns.getD i 0) its.toArray.size = ns.sum:=by
   rw [show its.toArray.size = ns.length by simp [hlen],zeA ns _ (Q4 _),take_length]
  rw [e]
  refine ⟨.int ns.sum,H,I.kept (t':=tk) (fun b o eb=>hm.heap b o (fun z=>?_) (Q3 _ eb)),⟨t',rfl⟩,q⟩
  have z':b = s.heap.objs.size:=by simpa using z
  exact absurd (Qf eb) (by rw [z'];exact Qp _)
theorem zlZ:zh2 X (zlt X.K):=by
 intro pins s σ H x y v u Q I rx ry h
 obtain ⟨p,xs,i,z,rfl,rfl,hq,he,q⟩:=h
 cases rx
 obtain ⟨t,rfl⟩:=ry
 obtain ⟨its,r,pl,hz⟩:=I.list hq
 obtain ⟨j,h1,h2,h3,h4,h5⟩:=zex he
 obtain ⟨w,ew,rw'⟩:=r.get h2
 have hl:=r.length
 have hn:=zb1
 have fin:EP X pins σ Q w s:=⟨z,H,I,rw',q⟩
 by_cases h0:0<=i
 ·have hj:i.toNat = j:=by
   rw [seqIndex_of h0 h5] at h1
   exact Qe h1
  exact wpAny_getItem_list pl.isList h0 (by omega) (by rw [hj];simpa using ew) fin
 ·have hj:(i + (its.toArray.size:Int)).toNat = j:=by
   rw [seqIndex_neg (by omega) h4] at h1
   rw [Qj,← hl]
   exact Qe h1
  exact wpAny_getItem_list_neg pl.isList (by omega) (by rw [Qj] <;> omega) (by omega) (by rw [hj];simpa using ew) fin
end
end L2
namespace L2
open PySem PySem.Spec PyProof.Rows PySem.Builtin PySem.Builtin.ObjectAttr
inductive Tl (h:Heap) (bmB:List Value) (ns:List Str):List Value->Prop
 | base:Tl h bmB ns bmB
 | own {a:Addr} {c:Value} {dd:Option Addr} {cd:ClassData} {sl:Array (Option Value)} {mA:Str->Option Value} {tl:List Value} (e:h.get? a = some ⟨c,dd,.cls cd,sl⟩) (hn:h.Ns cd.ns mA) (no:∀ n ∈ ns,mA n = none) (t:Tl h bmB ns tl):Tl h bmB ns (.ref a :: tl)
variable {C N:Addr} {A:Around} {g:Array GenState} {ab hdct:Bool} {d:Drawn} {h:Heap} {ns sn:List Str} {bm:List Value} {M:Model} {t:Nat} {dd:Option Addr} {col:Option Bool} {k0 k1 k2 k3 k5:Option Value} {os:OsState} {n nm q:Str} {mN:Str->Option Value} {newId:String} {E:Value->Shared->Prop}
section
variable {h':Heap} {bmB tl:List Value}
theorem Tl.tail (T:Tl h bmB ns tl) (hi:("__init__":Str) ∈ ns):OwnTail h bmB tl:=by
 induction T with
 | base=>exact .base
 | own e hn no _ ih=>exact .own e hn (no _ hi) ih
theorem Tl.along {y:Option Value} {Q:Option Value->Shared->Prop} (T:Tl h bmB ns tl) (hm:n ∈ ns) (hB:lookupAlong bmB n = pure y) (hq:Q y ⟨h,g,d,t,os⟩):wpAny M A (lookupAlong tl n) Q E ⟨h,g,d,t,os⟩:=by
 induction T with
 | base=>rw [hB];exact Qg hq
 | own e hn no _ ih=>
  rw [lookupAlong_cons]
  exact Q2 (wpAny_classOwn_cls e hn (by rw [no _ hm];exact ih))
variable {bs:List Value} {sub:List Value} {B:String}
theorem zcE {y:Option Value} {Q:Option Value->Shared->Prop} (hC:h.get? C = some (excClassObj nm q C N bs bm hdct sn sub ab col dd k0 k1 k2 k3 k5 newId)) (hn:h.Ns N mN) (T:Tl h bmB ns bm) (hm:n ∈ ns)
 (hbm:mroOf (.type B) = pure bmB) (hB:typeLookup (.type B) n = pure y) (hq:Q ((mN n).or y) ⟨h,g,d,t,os⟩):wpAny M A (typeLookup (.ref C) n) Q E ⟨h,g,d,t,os⟩:=by
 have hr:lookupAlong bmB n = pure y:=by rw [typeLookup_eq,hbm] at hB;exact hB
 rw [typeLookup_eq]
 refine Q2 (wpAny_mroOf_exc hC ?_)
 rw [lookupAlong_cons]
 refine Q2 (wpAny_classOwn_exc hC hn ?_)
 cases hv:mN n with
 | some v=>rw [hv] at hq;exact Qg hq
 | none=>rw [hv] at hq;exact T.along hm hr hq
end
variable {o:Obj} {prog:Program} {Q:Unit->Shared->Prop} {u v:Value} {w:World}
section
variable {name:Str} {x:Addr} {bs:List Value} {sub:List Value}
theorem zi1 (hC:h.get? C = some (excClassObj nm q C N bs bm true sn sub ab col dd k0 k1 k2 k3 k5 newId)) (T:Tl h zcd ns bm) (hi:("__init__":Str) ∈ ns) (hx:h.get? x = some o) (hc:o.cls = .ref C) (hq:Q () ⟨h,g,d,t,os⟩) :
  wpAny M A (checkBuiltinCall "object.__setattr__" ⟨[.ref x,u,v],[]⟩) Q E ⟨h,g,d,t,os⟩:=by
 have hb:(Value.ref C :: bm).contains (.type "object") = true:=by rw [contains_cons,(T.tail hi).hasType PySem.F.store_ValueError.hasOwner,Bool.or_true]
 simp only [checkBuiltinCall,PySem.F.store_ValueError.kind,PySem.F.store_ValueError.split]
 refine Q2 ?_
 unfold isInstance
 repeat (first | (with_reducible refine wpAny_loadPart_at hx ?_;rw [hc]) | (with_reducible refine wpAny_isSubtype_exc hC ?_;rw [hb]) | wp_step)
 exact hq
theorem zi0 {tk:Tok} {Q:Fin->Shared->Prop} (hC:h.get? C = some (excClassObj nm q C N bs bm true sn sub ab col dd k0 k1 k2 k3 k5 newId)) (hn:h.Ns N mN) (T:Tl h zcd ns bm) (m2:mN name = none) (hm:name ∈ ns)
  (hB:typeLookup (.type "ValueError") name = pure none) (hx:h.get? x = some o) (hc:o.cls = .ref C) (hnc:∀ c,o.data ≠ .cls c) (hd:o.dict = none)
  (hq:∀ h' tk' dx,h.get? dx = none->dx ≠ x->h'.get? x = some { o with dict:=some dx }->h'.Ns1 dx (fun y=>if y = name then some v else none)->(∀ b ob,b ≠ x->h.get? b = some ob->h'.get? b = some ob)->Q (.done (.ret .none)) ⟨h',g,d,tk',os⟩) :
  wpAny (model prog w) A (Builtin.«object.__setattr__» ⟨[.ref x,.str name tk,v],[]⟩) Q E ⟨h,g,d,t,os⟩:=by
 have hp:∀ l,Tl h zcd ns l->refuseLoop (.ref x) "__setattr__" l = pure ():=by
  intro l T
  induction T with
  | base=>exact PySem.F.store_ValueError.passes (.ref x)
  | own _ _ _ _ ih=>rw [refuseLoop_ref];exact ih
 have hp:=hp bm T
 unfold Builtin.«object.__setattr__»
 repeat (first | rw [refuse_eq] | (rw [refuseLoop_ref,hp]) | (with_reducible refine wpAny_loadPart_at hx ?_;rw [hc]) | with_reducible refine wpAny_mroOf_exc hC ?_ | (with_reducible refine zcE hC hn T hm PySem.F.store_ValueError.mro hB ?_;rw [m2]) | wp_step)
 rw [hd,if_neg (by simp [typeHasDict])]
 have e1:(h.push ⟨.type "dict",none,.dict #[] 0,#[]⟩).get? x = some o:=Q3 _ hx
 have ne:x ≠ h.objs.size:=Ql (Qf hx)
 have hfr:=(Heap.get?_some_iff.mp hx).2
 have key:wpAny (model prog w) A (do let d ← alloc ⟨.type "dict",none,.dict #[] 0,#[]⟩;update x fun o=>{ o with dict:=some d };dictMade (.ref C) x d) (fun a s'=>wpAny (model prog w) A (match a with | some d=>storeInDict d (Value.str name tk) name v | none=>noDictFor (Value.ref x) (Value.ref C) name (none.or none:Option Value).isSome) Q E s') E ⟨h,g,d,t,os⟩:=by
  refine Q2 (wpAny_alloc' (Q2 (wpAny_update' e1 (Qg ?_))))
  generalize hg2:(h.push ⟨.type "dict",none,.dict #[] 0,#[]⟩).update x (fun o=>{ o with dict:=some h.objs.size }) = h2
  have gd:h2.get? h.objs.size = some ⟨.type "dict",none,.dict #[] 0,#[]⟩:=by
   rw [← hg2];exact (Heap.get?_update_ne _ _ _ _ ne.symm).trans (Heap.get?_push_at rfl rfl)
  have gx:h2.get? x = some { o with dict:=some h.objs.size }:=by
   rw [← hg2]
   refine Heap.get?_update_self _ e1 ?_
   obtain ⟨oc,od,odt,osl⟩:=o
   cases odt <;> first | rfl | exact hfr
  have nd:h2.Ns h.objs.size (fun _=>none):=⟨_,#[],_,gd,rfl,fun e he=>absurd he (by simp),fun _=>rfl⟩
  show wpAny _ _ (storeInDict h.objs.size (.str name tk) name v) _ _ _
  unfold storeInDict newKeyGuard
  refine Q2 (Qg (Q2 (wpAny_nsSet1 (Heap.Ns1.of_empty nd) fun h' n1 hs=>?_)))
  obtain ⟨oD,esD,epD,a1,a2,a3⟩:=n1.count (Within.cons name v Within.nil)
  refine Q2 (wpAny_lookBehind a1 (by rw [a2];exact pastItsLine_dict (Qk a3 (by rw [Qq,length_nil,sizeLine_eq];omega))) ?_)
  wp_walk
  refine hq h' _ h.objs.size (Heap.get?_none_of_le (Q4 _)) ne.symm ((hs.2 x ne).trans gx) n1 fun b ob hb e=>(hs.2 b (Ql (Qf e))).trans ?_
  rw [← hg2]
  exact (Heap.get?_update_ne _ _ _ _ hb).trans (Q3 _ e)
 cases hdt:o.data with
 | cls c=>exact absurd hdt (hnc c)
 | _=>exact key
theorem zqO (hC:h.get? C = some (excClassObj nm q C N bs bm true sn sub ab col dd k0 k1 k2 k3 k5 newId)) (hn:h.Ns N mN) (T:Tl h zcd ns bm) (hi:("__init__":Str) ∈ ns) (m1:mN "__setattr__" = none) (hs:("__setattr__":Str) ∈ ns) (m2:mN name = none) (hm:name ∈ ns)
 (hB:typeLookup (.type "ValueError") name = pure none) (hx:h.get? x = some o) (hc:o.cls = .ref C) (hnc:∀ c,o.data ≠ .cls c) (hd:o.dict = none)
 (hq:∀ h' tk' dx,h.get? dx = none->dx ≠ x->h'.get? x = some { o with dict:=some dx }->h'.Ns1 dx (fun y=>if y = name then some v else none)->(∀ b ob,b ≠ x->h.get? b = some ob->h'.get? b = some ob)->Q () ⟨h',g,d,tk',os⟩) :
  wpAny (model prog w) A (setAttr (.ref x) name v) Q E ⟨h,g,d,t,os⟩:=by
 have f3:=PySem.F.store_ValueError.slot.bind (.ref x)
 unfold setAttr callSpecial? specialOf
 repeat (any_goals (first | assumption | (with_reducible refine wpAny_loadPart_at hx ?_;rw [hc]) | (with_reducible refine zcE hC hn T hs PySem.F.store_ValueError.mro PySem.F.store_ValueError.slot.lookup ?_;rw [m1]) | wp_step))
 refine codeAny_call_builtin PySem.F.store_ValueError.slot.plain PySem.F.store_ValueError.entry (zi1 hC T hi hx hc (zi0 hC hn T m2 hm hB hx hc hnc hd fun h' tk' dx a1 a2 a3 a4 a5=>?_))
 repeat (any_goals (first | assumption | wp_step))
 exact hq h' tk' dx a1 a2 a3 a4 a5
end
noncomputable abbrev zbv (C:Addr) (t:Addr) (od:Option Addr):Obj:=⟨.ref C,od,.fields #[.ref t,.none,.none,.none,.bool false,.none],#[]⟩
variable {s:Shared}
section
variable {fI:Addr} {bs:List Value} {sub:List Value} {rest:List Value} {oI:Obj}
theorem zi2 {Q:PySem.Fin->Shared->Prop} (hC:h.get? C = some (excClassObj nm q C N bs bm hdct sn sub ab col dd k0 k1 k2 k3 k5 "ValueError.__new__")) (hn:h.Ns N mN) (T:OwnTail h zcd bm) (hi:mN "__init__" = some (.ref fI)) (hf:h.get? fI = some oI) (hc:oI.cls = .type "function")
  (hq:∀ h' e,Heap.MadeExcOf h h' e (.ref C) rest->wpAny (model prog w) A (call (.ref fI) (.ref e :: rest)) (fun r s'=>r = .none/\Q (.done (.ret (.ref e))) s') E ⟨h',g,d,t,os⟩) (hl:rest.length<=sizeLine) :
  wpAny (model prog w) A (Builtin.«type.__call__» ⟨.ref C :: rest,[]⟩) Q E ⟨h,g,d,t,os⟩:=by
 have F:=PySem.F.excBase_ValueError
 repeat (first | with_reducible refine wpAny_loadPart_at hC ?_ | with_reducible refine wpAny_madeBy_exc hC ?_ | wp_step)
 refine codeAny_call_builtin_code (Code.quiet_builtin _ F.quiet) (wpAny_check_new_subT F T hC ?_)
 refine codeAny_exc_new_subT F T hC ?_ hl
 show wpAny _ _ _ _ _ _
 have k2:∀ b o,h.get? b = some o->((h.push ⟨.type "tuple",none,.seq rest.toArray 0,#[]⟩).push (zbv C h.objs.size none)).get? b = some o:=fun b o e=>Q3 _ (Q3 _ e)
 have ge:((h.push ⟨.type "tuple",none,.seq rest.toArray 0,#[]⟩).push (zbv C h.objs.size none)).get? (h.objs.size + 1) = some (zbv C h.objs.size none):=by heap_get
 have hC1:=k2 _ _ hC
 have hcC:(Value.ref C :: bm).contains (.ref C) = true:=by simp
 unfold isInstance
 repeat (first | with_reducible refine wpAny_loadPart_at ge ?_ | (with_reducible refine wpAny_isSubtype_exc hC1 ?_;rw [hcC]) | wp_step)
 show wpAny _ _ (typeLookup (.ref C) _) _ _ _
 refine wpAny_typeLookup_tail hC1 (hn.keeps k2) (T.keeps k2) F.mroIs F.init.lookup ?_
 rw [hi]
 refine wpAny_holding (Q2 ?_)
 unfold bindSpecial
 refine Q2 (wpAny_typeOf (T:="function") ⟨_,k2 _ _ hf,hc⟩ ?_)
 rw [if_pos (by decide)]
 refine Qg (Q2 (Qh (hq _ (h.objs.size + 1) ⟨k2,Heap.get?_none_of_le (Nat.le_succ _),h.objs.size,ge,Heap.get?_none_of_le (Q4 _),?_⟩) (fun r s' hr=>?_) fun _ _ x=>x))
 ·exact Q3 _ (Heap.get?_push_at rfl rfl)
 ·obtain ⟨rfl,hQ⟩:=hr
  wp_walk
  exact hQ
theorem zpY {Q:Value->Shared->Prop} (hC:h.get? C = some (excClassObj nm q C N bs bm hdct sn sub ab col dd k0 k1 k2 k3 k5 "ValueError.__new__")) (hn:h.Ns N mN) (T:OwnTail h zcd bm) (hi:mN "__init__" = some (.ref fI)) (hf:h.get? fI = some oI) (hc:oI.cls = .type "function")
  (hq:∀ h' e,Heap.MadeExcOf h h' e (.ref C) rest->wpAny (model prog w) (A.under (.builtin "type.__call__" ⟨.ref C :: rest,[]⟩)) (call (.ref fI) (.ref e :: rest)) (fun r s'=>r = .none/\Q (.ref e) s') E ⟨h',g,d,t,os⟩) (hl:rest.length<=sizeLine) :
  wpAny (model prog w) A (call (.ref C) rest) Q E ⟨h,g,d,t,os⟩:=by
 have f1:=tc_lookup
 have f2:=tc_bind (.ref C)
 have hT:(⟨h,g,d,t,os⟩:Shared).TypeIs (.ref C) "type":=⟨_,hC,rfl⟩
 refine wpAny_call (codeAny_of_tree ?_)
 show wpAny _ _ (callAny (.ref C) _) _ _ _
 repeat (any_goals (first | assumption | with_reducible refine wpAny_loadPart_at hC ?_ | wp_step))
 refine ⟨rfl,codeAny_call_builtin_at (Code.quiet_builtin _ (by decide +kernel)) entry_typeCall (wpAny_check_type_call_sub hC (zi2 (hl:=hl) hC hn T hi hf hc fun h' e hm=>?_))⟩
 exact hq h' e hm
theorem zn9 {env:PySem.Env} {x:Sem Value} {Q:Flow->Shared->Prop} (hb:bm.contains (.type "BaseException") = true) (hh:A.handled = none)
 (hq:wpAny M A x (fun v s1=>∃ e t od,v = .ref e/\s1.heap.get? C = some (excClassObj nm q C N bs bm hdct sn sub ab col dd k0 k1 k2 k3 k5 "ValueError.__new__")/\s1.heap.get? e = some (zbv C t od)/\E (.ref e) s1) E s) :
  wpAny M A (raiseStmt env (some x) none) Q E s:=by
 have hcB:(Value.ref C :: bm).contains (.type "BaseException") = true:=by rw [contains_cons,hb,Bool.or_true]
 unfold raiseStmt
 refine Q2 (Qh hq (fun v s1 h1=>?_) fun _ _ x=>x)
 obtain ⟨e,t,od,rfl,hC,he,hE⟩:=h1
 obtain ⟨hp,g,d,tk,os⟩:=s1
 repeat (first | with_reducible refine wpAny_loadPart_at he ?_ | with_reducible refine wpAny_loadPart_at hC ?_ | (with_reducible refine wpAny_isSubtype_exc hC ?_;rw [hcB]) | wp_step)
 exact wpAny_raiseNew_none hh hE
end
noncomputable def Qt {α:Type}:Sem α->Prop
 | .pure _=>True
 | .raise _=>True
 | .unsupported _=>True
 | .finish _=>True
 | .rule _ k=>Qt (k ())
 | .at _ k=>Qt (k ())
 | .load _ _ k=>∀ o,Qt (k o)
 | .update _ _ f k=>(∀ o:Obj,(f o).dict = o.dict/\(o.isFreed = false->(f o).isFreed = false))/\Qt (k ())
 | .alloc _ k=>∀ a,Qt (k a)
 | .loadIfAlive _ k=>∀ o,Qt (k o)
 | .point _ k=>Qt (k ())
 | .fresh k=>∀ a,Qt (k a)
 | .ask k=>∀ a,Qt (k a)
 | .handled _ k=>∀ a,Qt (k a)
 | .stack k=>∀ a,Qt (k a)
 | _=>False
theorem Qt.bind {α β:Type} {k:α->Sem β} (hk:∀ a,Qt (k a)):∀ {t:Sem α},Qt t->Qt (t >>= k):=by
 intro t
 induction t with
 | pure a=>exact fun _=>hk a
 | raise e=>exact fun _=>trivial
 | unsupported e=>exact fun _=>trivial
 | finish e=>exact fun _=>trivial
 | rule _ _ ih=>exact fun h=>ih () h
 | «at» _ _ ih=>exact fun h=>ih () h
 | load _ _ _ ih=>exact fun h o=>ih o (h o)
 | update _ _ _ _ ih=>exact fun h=>⟨h.1,ih () h.2⟩
 | alloc _ _ ih=>exact fun h o=>ih o (h o)
 | loadIfAlive _ _ ih=>exact fun h o=>ih o (h o)
 | point _ _ ih=>exact fun h=>ih () h
 | fresh _ ih=>exact fun h o=>ih o (h o)
 | ask _ ih=>exact fun h o=>ih o (h o)
 | handled _ _ ih=>exact fun h o=>ih o (h o)
 | stack _ ih=>exact fun h o=>ih o (h o)
 | _=>exact fun h=>h.elim
def Dk (s s':Shared):Prop:=∀ b o,s.heap.get? b = some o->∃ o',s'.heap.get? b = some o'/\o'.dict = o.dict
theorem Dk.refl (s:Shared):Dk s s:=fun _ o e=>⟨o,e,rfl⟩
theorem Dk.trans {a b c:Shared} (h:Dk a b) (g:Dk b c):Dk a c:=fun x o e=>by
 obtain ⟨o1,e1,d1⟩:=h x o e
 obtain ⟨o2,e2,d2⟩:=g x o1 e1
 exact ⟨o2,e2,d2.trans d1⟩
theorem Qt.wp {α:Type} {Γ:PySem.Ctx} {Q:α->Pos->Shared->Prop} {E:Value->Pos->Shared->Prop}:∀ {t:Sem α} {p:Pos} {s:Shared},Qt t->Sem.wp M Γ t Q E p s->Sem.wp M Γ t (fun a p' s'=>Q a p' s'/\Dk s s') (fun e p' s'=>E e p' s'/\Dk s s') p s:=by
 have up:∀ {t:Sem α} {p:Pos} {s s1:Shared},Dk s s1->Sem.wp M Γ t (fun a p' s'=>Q a p' s'/\Dk s1 s') (fun e p' s'=>E e p' s'/\Dk s1 s') p s1->Sem.wp M Γ t (fun a p' s'=>Q a p' s'/\Dk s s') (fun e p' s'=>E e p' s'/\Dk s s') p s1:=fun k h=>
  Sem.wp_mono M Γ _ (fun _ _ _ z=>⟨z.1,k.trans z.2⟩) (fun _ _ _ z=>⟨z.1,k.trans z.2⟩) _ _ h
 intro t
 induction t with
 | pure a=>exact fun _ h=>⟨h,.refl _⟩
 | raise e=>exact fun _ h=>⟨h,.refl _⟩
 | unsupported e=>exact fun _ h=>h
 | finish e=>exact fun _ h=>h
 | rule _ _ ih=>exact fun q h=>ih () q h
 | «at» _ _ ih=>exact fun q h=>ih () q h
 | load _ _ _ ih=>exact fun q ⟨o,e,h⟩=>⟨o,e,ih o (q o) h⟩
 | update a _ f _ ih=>
  intro p s q ⟨e,h⟩
  refine ⟨e,up (fun b o eb=>?_) (ih () q.2 h)⟩
  by_cases hb:b = a
  ·subst hb
   exact ⟨f o,Heap.get?_update_self _ eb ((q.1 o).2 (Heap.get?_some_iff.mp eb).2),(q.1 o).1⟩
  ·exact ⟨o,(Heap.get?_update_ne _ _ _ _ hb).trans eb,rfl⟩
 | alloc ob _ ih=>
  intro p s q h
  exact up (s:=s) (s1:={ s with heap:=s.heap.push ob }) (fun b o eb=>⟨o,Q3 _ eb,rfl⟩) (ih _ (q _) h)
 | loadIfAlive _ _ ih=>exact fun q h=>ih _ (q _) h
 | point _ _ ih=>exact fun q h=>ih () q h
 | fresh _ ih=>
  intro p s q h
  exact up (s:=s) (s1:={ s with toks:=s.toks + 1 }) (fun b o eb=>⟨o,eb,rfl⟩) (ih _ (q _) h)
 | ask _ ih=>exact fun q h=>ih _ (q _) h
 | handled _ _ ih=>exact fun q h=>ih _ (q _) h
 | stack _ ih=>exact fun q h=>ih _ (q _) h
 | _=>exact fun q _=>q.elim
theorem Qt.any {α:Type} {t:Sem α} {Q:α->Shared->Prop} (q:Qt t) (h:wpAny M A t Q E s):wpAny M A t (fun a s'=>Q a s'/\Dk s s') (fun e s'=>E e s'/\Dk s s') s:=fun Γ p hΓ=>q.wp (h Γ p hΓ)
theorem zic:Qt (fieldsOf v):=by
 unfold fieldsOf
 split
 ·exact Qt.bind (fun o=>by split <;> exact trivial) (fun _=>trivial)
 ·exact trivial
variable {i:Nat}
theorem zdA:Qt (field v i):=by
 unfold field
 exact Qt.bind (fun vs=>by split <;> exact trivial) zic
theorem zot {f:Array Value->Array Value} (o:Obj):(Obj.mapFields f o).dict = o.dict/\(o.isFreed = false->(Obj.mapFields f o).isFreed = false):=by
 obtain ⟨c,d,dt,sl⟩:=o
 cases dt <;> exact ⟨rfl,fun h=>h⟩
theorem zc3 {x:Value} :Qt (setField v i x):=by
 unfold setField
 split
 ·unfold updateField
  refine Qt.bind (fun o=>?_) (fun _=>trivial)
  split
  ·split
   ·exact ⟨zot,trivial⟩
   ·exact trivial
  ·exact trivial
 ·exact trivial
theorem zcy {e:Value} {f:Option Addr}:Qt (setFlight e f):=by
 unfold setFlight
 refine Qt.bind (fun tb=>?_) zdA
 split
 ·exact zc3
 ·exact trivial
theorem zhl:∀ l:List PySem.Env,Qt (readyFrames l)
 | []=>trivial
 | env :: outer=>by
  unfold readyFrames
  split
  ·rename_i f _
   refine Qt.bind (fun o=>?_) (fun _=>trivial)
   split
   ·exact trivial
   ·refine Qt.bind (fun b=>Qt.bind (fun k=>?_) ?_) ?_
    ·exact ⟨fun o=>⟨rfl,fun h=>by obtain ⟨c,d,dt,sl⟩:=o;cases dt <;> exact h⟩,zhl outer⟩
    ·unfold keptBack
     split
     ·split
      ·exact trivial
      ·unfold underTheClaimsCaller
       exact fun _=>trivial
     ·exact trivial
    ·unfold behindIsImport
     split
     ·exact trivial
     ·split
      ·exact trivial
      ·refine Qt.bind (fun _=>?_) zdA
       exact trivial
  ·exact trivial
theorem zjn {env:PySem.Env}:Qt (PySem.frameOf env):=by
 unfold PySem.frameOf
 refine Qt.bind (fun l=>Qt.bind (fun o=>?_) ?_) (show Qt frameEnvs from fun _=>trivial)
 ·split <;> exact trivial
 ·unfold frameObject
  split
  ·exact trivial
  ·refine Qt.bind (fun _=>?_) (zhl _)
   exact trivial
theorem zib {a b c d e:Value} {l:List Value}:Qt (EntryCells.newEntry a b c d e l):=by
 have nw:∀ dt:Data,Qt (newObjAsIs (.type "traceback") dt):=fun dt _=>trivial
 unfold EntryCells.newEntry newFields newObj
 dsimp only
 generalize (if l.isEmpty = true then List.replicate 6 Value.none else l) = m
 split
 ·exact trivial
 ·exact nw _
variable {f:Addr}
theorem zlu {b:Bool}:Qt (entryPlaceOf f b):=by
 unfold entryPlaceOf
 refine Qt.bind (fun l=>?_) (fun _=>trivial)
 split <;> exact trivial
theorem ziy {e:Value} {env:PySem.Env}:Qt (noteFrame e env):=by
 unfold noteFrame
 split
 ·rename_i f _
  refine Qt.bind (fun hd=>?_) zdA
  have last:Qt (PySem.frameOf env >>= fun a=>entryPlaceOf f (hd != .none) >>= fun p=>EntryCells.newEntry hd a .none (rawInt f) .none p >>= fun n=>setField e 1 n):=Qt.bind (fun a=>Qt.bind (fun p=>Qt.bind (fun n=>zc3) zib) zlu) zjn
  dsimp only
  split
  ·refine Qt.bind (fun x=>?_) zdA
   split
   ·exact trivial
   ·exact Qt.bind (fun _=>last) zc3
  ·exact last
 ·exact trivial
theorem zfu {e:Value} {env:PySem.Env}:Qt (leaving env e):=by
 unfold leaving
 exact Qt.bind (fun _=>zcy) ziy
noncomputable def ExO (e C:Addr) (od:Option Addr):Heap->Prop:=fun h=>∃ ob,h.get? e = some ob/\ob.cls = .ref C/\ob.dict = od/\∀ c,ob.data ≠ .cls c
noncomputable def ExN (e C t:Addr) (od:Option Addr):Heap->Prop:=fun h=>h.get? e = some (zbv C t od)
variable {e:Addr} {H:Hp} {od:Option Addr} {P:Program}
theorem zpQ (x:ExO e C od h):ObjOk P w H h e (.ext (ExO e C od)):=
 ⟨x,let ⟨ob,q,_⟩:=x;⟨ob,q⟩,fun _ _ ⟨ob,q,c⟩ k=>⟨ob,k _ q,c⟩⟩
theorem zkD {t:Addr} (x:ExN e C t od h):ObjOk P w H h e (.ext (ExN e C t od)):=
 ⟨x,⟨_,x⟩,fun _ _ q k=>k _ q⟩
noncomputable def zfU (H:Hp) (e:Addr):Hp:=fun b=>if b = e then none else H b
theorem zbB {b:Addr} (h:b ≠ e):zfU H e b = H b:=if_neg h
theorem zgr:zfU H e e = none:=if_pos rfl
variable {X:Cx} {pins:List (Addr × Obj)} {σ:St}
section
theorem Inv.take {o:HO} (I:Inv X pins σ H s) (h0:X.s₀.heap.get? e = none) (hn:H e = none) (hl:e ≠ X.env.locals) (hc:∀ x c,X.env.cells.lookup x = some c->c ≠ e) (hp:∀ p ∈ X.pn ++ pins,p.1 ≠ e) (new:ObjOk X.prog X.w (upd H e o) s.heap e o):Inv X pins σ (upd H e o) s:=by
 have ne:∀ b ob,X.s₀.heap.get? b = some ob->b ≠ e:=fun b ob q z=>by rw [z,h0] at q;cases q
 have nh:∀ b u,H b = some u->b ≠ e:=fun b u q z=>by rw [z,hn] at q;cases q
 refine ⟨I.ok,I.os,I.bare,⟨I.base.keep,I.base.slot,fun b ob q n x=>by rw [yh (ne b ob q)];exact I.base.free b ob q n x,I.base.there,fun b xs q=>?_,fun b u xs q=>?_,fun b ps q=>?_⟩,I.loc,I.cell,by rw [yh hl.symm];exact I.free,fun x c q=>by rw [yh (hc x c q)];exact I.freeC x c q,fun p q=>?_,?_,I.len⟩
 ·have:=I.base.tups b xs q;rw [yh (nh b _ this)];exact this
 ·have:=I.base.frzs b u xs q;rw [yh (nh b _ this)];exact this
 ·obtain ⟨m,this⟩:=I.base.tbls b ps q;exact ⟨m,by rw [yh (nh b _ this)];exact this⟩
 ·obtain ⟨a,b,c⟩:=I.pin p q
  exact ⟨a,by rw [yh (hp p q)];exact b,c⟩
 ·intro b u q
  by_cases hb:b = e
  ·subst hb;rw [yt] at q;cases q;exact new
  ·rw [yh hb] at q
   exact (I.hok b u q).stay (fun _ _ _ z=>z) (fun c z=>by rw [yh (nh c _ z)];exact z) fun c xs z=>by rw [yh (nh c _ z)];exact z
theorem Inv.let {φ:Heap->Prop} (I:Inv X pins σ H s) (he:H e = some (.ext φ)):Inv X pins σ (zfU H e) s:=by
 have nh:∀ b u,H b = some u->(∀ ψ,u ≠ .ext ψ)->b ≠ e:=fun b u q n z=>by rw [z,he] at q;cases q;exact n φ rfl
 have nn:∀ b,H b = none->zfU H e b = none:=fun b q=>by
  unfold zfU
  split
  ·rfl
  ·exact q
 refine ⟨I.ok,I.os,I.bare,⟨I.base.keep,I.base.slot,fun b ob q n x=>nn b (I.base.free b ob q n x),I.base.there,fun b xs q=>?_,fun b u xs q=>?_,fun b ps q=>?_⟩,I.loc,I.cell,nn _ I.free,fun x c q=>nn _ (I.freeC x c q),fun p q=>?_,?_,I.len⟩
 ·have:=I.base.tups b xs q;rw [zbB (nh b _ this (fun _ z=>by cases z))];exact this
 ·have:=I.base.frzs b u xs q;rw [zbB (nh b _ this (fun _ z=>by cases z))];exact this
 ·obtain ⟨m,this⟩:=I.base.tbls b ps q;exact ⟨m,by rw [zbB (nh b _ this (fun _ z=>by cases z))];exact this⟩
 ·obtain ⟨a,b,c⟩:=I.pin p q
  exact ⟨a,nn _ b,c⟩
 ·intro b u q
  by_cases hb:b = e
  ·subst hb;rw [zgr] at q;cases q
  ·rw [zbB hb] at q
   exact (I.hok b u q).stay (fun _ _ _ z=>z) (fun c z=>by rw [zbB (nh c _ z (fun _ y=>by cases y))];exact z) fun c xs z=>by rw [zbB (nh c _ z (fun _ y=>by cases y))];exact z
end
noncomputable def CXX (P:Program) (w:World):CXT:=fun l H s E ev s'=>∃ (e t C:Addr) (oe:Obj) (B:Heap) (H':Hp),ev = .ref e/\Heap.FlyingW B l e (.ref C) (.ref t) s'.heap/\s'.heap.get? e = some oe/\s'.os = s.os/\AllBare s'.gens /\
 Un (frs l) [] H H' s.heap s'.heap/\HOk P w H' s'.heap/\(∀ b o,s'.heap.get? b = some o->b ∉ frs l->(H' b ≠ none\/∃ o',s.heap.get? b = some o')->B.get? b = some o)/\(∀ b ∈ frs l,H' b = none)/\E (.ref C) oe.dict H'
section
variable {E:XK}
theorem ziR {s1:Shared} {t:Addr} {B:Heap} (I:Inv X pins σ H s) (hst:X.stack = X.env :: X.outer) (hf:X.env.frame = some X.env.locals) (hex:X.ex = [])
 (hE:E (.ref C) od H) (hB:∀ b o,s.heap.get? b = some o->b ∉ frs X.stack->(H b ≠ none\/∃ o',X.s₀.heap.get? b = some o')->B.get? b = some o) (fl:Heap.FlyingW B X.outer e (.ref C) (.ref t) s1.heap) (up:s.heap.UpToSlots s1.heap) (hd:∃ oe,s1.heap.get? e = some oe/\oe.dict = od)
 (os:s1.os = s.os) (ge:s1.gens = s.gens):CXX X.prog X.w X.outer X.H₀ X.s₀ E (.ref e) s1:=by
 obtain ⟨oe,he,hod⟩:=hd
 have u0:Un (frs X.outer) [] X.H₀ H X.s₀.heap s.heap:=by have:=I.base;rw [hex] at this;exact this
 have sub1:∀ b ∈ frs X.outer,b ∈ frs X.stack:=fun b hb=>by
  rw [hst];unfold frs
  rw [filterMap_cons,hf]
  exact mem_cons_of_mem _ hb
 have nst:∀ b o,s.heap.get? b = some o->b ∉ frs X.outer->(H b ≠ none\/∃ o',X.s₀.heap.get? b = some o')->b ∉ frs X.stack:=fun b o e1 n1 q1 hm=>by
  rw [hst] at hm
  unfold frs at hm
  rw [filterMap_cons,hf] at hm
  rcases mem_cons.mp hm with z | z
  ·rcases q1 with q1 | ⟨o',q1⟩
   ·rw [z] at q1;exact q1 I.free
   ·rw [z] at q1;exact absurd (Qf q1) (Nat.not_lt.mpr I.ok.above)
  ·exact n1 z
 have hB1:∀ b o,s.heap.get? b = some o->b ∉ frs X.outer->(H b ≠ none\/∃ o',X.s₀.heap.get? b = some o')->B.get? b = some o:=fun b o e1 n1 q1=>hB b o e1 (nst b o e1 n1 q1) q1
 have hfr:∀ b ∈ frs X.outer,H b = none:=fun b hb=>I.stkFree b (sub1 b hb)
 have hfn:∀ b ∈ frs X.outer,∀ o,s.heap.get? b = some o->∀ vs,o.data ≠ .fields vs:=fun b hb o e1=>by
  obtain ⟨_,o',e2,n2⟩:=I.stack.mem (sub1 b hb)
  rw [e1] at e2;cases e2
  exact n2
 obtain ⟨un2,hok2⟩:=zi8 u0 I.hok hB1 hfr hfn fl.1 up
 refine ⟨e,t,C,oe,B,H,rfl,fl,he,os.trans I.os,by rw [ge];exact I.bare,un2,hok2,fun b o e1 n1 q1=>?_,hfr,by rw [hod];exact hE⟩
 have hex2:∃ o1,s.heap.get? b = some o1:=by
  rcases q1 with q1 | ⟨o',q1⟩
  ·cases z:H b with
   | none=>exact absurd z q1
   | some u=>exact (I.hok b u z).there
  ·exact u0.there b o' q1 (by simp)
 obtain ⟨o1,e2⟩:=hex2
 have e3:=hB1 b o1 e2 n1 q1
 have e4:=fl.1 b o1 e3
 rw [e1] at e4;cases e4
 exact e3
theorem zkc (hst:X.stack = X.env :: X.outer) (hf:X.env.frame = some X.env.locals) (hex:X.ex = [])
  (hxe:X.xe = fun ev s'=>wpAny (model X.prog X.w) X.A (leaving X.env ev) (fun _ s''=>CXX X.prog X.w X.outer X.H₀ X.s₀ E ev s'') (fun e' s''=>CXX X.prog X.w X.outer X.H₀ X.s₀ E e' s'') s'):Passes (CXX X.prog X.w) X E:=by
 intro pins σ H s ev s' I ⟨e,t,C,oe,B,H',e0,fl,he,os,bare,un,hok,hB,hfr,hE⟩
 subst e0
 rw [hxe]
 have I1:Inv X pins σ H' s':=I.call' (ch:=[]) os un hok bare (fun b z=>absurd z (by simp))
 have hfrm:X.A.frames = some (X.env :: X.outer):=by rw [I.ok.frames,hst]
 rw [hst] at fl
 have w1:=zfu.any (wpAny_leaves_onW (M:=model X.prog X.w) (E:=fun _ _=>False) (Q:=fun _ s2=>∃ h',s2 = { s' with heap:=h' }/\Heap.FlyingW B X.outer e (.ref C) (.ref t) h'/\s'.heap.UpToSlots h') hfrm hf fl fun h' a b=>⟨h',rfl,a,b⟩)
 refine Qh w1 ?_ fun _ _ z=>z.1.elim
 rintro _ s2 ⟨⟨h',rfl,fl',up⟩,dk⟩
 refine ziR (s1:={ s' with heap:=h' }) I1 hst hf hex hE (fun b o e1 n1 q1=>hB b o e1 n1 ?_) fl' up (dk e oe he) rfl rfl
 rcases q1 with q1 | ⟨o',q1⟩
 ·exact .inl q1
 ·exact .inr (I.base.there b o' q1 (by rw [hex];simp))
theorem znW {t:Addr} (I:Inv X pins σ H s) (hst:X.stack = X.env :: X.outer) (hf:X.env.frame = some X.env.locals) (hex:X.ex = [])
 (hxe:X.xe = fun ev s'=>wpAny (model X.prog X.w) X.A (leaving X.env ev) (fun _ s''=>CXX X.prog X.w X.outer X.H₀ X.s₀ E ev s'') (fun e' s''=>CXX X.prog X.w X.outer X.H₀ X.s₀ E e' s'') s')
 (he:s.heap.get? e = some (zbv C t od)) (hn:H e = none) (h0:X.s₀.heap.get? e = none) (hE:E (.ref C) od H):X.xe (.ref e) s:=by
 rw [hxe]
 have hfrm:X.A.frames = some (X.env :: X.outer):=by rw [I.ok.frames,hst]
 have hff:s.heap.FunFrames X.base (X.env :: X.outer):=by have:=I.stack;rw [hst] at this;exact this
 have hin:∀ env ∈ (X.env :: X.outer),∀ b,env.frame = some b->b ∈ e :: frs (X.env :: X.outer):=fun env he b hb=>mem_cons_of_mem _ (mem_filterMap.mpr ⟨env,he,hb⟩)
 have w1:=zfu.any (wpAny_leaving_firstW (M:=model X.prog X.w) (E:=fun _ _=>False) (base:=PySem.W.hideAll s.heap (e :: frs (X.env :: X.outer))) (a0:=.ref t) (Q:=fun _ s2=>∃ h',s2 = { s with heap:=h' }/\Heap.LeftW (PySem.W.hideAll s.heap (e :: frs (X.env :: X.outer))) (X.env :: X.outer) e (.ref C) (.ref t) s.heap h') hfrm (PySem.W.funFrames_hide hff hin) hf he (fun b o e1=>PySem.W.of_hideAll _ e1) (PySem.W.hideAll_none _ (mem_cons_self ..)) rfl rfl rfl fun h' a=>⟨h',rfl,a⟩)
 refine Qh w1 ?_ fun _ _ z=>z.1.elim
 rintro _ s2 ⟨⟨h',rfl,k1,⟨_,_,k2⟩,k3,k4⟩,dk⟩
 refine ziR (s1:={ s with heap:=h' }) I hst hf hex hE (fun b o e1 n1 q1=>?_) ⟨k1,PySem.W.hideAll_none _ (mem_cons_self ..),k2,k3⟩ k4 (dk e _ he) rfl rfl
 refine PySem.W.hideAll_get _ e1 fun hm=>?_
 rcases mem_cons.mp hm with z | z
 ·rcases q1 with q1 | ⟨o',q1⟩
  ·rw [z] at q1;exact q1 hn
  ·rw [z,h0] at q1;cases q1
 ·rw [hst] at n1;exact n1 z
end
noncomputable abbrev xns:List Str:=["__setattr__","at","__getattribute__","__getattr__"]
structure XcAt (K:Frag) (mg:Str->Option Value) (x:Str) (C fI:Addr):Prop where
 bound:mg x = some (.ref C)
 obj:∀ h:Heap,K.In h->∃ bm N nm q bs sn sub ab col dd k0 k1 k2 k3 k5 mN,h.get? C = some (excClassObj nm q C N bs bm true sn sub ab col dd k0 k1 k2 k3 k5 "ValueError.__new__")/\h.Ns N mN/\mN "__init__" = some (.ref fI)/\(∀ n ∈ xns,mN n = none)/\Tl h zcd ("__init__" :: xns) bm
 fn:∃ oI,K.lookup fI = some oI/\oI.cls = .type "function"
theorem ziL:typeLookup (.type "ValueError") "at" = pure none:=by rw [typeLookup_type,builtinLookup_eq_fast];kernel_rfl
variable {pos:Pos}
section
variable {E:XK} {o value:Expr} {ta tv:TE} {pos':Pos}
theorem Inv.new0 (I:Inv X pins σ H s) (hex:X.ex = []) (he:s.heap.get? e = none):X.s₀.heap.get? e = none/\H e = none/\e ≠ X.env.locals/\(∀ x c,X.env.cells.lookup x = some c->c ≠ e)/\∀ p ∈ X.pn ++ pins,p.1 ≠ e:=by
 refine ⟨?_,?_,fun z=>?_,fun x c q z=>?_,fun p q z=>?_⟩
 ·cases q:X.s₀.heap.get? e with
  | none=>rfl
  | some u=>
   obtain ⟨o',e'⟩:=I.base.there e u q (by rw [hex];simp)
   rw [he] at e';cases e'
 ·cases q:H e with
  | none=>rfl
  | some u=>
   obtain ⟨o',e'⟩:=(I.hok e u q).there
   rw [he] at e';cases e'
 ·obtain ⟨m,⟨ob,_,_,e',_⟩,_⟩:=I.loc
  rw [← z,he] at e';cases e'
 ·obtain ⟨v,ob,e',_⟩:=I.cell x c q
  rw [z,he] at e';cases e'
 ·have:=(I.pin p q).1
  rw [z,he] at this;cases this
theorem zoz (hex:X.ex = []) (ha:PE X o ta) (hv:PE X value tv) (hs:swapsWith value (some (.Attribute o "at" pos')) pos.line X.env = pure false:=by rfl):PS X (.Assign [.Attribute o "at" pos'] value pos)
  (fun D σ H=>tv σ H fun y H1=>ta σ H1 fun x H2=>∃ e C fI t nm,x = .ref e/\XcAt X.K X.mg nm C fI/\H2 e = some (.ext (ExN e C t none))/\∀ d,H2 d = none->d ≠ e->D.nx σ (upd (upd H2 e (.ext (ExN e C t (some d)))) d (.xd [("at",y)]))):=by
 intro pins s σ H D I h
 refine plainObj_wpAny_Assign_Attribute (thn (hv pins s σ H _ I h) fun u s1 ⟨y,H1,I1,ry,q⟩=>thn (ha pins s1 σ H1 _ I1 q) fun ov s2 ⟨x,H2,I2,rx,e,C,fI,t,nm,ex,O,ee,q2⟩=>?_) hs
 subst ex
 obtain rfl:ov = Value.ref e:=rx
 obtain ⟨bm,N,nm,q,bs,sn,sub,ab,col,dd,k0,k1,k2,k3,k5,mN,hC,hN,hi,hno,T⟩:=O.obj s2.heap I2.kIn
 obtain ⟨g0,_,_⟩:=I2.hok e _ ee
 have g0:s2.heap.get? e = some (zbv C t none):=g0
 obtain ⟨h2,ge,dr,tk,os⟩:=s2
 refine zqO hC hN T (by decide) (hno _ (by decide)) (by decide) (hno _ (by decide)) (by decide) ziL g0 rfl (fun c z=>by cases z) rfl fun h' tk' dx a1 a2 a3 a4 a5=>?_
 have I3:Inv X pins σ (upd H2 e (.ext (ExN e C t (some dx)))) ⟨h',ge,dr,tk',os⟩:=I2.write (t':=tk') (by rw [ee];trivial) (.inl rfl) (fun b u nb e'=>a5 b u nb e') ⟨_,a3⟩ (zkD a3)
 obtain ⟨b1,b2,b3,b4,b5⟩:=I2.new0 hex a1
 have I4:Inv X pins σ (upd (upd H2 e (.ext (ExN e C t (some dx)))) dx (.xd [("at",y)])) ⟨h',ge,dr,tk',os⟩:=I3.take b1 (by rw [yh a2];exact b2) b3 b4 b5 ⟨_,a4,fun f=>by
  by_cases hf:f = "at"
  ·subst hf;exact ry
  ·rw [if_neg hf]
   show RelO (List.lookup f [("at",y)]) none
   rw [lookup_cons]
   simp only [beq_eq_false_iff_ne.mpr hf,List.lookup_nil]
   trivial⟩
 exact ⟨σ,_,I4,q2 dx b2 a2⟩
end
variable {fd:FuncData} {x:Str}
theorem zga {K:Frag} {mg:Str->Option Value} {base:Heap} {qual:Str} {st:Stmt} {p1 p2 p3 p4:Pos} (O:XcAt K mg x C f) (F:Fun K "__init__" qual st f fd) (S:FnScope ["self","at"] ["self","at"] (yd st))
 (hb:zB st = [.Assign [.Attribute (.Name "self" p1) "at" p2] (.Name "at" p3) p4]) (l1:(yd st).names.lookup ("self":Str) = some NameKind.local) (l2:(yd st).names.lookup ("at":Str) = some NameKind.local) :
  FnOk P w K mg base CX0 1 f fd ["self","at"] (fun vs H Q E=>(∃ e t v,vs = [.ref e,v]/\H e = some (.ext (ExN e C t none))/\∀ d,H d = none->d ≠ e->Q .non (upd (upd H e (.ext (ExN e C t (some d)))) d (.xd [("at",v)])))):=by
 refine F.ok S (fun vs H Q E ⟨e,t,v,h,_⟩=>by rw [h];rfl) fun cdv A outer s H vs Q E hr ⟨e,t,v,h1,h2,h3⟩=>?_
 subst h1
 rw [hb]
 refine ⟨_,ziz (zoz rfl (zhp (i:=0) rfl (.inl l1)) (zhp (i:=1) rfl (.inl l2))),?_⟩
 exact ⟨v,rfl,.ref e,rfl,e,C,f,t,x,rfl,O,h2,h3⟩
variable {cpos np:Pos}
section
variable {env:PySem.Env}
variable {bs:List Value} {sub:List Value}
theorem zjm {args:List Expr} {Q:Flow->Shared->Prop} (hb:bm.contains (.type "BaseException") = true) (hh:A.handled = none) (hp:(backTo cpos (starEach args env)).any (·.1) = false)
 (h:wpAny (model prog w) A (eval (.Name x np) env) (fun f s1=>f = .ref C/\wpAny (model prog w) A (evalArgs (.ref C) true (backTo cpos (starEach args env)) []) (fun a s2=>a.kw = []/\s2.heap.get? C = some (excClassObj nm q C N bs bm hdct sn sub ab col dd k0 k1 k2 k3 k5 "ValueError.__new__") /\
 wpAny (model prog w) A (call (.ref C) a.pos) (fun v s3=>∃ e t od,v = .ref e/\s3.heap.get? C = some (excClassObj nm q C N bs bm hdct sn sub ab col dd k0 k1 k2 k3 k5 "ValueError.__new__")/\s3.heap.get? e = some (zbv C t od)/\E (.ref e) s3) E s2) E s1) E s) :
  wpAny (model prog w) A (exec (.Raise (some (.Call (.Name x np) args [] cpos)) none pos) env) Q E s:=by
 rw [arm_exec_Raise]
 refine Q2 (wpAny_standAt (zn9 (C:=C) (nm:=nm) (q:=q) (N:=N) (bs:=bs) (bm:=bm) (hdct:=hdct) (sn:=sn) (sub:=sub) (ab:=ab) (col:=col) (dd:=dd) (k0:=k0) (k1:=k1) (k2:=k2) (k3:=k3) (k5:=k5) hb hh ?_))
 try simp only [evalOpt,Option.map]
 refine Q2 (Qh (wpAny_Call_ofName (Qh h (fun f s1 h1=>?_) fun _ _ y=>y)) (fun v s3 h3=>Q2 (wpAny_standAt (Qg h3))) fun _ _ y=>y)
 obtain ⟨rfl,h1⟩:=h1
 unfold callWith
 refine Q2 (wpAny_holding (Qh h1 (fun a s2 h2=>Q2 (wpAny_standAt ?_)) fun _ _ y=>y))
 obtain ⟨ap,ak⟩:=a
 obtain ⟨hkw,hC,h2⟩:=h2
 obtain rfl:ak = []:=hkw
 obtain ⟨hp',g,d,tk,os⟩:=s2
 simp only [hp]
 refine Q2 (wpAny_keeperOf_exc hC (Q2 (Qh h2 (fun v s3 h3=>Q2 (wpAny_holding (wpAny_point (Qg ?_)))) fun _ _ y=>y)))
 exact h3
end
variable {ta:TA}
section
variable {E:XK} {e:Expr}
theorem zj4 (O:XcAt X.K X.mg x C f) (F:FnOk X.prog X.w X.K X.mg X.base CX0 1 f fd ["self","at"] (fun vs H Q E=>(∃ e t v,vs = [.ref e,v]/\H e = some (.ext (ExN e C t none))/\∀ d,H d = none->d ≠ e->Q .non (upd (upd H e (.ext (ExN e C t (some d)))) d (.xd [("at",v)])))))
  (hbd:Binds X.K fd ["self","at"] []) (hr:Room 2 X.A) (hg:Gl X x) (hst:X.stack = X.env :: X.outer) (hf:X.env.frame = some X.env.locals) (hex:X.ex = [])
  (hxe:X.xe = fun ev s'=>wpAny (model X.prog X.w) X.A (leaving X.env ev) (fun _ s''=>CXX X.prog X.w X.outer X.H₀ X.s₀ E ev s'') (fun e' s''=>CXX X.prog X.w X.outer X.H₀ X.s₀ E e' s'') s')
  (ha:PA X [e] ta) (hd:(x == ("__debug__":Str)) = false:=by decide) (he:starEach [e] X.env = [(false,eval e X.env)]:=by rfl) :
  PS X (.Raise (some (.Call (.Name x np) [e] [] cpos)) none pos) (fun _ σ H=>ta σ H fun vs H1=>∃ v,vs = [v]/\∀ d,H1 d = none->E (.ref C) (some d) (upd H1 d (.xd [("at",v)]))):=by
 intro pins s σ H D I h
 obtain ⟨bm,N,nm,q,bs,sn,sub,ab,col,dd,k0,k1,k2,k3,k5,mN,hC,hN,hi,hno,T⟩:=O.obj X.base I.ok.mod.kin
 have Tt:=T.tail (by decide)
 refine zjm (C:=C) (nm:=nm) (q:=q) (N:=N) (bs:=bs) (bm:=bm) (hdct:=true) (sn:=sn) (sub:=sub) (ab:=ab) (col:=col) (dd:=dd) (k0:=k0) (k1:=k1) (k2:=k2) (k3:=k3) (k5:=k5) (Tt.hasType PySem.F.excBase_ValueError.hasBase) hr.hd (by rw [he];rfl) (zbH I hg O.bound ⟨rfl,?_⟩ hd)
 have hq:=ha cpos pins s σ H _ I h
 rw [he] at hq ⊢
 refine Calls.evalArgs_plain (Qh hq (fun us s2 ⟨vs,H2,I2,r2,v,ev,hE⟩=>?_) fun _ _ y=>y)
 subst ev
 obtain ⟨u,rfl,ru⟩:∃ u,us = [u]/\RelV v u:=by
  cases r2 with
  | cons a b=>cases b;exact ⟨_,rfl,a⟩
 obtain ⟨oI,fk,fc⟩:=O.fn
 have hC2:=I2.bk _ _ hC
 refine ⟨rfl,hC2,?_⟩
 obtain ⟨h2,g2,d2,t2,os2⟩:=s2
 refine zpY hC2 (hN.keeps I2.bk) (Tt.keeps I2.bk) hi (I2.kIn _ _ fk) fc (fun h' e hm=>?_) (by show 1<=sizeLine;decide)
 obtain ⟨t,ge,_,_⟩:=hm.there
 obtain ⟨b1,b2,b3,b4,b5⟩:=I2.new0 hex hm.new
 have I3:Inv X pins σ H2 ⟨h',g2,d2,t2,os2⟩:=I2.kept (t':=t2) hm.keeps
 have I4:Inv X pins σ (upd H2 e (.ext (ExN e C t none))) ⟨h',g2,d2,t2,os2⟩:=I3.take b1 b2 b3 b4 b5 (zkD ge)
 refine wpAny_call (codeAny_mono (F.run _ X.stack _ _ ⟨[.ref e,u],[]⟩ [.ref e,u] [.ref e,v] (fun w H'=>w = .non/\∃ d,H2 d = none/\d ≠ e/\H' = upd (upd (upd H2 e (.ext (ExN e C t none))) e (.ext (ExN e C t (some d)))) d (.xd [("at",v)])) E0 (hr.make C [u] []) (I4.env0.make C [u] []) (hbd _ [.ref e,u] I4.kIn rfl) (.cons rfl (.cons ru .nil)) ⟨e,t,v,rfl,yt,fun d hd ne=>⟨rfl,d,by rw [yh ne] at hd;exact hd,ne,rfl⟩⟩) fun r s' hr'=>?_)
 cases r with
 | error ee=>exact hr'.elim
 | ok fl=>
  cases fl with
  | next=>exact hr'.elim
  | brk=>exact hr'.elim
  | cont=>exact hr'.elim
  | ret u'=>
   obtain ⟨w',H5,os,bare,un,hok,rw',rfl,d,hd2,ne,eH⟩:=hr'
   have I5:Inv X pins σ H5 s':=I4.call' (ch:=[]) os un hok bare (fun b z=>absurd z (by simp))
   have e5:H5 e = some (.ext (ExN e C t (some d))):=by rw [eH,yh ne.symm,yt]
   have ge5:s'.heap.get? e = some (zbv C t (some d)):=(I5.hok e _ e5).1
   have I6:=I5.let e5
   have eq:zfU H5 e = upd H2 d (.xd [("at",v)]):=by
    funext b
    rw [eH]
    by_cases hb:b = e
    ·subst hb;rw [zgr,yh ne.symm,b2]
    ·rw [zbB hb]
     by_cases hd':b = d
     ·subst hd';rw [yt,yt]
     ·rw [yh hd',yh hb,yh hb,yh hd']
   rw [eq] at I6
   refine ⟨rw',e,t,some d,rfl,I6.bk _ _ hC,ge5,?_⟩
   exact znW I6 hst hf hex hxe ge5 (by rw [yh ne.symm];exact b2) b1 (hE d hd2)
end
variable {j:Nat} {p:Pos}
section
theorem zeo (I:Inv X pins σ H s) (hN:X.N.Nodup) (hj:X.N[j]? = some n) (hk:X.env.scope.names.lookup n = some .local) (h:∀ s',Inv X pins (σ.set j none) H s'->Q () s') :
  wpAny M A (do bindName X.env n .none;unbindBehindTheSuite X.env n p) Q E s:=by
 refine Q2 (wpAny_bindName (zcr (v:=.non) I hN hj (.inl hk) rfl (fun s1 I1=>?_) (.inr hk)))
 unfold unbindBehindTheSuite
 refine wpAny_onRaise ?_
 unfold unbindName
 refine Q2 (wpAny_point (Q2 ?_))
 have hp:(X.env.scope.kind == .class || (X.env.scope.kind == .module && X.env.locals != X.env.globals)) = false:=by rw [I.ok.kind];rfl
 have hkd:X.env.kindOf n = some .local:=hk
 unfold deleteName
 simp only [hkd,hp]
 rw [if_neg (by decide)]
 obtain ⟨m,hn,hl⟩:=id I1.loc
 have hjσ:j < σ.length:=by rw [I.len];exact (List.getElem?_eq_some_iff.mp hj).1
 obtain ⟨u0,r0,q0⟩:=hl j n .non hj (by rw [List.getElem?_set_self hjσ]) (.inl hk)
 have hm:(m n).isSome = true:=by
  rcases q0 with ⟨_,e⟩ | ⟨z | z,_⟩
  ·rw [e];rfl
  ·rw [hkd] at z;cases z
  ·rw [hkd] at z;cases z
 refine Q2 (wpAny_nsDel_keeps hn fun h2 v hn2 hs=>?_)
 rw [hm]
 simp only [Bool.not_true,Bool.false_eq_true,if_false]
 refine Qg (wpAny_point (h _ ?_))
 obtain ⟨oL,_,_,hoL,_⟩:=id hn
 have cne:=I1.cne
 have ab:∀ b o,X.s₀.heap.get? b = some o->b ≠ X.env.locals:=fun b o e=>Ql (Q6 (Qf e) I.ok.above)
 refine ⟨I1.ok,I1.os,I1.bare,⟨fun b o e q hb hx=>(hs.2 b (ab b o e)).trans (I1.base.keep b o e q hb hx),fun b o e q hb hx=>?_,I1.base.free,fun b o e hx=>?_,I1.base.tups,I1.base.frzs,I1.base.tbls⟩,⟨_,hn2,fun i y v' e1 e2 e3=>?_⟩,fun y c e=>?_,I1.free,I1.freeC,fun p hp=>?_,fun b ob e=>?_,by rw [length_set];exact I.len⟩
 ·obtain ⟨sl,e1⟩:=I1.base.slot b o e q hb hx
  exact ⟨sl,(hs.2 b (ab b o e)).trans e1⟩
 ·obtain ⟨o',e1⟩:=I1.base.there b o e hx
  exact ⟨o',(hs.2 b (ab b o e)).trans e1⟩
 ·have hij:j ≠ i:=by
   rintro rfl
   rw [List.getElem?_set_self hjσ] at e2
   cases e2
  rw [getElem?_set_ne hij] at e2
  obtain ⟨u',r',q⟩:=hl i y v' e1 (by rw [getElem?_set_ne hij];exact e2) e3
  refine ⟨u',r',?_⟩
  rcases q with ⟨k,e⟩ | ⟨k,c,e,z⟩
  ·have:y ≠ n:=fun e=>hij (ze3 hN hj (e ▸ e1))
   exact .inl ⟨k,by simp [this,e]⟩
  ·exact .inr ⟨k,c,e,z.sameBut hs (cne y c e)⟩
 ·obtain ⟨w',z⟩:=I1.cell y c e
  exact ⟨w',z.sameBut hs (cne y c e)⟩
 ·obtain ⟨e,q,ne,nf,d⟩:=I1.pin p hp
  exact ⟨(hs.2 p.1 ne).trans e,q,ne,nf,d⟩
 ·refine (I1.hok b ob e).stay (fun c w' hc q=>(hs.2 c ?_).trans q) (fun _ q=>q) fun _ _ q=>q
  rintro rfl
  rcases hc with rfl | hc
  ·rw [I1.free] at e;cases e
  ·rw [I1.free] at hc;cases hc
end
structure Sup (K:Frag) (mg:Str->Option Value) (y:Str) (C C':Addr):Prop where
 bound:mg y = some (.ref C)
 obj:∀ h:Heap,K.In h->(∃ bm N nm q bs hdct sn sub ab col dd k0 k1 k2 k3 k5,h.get? C = some (excClassObj nm q C N bs bm hdct sn sub ab col dd k0 k1 k2 k3 k5 "ValueError.__new__")/\bm.contains (.type "BaseException") = true) /\
  ∃ bm N nm q bs hdct sn sub ab col dd k0 k1 k2 k3 k5,h.get? C' = some (excClassObj nm q C' N bs bm hdct sn sub ab col dd k0 k1 k2 k3 k5 "ValueError.__new__")/\(Value.ref C' :: bm).contains (.ref C) = true
theorem zkE {nm' q':Str} {C' N':Addr} {bs bs' bm':List Value} {hd hd':Bool} {sn':List Str} {sub sub':List Value} {ab':Bool} {col':Option Bool} {dd':Option Addr} {j0 j1 j2 j3 j5:Option Value}
 {oe:Obj} {Q:Bool->Shared->Prop} (hC:h.get? C = some (excClassObj nm q C N bs bm hd sn sub ab col dd k0 k1 k2 k3 k5 "ValueError.__new__")) (hC':h.get? C' = some (excClassObj nm' q' C' N' bs' bm' hd' sn' sub' ab' col' dd' j0 j1 j2 j3 j5 "ValueError.__new__"))
 (he:h.get? e = some oe) (hc:oe.cls = .ref C') (hb:bm.contains (.type "BaseException") = true) (hm:(Value.ref C' :: bm').contains (.ref C) = true) (hq:Q true ⟨h,g,d,t,os⟩):wpAny M A (excMatches (.ref e) (.ref C)) Q E ⟨h,g,d,t,os⟩:=by
 have hcB:(Value.ref C :: bm).contains (.type "BaseException") = true:=by rw [contains_cons,hb,Bool.or_true]
 have f:=tc_notTuple
 unfold excMatches
 repeat (first | (with_reducible refine wpAny_loadPart_at he ?_;rw [hc]) | with_reducible refine wpAny_loadPart_at hC ?_ | (with_reducible refine wpAny_isSubtype_exc hC ?_;rw [hcB]) | (with_reducible refine wpAny_isSubtype_exc hC' ?_;rw [hm]) | wp_step)
 exact hq
variable {D:Ends} {hp:Pos} {s':Shared} {b0:Stmt} {y:Str} {th:TS} {ev:Value}
section
variable {suite:List Stmt} {rest:List ExceptHandler}
theorem zkN {E:XK} {nmo:Option Str} (hg:Gl X y) (hst:X.stack = X.env :: X.outer) (hf:X.env.frame = some X.env.locals) (hex:X.ex = []) (I:Inv X pins σ H s)
  (hq:CXX X.prog X.w X.stack H s E ev s') (hS:∀ C' od H',E (.ref C') od H'->Sup X.K X.mg y C C')
  (go:∀ e t C' od B H' h5,(∀ h6,B.StaysIn h6->h5.UpToSlots h6->Inv X pins σ H' { s' with heap:=h6 })->Heap.FlyingW B X.stack e (.ref C') (.ref t) h5->(∃ oe,h5.get? e = some oe/\oe.dict = od)->
   (X.s₀.heap.get? e = none/\H' e = none/\e ≠ X.env.locals/\(∀ x c,X.env.cells.lookup x = some c->c ≠ e)/\∀ p ∈ X.pn ++ pins,p.1 ≠ e)->E (.ref C') od H'->
   codeAny (model X.prog X.w) (X.A.mark (some (.ref e))) (.handlers (.ref e) [.ExceptHandler none nmo (b0 :: suite) hp] X.env) (fun r s2=>match r with
     | .ok f=>(match nmo with
      | none=>SP X pins D f s2
      | some n=>wpAny (model X.prog X.w) X.A (do bindName X.env n .none;unbindBehindTheSuite X.env n hp) (fun _ s3=>SP X pins D f s3) X.xe s2)
     | .error x=>cameBackBy (model X.prog X.w) X.A X.env X.xe x s2) { s' with heap:=h5 }) (hd:(y == ("__debug__":Str)) = false:=by decide) :
  wpAny (model X.prog X.w) X.A (noteFrame ev X.env) (fun _ s2=>wpAny (model X.prog X.w) X.A (setFlight ev none) (fun _ s3=>wpAny (model X.prog X.w) X.A (handleBy ev X.env (.ExceptHandler (some (.Name y np)) nmo (b0 :: suite) hp :: rest)) (SP X pins D) X.xe s3) X.xe s2) X.xe s':=by
 obtain ⟨e,t,C',oe,B,H',rfl,fl,he,os,bare,un,hok,hB,hfr,hE⟩:=hq
 have hfrm:X.A.frames = some (X.env :: X.outer):=by rw [I.ok.frames,hst]
 have hfn:∀ b ∈ frs X.stack,∀ o,s'.heap.get? b = some o->∀ vs,o.data ≠ .fields vs:=fun b hb o e1=>by
  obtain ⟨_,o',e2,n2⟩:=fl.2.2.1.mem hb
  rw [e1] at e2;cases e2
  exact n2
 have inv_at:∀ h2:Heap,B.StaysIn h2->s'.heap.UpToSlots h2->Inv X pins σ H' { s' with heap:=h2 }:=fun h2 st up=>by
  obtain ⟨un2,hok2⟩:=zi8 un hok hB hfr hfn st up
  exact I.call' (s':={ s' with heap:=h2 }) (ch:=[]) os un2 hok2 bare (fun b z=>absurd z (by simp))
 have ne:s.heap.get? e = none:=by
  cases q:s.heap.get? e with
  | none=>rfl
  | some u=>
   have hf2:e ∉ frs X.stack:=fun hm=>by
    obtain ⟨oe',h1,_⟩:=fl.there
    obtain ⟨oe2,vs2,h2,_,h3,_⟩:=fl.first
    exact hfn e hm oe2 h2 vs2 h3
   have:=hB e oe he hf2 (.inr ⟨u,q⟩)
   rw [fl.2.1] at this;cases this
 have he0:H' e = none:=by
  cases q:H' e with
  | none=>rfl
  | some u=>
   have hf2:e ∉ frs X.stack:=fun hm=>by
    obtain ⟨oe2,vs2,h2,_,h3,_⟩:=fl.first
    exact hfn e hm oe2 h2 vs2 h3
   have:=hB e oe he hf2 (.inl (by rw [q];simp))
   rw [fl.2.1] at this;cases this
 obtain ⟨b1,_,b3,b4,b5⟩:=I.new0 hex ne
 obtain ⟨⟨bm,N,nm,q,bs,hdct,sn,sub,ab,col,dd,k0,k1,k2,k3,k5,hC,hcb⟩,bm',N',nm',q',bs',hdct',sn',sub',ab',col',dd',j0,j1,j2,j3,j5,hC',hcc⟩:=(hS C' oe.dict H' hE).obj X.base I.ok.mod.kin
 rw [hst] at fl
 refine Qh (ziy.any (wpAny_looks_onW (M:=model X.prog X.w) (E:=fun _ _=>False) (Q:=fun _ s2=>∃ h4,s2 = { s' with heap:=h4 }/\Heap.HeldW B (X.env :: X.outer) e (.ref C') (.ref t) X.env.locals h4/\s'.heap.UpToSlots h4) hfrm hf fl fun h' a b=>⟨h',rfl,a,b⟩)) ?_ fun _ _ z=>z.1.elim
 rintro _ s4 ⟨⟨h4,rfl,hl4,up4⟩,dk4⟩
 refine Qh (zcy.any (wpAny_landsW (M:=model X.prog X.w) (A:=X.A) (E:=fun _ _=>False) (s:={ s' with heap:=h4 }) (Q:=fun _ s2=>∃ h5,s2 = { s' with heap:=h5 }/\Heap.FlyingW B (X.env :: X.outer) e (.ref C') (.ref t) h5/\h4.UpToSlots h5) hl4 fun h' a b=>⟨h',rfl,a,b⟩)) ?_ fun _ _ z=>z.1.elim
 rintro _ s5 ⟨⟨h5,rfl,fl5,up5⟩,dk5⟩
 have up45:=up4.trans up5
 have I5:=inv_at h5 fl5.1 up45
 have d5:=(dk4.trans dk5) e oe he
 refine wpAny_handleBy_cons (codeAny_handlers_test ?_) (by intro z;cases z)
 refine zbH (X:=X.suite e) (I5.suite e) hg (hS C' oe.dict H' hE).bound ?_ hd
 obtain ⟨o5,ge5,gd5⟩:=d5
 obtain ⟨o5',ge5',gc5⟩:=fl5.there
 rw [ge5] at ge5';cases ge5'
 refine zkE (I5.bk _ _ hC) (I5.bk _ _ hC') ge5 gc5 hcb hcc ?_
 refine go e t C' oe.dict B H' h5 (fun h6 st up=>inv_at h6 st (up45.trans up)) (by rw [hst];exact fl5) ⟨o5,ge5,gd5⟩ ⟨b1,he0,b3,b4,b5⟩ hE
end
section
variable {suite:List Stmt} {rest:List ExceptHandler}
theorem zn0 (hg:Gl X y) (hst:X.stack = X.env :: X.outer) (hf:X.env.frame = some X.env.locals) (hex:X.ex = []) (hN:X.N.Nodup) (hj:X.N[j]? = some n) (hk:X.env.scope.names.lookup n = some .local) (I:Inv X pins σ H s)
 (hq:CXX X.prog X.w X.stack H s (fun cv od H2=>∃ C',cv = .ref C'/\Sup X.K X.mg y C C'/\∀ e,H2 e = none->th { nx:=fun σ' H'=>D.nx (σ'.set j none) H',rt:=D.rt,bk:=fun σ' H'=>D.bk (σ'.set j none) H',ct:=fun σ' H'=>D.ct (σ'.set j none) H' } (σ.set j (some (.ref e))) (upd H2 e (.ext (ExO e C' od)))) ev s')
 (hs:∀ ev,PSs (X.suite ev) (b0 :: suite) th) (hd:(y == ("__debug__":Str)) = false:=by decide) :
  wpAny (model X.prog X.w) X.A (noteFrame ev X.env) (fun _ s2=>wpAny (model X.prog X.w) X.A (setFlight ev none) (fun _ s3=>wpAny (model X.prog X.w) X.A (handleBy ev X.env (.ExceptHandler (some (.Name y np)) (some n) (b0 :: suite) hp :: rest)) (SP X pins D) X.xe s3) X.xe s2) X.xe s':=by
 refine zkN hg hst hf hex I hq (fun C' od H' ⟨C2,e,S,_⟩=>by cases e;exact S) (fun e t C' od B H' h5 ia fl dk nw ⟨C2,e2,S,ht⟩=>?_) hd
 cases e2
 obtain ⟨oe,h1,h2⟩:=dk
 refine codeAny_handlers_suite_as (Qh (zcy.any (lands_againW (M:=model X.prog X.w) (A:=X.A.mark (some (.ref e))) (E:=fun _ _=>False) (s:={ s' with heap:=h5 }) (Q:=fun _ s2=>∃ h6,s2 = { s' with heap:=h6 }/\Heap.FlyingW B X.stack e (.ref C') (.ref t) h6/\h5.UpToSlots h6) fl fun h' a b=>⟨h',rfl,a,b⟩)) ?_ fun _ _ z=>z.1.elim)
 rintro _ s6 ⟨⟨h6,rfl,fl6,up6⟩,dk6⟩
 have I6:=ia h6 fl6.1 up6
 obtain ⟨o6,g1,g2⟩:=dk6 e oe h1
 obtain ⟨o7,vs7,g3,g4,g5,_⟩:=fl6.first
 rw [show h6.get? e = some o6 from g1] at g3;cases g3
 obtain ⟨b1,b2,b3,b4,b5⟩:=nw
 have I7:=I6.take (o:=.ext (ExO e C' od)) b1 b2 b3 b4 b5 (zpQ ⟨o6,g1,g4,g2.trans h2,fun c z=>by rw [g5] at z;cases z⟩)
 refine zcr (M:=model X.prog X.w) (v:=.ref e) I7 hN hj (.inl hk) rfl (fun s8 I8=>?_) (.inr hk)
 refine Qh (hs e pins _ _ _ _ (I8.suite e) (ht e b2)) (fun f s3 q3=>?_) fun _ _ z=>False.elim z
 have q4:=q3.unsuite I8.ok
 cases f with
 | next=>obtain ⟨σ',H9,I9,q⟩:=q4;exact zeo I9 hN hj hk fun s10 I10=>⟨_,H9,I10,q⟩
 | brk=>obtain ⟨σ',H9,I9,q⟩:=q4;exact zeo I9 hN hj hk fun s10 I10=>⟨_,H9,I10,q⟩
 | cont=>obtain ⟨σ',H9,I9,q⟩:=q4;exact zeo I9 hN hj hk fun s10 I10=>⟨_,H9,I10,q⟩
 | ret u=>obtain ⟨v,σ',H9,I9,r,q⟩:=q4;exact zeo I9 hN hj hk fun s10 I10=>⟨v,_,H9,I10,r,q⟩
end
theorem zqv:typeLookup (.type "ValueError") "__getattribute__" = pure (some (.builtin "BaseException.__getattribute__")):=by rw [typeLookup_type,builtinLookup_eq_fast];kernel_rfl
theorem zo4:typeLookup (.type "ValueError") "__getattr__" = pure none:=by rw [typeLookup_type,builtinLookup_eq_fast];kernel_rfl
section
variable {a dx:Addr}
 {nm q name:Str} {C N:Addr} {bs bm:List Value} {sn ns:List Str} {sub:List Value} {ab:Bool} {col:Option Bool} {dd:Option Addr} {k0 k1 k2 k3 k5:Option Value} {newId:String} {mN mA:Str->Option Value} {v:Value}
theorem zi4 (hC:h.get? C = some (excClassObj nm q C N bs bm true sn sub ab col dd k0 k1 k2 k3 k5 newId)) (T:Tl h zcd ns bm) (hi:("__init__":Str) ∈ ns) (hx:h.get? a = some o) (hc:o.cls = .ref C) (hq:Q () ⟨h,g,d,t,os⟩) :
  wpAny M A (checkBuiltinCall "BaseException.__getattribute__" ⟨[.ref a,u],[]⟩) Q E ⟨h,g,d,t,os⟩:=by
 have hk:builtinKind "BaseException.__getattribute__" = some .slot:=by decide +kernel
 have hs:splitId "BaseException.__getattribute__" = some ("BaseException","__getattribute__"):=by decide +kernel
 have hb:(Value.ref C :: bm).contains (.type "BaseException") = true:=by rw [contains_cons,(T.tail hi).hasType PySem.F.excBase_ValueError.hasBase];rfl
 have ha:=PySem.F.args_bexc_ga (.ref a) u
 simp only [checkBuiltinCall,hk,hs]
 refine Q2 ?_
 unfold isInstance
 repeat (first | (with_reducible refine wpAny_loadPart_at hx ?_;rw [hc]) | (with_reducible refine wpAny_isSubtype_exc hC ?_;rw [hb]) | wp_step)
 exact hq
theorem zi3 {tk:Tok} {Q:PySem.Fin->Shared->Prop} (hC:h.get? C = some (excClassObj nm q C N bs bm true sn sub ab col dd k0 k1 k2 k3 k5 newId)) (hn:h.Ns N mN) (T:Tl h zcd ns bm) (m2:mN name = none) (hm:name ∈ ns) (hB:typeLookup (.type "ValueError") name = pure none)
  (hx:h.get? a = some o) (hc:o.cls = .ref C) (hnc:∀ c,o.data ≠ .cls c) (hd:o.dict = some dx) (hD:h.Ns dx mA) (hv:mA name = some v) (hq:Q (.done (.ret v)) ⟨h,g,d,t,os⟩) :
  wpAny (model prog w) A (Builtin.«object.__getattribute__» ⟨[.ref a,.str name tk],[]⟩) Q E ⟨h,g,d,t,os⟩:=by
 unfold Builtin.«object.__getattribute__»
 repeat (first | (with_reducible refine wpAny_loadPart_at hx ?_;rw [hc]) | (with_reducible refine zcE hC hn T hm PySem.F.store_ValueError.mro hB ?_;rw [m2]) | wp_step)
 split
 ·rename_i c hcd
  exact absurd hcd (hnc c)
 unfold instanceDict
 repeat (first | (with_reducible refine wpAny_loadPart_at hx ?_;rw [hc]) | with_reducible refine wpAny_loadPart_at hC ?_ | wp_step)
 rw [hd]
 repeat (first | (with_reducible refine wpAny_nsGet hD ?_;rw [hv]) | wp_step)
 exact hq
theorem zqP {expr:Bool} {Q:Value->Shared->Prop} (hC:h.get? C = some (excClassObj nm q C N bs bm true sn sub ab col dd k0 k1 k2 k3 k5 newId)) (hn:h.Ns N mN) (T:Tl h zcd ns bm) (hi:("__init__":Str) ∈ ns) (m2:mN name = none) (hm:name ∈ ns) (m3:mN "__getattribute__" = none) (h3:("__getattribute__":Str) ∈ ns) (m4:mN "__getattr__" = none) (h4:("__getattr__":Str) ∈ ns)
  (hB:typeLookup (.type "ValueError") name = pure none) (hx:h.get? a = some o) (hc:o.cls = .ref C) (hnc:∀ c,o.data ≠ .cls c) (hd:o.dict = some dx) (hD:h.Ns dx mA) (hv:mA name = some v) (hh:handedOut v = pure v) (hq:Q v ⟨h,g,d,t + 1,os⟩) :
  wpAny (model prog w) A (getAttr (.ref a) name expr) Q E ⟨h,g,d,t,os⟩:=by
 have f3:=PySem.F.excAttr_ValueError.ga.bind (.ref a)
 have hx0:(expr && onTheHeap (Value.builtin "BaseException.__getattribute__")) = false:=by cases expr <;> rfl
 have hx2:(Value.builtin "BaseException.__getattribute__" == Value.builtin "object.__getattribute__") = false:=by decide +kernel
 have hx1:(onTheHeap (Value.ref C) && Value.builtin "BaseException.__getattribute__" == Value.builtin "object.__getattribute__") = false:=by rw [hx2];rfl
 unfold getAttr
 repeat (any_goals (first | assumption | (with_reducible refine wpAny_loadPart_at hx ?_;rw [hc]) | (with_reducible refine zcE hC hn T h3 PySem.F.store_ValueError.mro zqv ?_;rw [m3]) | (with_reducible refine zcE hC hn T h4 PySem.F.store_ValueError.mro zo4 ?_;rw [m4]) | wp_step))
 refine codeAny_call_builtin PySem.F.excAttr_ValueError.ga.plain PySem.F.entry_bexc_ga (zi4 hC T hi hx hc (zi3 hC hn T m2 hm hB hx hc hnc hd hD hv ?_))
 show wpAny _ _ (handedOut v) _ _ _
 rw [hh]
 exact Qg hq
end
theorem handed {x:V} (r:RelV x v):handedOut v = pure v:=by
 cases x with
 | non=>cases r;rfl
 | bl b=>cases r;rfl
 | int i=>obtain ⟨_,rfl⟩:=r;rfl
 | str i=>obtain ⟨_,rfl⟩:=r;rfl
 | byt i=>obtain ⟨_,rfl⟩:=r;rfl
 | flt i=>obtain ⟨_,rfl⟩:=r;rfl
 | ref a=>cases r;rfl
 | ty n=>cases r;rfl
section
variable {e:Expr} {te:TE}
theorem zoH (he:PE X e te) (hb:attributeBase e "at" X.env (eval e X.env) = eval e X.env):PE X (.Attribute e "at" pos) (fun σ H Q=>te σ H fun x H1=>∃ a C d us v nm fI,x = .ref a/\H1 a = some (.ext (ExO a C (some d)))/\H1 d = some (.xd us)/\XcAt X.K X.mg nm C fI/\us.lookup ("at":Str) = some v/\Q v H1):=by
 intro pins s σ H Q I h
 refine ziZ hb (thn (he pins s σ H _ I h) fun u s1 ⟨x,H1,I1,rx,a,C,d,us,v,nm,fI,ex,ea,ed,O,l,q⟩=>?_)
 subst ex
 obtain rfl:u = Value.ref a:=rx
 obtain ⟨bm,N,nm,qq,bs,sn,sub,ab,col,dd,k0,k1,k2,k3,k5,mN,hC,hN,hi,hno,T⟩:=O.obj s1.heap I1.kIn
 obtain ⟨⟨ob,g1,g2,g3,g4⟩,_,_⟩:=I1.hok a _ ea
 obtain ⟨mA,n1,rel⟩:=(show ObjOk X.prog X.w H1 s1.heap d (.xd us) from I1.hok d _ ed)
 have rl:=rel "at"
 rw [l] at rl
 cases hm:mA "at" with
 | none=>rw [hm] at rl;exact rl.elim
 | some w=>
  rw [hm] at rl
  obtain ⟨h2,ge,dr,tk,os⟩:=s1
  refine zqP hC hN T (by decide) (hno _ (by decide)) (by decide) (hno _ (by decide)) (by decide) (hno _ (by decide)) (by decide) ziL g1 g2 g4 g3 n1.ns hm (handed rl) ⟨v,H1,I1.tok _,rl,q⟩
end
def PX (X:Cx) (sts:List Stmt) (t:XK->TS):Prop:=
 ∀ (E:XK) (pins:List (Addr × Obj)) (s:Shared) (σ:St) (H:Hp) (D:Ends),Inv X pins σ H s->t E D σ H->
  wpAny (model X.prog X.w) X.A (execs sts X.env) (SP X pins D) (fun ev s'=>∃ H1 s1,Inv X pins σ H1 s1/\CXX X.prog X.w X.stack H1 s1 E ev s') s
section
variable {k:Nat} {ps:List Str} {sp:Sp} {v:Str} {pos2 tp vp:Pos} {e c:Expr} {es:List Expr} {tc:TT} {suite sts b1 b2:List Stmt} {t t1 t2:XK->TS}
theorem zqb {E:XK} {Q:VK} (F:FnOk X.prog X.w X.K X.mg X.base (CXX X.prog X.w) k f fd ps sp) (hr:Room k X.A) (hg:Gl X x) (hm:X.mg x = some (.ref f)) (hk:PySem.W.keepIn X.K (.ref f) = true) (hb:Binds X.K fd ps [])
 (ha:∀ E',PA (X.wish E') (e :: es) ta) (hdb:(x == ("__debug__":Str)) = false) (he:starEach (e :: es) X.env = (false,eval e X.env) :: starEach es X.env) (hpl:(backTo pos (starEach es X.env)).any (·.1) = false) (I:Inv X pins σ H s) (h:ta σ H fun vs H1=>sp vs H1 Q E) :
  wpAny (model X.prog X.w) X.A (eval (.Call (.Name x p) (e :: es) [] pos) X.env) (EP X pins σ Q) (fun ev s'=>∃ H1 s1,Inv X pins σ H1 s1/\CXX X.prog X.w X.stack H1 s1 E ev s') s:=by
 refine wpAny_Call_Name_kw (zbH (X:=X) I hg hm ?_ hdb)
 refine PySem.W.callWith_K (h₀:=X.base) I.ok.mod.kin hk (thn (ha (fun ev s'=>∃ H1 s1,Inv X pins σ H1 s1/\CXX X.prog X.w X.stack H1 s1 E ev s') pos pins s σ H _ (I.wish _) h) fun us s1 ⟨vs,H1,I1,r,q⟩=>⟨I1.kIn,?_⟩) he hpl
 have hl:us.length = ps.length:=by rw [← r.length];exact F.len _ _ _ _ q
 have I1':=I1.unwish
 refine wpAny_call (codeAny_mono (F.run X.A X.stack s1 H1 ⟨us,[]⟩ us vs _ _ hr I1'.env0 (by have:=hb s1 us I1'.kIn (by rw [append_nil];exact hl);rw [append_nil] at this;exact this) r q) fun r s' hq=>?_)
 cases r with
 | error ee=>exact ⟨H1,s1,I1',hq⟩
 | ok fl=>
  cases fl with
  | ret u=>exact I1'.after hq
  | next=>exact False.elim hq
  | brk=>exact False.elim hq
  | cont=>exact False.elim hq
theorem zmS (F:FnOk X.prog X.w X.K X.mg X.base (CXX X.prog X.w) k f fd ps sp) (hr:Room k X.A) (hg:Gl X x) (hm:X.mg x = some (.ref f)) (hk:PySem.W.keepIn X.K (.ref f) = true) (hb:Binds X.K fd ps []) (ha:∀ E',PA (X.wish E') (e :: es) ta)
  (hdb:(x == ("__debug__":Str)) = false:=by decide) (he:starEach (e :: es) X.env = (false,eval e X.env) :: starEach es X.env:=by rfl) (hpl:(backTo pos (starEach es X.env)).any (·.1) = false:=by rfl) (hsw:swapsWith (.Call (.Name x p) (e :: es) [] pos) none pos2.line X.env = pure false:=by rfl) :
  PX X [.Expr (.Call (.Name x p) (e :: es) [] pos) pos2] (fun E D σ H=>ta σ H fun vs H1=>sp vs H1 (fun _ H2=>D.nx σ H2) E):=by
 intro E pins s σ H D I h
 refine wpAny_execs_cons (Qh (Q:=SP X pins D) (wpAny_Expr_any (thn (zqb F hr hg hm hk hb ha hdb he hpl I h) fun u s1 ⟨w,H1,I1,r,q⟩=>?_) I.quiet hsw) (fun fl s1 q=>?_) fun _ _ z=>z)
 ·exact ⟨σ,H1,I1,q⟩
 ·cases fl with
  | next=>exact wpAny_execs_nil q
  | brk=>exact q
  | cont=>exact q
  | ret u=>exact q
theorem zmY (hb:PX X sts t) (hgy:Gl X y) (hst:X.stack = X.env :: X.outer) (hf:X.env.frame = some X.env.locals) (hex:X.ex = []) (hN:X.N.Nodup) (hj:X.N[j]? = some n) (hk:X.env.scope.names.lookup n = some .local) (hs:∀ ev,PSs (X.suite ev) (b0 :: suite) th) (hdy:(y == ("__debug__":Str)) = false:=by decide) :
  PS X (.Try sts [.ExceptHandler (some (.Name y np)) (some n) (b0 :: suite) hp] [] [] tp) (fun D σ H=>t (fun cv od H2=>∃ C',cv = .ref C'/\Sup X.K X.mg y C C'/\∀ e,H2 e = none->th { nx:=fun σ' H'=>D.nx (σ'.set j none) H',rt:=D.rt,bk:=fun σ' H'=>D.bk (σ'.set j none) H',ct:=fun σ' H'=>D.ct (σ'.set j none) H' } (σ.set j (some (.ref e))) (upd H2 e (.ext (ExO e C' od)))) D σ H):=by
 intro pins s σ H D I h
 refine wpAny_Try_except (Qh (hb _ pins s σ H D I h) (fun fl s1 q=>?_) fun ev s1 ⟨H1,s0,I1,hq⟩=>?_)
 ·cases fl with
  | next=>exact wpAny_execs_nil q
  | brk=>exact q
  | cont=>exact q
  | ret u=>exact q
 ·exact zn0 hgy hst hf hex hN hj hk I1 hq hs hdy
end
end L2
namespace FT
open PySem PySem.Spec PyProof.Rows L2
noncomputable def noStar:Expr->Bool
 | .Starred _ _=>false
 | _=>true
variable {e:Expr} {es:List Expr}
theorem zX {env:PySem.Env} (h:noStar e = true):starEach (e :: es) env = (false,eval e env) :: starEach es env:=by
 cases e <;> first | rfl | cases h
variable {pos:Pos}
theorem zbC {env:PySem.Env} :∀ {es:List Expr},es.all noStar = true->(backTo pos (starEach es env)).any (·.1) = false:=by
 intro es h
 have h1:(starEach es env).any (·.1) = false:=by
  induction es with
  | nil=>rfl
  | cons e es ih=>
   rw [all_cons,Qu] at h
   rw [zX h.1,any_cons,ih h.2]
   rfl
 have h2:∀ l:List (Bool × Sem Value),l.any (·.1) = false->(backTo pos l).any (·.1) = false:=by
  intro l hl
  unfold backTo
  rw [List.any_map]
  exact hl
 exact h2 _ h1
inductive T where
 | non | bl (b:Bool) | int (i:Int) | str (x:Str) | ty (n:String) | tup (xs:List T) | lst (xs:List T) | ref (a:Nat) | dct (kvs:List (Key × T)) | exc (C:Addr) (fs:List (Str × T))
inductive Cell where
 | lst (xs:List T) | dic (kvs:List (Key × T)) | ins (C:Addr) (fs:List (Str × T))
noncomputable abbrev Mem:=List Cell
noncomputable abbrev Ev:=List (Option T)
inductive Out (β:Type) where
 | ok (b:β) (M:Mem) | exn (C:Addr) (fs:List (Str × T)) (M:Mem) | bad
noncomputable def Out.bind {β γ:Type} (o:Out β) (k:β->Mem->Out γ):Out γ:=match o with
 | .ok b M=>k b M
 | .exn C fs M=>.exn C fs M
 | .bad=>.bad
theorem zew {β γ:Type} (b:β) (M:Mem) (k:β->Mem->Out γ):(Out.ok b M).bind k = k b M:=rfl
theorem zru {β γ:Type} (k:β->Mem->Out γ):(Out.bad:Out β).bind k = .bad:=rfl
structure Sit where
 α:Nat->Addr
 M:Mem
 H:Hp
 hid:List Addr
def Sit.off (S:Sit) (p:Addr):Prop:=(∀ a,a < S.M.length->S.α a ≠ p)/\p ∉ S.hid
def KL (K:Frag) (a:Addr) (xs:List V):Prop:=
 ∃ (o:Obj) (its:Array Value) (n:Nat),K.lookup a = some o/\o.cls = .type "list"/\o.dict = none/\o.data = .seq its n/\its.size<=sizeLine/\Vals xs its.toList
inductive Rep (K:Frag) (S:Sit):T->V->Prop where
 | non:Rep K S .non .non
 | bl (b:Bool):Rep K S (.bl b) (.bl b)
 | int (i:Int):Rep K S (.int i) (.int i)
 | str (x:Str):Rep K S (.str x) (.str x)
 | ty (x:String):Rep K S (.ty x) (.ty x)
 | tup {ts:List T} {p:Addr} {vs:List V} (h:SqT K S.H p vs) (l:ts.length = vs.length) (r:∀ (i:Nat) t v,ts[i]? = some t->vs[i]? = some v->Rep K S t v):Rep K S (.tup ts) (.ref p)
 | lst {ts:List T} {p:Addr} {vs:List V} (h:(Rd S.H p (.lst vs)/\S.off p)\/KL K p vs) (l:ts.length = vs.length) (r:∀ (i:Nat) t v,ts[i]? = some t->vs[i]? = some v->Rep K S t v):Rep K S (.lst ts) (.ref p)
 | ref {a:Nat} (h:a < S.M.length):Rep K S (.ref a) (.ref (S.α a))
 | dct {kvs:List (Key × T)} {us:List (Key × V)} {p:Addr} {o:Obj} (h:S.H p = some (.frz o (.dK us))) (l:kvs.map (·.1) = us.map (·.1)) (r:∀ (i:Nat) t v,(kvs.map (·.2))[i]? = some t->(us.map (·.2))[i]? = some v->Rep K S t v):Rep K S (.dct kvs) (.ref p)
 | exc {C:Addr} {fs:List (Str × T)} {us:List (Str × V)} {p:Addr} {od:Option Addr} (h:S.H p = some (.ext (ExO p C od))) (hd:(od = none/\us = [])\/∃ d,od = some d/\S.H d = some (.xd us)) (l:fs.map (·.1) = us.map (·.1)) (r:∀ (i:Nat) t v,(fs.map (·.2))[i]? = some t->(us.map (·.2))[i]? = some v->Rep K S t v):Rep K S (.exc C fs) (.ref p)
def Reps (K:Frag) (S:Sit) (ts:List T) (vs:List V):Prop:=ts.length = vs.length/\∀ (i:Nat) t v,ts[i]? = some t->vs[i]? = some v->Rep K S t v
def RepF (K:Frag) (S:Sit) (fs:List (Str × T)) (us:List (Str × V)):Prop:=fs.map (·.1) = us.map (·.1)/\Reps K S (fs.map (·.2)) (us.map (·.2))
def RepK (K:Frag) (S:Sit) (fs:List (Key × T)) (us:List (Key × V)):Prop:=fs.map (·.1) = us.map (·.1)/\Reps K S (fs.map (·.2)) (us.map (·.2))
noncomputable def CellOk (K:Frag) (S:Sit) (p:Addr):Cell->Prop
 | .lst ts=>∃ vs,S.H p = some (.lst vs)/\Reps K S ts vs
 | .dic kvs=>∃ us,S.H p = some (.dK us)/\RepK K S kvs us
 | .ins C fs=>∃ dx us,S.H p = some (.ins C dx us)/\RepF K S fs us
structure MemOk (K:Frag) (S:Sit):Prop where
 cell:∀ a c,S.M[a]? = some c->CellOk K S (S.α a) c
 inj:∀ a b,a < S.M.length->b < S.M.length->S.α a = S.α b->a = b
 hd:∀ p ∈ S.hid,(∀ a,a < S.M.length->S.α a ≠ p)/\∃ vs,S.H p = some (.lst vs)
structure Grow (S S':Sit):Prop where
 le:S.M.length<=S'.M.length
 al:∀ a,a < S.M.length->S'.α a = S.α a
 fr:∀ a,S.M.length<=a->a < S'.M.length->S.H (S'.α a) = none
 kp:∀ b o,S.H b = some o->S.off b->S'.H b = some o
 hk:∀ p ∈ S.hid,p ∈ S'.hid/\S'.H p = S.H p
 hf:∀ p ∈ S'.hid,p ∈ S.hid\/S.H p = none
structure Stp (K:Frag) (S S':Sit):Prop extends Grow S S' where
 mok:MemOk K S'
variable {p:Addr} {K:Frag} {ts:List T} {vs:List V} {S S':Sit} {t:T} {v:V}
section
variable {S'':Sit}
theorem MemOk.some (m:MemOk K S) {a:Nat} (h:a < S.M.length):∃ o,S.H (S.α a) = Option.some o/\Mut (Option.some o):=by
 have e:S.M[a]? = Option.some S.M[a]:=by simp [h]
 have c:=m.cell a _ e
 cases q:S.M[a] with
 | lst ts=>rw [q] at c;obtain ⟨vs,e,_⟩:=c;exact ⟨_,e,trivial⟩
 | dic ts=>rw [q] at c;obtain ⟨vs,e,_⟩:=c;exact ⟨_,e,trivial⟩
 | ins C fs=>rw [q] at c;obtain ⟨dx,vs,e,_⟩:=c;exact ⟨_,e,trivial⟩
theorem MemOk.off_of (m:MemOk K S) {o:Option HO} (e:S.H p = o) (h:¬ Mut o):S.off p:=by
 refine ⟨fun a ha z=>?_,fun z=>?_⟩
 ·obtain ⟨o',e',mu⟩:=m.some ha
  rw [z,e] at e'
  rw [e'] at h
  exact h mu
 ·obtain ⟨_,vs,q⟩:=m.hd p z
  rw [e] at q
  rw [q] at h
  exact h trivial
theorem MemOk.off_ext (m:MemOk K S) {φ:Heap->Prop} (e:S.H p = Option.some (.ext φ)):S.off p:=by
 refine ⟨fun a ha z=>?_,fun z=>?_⟩
 ·have ea:S.M[a]? = Option.some S.M[a]:=by simp [ha]
  have c:=m.cell a _ ea
  cases q:S.M[a] with
  | lst ts=>rw [q] at c;obtain ⟨vs,e',_⟩:=c;rw [z,e] at e';cases e'
  | dic ts=>rw [q] at c;obtain ⟨vs,e',_⟩:=c;rw [z,e] at e';cases e'
  | ins C fs=>rw [q] at c;obtain ⟨dx,vs,e',_⟩:=c;rw [z,e] at e';cases e'
 ·obtain ⟨_,vs,q⟩:=m.hd p z
  rw [e] at q;cases q
theorem MemOk.off_none (m:MemOk K S) (e:S.H p = none):S.off p:=m.off_of e (fun z=>z)
theorem Grow.tup (g:Grow S S') (m:MemOk K S) (h:SqT K S.H p vs):SqT K S'.H p vs:=by
 rcases h with (h | ⟨o,h⟩) | h
 ·exact .inl (.inl (g.kp _ _ h (m.off_of h (fun z=>z))))
 ·exact .inl (.inr ⟨o,g.kp _ _ h (m.off_of h (fun z=>z))⟩)
 ·exact .inr h
theorem Grow.off (g:Grow S S') {o:HO} (h:S.H p = some o) (f:S.off p):S'.off p:=by
 refine ⟨fun a ha z=>?_,fun z=>?_⟩
 ·by_cases hl:a < S.M.length
  ·rw [g.al a hl] at z;exact f.1 a hl z
  ·have:=g.fr a (Nat.le_of_not_lt hl) ha
   rw [z,h] at this
   cases this
 ·rcases g.hf p z with q | q
  ·exact f.2 q
  ·rw [h] at q;cases q
theorem Grow.rd (g:Grow S S') {u:HO} (h:Rd S.H p u) (f:S.off p):Rd S'.H p u/\S'.off p:=by
 rcases h with h | ⟨o,h⟩
 ·exact ⟨.inl (g.kp _ _ h f),g.off h f⟩
 ·exact ⟨.inr ⟨o,g.kp _ _ h f⟩,g.off h f⟩
theorem Rep.grow (m:MemOk K S) (g:Grow S S') (r:Rep K S t v):Rep K S' t v:=by
 induction r with
 | non=>exact .non
 | bl b=>exact .bl b
 | int b=>exact .int b
 | str b=>exact .str b
 | ty b=>exact .ty b
 | tup h l _ ih=>exact .tup (g.tup m h) l ih
 | lst h l _ ih=>
  refine .lst ?_ l ih
  rcases h with ⟨h,f⟩ | h
  ·exact .inl (g.rd h f)
  ·exact .inr h
 | ref h=>rw [← g.al _ h];exact .ref (Q6 h g.le)
 | dct h l _ ih=>exact .dct (g.kp _ _ h (m.off_of h (fun z=>z))) l ih
 | exc h hd l _ ih=>exact .exc (g.kp _ _ h (m.off_ext h)) (hd.imp (fun z=>z) fun ⟨d,a,b⟩=>⟨d,a,g.kp _ _ b (m.off_of b (fun z=>z))⟩) l ih
theorem Reps.grow (m:MemOk K S) (g:Grow S S') (r:Reps K S ts vs):Reps K S' ts vs:=⟨r.1,fun i t v e1 e2=>(r.2 i t v e1 e2).grow m g⟩
theorem RepF.grow (m:MemOk K S) (g:Grow S S') {ts:List (Str × T)} {vs:List (Str × V)} (r:RepF K S ts vs):RepF K S' ts vs:=⟨r.1,r.2.grow m g⟩
theorem RepK.grow (m:MemOk K S) (g:Grow S S') {ts:List (Key × T)} {vs:List (Key × V)} (r:RepK K S ts vs):RepK K S' ts vs:=⟨r.1,r.2.grow m g⟩
theorem Reps.nil:Reps K S [] []:=⟨rfl,fun _ _ _ e _=>by simp at e⟩
theorem Reps.cons (r:Rep K S t v) (rs:Reps K S ts vs):Reps K S (t :: ts) (v :: vs):=by
 refine ⟨by simp [rs.1],fun i a b e1 e2=>?_⟩
 cases i with
 | zero=>simp at e1 e2;subst e1;subst e2;exact r
 | succ i=>exact rs.2 i a b (by simpa using e1) (by simpa using e2)
theorem Reps.nil_inv (r:Reps K S ts []):ts = []:=List.length_eq_zero_iff.mp (by rw [r.1];rfl)
theorem Reps.consT (r:Reps K S (t :: ts) vs):∃ v vs',vs = v :: vs'/\Rep K S t v/\Reps K S ts vs':=by
 cases vs with
 | nil=>have:=r.1;simp at this
 | cons v vs'=>exact ⟨v,vs',rfl,r.2 0 t v rfl rfl,by have:=r.1;simpa using this,fun i a b e1 e2=>r.2 (i + 1) a b (by simpa using e1) (by simpa using e2)⟩
theorem Reps.nilT (r:Reps K S [] vs):vs = []:=List.length_eq_zero_iff.mp (by rw [← r.1];rfl)
theorem Reps.app {ts':List T} {vs':List V} (r:Reps K S ts vs) (r':Reps K S ts' vs'):Reps K S (ts ++ ts') (vs ++ vs'):=by
 induction ts generalizing vs with
 | nil=>rw [r.nilT];exact r'
 | cons t ts ih=>
  obtain ⟨v,vs1,rfl,r1,r2⟩:=r.consT
  exact (ih r2).cons r1
theorem Reps.get (r:Reps K S ts vs) {i:Nat} (e:ts[i]? = some t):∃ v,vs[i]? = some v/\Rep K S t v:=by
 have hi:i < vs.length:=by rw [← r.1];exact (List.getElem?_eq_some_iff.mp e).1
 have e2:vs[i]? = some vs[i]:=by simp [hi]
 exact ⟨_,e2,r.2 i t _ e e2⟩
theorem Reps.set (r:Reps K S ts vs) (q:Rep K S t v) (j:Nat):Reps K S (ts.set j t) (vs.set j v):=by
 refine ⟨by simp [r.1],fun i a b e1 e2=>?_⟩
 rw [Qd] at e1 e2
 by_cases h:j = i
 ·subst h
  by_cases hl:j < ts.length
  ·rw [if_pos rfl,if_pos hl] at e1
   rw [if_pos rfl,if_pos (by rw [← r.1];exact hl)] at e2
   cases e1;cases e2;exact q
  ·rw [if_pos rfl,if_neg hl] at e1;cases e1
 ·rw [if_neg h] at e1 e2
  exact r.2 i a b e1 e2
theorem Reps.sub (r:Reps K S ts vs) (a b:Nat):Reps K S ((ts.drop a).take b) ((vs.drop a).take b):=by
 refine ⟨by simp [r.1],fun i x y e1 e2=>?_⟩
 rw [getElem?_take] at e1 e2
 split at e1
 ·rename_i h
  rw [if_pos h] at e2
  rw [List.getElem?_drop] at e1 e2
  exact r.2 _ x y e1 e2
 ·cases e1
theorem CellOk.grow (m:MemOk K S) (g:Grow S S') {c:Cell} (e:S'.H p = S.H p) (h:CellOk K S p c):CellOk K S' p c:=by
 cases c with
 | lst ts=>obtain ⟨vs,q,r⟩:=h;exact ⟨vs,by rw [e];exact q,r.grow m g⟩
 | dic ts=>obtain ⟨vs,q,r⟩:=h;exact ⟨vs,by rw [e];exact q,r.grow m g⟩
 | ins C ts=>obtain ⟨dx,vs,q,r⟩:=h;exact ⟨dx,vs,by rw [e];exact q,r.grow m g⟩
theorem Stp.refl (m:MemOk K S):Stp K S S:=⟨⟨Q4 _,fun _ _=>rfl,fun a h1 h2=>absurd (Q6 h2 h1) (Qp _),fun _ _ e _=>e,fun _ h=>⟨h,rfl⟩,fun _ h=>.inl h⟩,m⟩
theorem Stp.trans (a:Stp K S S') (b:Stp K S' S''):Stp K S S'':=by
 have nn:∀ p,S'.H p = none->S.H p = none:=fun p hn=>by
  cases q:S.H p with
  | none=>rfl
  | some o=>
   by_cases f:S.off p
   ·rw [a.kp _ _ q f] at hn;cases hn
   ·exfalso
    apply f
    refine ⟨fun c hc z=>?_,fun z=>?_⟩
    ·have h3:c < S'.M.length:=Q6 hc a.le
     obtain ⟨o',e',_⟩:=a.mok.some h3
     rw [a.al c hc,z,hn] at e'
     cases e'
    ·rw [(a.hk p z).2,q] at hn;cases hn
 refine ⟨⟨Qk a.le b.le,fun i hi=>(b.al i (Q6 hi a.le)).trans (a.al i hi),fun i h1 h2=>?_,fun p o e f=>b.kp _ _ (a.kp _ _ e f) (a.off e f),fun p h=>⟨(b.hk p (a.hk p h).1).1,(b.hk p (a.hk p h).1).2.trans (a.hk p h).2⟩,fun p h=>?_⟩,b.mok⟩
 ·by_cases hl:i < S'.M.length
  ·rw [b.al i hl];exact a.fr i h1 hl
  ·exact nn _ (b.fr i (Nat.le_of_not_lt hl) h2)
 ·rcases b.hf p h with q | q
  ·exact a.hf p q
  ·exact .inr (nn p q)
theorem Stp.new (m:MemOk K S) (hp:S.H p = none) (o:HO):Stp K S ⟨S.α,S.M,upd S.H p o,S.hid⟩:=by
 have g:Grow S ⟨S.α,S.M,upd S.H p o,S.hid⟩:=⟨Q4 _,fun _ _=>rfl,fun a h1 h2=>absurd (Q6 h2 h1) (Qp _),fun b u e _=>by show upd S.H p o b = _;rw [yh (yA e hp)];exact e,fun q h=>⟨h,by obtain ⟨_,vs,e⟩:=m.hd q h;exact yh (yA e hp)⟩,fun q h=>.inl h⟩
 refine ⟨g,⟨fun a c e=>?_,m.inj,fun q h=>?_⟩⟩
 rotate_left
 ·obtain ⟨h1,vs,e⟩:=m.hd q h
  exact ⟨h1,vs,(yh (yA e hp)).trans e⟩
 refine (m.cell a c e).grow m g ?_
 have ha:a < S.M.length:=(List.getElem?_eq_some_iff.mp e).1
 exact yh ((m.off_none hp).1 a ha)
noncomputable def Sit.more (S:Sit) (p:Addr) (o:HO) (c:Cell):Sit:=⟨fun a=>if a = S.M.length then p else S.α a,S.M ++ [c],upd S.H p o,S.hid⟩
theorem Grow.more (m:MemOk K S) (hp:S.H p = none) (o:HO) (c:Cell):Grow S (S.more p o c):=by
 refine ⟨by show _<=(S.M ++ [c]).length;simp,fun a h=>if_neg (Ql h),fun a h1 h2=>?_,fun b u e _=>?_,fun q h=>⟨h,by obtain ⟨_,vs,e⟩:=m.hd q h;exact yh (yA e hp)⟩,fun q h=>.inl h⟩
 ·have h3:a < (S.M ++ [c]).length:=h2
  have:a = S.M.length:=by simp at h3;omega
  show S.H (if a = S.M.length then p else S.α a) = none
  rw [if_pos this];exact hp
 ·show upd S.H p o b = _;rw [yh (yA e hp)];exact e
theorem Stp.more (m:MemOk K S) (hp:S.H p = none) (o:HO) (c:Cell) (hc:CellOk K (S.more p o c) p c):Stp K S (S.more p o c):=by
 have g:=Grow.more m hp o c
 refine ⟨g,⟨fun a d e=>?_,fun a b h1 h2 e=>?_,fun q h=>?_⟩⟩
 rotate_right
 ·obtain ⟨h1,vs,e⟩:=m.hd q h
  refine ⟨fun a ha z=>?_,vs,(yh (yA e hp)).trans e⟩
  have z':(if a = S.M.length then p else S.α a) = q:=z
  by_cases hl:a = S.M.length
  ·rw [if_pos hl] at z';rw [← z',hp] at e;cases e
  ·rw [if_neg hl] at z'
   have h3:a < (S.M ++ [c]).length:=ha
   exact h1 a (by simp at h3;omega) z'
 ·have e':(S.M ++ [c])[a]? = some d:=e
  by_cases ha:a < S.M.length
  ·rw [Q7 ha] at e'
   show CellOk K _ (if a = S.M.length then p else S.α a) d
   rw [if_neg (Ql ha)]
   exact (m.cell a d e').grow m g (yh ((m.off_none hp).1 a ha))
  ·rw [Q9 (Nat.le_of_not_lt ha)] at e'
   have h3:a - S.M.length = 0:=by
    cases q:a - S.M.length with
    | zero=>rfl
    | succ k=>rw [q] at e';simp at e'
   rw [h3] at e'
   cases e'
   show CellOk K _ (if a = S.M.length then p else S.α a) c
   rw [if_pos (by omega)]
   exact hc
 ·have h1':a < (S.M ++ [c]).length:=h1
  have h2':b < (S.M ++ [c]).length:=h2
  have e':(if a = S.M.length then p else S.α a) = (if b = S.M.length then p else S.α b):=e
  simp at h1' h2'
  by_cases ha:a = S.M.length
  ·by_cases hb:b = S.M.length
   ·omega
   ·rw [if_pos ha,if_neg hb] at e'
    exact absurd e'.symm ((m.off_none hp).1 b (by omega))
  ·by_cases hb:b = S.M.length
   ·rw [if_neg ha,if_pos hb] at e'
    exact absurd e' ((m.off_none hp).1 a (by omega))
   ·rw [if_neg ha,if_neg hb] at e'
    exact m.inj a b (by omega) (by omega) e'
noncomputable def Sit.put (S:Sit) (a:Nat) (o:HO) (c:Cell):Sit:=⟨S.α,S.M.set a c,upd S.H (S.α a) o,S.hid⟩
theorem Grow.put (m:MemOk K S) {a:Nat} (ha:a < S.M.length) (o:HO) (c:Cell):Grow S (S.put a o c):=by
 refine ⟨by show _<=(S.M.set a c).length;simp,fun _ _=>rfl,fun b h1 h2=>?_,fun b u e f=>?_,fun q h=>⟨h,yh (Ne.symm ((m.hd q h).1 a ha))⟩,fun q h=>.inl h⟩
 ·have h3:b < (S.M.set a c).length:=h2
  simp at h3
  exact absurd (Q6 h3 h1) (Qp _)
 ·show upd S.H (S.α a) o b = _
  rw [yh (Ne.symm (f.1 a ha))];exact e
theorem Stp.put (m:MemOk K S) {a:Nat} (ha:a < S.M.length) (o:HO) (c:Cell) (hc:CellOk K (S.put a o c) (S.α a) c):Stp K S (S.put a o c):=by
 have g:=Grow.put m ha o c
 refine ⟨g,⟨fun b d e=>?_,fun i j h1 h2 e=>?_,fun q h=>?_⟩⟩
 rotate_right
 ·obtain ⟨h1,vs,e⟩:=m.hd q h
  refine ⟨fun b hb z=>?_,vs,(yh (Ne.symm (h1 a ha))).trans e⟩
  have h3:b < (S.M.set a c).length:=hb
  simp at h3
  exact h1 b h3 z
 ·have e':(S.M.set a c)[b]? = some d:=e
  rw [Qd] at e'
  by_cases h:a = b
  ·subst h
   rw [if_pos rfl,if_pos ha] at e'
   cases e'
   exact hc
  ·rw [if_neg h] at e'
   refine (m.cell b d e').grow m g (yh fun z=>h ?_)
   exact (m.inj b a (List.getElem?_eq_some_iff.mp e').1 ha z).symm
 ·have h1':i < (S.M.set a c).length:=h1
  have h2':j < (S.M.set a c).length:=h2
  simp at h1' h2'
  exact m.inj i j h1' h2' e
end
def EvR (K:Frag) (S:Sit) (στ:Ev) (σ:L2.St):Prop:=στ.length = σ.length/\∀ (i:Nat) t,στ[i]? = some (some t)->∃ v,σ[i]? = some (some v)/\Rep K S t v
class Mo (K:Frag) {β γ:Type} (R:Sit->β->γ->Prop):Prop where
 mo:∀ {S S' b c},MemOk K S->Stp K S S'->R S b c->R S' b c
noncomputable def UnR:Sit->Unit->Unit->Prop:=fun _ _ _=>True
noncomputable def EqR {β:Type}:Sit->β->β->Prop:=fun _ b c=>b = c
noncomputable def PrR {A AV B BV:Type} (RA:Sit->A->AV->Prop) (RB:Sit->B->BV->Prop):Sit->A × B->AV × BV->Prop:=fun S a v=>RA S a.1 v.1/\RB S a.2 v.2
instance (K):Mo K (Rep K):=⟨fun m s r=>r.grow m s.toGrow⟩
instance (K):Mo K (Reps K):=⟨fun m s r=>r.grow m s.toGrow⟩
instance (K):Mo K (EvR K):=⟨fun m s r=>⟨r.1,fun i t e=>let ⟨v,e',q⟩:=r.2 i t e;⟨v,e',q.grow m s.toGrow⟩⟩⟩
instance (K):Mo K UnR:=⟨fun _ _ r=>r⟩
instance (K) {β:Type}:Mo K (EqR (β:=β)):=⟨fun _ _ r=>r⟩
instance (K) {A AV B BV:Type} (RA:Sit->A->AV->Prop) (RB:Sit->B->BV->Prop) [Mo K RA] [Mo K RB]:Mo K (PrR RA RB):=⟨fun m s r=>⟨Mo.mo m s r.1,Mo.mo m s r.2⟩⟩
def zpU (K:Frag) (S:Sit) (fs:List (Str × T)) (od:Option Addr):Prop:=(fs = []/\od = none)\/∃ d us,od = some d/\S.H d = some (.xd us)/\RepF K S fs us
def Fin {β γ:Type} (XE:XK) (R:Sit->β->γ->Prop) (K:Frag) (S:Sit) (o:Out β) (Q:γ->Hp->Prop):Prop:=match o with
 | .ok b M'=>∀ S' c,S'.M = M'->Stp K S S'->R S' b c->Q c S'.H
 | .exn C fs M'=>∀ S' od,S'.M = M'->Stp K S S'->zpU K S' fs od->XE (.ref C) od S'.H
 | .bad=>False
variable {S1:Sit} {XE:XK}
theorem Fin.later {β γ:Type} {R:Sit->β->γ->Prop} {o:Out β} {Q:γ->Hp->Prop} (s:Stp K S S1) (h:Fin XE R K S o Q):Fin XE R K S1 o Q:=by
 cases o with
 | ok b M'=>exact fun S' c e s' r=>h S' c e (s.trans s') r
 | exn C fs M'=>exact fun S' c e s' r=>h S' c e (s.trans s') r
 | bad=>exact h
theorem Fin.mono {β γ:Type} {R:Sit->β->γ->Prop} {o:Out β} {Q Q':γ->Hp->Prop} (i:∀ c H,Q c H->Q' c H) (h:Fin XE R K S o Q):Fin XE R K S o Q':=by
 cases o with
 | ok b M'=>exact fun S' c e s' r=>i _ _ (h S' c e s' r)
 | exn C fs M'=>exact h
 | bad=>exact h
def LN {A AV β γ:Type} (XE:XK) (R:Sit->β->γ->Prop) (K:Frag) (RA:Sit->A->AV->Prop) (k:A->Ev->Mem->Out β) (av:AV) (σ:L2.St) (H:Hp) (Q:γ->Hp->Prop):Prop:=
 ∃ (S:Sit) (στ:Ev) (a:A),S.H = H/\MemOk K S/\EvR K S στ σ/\RA S a av/\Fin XE R K S (k a στ S.M) Q
def L0 {A AV β γ:Type} (XE:XK) (R:Sit->β->γ->Prop) (K:Frag) (RA:Sit->A->AV->Prop) (k:A->Mem->Out β) (av:AV) (H:Hp) (Q:γ->Hp->Prop):Prop:=
 ∃ (S:Sit) (a:A),S.H = H/\MemOk K S/\RA S a av/\Fin XE R K S (k a S.M) Q
variable {H:Hp} {σ:L2.St}
section
theorem LN.bind {A AV B BV β γ:Type} {R:Sit->β->γ->Prop} {RA:Sit->A->AV->Prop} {RB:Sit->B->BV->Prop} [Mo K RA] {f:A->Ev->Mem->Out B} {k:A->B->Ev->Mem->Out β} {av:AV} {Q:γ->Hp->Prop}
 (h:LN XE R K RA (fun a σ M=>(f a σ M).bind fun b M1=>k a b σ M1) av σ H Q) :
  LN XE RB K RA f av σ H (fun bv H1=>LN XE R K (PrR RA RB) (fun ab=>k ab.1 ab.2) (av,bv) σ H1 Q):=by
 obtain ⟨S,στ,a,e,m,ev,ra,fin⟩:=h
 refine ⟨S,στ,a,e,m,ev,ra,?_⟩
 replace fin:Fin XE R K S ((f a στ S.M).bind fun b M1=>k a b στ M1) Q:=fin
 cases q:f a στ S.M with
 | bad=>rw [q] at fin;exact fin
 | exn C fs M'=>rw [q] at fin;exact fin
 | ok b M1=>
  rw [q] at fin
  intro S1 c e1 s1 r1
  refine ⟨S1,στ,(a,b),rfl,s1.mok,Mo.mo m s1 ev,⟨Mo.mo m s1 ra,r1⟩,?_⟩
  rw [e1]
  exact fin.later s1
theorem LN.l0 {A AV β γ:Type} {R:Sit->β->γ->Prop} {RA:Sit->A->AV->Prop} {k:A->Mem->Out β} {av:AV} {Q:γ->Hp->Prop} (h:LN XE R K RA (fun a _ M=>k a M) av σ H Q):L0 XE R K RA k av H Q:=by
 obtain ⟨S,στ,a,e,m,ev,ra,fin⟩:=h
 exact ⟨S,a,e,m,ra,fin⟩
theorem LN.mono {A AV β γ:Type} {R:Sit->β->γ->Prop} {RA:Sit->A->AV->Prop} {k:A->Ev->Mem->Out β} {av:AV} {Q Q':γ->Hp->Prop} (h:LN XE R K RA k av σ H Q) (i:∀ c H,Q c H->Q' c H):LN XE R K RA k av σ H Q':=by
 obtain ⟨S,στ,a,e,m,ev,ra,fin⟩:=h
 exact ⟨S,στ,a,e,m,ev,ra,fin.mono i⟩
theorem LN.env {A AV β γ:Type} {R:Sit->β->γ->Prop} {RA:Sit->A->AV->Prop} {f:Ev->Mem->Out β} {av:AV} {Q:γ->Hp->Prop} (h:LN XE R K RA (fun _ σ M=>f σ M) av σ H Q):LN XE R K UnR (fun _ σ M=>f σ M) () σ H Q:=by
 obtain ⟨S,στ,a,e,m,ev,ra,fin⟩:=h
 exact ⟨S,στ,(),e,m,ev,trivial,fin⟩
end
noncomputable def lE (XE:XK) (K:Frag) (f:Ev->Mem->Out T):TE:=fun σ H Q=>LN XE (Rep K) K UnR (fun _ σ M=>f σ M) () σ H Q
noncomputable def lT (XE:XK) (K:Frag) (f:Ev->Mem->Out Bool):TT:=fun σ H Q=>LN XE EqR K UnR (fun _ σ M=>f σ M) () σ H Q
noncomputable def lA (XE:XK) (K:Frag) (f:Ev->Mem->Out (List T)):TA:=fun σ H Q=>LN XE (Reps K) K UnR (fun _ σ M=>f σ M) () σ H Q
def GE (X:Cx) (XE:XK) (e:Expr) (f:Ev->Mem->Out T):Prop:=PE X e (lE XE X.K f)
def GT (X:Cx) (XE:XK) (e:Expr) (f:Ev->Mem->Out Bool):Prop:=PT X e (lT XE X.K f)
def GW (X:Cx) (XE:XK) (e:Expr) (f:Ev->Mem->Out Bool):Prop:=PW X e (lT XE X.K f)
def GA (X:Cx) (XE:XK) (es:List Expr) (f:Ev->Mem->Out (List T)):Prop:=PA X es (lA XE X.K f)
variable {X:Cx}
theorem PE.imp {t t':TE} (h:PE X e t) (i:∀ σ H Q,t' σ H Q->t σ H Q):PE X e t':=fun pins s σ H Q I q=>h pins s σ H Q I (i σ H Q q)
variable {t':TT}
theorem PT.imp {t:TT} (h:PT X e t) (i:∀ σ H Q,t' σ H Q->t σ H Q):PT X e t':=fun pins s σ H Q I q=>h pins s σ H Q I (i σ H Q q)
theorem PW.imp {t:TT} (h:PW X e t) (i:∀ σ H Q,t' σ H Q->t σ H Q):PW X e t':=fun whole pins s σ H Q I q=>h whole pins s σ H Q I (i σ H Q q)
theorem PA.imp {e:List Expr} {t t':TA} (h:PA X e t) (i:∀ σ H Q,t' σ H Q->t σ H Q):PA X e t':=fun pos pins s σ H Q I q=>h pos pins s σ H Q I (i σ H Q q)
theorem PS.imp {e:Stmt} {t t':TS} (h:PS X e t) (i:∀ D σ H,t' D σ H->t D σ H):PS X e t':=fun pins s σ H D I q=>h pins s σ H D I (i D σ H q)
theorem PSs.imp {e:List Stmt} {t t':TS} (h:PSs X e t) (i:∀ D σ H,t' D σ H->t D σ H):PSs X e t':=fun pins s σ H D I q=>h pins s σ H D I (i D σ H q)
noncomputable def zb (i:Nat):Ev->Mem->Out T:=fun σ M=>match σ[i]? with
 | some (some t)=>.ok t M
 | _=>.bad
noncomputable def eC (t:T):Ev->Mem->Out T:=fun _ M=>.ok t M
noncomputable def eOp (o:T->T->Mem->Out T) (f g:Ev->Mem->Out T):Ev->Mem->Out T:=fun σ M=>(f σ M).bind fun x M1=>(g σ M1).bind fun y M2=>o x y M2
noncomputable def eUn (o:T->Mem->Out T) (f:Ev->Mem->Out T):Ev->Mem->Out T:=fun σ M=>(f σ M).bind fun x M1=>o x M1
noncomputable def blT {β:Type} (t:T) (M:Mem) (k:Bool->Mem->Out β):Out β:=match t with
 | .bl b=>k b M
 | _=>.bad
noncomputable def zr (f:Ev->Mem->Out T):Ev->Mem->Out Bool:=fun σ M=>(f σ M).bind fun x M1=>blT x M1 fun b M2=>.ok b M2
noncomputable def zbl (f g:Ev->Mem->Out Bool):Ev->Mem->Out Bool:=fun σ M=>(f σ M).bind fun c M1=>if c = true then g σ M1 else .ok false M1
noncomputable def zcq (f g:Ev->Mem->Out Bool):Ev->Mem->Out Bool:=fun σ M=>(f σ M).bind fun c M1=>if c = true then .ok true M1 else g σ M1
noncomputable def zcM (f:Ev->Mem->Out Bool):Ev->Mem->Out Bool:=fun σ M=>(f σ M).bind fun c M1=>.ok (!c) M1
noncomputable def zjE (f g:Ev->Mem->Out T):Ev->Mem->Out T:=fun σ M=>(f σ M).bind fun x M1=>blT x M1 fun b M2=>if b = true then g σ M2 else .ok (.bl false) M2
noncomputable def eOr (f g:Ev->Mem->Out T):Ev->Mem->Out T:=fun σ M=>(f σ M).bind fun x M1=>blT x M1 fun b M2=>if b = true then .ok (.bl true) M2 else g σ M2
noncomputable def zjD (f:Ev->Mem->Out T):Ev->Mem->Out T:=fun σ M=>(f σ M).bind fun x M1=>blT x M1 fun b M2=>.ok (.bl (!b)) M2
noncomputable def eIf (c:Ev->Mem->Out Bool) (f g:Ev->Mem->Out T):Ev->Mem->Out T:=fun σ M=>(c σ M).bind fun b M1=>if b = true then f σ M1 else g σ M1
noncomputable def zd:Ev->Mem->Out (List T):=fun _ M=>.ok [] M
noncomputable def yb (f:Ev->Mem->Out T) (g:Ev->Mem->Out (List T)):Ev->Mem->Out (List T):=fun σ M=>(f σ M).bind fun x M1=>(g σ M1).bind fun xs M2=>.ok (x :: xs) M2
noncomputable def yw (g:Ev->Mem->Out (List T)):Ev->Mem->Out T:=fun σ M=>(g σ M).bind fun xs M1=>if xs.length<=sizeLine then .ok (.tup xs) M1 else .bad
noncomputable def yK (g:Ev->Mem->Out (List T)):Ev->Mem->Out (List T):=fun σ M=>(g σ M).bind fun xs M1=>if xs.length<=sizeLine then .ok xs M1 else .bad
noncomputable def eFz (g:Ev->Mem->Out (List T)):Ev->Mem->Out T:=fun σ M=>(g σ M).bind fun xs M1=>.ok (.lst xs) M1
noncomputable def eTk (g:Ev->Mem->Out (List T)):Ev->Mem->Out T:=fun σ M=>(g σ M).bind fun xs M1=>.ok (.ref M1.length) (M1 ++ [.lst xs])
noncomputable def yf (f:List T->Mem->Out T) (g:Ev->Mem->Out (List T)):Ev->Mem->Out T:=fun σ M=>(g σ M).bind fun ts M1=>f ts M1
noncomputable def zfN (o o':T->T->Mem->Out T) (f g h:Ev->Mem->Out T):Ev->Mem->Out T:=fun σ M=>(f σ M).bind fun x M1=>(g σ M1).bind fun y M2=>(o x y M2).bind fun z M3=>blT z M3 fun b M4=>if b = true then (h σ M4).bind fun w M5=>o' y w M5 else .ok (.bl false) M4
noncomputable def lR2 (XE:XK) (K:Frag) (o:T->T->Mem->Out T):R2:=fun x y H Q=>L0 XE (Rep K) K (PrR (Rep K) (Rep K)) (fun a M=>o a.1 a.2 M) (x,y) H Q
noncomputable def lR1 (XE:XK) (K:Frag) (o:T->Mem->Out T):V->Hp->VK->Prop:=fun x H Q=>L0 XE (Rep K) K (Rep K) o x H Q
noncomputable def lRN (XE:XK) (K:Frag) (o:List T->Mem->Out T):List V->Hp->VK->Prop:=fun xs H Q=>L0 XE (Rep K) K (Reps K) o xs H Q
def FinL (XE:XK) (K:Frag) (S:Sit) (o:Out (List T)) (Q:VK):Prop:=match o with
 | .ok xs M'=>∀ S' p vs,S'.M = M'->Stp K S S'->S.H p = none->p ∈ S'.hid->S'.H p = some (.lst vs)->Reps K S' xs vs->Q (.ref p) S'.H
 | .exn C fs M'=>∀ S' od,S'.M = M'->Stp K S S'->zpU K S' fs od->XE (.ref C) od S'.H
 | .bad=>False
variable {Q:VK}
theorem FinL.later {o:Out (List T)} (s:Stp K S S1) (h:FinL XE K S o Q):FinL XE K S1 o Q:=by
 have nn:∀ p,S1.H p = none->S.H p = none:=fun p hn=>by
  cases q:S.H p with
  | none=>rfl
  | some o=>
   by_cases f:S.off p
   ·rw [s.kp _ _ q f] at hn;cases hn
   ·exfalso
    apply f
    refine ⟨fun c hc z=>?_,fun z=>?_⟩
    ·have h3:c < S1.M.length:=Q6 hc s.le
     obtain ⟨o',e',_⟩:=s.mok.some h3
     rw [s.al c hc,z,hn] at e'
     cases e'
    ·rw [(s.hk p z).2,q] at hn;cases hn
 cases o with
 | ok b M'=>exact fun S' p vs e s' f=>h S' p vs e (s.trans s') (nn p f)
 | exn C fs M'=>exact fun S' c e s' r=>h S' c e (s.trans s') r
 | bad=>exact h
noncomputable def lL (XE:XK) (K:Frag) (f:Ev->Mem->Out (List T)):TE:=fun σ H Q=>∃ (S:Sit) (στ:Ev),S.H = H/\MemOk K S/\EvR K S στ σ/\FinL XE K S (f στ S.M) Q
def GL (X:Cx) (XE:XK) (e:Expr) (f:Ev->Mem->Out (List T)):Prop:=PE X e (lL XE X.K f)
variable {q:Addr} {h hh:List Addr} {xs:List T}
section
noncomputable def Sit.show (S':Sit) (h:List Addr):Sit:=⟨S'.α,S'.M,S'.H,h⟩
theorem Rep.show (sub:∀ p ∈ h,p ∈ S'.hid) (r:Rep K S' t v):Rep K (S'.show h) t v:=by
 induction r with
 | non=>exact .non
 | bl b=>exact .bl b
 | int b=>exact .int b
 | str b=>exact .str b
 | ty b=>exact .ty b
 | tup h l _ ih=>exact .tup h l ih
 | lst h l _ ih=>
  refine .lst ?_ l ih
  rcases h with ⟨h,f⟩ | h
  ·exact .inl ⟨h,f.1,fun z=>f.2 (sub _ z)⟩
  ·exact .inr h
 | ref h=>exact .ref (S:=S'.show _) h
 | dct h l _ ih=>exact .dct h l ih
 | exc h hd l _ ih=>exact .exc h hd l ih
theorem Reps.show (sub:∀ p ∈ h,p ∈ S'.hid) (r:Reps K S' ts vs):Reps K (S'.show h) ts vs:=⟨r.1,fun i t v e1 e2=>(r.2 i t v e1 e2).show sub⟩
theorem CellOk.show (sub:∀ p ∈ h,p ∈ S'.hid) {c:Cell} (q:CellOk K S' p c):CellOk K (S'.show h) p c:=by
 cases c with
 | lst ts=>obtain ⟨vs,q,r⟩:=q;exact ⟨vs,q,r.show sub⟩
 | dic ts=>obtain ⟨vs,q,r⟩:=q;exact ⟨vs,q,r.1,r.2.show sub⟩
 | ins C ts=>obtain ⟨dx,vs,q,r⟩:=q;exact ⟨dx,vs,q,r.1,r.2.show sub⟩
theorem Stp.show (s:Stp K S S'):Stp K S (S'.show S.hid):=by
 have sub:∀ p ∈ S.hid,p ∈ S'.hid:=fun p h=>(s.hk p h).1
 exact ⟨⟨s.le,s.al,s.fr,s.kp,fun p h=>⟨h,(s.hk p h).2⟩,fun p h=>.inl h⟩,⟨fun a c e=>(s.mok.cell a c e).show sub,s.mok.inj,fun p h=>s.mok.hd p (sub p h)⟩⟩
theorem zge (s:Stp K S S') (hn:S.H p = none) (m:MemOk K S) (hp:p ∈ S'.hid) (e:S'.H p = some (.lst vs)) (r:Reps K S' xs vs):Rep K (S'.show S.hid) (.lst xs) (.ref p):=by
 have sub:∀ p ∈ S.hid,p ∈ S'.hid:=fun p h=>(s.hk p h).1
 refine .lst (.inl ⟨.inl e,(s.mok.hd p hp).1,fun z=>?_⟩) r.1 (r.show sub).2
 obtain ⟨_,us,q⟩:=m.hd p z
 rw [hn] at q
 cases q
noncomputable def Sit.track (S':Sit) (p:Addr) (xs:List T) (h:List Addr):Sit:=⟨fun a=>if a = S'.M.length then p else S'.α a,S'.M ++ [.lst xs],S'.H,h⟩
theorem Rep.track (hp:p ∈ S'.hid) (sub:∀ p ∈ hh,p ∈ S'.hid) (r:Rep K S' t v):Rep K (S'.track p xs hh) t v:=by
 induction r with
 | non=>exact .non
 | bl b=>exact .bl b
 | int b=>exact .int b
 | str b=>exact .str b
 | ty b=>exact .ty b
 | tup h l _ ih=>exact .tup h l ih
 | lst h l _ ih=>
  refine .lst ?_ l ih
  rcases h with ⟨h,f⟩ | h
  ·refine .inl ⟨h,fun a ha z=>?_,fun z=>f.2 (sub _ z)⟩
   have z':(if a = S'.M.length then p else S'.α a) = _:=z
   by_cases hl:a = S'.M.length
   ·rw [if_pos hl] at z';rw [← z'] at f;exact f.2 hp
   ·rw [if_neg hl] at z'
    have h3:a < (S'.M ++ [Cell.lst xs]).length:=ha
    exact f.1 a (by simp at h3;omega) z'
  ·exact .inr h
 | @ref a h=>
  have:S'.α a = (S'.track p xs hh).α a:=(if_neg (Ql h)).symm
  rw [this]
  exact .ref (by show a < (S'.M ++ [Cell.lst xs]).length;simp;omega)
 | dct h l _ ih=>exact .dct h l ih
 | exc h hd l _ ih=>exact .exc h hd l ih
theorem Reps.track (hp:p ∈ S'.hid) (sub:∀ p ∈ h,p ∈ S'.hid) (r:Reps K S' ts vs):Reps K (S'.track p xs h) ts vs:=⟨r.1,fun i t v e1 e2=>(r.2 i t v e1 e2).track hp sub⟩
theorem CellOk.track (hp:p ∈ S'.hid) (sub:∀ p ∈ h,p ∈ S'.hid) {c:Cell} (o:CellOk K S' q c):CellOk K (S'.track p xs h) q c:=by
 cases c with
 | lst ts=>obtain ⟨vs,q,r⟩:=o;exact ⟨vs,q,r.track hp sub⟩
 | dic ts=>obtain ⟨vs,q,r⟩:=o;exact ⟨vs,q,r.1,r.2.track hp sub⟩
 | ins C ts=>obtain ⟨dx,vs,q,r⟩:=o;exact ⟨dx,vs,q,r.1,r.2.track hp sub⟩
theorem Stp.track (s:Stp K S S') (m:MemOk K S) (hn:S.H p = none) (hp:p ∈ S'.hid) (e:S'.H p = some (.lst vs)) (r:Reps K S' xs vs):Stp K S (S'.track p xs S.hid):=by
 have sub:∀ p ∈ S.hid,p ∈ S'.hid:=fun p h=>(s.hk p h).1
 have lt:∀ a,a < S'.M.length->(S'.track p xs S.hid).α a = S'.α a:=fun a h=>if_neg (Ql h)
 refine ⟨⟨Qk s.le (by show _<=(S'.M ++ [Cell.lst xs]).length;simp),fun a h=>(lt a (Q6 h s.le)).trans (s.al a h),fun a h1 h2=>?_,s.kp,fun p h=>⟨h,(s.hk p h).2⟩,fun p h=>.inl h⟩,⟨fun a c e2=>?_,fun a b h1 h2 e2=>?_,fun q h=>?_⟩⟩
 ·by_cases hl:a < S'.M.length
  ·rw [lt a hl];exact s.fr a h1 hl
  ·have h3:a < (S'.M ++ [Cell.lst xs]).length:=h2
   have:a = S'.M.length:=by simp at h3;omega
   show S.H (if a = S'.M.length then p else S'.α a) = none
   rw [if_pos this];exact hn
 ·have e':(S'.M ++ [Cell.lst xs])[a]? = some c:=e2
  by_cases ha:a < S'.M.length
  ·rw [Q7 ha] at e'
   rw [lt a ha]
   exact (s.mok.cell a c e').track hp sub
  ·rw [Q9 (Nat.le_of_not_lt ha)] at e'
   have h3:a - S'.M.length = 0:=by
    cases q:a - S'.M.length with
    | zero=>rfl
    | succ k=>rw [q] at e';simp at e'
   rw [h3] at e'
   cases e'
   show CellOk K _ (if a = S'.M.length then p else S'.α a) _
   rw [if_pos (by omega)]
   exact ⟨vs,e,r.track hp sub⟩
 ·have h1':a < (S'.M ++ [Cell.lst xs]).length:=h1
  have h2':b < (S'.M ++ [Cell.lst xs]).length:=h2
  have e':(if a = S'.M.length then p else S'.α a) = (if b = S'.M.length then p else S'.α b):=e2
  simp at h1' h2'
  by_cases ha:a = S'.M.length
  ·by_cases hb:b = S'.M.length
   ·omega
   ·rw [if_pos ha,if_neg hb] at e'
    exact absurd e'.symm ((s.mok.hd p hp).1 b (by omega))
  ·by_cases hb:b = S'.M.length
   ·rw [if_neg ha,if_pos hb] at e'
    exact absurd e' ((s.mok.hd p hp).1 a (by omega))
   ·rw [if_neg ha,if_neg hb] at e'
    exact s.mok.inj a b (by omega) (by omega) e'
 ·obtain ⟨h1,us,q1⟩:=s.mok.hd q (sub q h)
  refine ⟨fun a ha z=>?_,us,q1⟩
  have z':(if a = S'.M.length then p else S'.α a) = q:=z
  have h3:a < (S'.M ++ [Cell.lst xs]).length:=ha
  by_cases hl:a = S'.M.length
  ·rw [if_pos hl] at z'
   obtain ⟨_,us2,q2⟩:=m.hd q h
   rw [← z',hn] at q2
   cases q2
  ·rw [if_neg hl] at z'
   exact h1 a (by simp at h3;omega) z'
noncomputable def Sit.hide (S:Sit) (p:Addr) (vs:List V):Sit:=⟨S.α,S.M,upd S.H p (.lst vs),p :: S.hid⟩
theorem Stp.hide (m:MemOk K S) (hp:S.H p = none) (vs:List V):Stp K S (S.hide p vs):=by
 have g:Grow S (S.hide p vs):=⟨Q4 _,fun _ _=>rfl,fun a h1 h2=>absurd (Q6 h2 h1) (Qp _),fun b u e _=>by show upd S.H p _ b = _;rw [yh (yA e hp)];exact e,fun q h=>⟨.tail _ h,by obtain ⟨_,vs,e⟩:=m.hd q h;exact yh (yA e hp)⟩,fun q h=>by
  cases h with
  | head=>exact .inr hp
  | tail _ h=>exact .inl h⟩
 refine ⟨g,⟨fun a c e=>?_,m.inj,fun q h=>?_⟩⟩
 ·have ha:a < S.M.length:=(List.getElem?_eq_some_iff.mp e).1
  exact (m.cell a c e).grow m g (yh ((m.off_none hp).1 a ha))
 ·cases h with
  | head=>exact ⟨(m.off_none hp).1,vs,yt⟩
  | tail _ h=>
   obtain ⟨h1,us,e⟩:=m.hd q h
   exact ⟨h1,us,(yh (yA e hp)).trans e⟩
end
variable {op:CmpOp} {ga:Ev->Mem->Out (List T)} {tf:Ev->Mem->Out Bool} {f g:Ev->Mem->Out T} {M:Mem} {x:Str} {o o':T->T->Mem->Out T}
section
variable {a b c:Expr} {h:Ev->Mem->Out T}
theorem zbK (h:PE X e (tC v)) (r:∀ S,Rep X.K S t v):GE X XE e (eC t):=PE.imp h fun σ H Q h9=>by
 obtain ⟨S,στ,_,e,m,ev,_,fin⟩:=h9
 show Q v H
 rw [← e];exact fin S v rfl (.refl m) (r S)
theorem zg0 (h:lE XE K (eOp o f g) σ H Q):lE XE K f σ H fun x H1=>lE XE K g σ H1 fun y H2=>lR2 XE K o x y H2 Q:=
 LN.mono (LN.bind (f:=fun _ σ M=>f σ M) (k:=fun _ x σ M1=>(g σ M1).bind fun y M2=>o x y M2) (RB:=Rep K) h) fun v H1 h1=>
  LN.mono (LN.env (f:=g) (LN.bind (f:=fun _ σ M=>g σ M) (k:=fun (ax:Unit × T) y σ M2=>o ax.2 y M2) (RB:=Rep K) h1)) fun w H2 h2=>by
   obtain ⟨S,στ,a,e,m,ev,ra,fin⟩:=h2
   exact ⟨S,(a.1.2,a.2),e,m,⟨ra.1.2,ra.2⟩,fin⟩
theorem zgZ {β γ:Type} {R:Sit->β->γ->Prop} {k:Bool->Mem->Out β} {Q:γ->Hp->Prop} (r:Rep K S t v) (h:Fin XE R K S (blT t M k) Q):∃ b,v = .bl b/\t = .bl b/\Fin XE R K S (k b M) Q:=by
 cases r with
 | bl b=>exact ⟨b,rfl,rfl,h⟩
 | _=>exact h.elim
theorem tif {tg:Ev->Mem->Out Bool} {Q:Bool->Hp->Prop} {p:Bool->Ev->Mem->Out Bool} (h:LN XE EqR K UnR (fun _ σ M=>(tf σ M).bind fun c M1=>p c σ M1) () σ H Q):lT XE K tf σ H fun c H1=>lT XE K (fun σ M=>p c σ M) σ H1 Q:=
 LN.mono (LN.bind (f:=fun _ σ M=>tf σ M) (k:=fun _ c σ M1=>p c σ M1) (RB:=EqR) h) fun c H1 h2=>by
  obtain ⟨S,στ,a,e,m,ev,ra,fin⟩:=h2
  have:a.2 = c:=ra.2
  subst this
  exact ⟨S,στ,(),e,m,ev,trivial,fin⟩
theorem zgV {Q:Bool->Hp->Prop} {d:Bool} (h:lT XE K (fun _ M=>.ok d M) σ H Q):Q d H:=by
 obtain ⟨S,στ,a,e,m,ev,ra,fin⟩:=h
 rw [← e];exact fin S d rfl (.refl m) rfl
theorem zjx {d:T} (h:lE XE K (fun _ M=>.ok d M) σ H Q) (r:∀ S,Rep K S d v):Q v H:=by
 obtain ⟨S,στ,a,e,m,ev,ra,fin⟩:=h
 rw [← e];exact fin S v rfl (.refl m) (r S)
variable {tg:Ev->Mem->Out Bool} {rest:List Expr}
theorem GW.gt (h:GW X XE e tf):GT X XE e tf:=PW.pt h
theorem eif {p:Bool->Ev->Mem->Out T} (h:LN XE (Rep K) K UnR (fun _ σ M=>(f σ M).bind fun x M1=>blT x M1 fun b M2=>p b σ M2) () σ H Q):lE XE K f σ H fun x H1=>∃ c,x = .bl c/\lE XE K (fun σ M=>p c σ M) σ H1 Q:=
 LN.mono (LN.bind (f:=fun _ σ M=>f σ M) (k:=fun _ x σ M1=>blT x M1 fun b M2=>p b σ M2) (RB:=Rep K) h) fun c H1 h2=>by
  obtain ⟨S,στ,a,e,m,ev,ra,fin⟩:=h2
  obtain ⟨b,e1,e2,fin⟩:=zgZ ra.2 fin
  exact ⟨b,e1,S,στ,(),e,m,ev,trivial,fin⟩
theorem chain (hh:lE XE K (zfN o o' f g h) σ H Q):zjX (lR2 XE K o) (lR2 XE K o') (lE XE K f) (lE XE K g) (lE XE K h) σ H Q:=
 LN.mono (LN.bind (f:=fun _ σ M=>f σ M) (k:=fun _ x σ M1=>(g σ M1).bind fun y M2=>(o x y M2).bind fun z M3=>blT z M3 fun b M4=>if b = true then (h σ M4).bind fun w M5=>o' y w M5 else .ok (.bl false) M4) (RB:=Rep K) hh) fun x H1 h1=>
  LN.mono (LN.env (f:=g) (LN.bind (f:=fun _ σ M=>g σ M) (k:=fun (ax:Unit × T) y σ M2=>(o ax.2 y M2).bind fun z M3=>blT z M3 fun b M4=>if b = true then (h σ M4).bind fun w M5=>o' y w M5 else .ok (.bl false) M4) (RB:=Rep K) h1)) fun y H2 h2=>by
   have h3:=LN.bind (f:=fun (a:(Unit × T) × T) _ M=>o a.1.2 a.2 M) (k:=fun a z σ M3=>blT z M3 fun b M4=>if b = true then (h σ M4).bind fun w M5=>o' a.2 w M5 else .ok (.bl false) M4) (RB:=Rep K) h2
   obtain ⟨S,a,e,m,ra,fin⟩:=LN.l0 (k:=fun (a:(Unit × T) × T) M=>o a.1.2 a.2 M) h3
   refine ⟨S,(a.1.2,a.2),e,m,⟨ra.1.2,ra.2⟩,fin.mono fun z H3 h4=>?_⟩
   obtain ⟨S3,στ,a3,e3,m3,ev3,ra3,fin3⟩:=h4
   obtain ⟨b,e1,_,fin3⟩:=zgZ ra3.2 fin3
   refine ⟨b,e1,?_⟩
   cases b with
   | false=>exact (if_neg Q5).mpr (by rw [← e3];exact fin3 S3 _ rfl (.refl m3) (.bl _))
   | true=>
    refine (if_pos rfl).mpr ?_
    have h5:LN XE (Rep K) K (Rep K) (fun y σ M4=>(h σ M4).bind fun w M5=>o' y w M5) y σ H3 Q:=⟨S3,στ,a3.1.2,e3,m3,ev3,ra3.1.2,fin3⟩
    refine LN.mono (LN.env (f:=h) (LN.bind (f:=fun _ σ M=>h σ M) (k:=fun y w σ M5=>o' y w M5) (RB:=Rep K) h5)) fun w H4 h6=>?_
    exact LN.l0 (k:=fun (a:T × T) M=>o' a.1 a.2 M) h6
end
inductive Fl where
 | nx (σ:Ev) | rt (t:T) | bk (σ:Ev) | ct (σ:Ev)
inductive FlV where
 | nx (σ:L2.St) | rt (v:V) | bk (σ:L2.St) | ct (σ:L2.St)
inductive FlR (K:Frag) (S:Sit):Fl->FlV->Prop where
 | nx {a b}:EvR K S a b->FlR K S (.nx a) (.nx b)
 | rt {a b}:Rep K S a b->FlR K S (.rt a) (.rt b)
 | bk {a b}:EvR K S a b->FlR K S (.bk a) (.bk b)
 | ct {a b}:EvR K S a b->FlR K S (.ct a) (.ct b)
noncomputable def qu (D:Ends):FlV->Hp->Prop
 | .nx σ,H=>D.nx σ H
 | .rt v,H=>D.rt v H
 | .bk σ,H=>D.bk σ H
 | .ct σ,H=>D.ct σ H
noncomputable def lS (XE:XK) (K:Frag) (g:Ev->Mem->Out Fl):TS:=fun D σ H=>LN XE (FlR K) K UnR (fun _ σ M=>g σ M) () σ H (qu D)
def GS (X:Cx) (XE:XK) (st:Stmt) (g:Ev->Mem->Out Fl):Prop:=PS X st (lS XE X.K g)
def GSs (X:Cx) (XE:XK) (st:List Stmt) (g:Ev->Mem->Out Fl):Prop:=PSs X st (lS XE X.K g)
variable {στ:Ev}
theorem EvR.set (r:EvR K S στ σ) (q:Rep K S t v) (i:Nat):EvR K S (στ.set i (some t)) (σ.set i (some v)):=by
 refine ⟨by simp [r.1],fun j u e=>?_⟩
 rw [Qd] at e ⊢
 by_cases h:i = j
 ·subst h
  by_cases hl:i < στ.length
  ·rw [if_pos rfl,if_pos hl] at e
   cases e
   exact ⟨v,by rw [if_pos rfl,if_pos (by rw [← r.1];exact hl)],q⟩
  ·rw [if_pos rfl,if_neg hl] at e;cases e
 ·rw [if_neg h] at e
  obtain ⟨w,e2,q2⟩:=r.2 j u e
  exact ⟨w,by rw [if_neg h];exact e2,q2⟩
noncomputable def yV:Ev->Mem->Out Fl:=fun σ M=>.ok (.nx σ) M
noncomputable def zrK:Ev->Mem->Out Fl:=fun σ M=>.ok (.bk σ) M
noncomputable def zrX:Ev->Mem->Out Fl:=fun σ M=>.ok (.ct σ) M
noncomputable def zcg (k:Ev->Mem->Out Fl) (fl:Fl) (M:Mem):Out Fl:=match fl with
 | .nx σ=>k σ M
 | .rt t=>.ok (.rt t) M
 | .bk σ=>.ok (.bk σ) M
 | .ct σ=>.ok (.ct σ) M
noncomputable def qg (g h:Ev->Mem->Out Fl):Ev->Mem->Out Fl:=fun σ M=>(g σ M).bind (zcg h)
noncomputable def qA (f:Ev->Mem->Out T):Ev->Mem->Out Fl:=fun σ M=>(f σ M).bind fun t M1=>.ok (.rt t) M1
noncomputable def zE (f:Ev->Mem->Out T):Ev->Mem->Out Fl:=fun σ M=>(f σ M).bind fun _ M1=>.ok (.nx σ) M1
noncomputable def sIf (c:Ev->Mem->Out Bool) (g h:Ev->Mem->Out Fl):Ev->Mem->Out Fl:=fun σ M=>(c σ M).bind fun b M1=>if b = true then g σ M1 else h σ M1
noncomputable def zq (i:Nat) (f:Ev->Mem->Out T):Ev->Mem->Out Fl:=fun σ M=>(f σ M).bind fun t M1=>.ok (.nx (σ.set i (some t))) M1
noncomputable def lG (XE:XK) (K:Frag) (bd:T->Ev->Mem->Out Ev):TG:=fun v σ H Q=>LN XE (EvR K) K (Rep K) bd v σ H Q
noncomputable def lGs (XE:XK) (K:Frag) (bd:List T->Ev->Mem->Out Ev):TGs:=fun v σ H Q=>LN XE (EvR K) K (Reps K) bd v σ H Q
def GG (X:Cx) (XE:XK) (tg:Expr) (bd:T->Ev->Mem->Out Ev):Prop:=PG X tg (lG XE X.K bd)
def GGs (X:Cx) (XE:XK) (tg:List Expr) (bd:List T->Ev->Mem->Out Ev):Prop:=PGs X tg (lGs XE X.K bd)
noncomputable def qi (i:Nat):T->Ev->Mem->Out Ev:=fun t σ M=>.ok (σ.set i (some t)) M
noncomputable def zas:List T->Ev->Mem->Out Ev:=fun ts σ M=>match ts with
 | []=>.ok σ M
 | _=>.bad
noncomputable def yy (b:T->Ev->Mem->Out Ev) (bs:List T->Ev->Mem->Out Ev):List T->Ev->Mem->Out Ev:=fun ts σ M=>match ts with
 | t :: r=>(b t σ M).bind fun σ1 M1=>bs r σ1 M1
 | _=>.bad
noncomputable def zar (n:Nat) (bs:List T->Ev->Mem->Out Ev):T->Ev->Mem->Out Ev:=fun t σ M=>match t with
 | .tup xs=>if xs.length = n then bs xs σ M else .bad
 | _=>.bad
noncomputable def zhj (f:Ev->Mem->Out T) (b:T->Ev->Mem->Out Ev):Ev->Mem->Out Fl:=fun σ M=>(f σ M).bind fun t M1=>(b t σ M1).bind fun σ1 M2=>.ok (.nx σ1) M2
def zdK (K:Frag) (S:Sit) (items:List T) (J:It):Prop:=∀ S',Stp K S S'->
 (∀ (i:Nat) t,items[i]? = some t->J.go i S'.H/\∀ x H',J.yld i S'.H x H'->∃ S'',S''.H = H'/\S''.M = S'.M/\Stp K S' S''/\Rep K S'' t x)/\∀ i,items.length<=i->J.stop i S'.H
instance (K):Mo K (zdK K):=⟨fun _ s r=>fun S' s'=>r S' (s.trans s')⟩
noncomputable def lI (XE:XK) (K:Frag) (f:Ev->Mem->Out (List T)):TI:=fun σ H R=>LN XE (zdK K) K UnR (fun _ σ M=>f σ M) () σ H R
def GI (X:Cx) (XE:XK) (tg iter:Expr) (f:Ev->Mem->Out (List T)):Prop:=PI X tg iter (lI XE X.K f)
noncomputable def yM (k:Ev->Mem->Out Fl) (fl:Fl) (M:Mem):Out Fl:=match fl with
 | .nx σ=>k σ M
 | .ct σ=>k σ M
 | .bk σ=>.ok (.nx σ) M
 | .rt t=>.ok (.rt t) M
noncomputable def forL (bd:T->Ev->Mem->Out Ev) (body:Ev->Mem->Out Fl):List T->Ev->Mem->Out Fl
 | [],σ,M=>.ok (.nx σ) M
 | x :: xs,σ,M=>(bd x σ M).bind fun σ1 M1=>(body σ1 M1).bind (yM (forL bd body xs))
noncomputable def zeY (it:Ev->Mem->Out (List T)) (bd:T->Ev->Mem->Out Ev) (body:Ev->Mem->Out Fl):Ev->Mem->Out Fl:=fun σ M=>(it σ M).bind fun xs M1=>forL bd body xs σ M1
noncomputable def whileN (c:Ev->Mem->Out Bool) (body:Ev->Mem->Out Fl):Nat->Ev->Mem->Out Fl
 | 0,_,_=>.bad
 | n + 1,σ,M=>(c σ M).bind fun b M1=>if b = true then (body σ M1).bind (yM (whileN c body n)) else .ok (.nx σ) M1
open Classical in
noncomputable def zbZ (c:Ev->Mem->Out Bool) (body:Ev->Mem->Out Fl):Ev->Mem->Out Fl:=fun σ M=>if h:∃ n,whileN c body n σ M ≠ .bad then whileN c body h.choose σ M else .bad
theorem zcT {c:Ev->Mem->Out Bool} {body:Ev->Mem->Out Fl}:∀ {n:Nat} {σ:Ev} {M:Mem} {r:Out Fl},whileN c body n σ M = r->r ≠ .bad->whileN c body (n + 1) σ M = r
 | 0,_,_,_,e,h=>absurd e.symm h
 | n + 1,σ,M,r,e,h=>by
  unfold whileN at e ⊢
  cases q:c σ M with
  | bad=>rw [q] at e;exact absurd e.symm h
  | exn C fs M'=>rw [q] at e;exact e
  | ok b M1=>
   rw [q] at e
   replace e:(if b = true then (body σ M1).bind (yM (whileN c body n)) else Out.ok (.nx σ) M1) = r:=e
   show (if b = true then (body σ M1).bind (yM (whileN c body (n + 1))) else Out.ok (.nx σ) M1) = r
   cases b with
   | false=>exact e
   | true=>
    rw [if_pos rfl] at e ⊢
    cases q2:body σ M1 with
    | bad=>rw [q2] at e;exact absurd e.symm h
    | exn C fs M'=>rw [q2] at e;exact e
    | ok fl M2=>
     rw [q2] at e
     cases fl with
     | nx σ2=>exact zcT (n:=n) e h
     | ct σ2=>exact zcT (n:=n) e h
     | bk σ2=>exact e
     | rt t=>exact e
variable {body:Ev->Mem->Out Fl} {n:Nat} {r:Out Fl}
theorem zgo {c:Ev->Mem->Out Bool} {k:Nat} {σ:Ev} (e:whileN c body n σ M = r) (h:r ≠ .bad):whileN c body (n + k) σ M = r:=by
 induction k with
 | zero=>exact e
 | succ k ih=>exact zcT ih h
theorem zj1 {c:Ev->Mem->Out Bool} {σ:Ev} (n:Nat) (e:whileN c body n σ M = r) (h:r ≠ .bad):zbZ c body σ M = r:=by
 have ex:∃ n,whileN c body n σ M ≠ .bad:=⟨n,by rw [e];exact h⟩
 unfold zbZ
 rw [dif_pos ex]
 have h2:=ex.choose_spec
 have e1:=zgo (k:=ex.choose) e h
 have e2:=zgo (k:=n) rfl h2
 rw [Nat.add_comm] at e2
 rw [← e2,e1]
noncomputable def zhy (XE:XK) (K:Frag) (st:T->T->T->Mem->Out Unit):zgm:=fun o i v H Q=>L0 XE UnR K (PrR (PrR (Rep K) (Rep K)) (Rep K)) (fun a M=>st a.1.1 a.1.2 a.2 M) ((o,i),v) H (fun _ H'=>Q H')
noncomputable def zjL (st:T->T->T->Mem->Out Unit) (f g:Ev->Mem->Out T):T->Ev->Mem->Out Ev:=fun t σ M=>(f σ M).bind fun o M1=>(g σ M1).bind fun i M2=>(st o i t M2).bind fun _ M3=>.ok σ M3
noncomputable def zjk (i:Nat) (o:T->T->Mem->Out T) (f:Ev->Mem->Out T):Ev->Mem->Out Fl:=fun σ M=>(zb i σ M).bind fun x M0=>(f σ M0).bind fun y M1=>(o x y M1).bind fun z M2=>.ok (.nx (σ.set i (some z))) M2
noncomputable def zgU (get op:T->T->Mem->Out T) (st:T->T->T->Mem->Out Unit) (f g h:Ev->Mem->Out T):Ev->Mem->Out Fl:=fun σ M=>
 (f σ M).bind fun o M1=>(g σ M1).bind fun i M2=>(get o i M2).bind fun x M3=>(h σ M3).bind fun y M4=>(op x y M4).bind fun z M5=>(st o i z M5).bind fun _ M6=>.ok (.nx σ) M6
variable {D:Ends} {iter tg:Expr} {sts:List Stmt} {pos':Pos} {st:Stmt} {bd:T->Ev->Mem->Out Ev}
section
variable {a b c:Expr} {h:Ev->Mem->Out T} {rest:List Stmt} {p q r:Ev->Mem->Out Fl}
theorem zo9 (hh:lS XE K (qg p q) D σ H):lS XE K p { D with nx:=lS XE K q D } σ H:=by
 obtain ⟨S,στ,_,e,m,ev,_,fin⟩:=hh
 refine ⟨S,στ,(),e,m,ev,trivial,?_⟩
 show Fin XE (FlR K) K S (p στ S.M) _
 replace fin:Fin XE (FlR K) K S ((p στ S.M).bind (zcg q)) (qu D):=fin
 cases o:p στ S.M with
 | bad=>rw [o] at fin;exact fin
 | exn C fs M'=>rw [o] at fin;exact fin
 | ok fl M1=>
  rw [o] at fin
  intro S1 cc e1 s1 r1
  cases r1 with
  | nx r1=>exact ⟨S1,_,(),rfl,s1.mok,r1,trivial,by rw [e1];exact Fin.later s1 fin⟩
  | rt r1=>exact fin S1 _ e1 s1 (.rt r1)
  | bk r1=>exact fin S1 _ e1 s1 (.bk r1)
  | ct r1=>exact fin S1 _ e1 s1 (.ct r1)
theorem PG.imp {t t':TG} (h:PG X tg t) (i:∀ v σ H Q,t' v σ H Q->t v σ H Q):PG X tg t':=fun pins s σ H v u Q I r q=>h pins s σ H v u Q I r (i v σ H Q q)
theorem PGs.imp {tgs:List Expr} {t t':TGs} (h:PGs X tgs t) (i:∀ v σ H Q,t' v σ H Q->t v σ H Q):PGs X tgs t':=fun pins s σ H v u Q I r q=>h pins s σ H v u Q I r (i v σ H Q q)
theorem zqw (hh:LN XE (FlR K) K (Rep K) (fun t σ M=>(bd t σ M).bind fun σ1 M2=>.ok (Fl.nx σ1) M2) v σ H (qu D)):lG XE K bd v σ H D.nx:=by
 obtain ⟨S,στ,t,e,m,ev,ra,fin⟩:=hh
 refine ⟨S,στ,t,e,m,ev,ra,?_⟩
 replace fin:Fin XE (FlR K) K S ((bd t στ S.M).bind fun σ1 M2=>.ok (Fl.nx σ1) M2) (qu D):=fin
 cases o:bd t στ S.M with
 | bad=>rw [o] at fin;exact fin
 | exn C fs M'=>rw [o] at fin;exact fin
 | ok σ1 M1=>
  rw [o] at fin
  intro S1 cc e1 s1 ev1
  exact fin S1 (.nx cc) e1 s1 (.nx ev1)
theorem PI.imp {t t':TI} (h:PI X tg iter t) (i:∀ σ H R,t' σ H R->t σ H R):PI X tg iter t':=fun pins s σ H R I q=>h pins s σ H R I (i σ H R q)
end
noncomputable def startT (n:Nat) (ts:List T):Ev:=ts.map some ++ List.replicate (n - ts.length) none
noncomputable def qh (p n:Nat) (g:Ev->Mem->Out Fl):List T->Mem->Out T:=fun ts M=>if ts.length = p then match g (startT n ts) M with
 | .ok (.rt t) M'=>.ok t M'
 | .ok (.nx _) M'=>.ok .non M'
 | _=>.bad else .bad
noncomputable def spT (K:Frag) (f:List T->Mem->Out T):Sp:=fun vs H Q E=>L0 E (Rep K) K (Reps K) f vs H Q
structure CalT (P:Program) (w:World) (K:Frag) (mg:Str->Option Value) (base:Heap) (k:Nat) (x:Str) (ps:List Str) (f:List T->Mem->Out T):Prop where
 cal:Cal P w K mg base k x ps (spT K f)
 nox:∀ ts M C fs M',f ts M ≠ .exn C fs M'
theorem zfs (p n:Nat) (g:Ev->Mem->Out Fl):∀ ts M C fs M',qh p n g ts M ≠ .exn C fs M':=by
 intro ts M C fs M' z
 unfold qh at z
 split at z
 ·split at z <;> cases z
 ·cases z
variable {N:List Str}
theorem EvR.start (r:Reps K S ts vs) (hn:N.length = n):EvR K S (startT n ts) (L2.start N vs):=by
 subst hn
 refine ⟨by simp [startT,L2.start,r.1],fun i t e=>?_⟩
 unfold startT at e
 unfold L2.start
 by_cases hi:i < ts.length
 ·rw [Q7 (by simpa using hi)] at e
  rw [Q7 (by simpa [← r.1] using hi)]
  rw [Qc] at e ⊢
  cases q:ts[i]? with
  | none=>rw [q] at e;cases e
  | some t'=>
   rw [q] at e
   have:t' = t:=Qe (Qe e)
   subst this
   obtain ⟨v,e2,r2⟩:=r.get q
   exact ⟨v,by rw [e2];rfl,r2⟩
 ·rw [Q9 (by simpa using hi)] at e
  rw [List.getElem?_replicate] at e
  split at e <;> cases e
variable {base:Heap} {ps:List Str} {P:Program} {mg:Str->Option Value} {w:World}
section
theorem zff {st:List Stmt} {g:Ev->Mem->Out Fl} {p:Nat} (hn:N.length = n) {E:XK} (hX:X.K = K) (h:spT K (qh p n g) vs H Q E) (hb:GSs X E0 st g) :
  ∃ t,PSs X st t/\t { nx:=fun _ H'=>Q .non H',rt:=Q } (start N vs) H:=by
 subst hX
 refine ⟨_,hb,?_⟩
 obtain ⟨S,ts,e,m,r,fin⟩:=h
 refine ⟨S,startT n ts,(),e,m,EvR.start r hn,trivial,?_⟩
 show Fin E0 (FlR X.K) X.K S (g (startT n ts) S.M) _
 unfold qh at fin
 by_cases hp:ts.length = p
 ·rw [if_pos hp] at fin
  cases o:g (startT n ts) S.M with
  | bad=>rw [o] at fin;exact fin
  | exn C fs M'=>rw [o] at fin;exact fin.elim
  | ok fl M1=>
   rw [o] at fin
   cases fl with
   | nx σ1=>
    intro S1 c e1 s1 r1
    cases r1 with
    | nx r1=>exact fin S1 .non e1 s1 .non
   | rt t=>
    intro S1 c e1 s1 r1
    cases r1 with
    | rt r1=>exact fin S1 _ e1 s1 r1
   | bk σ1=>exact fin.elim
   | ct σ1=>exact fin.elim
 ·rw [if_neg hp] at fin;exact fin.elim
theorem zhb {p:Nat} {g:Ev->Mem->Out Fl} (hp:ps.length = p):∀ vs H Q E,spT K (qh p n g) vs H Q E->vs.length = ps.length:=by
 intro vs H Q E ⟨S,ts,e,m,r,fin⟩
 rw [← r.1,hp]
 unfold qh at fin
 by_cases h:ts.length = p
 ·exact h
 ·rw [if_neg h] at fin;exact fin.elim
theorem zkY {k p:Nat} {g:Ev->Mem->Out Fl} (D:Df K mg x st ps) (Sc:FnScope N ps (yd st)) (hp:ps.length = p) (hn:N.length = n)
 (hb:∀ (f:Addr) (cdv:Value) (A:Around) (outer:List PySem.Env) (s:Shared) (H:Hp) (E:XK),Room k (A.deeper (envOfC x (yd st) s.heap.objs.size f cdv))->GSs (zbc CX0 P w K mg base N x (yd st) f cdv A outer s H E).nox E0 (zB st) g) :
  CalT P w K mg base (k + 1) x ps (qh p n g):=
 ⟨D.ok Sc (zhb hp) fun f cdv A outer s H vs Q E hr h=>zff hn rfl h (hb f cdv A outer s H E hr),zfs _ _ _⟩
theorem zo7 {qual:Str} {f:Addr} {fd:FuncData} {k p:Nat} {g:Ev->Mem->Out Fl} (F:Fun K x qual st f fd) (Sc:FnScope N ps (yd st)) (hp:ps.length = p) (hn:N.length = n)
 (hb:∀ (cdv:Value) (A:Around) (outer:List PySem.Env) (s:Shared) (H:Hp) (E:XK),Room k (A.deeper (envOfC qual (yd st) s.heap.objs.size f cdv))->GSs (zbc CX0 P w K mg base N qual (yd st) f cdv A outer s H E).nox E0 (zB st) g) :
  FnOk P w K mg base CX0 (k + 1) f fd ps (spT K (qh p n g)):=
 F.ok Sc (zhb hp) fun cdv A outer s H vs Q E hr h=>zff hn rfl h (hb cdv A outer s H E hr)
theorem znp {f:List T->Mem->Out T} {a:Addr} {ns:List Int} {M':Mem} (hS:SqL K H a (ns.map V.int)) (h:f [.lst (ns.map .int)] [] = .ok (.bl true) M'):spT K f [.ref a] H (fun v _=>v = .bl true) fun _ _ _=>False:=by
 refine ⟨⟨fun _=>0,[],H,[]⟩,[.lst (ns.map .int)],rfl,⟨fun a c e=>by simp at e,fun a b h=>absurd h (Nat.not_lt_zero _),fun p h=>by simp at h⟩,.cons (.lst (vs:=ns.map V.int) ?_ (by simp) ?_) .nil,?_⟩
 ·rcases hS with h | h
  ·exact .inl ⟨h,fun a h=>absurd h (Nat.not_lt_zero _),fun z=>by simp at z⟩
  ·exact .inr h
 ·intro i t v e1 e2
  rw [Qc] at e1 e2
  cases q:ns[i]? with
  | none=>rw [q] at e1;cases e1
  | some z=>rw [q] at e1 e2;cases e1;cases e2;exact .int z
 ·show Fin _ _ K _ (f [.lst (ns.map .int)] []) _
  rw [h]
  intro S' c e s r
  cases r
  rfl
end
section
variable {k:Nat} {p:Pos} {F:List T->Mem->Out T}
end
inductive T.lt (n:Nat):T->Prop where
 | non:T.lt n .non
 | bl (b:Bool):T.lt n (.bl b)
 | int (i:Int):T.lt n (.int i)
 | str (x:Str):T.lt n (.str x)
 | ty (x:String):T.lt n (.ty x)
 | tup {ts:List T} (h:∀ t ∈ ts,T.lt n t):T.lt n (.tup ts)
 | lst {ts:List T} (h:∀ t ∈ ts,T.lt n t):T.lt n (.lst ts)
 | ref {a:Nat} (h:a < n):T.lt n (.ref a)
 | dct {kvs:List (Key × T)} (h:∀ t ∈ kvs.map (·.2),T.lt n t):T.lt n (.dct kvs)
 | exc {C:Addr} {fs:List (Str × T)} (h:∀ t ∈ fs.map (·.2),T.lt n t):T.lt n (.exc C fs)
noncomputable def Cell.lt (n:Nat):Cell->Prop
 | .lst ts=>∀ t ∈ ts,T.lt n t
 | .dic kvs=>∀ k ∈ kvs,T.lt n k.2
 | .ins _ fs=>∀ k ∈ fs,T.lt n k.2
inductive Fz (M':Mem) (n:Nat):T->T->Prop where
 | same {t:T} (h:T.lt n t):Fz M' n t t
 | tup {ts us:List T} (l:ts.length = us.length) (h:∀ (i:Nat) t u,ts[i]? = some t->us[i]? = some u->Fz M' n t u):Fz M' n (.tup ts) (.tup us)
 | lst {ts us:List T} (l:ts.length = us.length) (h:∀ (i:Nat) t u,ts[i]? = some t->us[i]? = some u->Fz M' n t u):Fz M' n (.lst ts) (.lst us)
 | ref {a:Nat} {ts us:List T} (e:M'[a]? = some (.lst ts)) (g:n<=a) (l:ts.length = us.length) (h:∀ (i:Nat) t u,ts[i]? = some t->us[i]? = some u->Fz M' n t u):Fz M' n (.ref a) (.lst us)
theorem Rep.lt (r:Rep K S t v):T.lt S.M.length t:=by
 induction r with
 | non=>exact .non
 | bl b=>exact .bl b
 | int b=>exact .int b
 | str b=>exact .str b
 | ty b=>exact .ty b
 | @tup ts p vs h l _ ih=>
  refine .tup fun t ht=>?_
  obtain ⟨i,hi,rfl⟩:=getElem_of_mem ht
  exact ih i _ vs[i] (by simp [hi]) (by simp [← l,hi])
 | @lst ts p vs h l _ ih=>
  refine .lst fun t ht=>?_
  obtain ⟨i,hi,rfl⟩:=getElem_of_mem ht
  exact ih i _ vs[i] (by simp [hi]) (by simp [← l,hi])
 | ref h=>exact .ref h
 | @dct kvs us p o h l _ ih=>
  refine .dct fun t ht=>?_
  obtain ⟨i,hi,rfl⟩:=getElem_of_mem ht
  have hl:i < us.length:=by have:=congrArg List.length l;simp at this hi;omega
  exact ih i _ (us[i]'hl).2 (Q0 hi) (by simp [hl])
 | @exc C fs us p od h hd l _ ih=>
  refine .exc fun t ht=>?_
  obtain ⟨i,hi,rfl⟩:=getElem_of_mem ht
  have hl:i < us.length:=by have:=congrArg List.length l;simp at this hi;omega
  exact ih i _ (us[i]'hl).2 (Q0 hi) (by simp [hl])
theorem Reps.lt (r:Reps K S ts vs):∀ t ∈ ts,T.lt S.M.length t:=fun t ht=>by
 obtain ⟨i,hi,rfl⟩:=getElem_of_mem ht
 have hv:i < vs.length:=by rw [← r.1];exact hi
 exact (r.2 i _ vs[i] (by simp [hi]) (by simp [hv])).lt
theorem ziJ {κ:Type} {fs:List (κ × T)} (h:∀ t ∈ fs.map (·.2),T.lt n t):∀ k ∈ fs,T.lt n k.2:=fun k hk=>h _ (List.mem_map_of_mem (f:=(·.2)) hk)
theorem CellOk.lt {c:Cell} (h:CellOk K S p c):Cell.lt S.M.length c:=by
 cases c with
 | lst ts=>obtain ⟨vs,_,r⟩:=h;exact r.lt
 | dic ts=>obtain ⟨vs,_,r⟩:=h;exact ziJ r.2.lt
 | ins C ts=>obtain ⟨dx,vs,_,r⟩:=h;exact ziJ r.2.lt
variable {m:Nat}
theorem T.lt.mono (h:n<=m) (r:T.lt n t):T.lt m t:=by
 induction r with
 | non=>exact .non
 | bl b=>exact .bl b
 | int b=>exact .int b
 | str b=>exact .str b
 | ty b=>exact .ty b
 | tup _ ih=>exact .tup ih
 | lst _ ih=>exact .lst ih
 | ref g=>exact .ref (Q6 g h)
 | dct _ ih=>exact .dct ih
 | exc _ ih=>exact .exc ih
noncomputable def Sit.cut (S:Sit) (n:Nat) (h:List Addr):Sit:=⟨S.α,S.M.take n,S.H,h⟩
variable {u:T}
section
theorem Rep.cut (hn:n<=S'.M.length) (sub:∀ p ∈ hh,p ∈ S'.hid) (r:Rep K S' t v) (l:T.lt n t):Rep K (S'.cut n hh) t v:=by
 have ln:(S'.cut n hh).M.length = n:=by show (S'.M.take n).length = n;simp;omega
 induction r with
 | non=>exact .non
 | bl b=>exact .bl b
 | int b=>exact .int b
 | str b=>exact .str b
 | ty b=>exact .ty b
 | @tup ts p vs h l2 _ ih=>
  cases l with
  | tup hl=>exact .tup h l2 fun i t v e1 e2=>ih i t v e1 e2 (hl t (Qb e1))
 | @lst ts p vs h l2 _ ih=>
  cases l with
  | lst hl=>
   refine .lst ?_ l2 fun i t v e1 e2=>ih i t v e1 e2 (hl t (Qb e1))
   rcases h with ⟨h,f⟩ | h
   ·exact .inl ⟨h,fun a ha z=>f.1 a (by rw [ln] at ha;omega) z,fun z=>f.2 (sub _ z)⟩
   ·exact .inr h
 | @ref a h=>
  cases l with
  | ref hl=>exact .ref (S:=S'.cut n hh) (by rw [ln];exact hl)
 | dct h l2 _ ih=>
  cases l with
  | dct hl=>exact .dct (S:=S'.cut n hh) h l2 fun i t v e1 e2=>ih i t v e1 e2 (hl t (Qb e1))
 | exc h hd l2 _ ih=>
  cases l with
  | exc hl=>exact .exc (S:=S'.cut n hh) h hd l2 fun i t v e1 e2=>ih i t v e1 e2 (hl t (Qb e1))
theorem Reps.cut (hn:n<=S'.M.length) (sub:∀ p ∈ hh,p ∈ S'.hid) {t:List T} {v:List V} (r:Reps K S' t v) (l:∀ x ∈ t,T.lt n x):Reps K (S'.cut n hh) t v:=⟨r.1,fun i t v e1 e2=>(r.2 i t v e1 e2).cut hn sub (l t (Qb e1))⟩
theorem CellOk.cut (hn:n<=S'.M.length) (sub:∀ p ∈ hh,p ∈ S'.hid) {c:Cell} (r:CellOk K S' p c) (l:Cell.lt n c):CellOk K (S'.cut n hh) p c:=by
 have ms:∀ {κ:Type} {fs:List (κ × T)},(∀ k ∈ fs,T.lt n k.2)->∀ t ∈ fs.map (·.2),T.lt n t:=fun h t ht=>by
  obtain ⟨k,hk,rfl⟩:=mem_map.mp ht
  exact h k hk
 cases c with
 | lst ts=>obtain ⟨vs,q,r⟩:=r;exact ⟨vs,q,r.cut hn sub l⟩
 | dic ts=>obtain ⟨vs,q,r⟩:=r;exact ⟨vs,q,r.1,r.2.cut hn sub (ms l)⟩
 | ins C ts=>obtain ⟨dx,vs,q,r⟩:=r;exact ⟨dx,vs,q,r.1,r.2.cut hn sub (ms l)⟩
theorem Stp.cut (s:Stp K S S') (h1:S.M.length<=n) (h2:n<=S'.M.length) (hl:∀ (i:Nat) c,i < n->S'.M[i]? = some c->Cell.lt n c):Stp K S (S'.cut n S.hid):=by
 have sub:∀ p ∈ S.hid,p ∈ S'.hid:=fun p h=>(s.hk p h).1
 have ln:(S'.cut n S.hid).M.length = n:=by show (S'.M.take n).length = n;simp;omega
 refine ⟨⟨by rw [ln];exact h1,s.al,fun a g1 g2=>s.fr a g1 (by rw [ln] at g2;omega),s.kp,fun p h=>⟨h,(s.hk p h).2⟩,fun p h=>.inl h⟩,⟨fun a c e=>?_,fun a b g1 g2 e=>s.mok.inj a b (by rw [ln] at g1;omega) (by rw [ln] at g2;omega) e,fun p h=>?_⟩⟩
 ·have e':(S'.M.take n)[a]? = some c:=e
  rw [getElem?_take] at e'
  split at e'
  ·rename_i hi
   exact (s.mok.cell a c e').cut h2 sub (hl a c hi e')
  ·cases e'
 ·obtain ⟨g1,vs,g2⟩:=s.mok.hd p (sub p h)
  exact ⟨fun a ha z=>g1 a (by rw [ln] at ha;omega) z,vs,g2⟩
theorem Rep.fz (m:MemOk K S') (hn:n<=S'.M.length) (sub:∀ p ∈ hh,p ∈ S'.hid) (z:Fz S'.M n t u):∀ {v:V},Rep K S' t v->Rep K (S'.cut n hh) u v:=by
 have ln:(S'.cut n hh).M.length = n:=by show (S'.M.take n).length = n;simp;omega
 induction z with
 | same h=>exact fun r=>r.cut hn sub h
 | @tup ts us l _ ih=>
  intro v r
  cases r with
  | @tup _ p vs h l2 rr=>
   refine .tup h (by rw [← l];exact l2) fun i t v e1 e2=>?_
   have hi:i < ts.length:=by rw [l];exact (List.getElem?_eq_some_iff.mp e1).1
   exact ih i ts[i] t (by simp [hi]) e1 (rr i _ v (by simp [hi]) e2)
 | @lst ts us l _ ih=>
  intro v r
  cases r with
  | @lst _ p vs h l2 rr=>
   refine .lst ?_ (by rw [← l];exact l2) fun i t v e1 e2=>?_
   ·rcases h with ⟨h,f⟩ | h
    ·exact .inl ⟨h,fun a ha z=>f.1 a (by rw [ln] at ha;omega) z,fun z=>f.2 (sub _ z)⟩
    ·exact .inr h
   ·have hi:i < ts.length:=by rw [l];exact (List.getElem?_eq_some_iff.mp e1).1
    exact ih i ts[i] t (by simp [hi]) e1 (rr i _ v (by simp [hi]) e2)
 | @ref a ts us e g l _ ih=>
  intro v r
  cases r with
  | ref ha=>
   obtain ⟨vs,q,rr⟩:=m.cell a _ e
   refine .lst (vs:=vs) (.inl ⟨.inl q,fun b hb z=>?_,fun z=>?_⟩) (by rw [← l];exact rr.1) fun i t v e1 e2=>?_
   ·rw [ln] at hb
    have:=m.inj b a (by omega) ha z
    omega
   ·exact (m.hd _ (sub _ z)).1 a ha rfl
   ·have hi:i < ts.length:=by rw [l];exact (List.getElem?_eq_some_iff.mp e1).1
    exact ih i ts[i] t (by simp [hi]) e1 (rr.2 i _ v (by simp [hi]) e2)
end
def Refines (f g:List T->Mem->Out T):Prop:=∀ ts M t' M1,(∀ c ∈ M,Cell.lt M.length c)->f ts M = .ok t' M1->∃ t M',g ts M = .ok t M'/\M.length<=M1.length/\M1.length<=M'.length/\M1 = M'.take M1.length/\(∀ (i:Nat) c,M1[i]? = some c->M[i]? = some c\/Cell.lt M1.length c)/\Fz M' M1.length t t'
theorem Cell.lt.mono (h:n<=m) {c:Cell} (r:Cell.lt n c):Cell.lt m c:=by
 cases c with
 | lst ts=>exact fun t ht=>(r t ht).mono h
 | dic ts=>exact fun t ht=>(r t ht).mono h
 | ins C ts=>exact fun t ht=>(r t ht).mono h
theorem CalT.refine {k:Nat} {f g:List T->Mem->Out T} (C:CalT P w K mg base k x ps g) (h:Refines f g) (nox:∀ ts M C fs M',f ts M ≠ .exn C fs M'):CalT P w K mg base k x ps f:=by
 refine ⟨?_,nox⟩
 obtain ⟨⟨fa,fd,F,kp,b,gg⟩⟩:=C.cal
 have key:∀ vs H Q E,spT K f vs H Q E->spT K g vs H Q E:=by
  rintro vs H Q E ⟨S,ts,e,m,r,fin⟩
  refine ⟨S,ts,e,m,r,?_⟩
  have wf:∀ c ∈ S.M,Cell.lt S.M.length c:=fun c hc=>by
   obtain ⟨i,hi,rfl⟩:=getElem_of_mem hc
   exact (m.cell i _ (by simp [hi])).lt
  cases o:f ts S.M with
  | bad=>rw [o] at fin;exact fin.elim
  | exn C' fs M'=>exact absurd o (nox _ _ _ _ _)
  | ok t' M1=>
   rw [o] at fin
   obtain ⟨t,M',eg,l1,l2,eM,hc,z⟩:=h ts S.M t' M1 wf o
   rw [eg]
   intro S' v e1 s r1
   have hl:∀ (i:Nat) c,i < M1.length->S'.M[i]? = some c->Cell.lt M1.length c:=fun i c hi ec=>by
    have e2:M1[i]? = some c:=by
     rw [eM,getElem?_take,if_pos hi,← e1];exact ec
    rcases hc i c e2 with q | q
    ·exact (wf c (Qb q)).mono l1
    ·exact q
   have sc:=s.cut l1 (by rw [e1];exact l2) hl
   refine fin (S'.cut M1.length S.hid) v ?_ sc ?_
   ·show S'.M.take M1.length = M1
    rw [e1];exact eM.symm
   ·exact Rep.fz s.mok (by rw [e1];exact l2) (fun p h=>(s.hk p h).1) (by rw [e1];exact z) r1
 refine ⟨⟨fa,fd,⟨fun vs H Q E q=>F.len vs H Q E (key _ _ _ _ q),?_⟩,kp,b,gg⟩⟩
 intro A outer s H args us vs Q E hr h0 hb hv hq
 exact F.run A outer s H args us vs Q E hr h0 hb hv (key _ _ _ _ hq)
noncomputable def zy (t:T) (M:Mem):Option (List T):=match t with
 | .lst xs=>some xs
 | .ref a=>match M[a]? with
  | some (.lst xs)=>some xs
  | _=>none
 | _=>none
noncomputable def zhd (t:T):Option (List T):=match t with
 | .lst xs=>some xs
 | .tup xs=>some xs
 | _=>none
noncomputable def zat (t:T) (M:Mem):Option (List T):=match t with
 | .tup xs=>some xs
 | t=>zy t M
section
theorem zdh (h:(Rd S.H p (.lst vs)/\S.off p)\/KL K p vs):SqL K S.H p vs:=by
 rcases h with ⟨h,_⟩ | h
 ·exact .inl h
 ·exact .inr h
theorem zz (m:MemOk K S) (r:Rep K S t v) (e:zy t S.M = some xs):∃ p vs,v = .ref p/\SqL K S.H p vs/\Reps K S xs vs:=by
 cases r with
 | @lst ts p vs h l r=>cases e;exact ⟨p,vs,rfl,zdh h,l,r⟩
 | @ref a h=>
  unfold zy at e
  dsimp only at e
  split at e
  ·rename_i ys q
   cases e
   obtain ⟨vs,q2,r2⟩:=m.cell a _ q
   exact ⟨_,vs,rfl,.inl (.inl q2),r2⟩
  ·cases e
 | _=>cases e
theorem zdQ (m:MemOk K S) (r:Rep K S t v) (e:zat t S.M = some xs):∃ p vs,v = .ref p/\(SqL K S.H p vs\/SqT K S.H p vs)/\Reps K S xs vs:=by
 cases t with
 | tup ts=>
  cases e
  cases r with
  | @tup _ p vs h l r=>exact ⟨p,vs,rfl,.inr h,l,r⟩
 | lst ts=>obtain ⟨p,vs,e1,h,r2⟩:=zz m r e;exact ⟨p,vs,e1,.inl h,r2⟩
 | ref a=>obtain ⟨p,vs,e1,h,r2⟩:=zz m r e;exact ⟨p,vs,e1,.inl h,r2⟩
 | _=>cases e
end
noncomputable def zaT (f:Ev->Mem->Out T):Ev->Mem->Out (List T):=fun σ M=>(f σ M).bind fun t M1=>match zhd t with
 | some xs=>.ok xs M1
 | none=>.bad
noncomputable def zdX (lo:Int) (n:Nat):List T:=(List.range n).map fun (k:Nat)=>T.int (lo + (k:Int))
noncomputable def zeZ (ts:List T) (M1:Mem):Out (List T):=match ts with
 | [.int j]=>@ite _ (-(2 ^ 62)<=j/\j < 2 ^ 62) (Classical.propDecidable _) (.ok (zdX 0 j.toNat) M1) .bad
 | _=>.bad
noncomputable def zq9 (ts:List T) (M1:Mem):Out (List T):=match ts with
 | [.int i,.int j]=>@ite _ ((-(2 ^ 62)<=i/\i < 2 ^ 62)/\(-(2 ^ 62)<=j/\j < 2 ^ 62)) (Classical.propDecidable _) (.ok (zdX i (j - i).toNat) M1) .bad
 | _=>.bad
noncomputable def zbJ (f:Ev->Mem->Out (List T)):Ev->Mem->Out (List T):=fun σ M=>(f σ M).bind fun ts M1=>zeZ ts M1
noncomputable def zrF (f:Ev->Mem->Out (List T)):Ev->Mem->Out (List T):=fun σ M=>(f σ M).bind fun ts M1=>zq9 ts M1
theorem zlO (K:Frag) (S:Sit) (lo:Int) (n:Nat):zdK K S (zdX lo n) (Itr lo n):=fun S' s=>by
 refine ⟨fun i t e=>?_,fun i h=>?_⟩
 ·unfold zdX at e
  rw [Qc] at e
  cases q:(List.range n)[i]? with
  | none=>rw [q] at e;cases e
  | some k=>
   rw [q] at e
   cases e
   have hi:i < n:=by have:=(List.getElem?_eq_some_iff.mp q).1;simpa using this
   have hk:k = i:=by rw [List.getElem?_range hi] at q;exact (Qe q).symm
   subst hk
   refine ⟨hi,fun x H' hy=>?_⟩
   obtain ⟨e1,e2⟩:=hy
   exact ⟨S',e1.symm,rfl,.refl s.mok,by rw [e2];exact .int _⟩
 ·show n<=i
  simpa [zdX] using h
section
variable {a b c:Expr} {h:Ev->Mem->Out T} {p:Pos}
theorem zpB (he:GE X XE e f):GI X XE tg e (zaT f):=PI.imp (PI.or (zf5 he) (zoF he)) fun σ H R h9=>by
 obtain ⟨S,στ,_,e,m,ev,_,fin⟩:=h9
 replace fin:Fin XE (zdK X.K) X.K S ((f στ S.M).bind fun t M1=>match zhd t with | some xs=>.ok xs M1 | none=>.bad) R:=fin
 cases o:f στ S.M with
 | bad=>rw [o] at fin;exact fin.elim
 | exn C fs M'=>
  rw [o] at fin
  refine .inl ⟨S,στ,(),e,m,ev,trivial,?_⟩
  show Fin XE (Rep X.K) X.K S (f στ S.M) _
  rw [o];exact fin
 | ok t M1=>
  rw [o] at fin
  cases t with
  | lst ts=>
   refine .inl ⟨S,στ,(),e,m,ev,trivial,?_⟩
   show Fin XE (Rep X.K) X.K S (f στ S.M) _
   rw [o]
   intro S1 v e1 s1 r1
   cases r1 with
   | @lst _ p vs h l r=>
    have r1:Reps X.K S1 ts vs:=⟨l,r⟩
    refine ⟨p,rfl,⟨vs,zdh h⟩,fin S1 _ e1 s1 fun S3 s3=>?_⟩
    have g3:SqL X.K S3.H p vs:=by
     rcases h with ⟨h2,f2⟩ | h2
     ·exact .inl (s3.toGrow.rd h2 f2).1
     ·exact .inr h2
    refine ⟨fun i t et=>?_,fun i hi=>⟨vs,g3,by rw [← l];exact hi⟩⟩
    obtain ⟨v2,ev3,r3⟩:=r1.get et
    refine ⟨⟨vs,v2,g3,ev3⟩,fun x H' hy=>?_⟩
    obtain ⟨ey,hy⟩:=hy
    have:=hy vs g3
    rw [ev3] at this
    cases this
    exact ⟨S3,ey.symm,rfl,.refl s3.mok,r3.grow s1.mok s3.toGrow⟩
  | tup ts=>
   refine .inr ⟨S,στ,(),e,m,ev,trivial,?_⟩
   show Fin XE (Rep X.K) X.K S (f στ S.M) _
   rw [o]
   intro S1 v e1 s1 r1
   cases r1 with
   | @tup _ p vs h l r=>
    have r1:Reps X.K S1 ts vs:=⟨l,r⟩
    refine ⟨p,rfl,⟨vs,h⟩,fin S1 _ e1 s1 fun S3 s3=>?_⟩
    have g3:SqT X.K S3.H p vs:=s3.toGrow.tup s1.mok h
    refine ⟨fun i t et=>?_,fun i hi=>⟨vs,g3,by rw [← l];exact hi⟩⟩
    obtain ⟨v2,ev3,r3⟩:=r1.get et
    refine ⟨⟨vs,v2,g3,ev3⟩,fun x H' hy=>?_⟩
    obtain ⟨ey,hy⟩:=hy
    have:=hy vs g3
    rw [ev3] at this
    cases this
    exact ⟨S3,ey.symm,rfl,.refl s3.mok,r3.grow s1.mok s3.toGrow⟩
  | _=>exact fin.elim
end
noncomputable def qr (bd:T->Ev->Mem->Out Ev) (cond:Ev->Mem->Out Bool) (el:Ev->Mem->Out T):List T->Ev->Mem->List T->Out (List T)
 | [],_,M,acc=>.ok acc M
 | x :: xs,σ,M,acc=>(bd x σ M).bind fun σ1 M1=>(cond σ1 M1).bind fun b M2=>if b = true then (el σ1 M2).bind fun t M3=>if acc.length < sizeLine then qr bd cond el xs σ1 M3 (acc ++ [t]) else .bad else qr bd cond el xs σ1 M2 acc
noncomputable def zbO (tgs:List Str) (caps:List (Str × Nat)) (σ:Ev):Ev:=tgs.map (fun _=>none) ++ caps.map fun c=>(σ[c.2]?).join
noncomputable def zI (it:Ev->Mem->Out (List T)) (bd:T->Ev->Mem->Out Ev) (cond:Ev->Mem->Out Bool) (el:Ev->Mem->Out T) (tgs:List Str) (caps:List (Str × Nat)):Ev->Mem->Out (List T):=fun σ M=>(it σ M).bind fun xs M1=>qr bd cond el xs (zbO tgs caps σ) M1 []
noncomputable def yH:Ev->Mem->Out Bool:=fun _ M=>.ok true M
theorem EvR.cap (r:EvR K S στ σ) (tgs:List Str) (caps:List (Str × Nat)):EvR K S (zbO tgs caps στ) (zaE tgs caps σ):=by
 refine ⟨by simp [zbO,zaE],fun i t e=>?_⟩
 unfold zbO at e
 unfold zaE
 by_cases hi:i < tgs.length
 ·rw [Q7 (by simpa using hi)] at e
  rw [Qc] at e
  cases q:tgs[i]? with
  | none=>rw [q] at e;cases e
  | some x=>rw [q] at e;cases e
 ·rw [Q9 (by simpa using hi),Qc] at e
  rw [Q9 (by simpa using hi),Qc]
  simp only [Qi] at e ⊢
  cases q:caps[i - tgs.length]? with
  | none=>rw [q] at e;cases e
  | some cq=>
   rw [q] at e
   have e2:(στ[cq.2]?).join = some t:=Qe e
   have e3:στ[cq.2]? = some (some t):=by
    cases q2:στ[cq.2]? with
    | none=>rw [q2] at e2;cases e2
    | some o=>rw [q2] at e2;cases o with
     | none=>cases e2
     | some v'=>rw [show v' = t from Qe e2]
   obtain ⟨v,e4,r4⟩:=r.2 _ _ e3
   exact ⟨v,by show some ((σ[cq.2]?).join) = _;rw [e4];rfl,r4⟩
noncomputable def Sit.hput (S:Sit) (p:Addr) (vs:List V):Sit:=⟨S.α,S.M,upd S.H p (.lst vs),S.hid⟩
section
variable {S0:Sit} {us:List V}
theorem Rep.hput (m:MemOk K S) (hp:p ∈ S.hid) (r:Rep K S t v):Rep K (S.hput p us) t v:=by
 obtain ⟨_,ws,ew⟩:=m.hd p hp
 induction r with
 | non=>exact .non
 | bl b=>exact .bl b
 | int b=>exact .int b
 | str b=>exact .str b
 | ty b=>exact .ty b
 | @tup ts q vs h l _ ih=>
  refine .tup ?_ l ih
  rcases h with (h | ⟨o,h⟩) | h
  ·exact .inl (.inl ((yh (zen h ew (by intro z;cases z))).trans h))
  ·exact .inl (.inr ⟨o,(yh (zen h ew (by intro z;cases z))).trans h⟩)
  ·exact .inr h
 | @lst ts q vs h l _ ih=>
  refine .lst ?_ l ih
  rcases h with ⟨h,f⟩ | h
  ·have hne:q ≠ p:=fun z=>f.2 (by rw [z];exact hp)
   refine .inl ⟨?_,f⟩
   rcases h with h | ⟨o,h⟩
   ·exact .inl ((yh hne).trans h)
   ·exact .inr ⟨o,(yh hne).trans h⟩
  ·exact .inr h
 | ref h=>exact .ref (S:=S.hput p us) h
 | dct h l _ ih=>exact .dct (S:=S.hput p us) ((yh (zen h ew (by intro z;cases z))).trans h) l ih
 | exc h hd l _ ih=>exact .exc (S:=S.hput p us) ((yh (zen h ew (by intro z;cases z))).trans h) (hd.imp (fun z=>z) fun ⟨d,a,b⟩=>⟨d,a,(yh (zen b ew (by intro z;cases z))).trans b⟩) l ih
theorem Reps.hput (m:MemOk K S) (hp:p ∈ S.hid) {t:List T} {v:List V} (r:Reps K S t v):Reps K (S.hput p us) t v:=⟨r.1,fun i a b e1 e2=>(r.2 i a b e1 e2).hput m hp⟩
theorem CellOk.hput (m:MemOk K S) (hp:p ∈ S.hid) {c:Cell} (hq:q ≠ p) (r:CellOk K S q c):CellOk K (S.hput p us) q c:=by
 cases c with
 | lst ts=>obtain ⟨vs,q,r⟩:=r;exact ⟨vs,(yh hq).trans q,r.hput m hp⟩
 | dic ts=>obtain ⟨vs,q,r⟩:=r;exact ⟨vs,(yh hq).trans q,r.1,r.2.hput m hp⟩
 | ins C ts=>obtain ⟨dx,vs,q,r⟩:=r;exact ⟨dx,vs,(yh hq).trans q,r.1,r.2.hput m hp⟩
theorem Stp.hput (s:Stp K S0 S) (hp:p ∈ S.hid) (hn:S0.H p = none) (m0:MemOk K S0):Stp K S0 (S.hput p us):=by
 refine ⟨⟨s.le,s.al,s.fr,fun b o e f=>(yh (yA e hn)).trans (s.kp b o e f),fun q h=>⟨(s.hk q h).1,?_⟩,s.hf⟩,⟨fun a c e=>?_,s.mok.inj,fun q h=>?_⟩⟩
 ·obtain ⟨_,vs,e⟩:=m0.hd q h
  exact (yh (yA e hn)).trans (s.hk q h).2
 ·exact (s.mok.cell a c e).hput s.mok hp ((s.mok.hd p hp).1 a (List.getElem?_eq_some_iff.mp e).1)
 ·obtain ⟨h1,vs,e⟩:=s.mok.hd q h
  refine ⟨h1,?_⟩
  by_cases z:q = p
  ·exact ⟨us,by show upd S.H p _ q = _;rw [z];exact yt⟩
  ·exact ⟨vs,(yh z).trans e⟩
end
structure CB (X:Cx) (scope:Scope) (cl:List (Str × Addr)) (caps:List (Str × Nat)):Prop where
 hc:X.calm = true
 hclos:closureFor scope X.env = pure cl
 hcell:∀ y ∈ scope.names,y.2 = .cell->y.1 ∉ caps.map (·.1)
 hkind:scope.kind = .function
 hnames:∀ y ∈ scope.names,y.2 = .local->scope.names.lookup y.1 = some .local
 hcl:∀ y c,cl.lookup y = some c->X.env.cells.lookup y = some c
 hhas:∀ n y,((relabel scope X.env).names.lookup y = some .cell\/(relabel scope X.env).names.lookup y = some .free)->∃ c,(cellsFrom n scope.names cl).lookup y = some c
 hcap:∀ c ∈ caps,X.N[c.2]? = some c.1/\X.env.kindOf c.1 = some .cell/\((relabel scope X.env).names.lookup c.1 = some .cell\/(relabel scope X.env).names.lookup c.1 = some .free)
variable {cond:Ev->Mem->Out Bool} {elt:Expr} {cl:List (Str × Addr)} {caps:List (Str × Nat)} {ifs:List Expr} {tgs:List Str} {i0:Nat} {spos:Pos} {scope:Scope} {y0:Str}
section
theorem zfd (hh:lL XE X.K (zI ga bd cond f tgs caps) σ H Q) :
  zgS (lI XE X.K ga) (lG XE X.K bd) (lT XE X.K cond) (lE XE X.K f) (zaE tgs caps) σ H Q:=by
 obtain ⟨S,στ,e,m,ev,fin⟩:=hh
 replace fin:FinL XE X.K S ((ga στ S.M).bind fun xs M1=>qr bd cond f xs (zbO tgs caps στ) M1 []) Q:=fin
 refine ⟨S,στ,(),e,m,ev,trivial,?_⟩
 show Fin XE (zdK X.K) X.K S (ga στ S.M) _
 cases o:ga στ S.M with
 | bad=>rw [o] at fin;exact fin
 | exn C fs M'=>rw [o] at fin;exact fin
 | ok items M1=>
  rw [o] at fin
  replace fin:FinL XE X.K S (qr bd cond f items (zbO tgs caps στ) M1 []) Q:=fin
  intro S0 J e0 s0 it0 D hD
  have m0:=s0.mok
  have fin0:=fin.later s0
  have s1:=Stp.hide (K:=X.K) m0 hD []
  refine ⟨fun i n σ' H'=>∃ S στ acc vs,S.H = H'/\EvR X.K S στ σ'/\n = items.length - i/\i<=items.length/\D ∈ S.hid/\S.H D = some (.lst vs)/\Reps X.K S acc vs/\Stp X.K S0 S/\FinL XE X.K S0 (qr bd cond f (items.drop i) στ S.M acc) Q,
   ⟨items.length - 0,S0.hide D [],zbO tgs caps στ,[],[],rfl,(Mo.mo (K:=X.K) m0 s1 (Mo.mo (K:=X.K) m s0 ev)).cap tgs caps,rfl,Nat.zero_le _,.head _,yt,.nil,s1,by show FinL XE X.K S0 (qr bd cond f items (zbO tgs caps στ) S0.M []) Q;rw [e0];exact fin0⟩,?_⟩
  rintro i n σ1 H1 ⟨S2,στ2,acc,vs,e2,ev2,en,hi2,hid2,hD2,racc,s2,fin2⟩
  subst e2
  have m2:=s2.mok
  obtain ⟨itg,its⟩:=it0 S2 s2
  by_cases hl:i < items.length
  ·have eq:items.drop i = items[i] :: items.drop (i + 1):=List.drop_eq_getElem_cons hl
   rw [eq] at fin2
   obtain ⟨go,yl⟩:=itg i items[i] (by simp [hl])
   refine .inr ⟨go,fun σ' H'=>∃ S στ acc vs,S.H = H'/\EvR X.K S στ σ'/\D ∈ S.hid/\S.H D = some (.lst vs)/\Reps X.K S acc vs/\Stp X.K S0 S/\FinL XE X.K S0 (qr bd cond f (items.drop (i + 1)) στ S.M acc) Q,?_,fun x H' hy=>?_⟩
   ·rintro σ' H' ⟨S,στ,acc,vs,a1,a2,a3,a4,a5,a6,a7⟩
    exact ⟨items.length - (i + 1),by omega,S,στ,acc,vs,a1,a2,rfl,hl,a3,a4,a5,a6,a7⟩
   ·obtain ⟨S3,e3,eM,s3,r3⟩:=yl x H' hy
    replace fin2:FinL XE X.K S0 ((bd items[i] στ2 S2.M).bind fun σ1 M1=>(cond σ1 M1).bind fun b M2=>if b = true then (f σ1 M2).bind fun t M3=>if acc.length < sizeLine then qr bd cond f (items.drop (i + 1)) σ1 M3 (acc ++ [t]) else .bad else qr bd cond f (items.drop (i + 1)) σ1 M2 acc) Q:=fin2
    refine ⟨S3,στ2,items[i],e3,s3.mok,Mo.mo m2 s3 ev2,r3,?_⟩
    show Fin XE (EvR X.K) X.K S3 (bd items[i] στ2 S3.M) _
    rw [eM]
    cases o1:bd items[i] στ2 S2.M with
    | bad=>rw [o1] at fin2;exact fin2
    | exn C fs M'=>rw [o1] at fin2;exact fun S' od a1 a2 a3=>fin2 S' od a1 ((s2.trans s3).trans a2) a3
    | ok σ4 M4=>
     rw [o1] at fin2
     intro S4 σ4v e4 s4 ev4
     have t4:=s3.trans s4
     replace fin2:FinL XE X.K S0 ((cond σ4 M4).bind fun b M2=>if b = true then (f σ4 M2).bind fun t M3=>if acc.length < sizeLine then qr bd cond f (items.drop (i + 1)) σ4 M3 (acc ++ [t]) else .bad else qr bd cond f (items.drop (i + 1)) σ4 M2 acc) Q:=fin2
     refine ⟨S4,σ4,(),rfl,s4.mok,ev4,trivial,?_⟩
     show Fin XE EqR X.K S4 (cond σ4 S4.M) _
     rw [e4]
     cases o2:cond σ4 M4 with
     | bad=>rw [o2] at fin2;exact fin2
     | exn C fs M'=>rw [o2] at fin2;exact fun S' od a1 a2 a3=>fin2 S' od a1 ((s2.trans t4).trans a2) a3
     | ok b M5=>
      rw [o2] at fin2
      intro S5 b5 e5 s5 eb
      have eb':b = b5:=eb
      subst eb'
      have t5:=t4.trans s5
      replace fin2:FinL XE X.K S0 (if b = true then (f σ4 M5).bind fun t M3=>if acc.length < sizeLine then qr bd cond f (items.drop (i + 1)) σ4 M3 (acc ++ [t]) else .bad else qr bd cond f (items.drop (i + 1)) σ4 M5 acc) Q:=fin2
      cases b with
      | false=>
       rw [if_neg Q5] at fin2
       refine (if_neg Q5).mpr ⟨S5,σ4,acc,vs,rfl,Mo.mo s4.mok s5 ev4,(t5.hk D hid2).1,by rw [(t5.hk D hid2).2];exact hD2,racc.grow m2 t5.toGrow,s2.trans t5,by rw [e5];exact fin2⟩
      | true=>
       rw [if_pos rfl] at fin2
       refine (if_pos rfl).mpr ⟨S5,σ4,(),rfl,s5.mok,Mo.mo s4.mok s5 ev4,trivial,?_⟩
       show Fin XE (Rep X.K) X.K S5 (f σ4 S5.M) _
       rw [e5]
       cases o3:f σ4 M5 with
       | bad=>rw [o3] at fin2;exact fin2
       | exn C fs M'=>rw [o3] at fin2;exact fun S' od a1 a2 a3=>fin2 S' od a1 ((s2.trans t5).trans a2) a3
       | ok t M6=>
        rw [o3] at fin2
        replace fin2:FinL XE X.K S0 (if acc.length < sizeLine then qr bd cond f (items.drop (i + 1)) σ4 M6 (acc ++ [t]) else .bad) Q:=fin2
        intro S6 v6 e6 s6 r6
        have t6:=t5.trans s6
        have hz:acc.length < sizeLine:=by
         by_cases hz:acc.length < sizeLine
         ·exact hz
         ·rw [if_neg hz] at fin2;exact fin2.elim
        rw [if_pos hz] at fin2
        have hid6:=(t6.hk D hid2).1
        have hD6:S6.H D = some (.lst vs):=by rw [(t6.hk D hid2).2];exact hD2
        refine ⟨vs,hD6,by rw [← racc.1];exact hz,S6.hput D (vs ++ [v6]),σ4,acc ++ [t],vs ++ [v6],rfl,?_,hid6,yt,?_,(s2.trans t6).hput hid6 hD m0,by show FinL XE X.K S0 (qr bd cond f (items.drop (i + 1)) σ4 S6.M (acc ++ [t])) Q;rw [e6];exact fin2⟩
        ·have ev6:EvR X.K S6 σ4 σ4v:=Mo.mo s4.mok (s5.trans s6) ev4
         exact ⟨ev6.1,fun i t e=>let ⟨v,e',q⟩:=ev6.2 i t e;⟨v,e',q.hput s6.mok hid6⟩⟩
        ·exact ((racc.grow m2 t6.toGrow).app (.cons r6 .nil)).hput s6.mok hid6
  ·rw [List.drop_eq_nil_of_le (by omega)] at fin2
   refine .inl ⟨its i (by omega),?_⟩
   exact fin2 S2 D vs rfl s2 hD hid2 hD2 racc
theorem znz:PTs X [] (lT XE X.K yH):=fun pins s σ H Q I h=>zmV pins s σ H Q I (zgV h)
theorem zny {c:Expr} (h:GT X XE c tf):PTs X [c] (lT XE X.K tf):=zmU h
end
def LNL {A AV:Type} (XE:XK) (K:Frag) (RA:Sit->A->AV->Prop) (k:A->Ev->Mem->Out (List T)) (av:AV) (σ:L2.St) (H:Hp) (Q:VK):Prop:=
 ∃ (S:Sit) (στ:Ev) (a:A),S.H = H/\MemOk K S/\EvR K S στ σ/\RA S a av/\FinL XE K S (k a στ S.M) Q
theorem LNL.bind {A AV B BV:Type} {RA:Sit->A->AV->Prop} {RB:Sit->B->BV->Prop} [Mo K RA] {f:A->Ev->Mem->Out B} {k:A->B->Ev->Mem->Out (List T)} {av:AV} 
 (h:LNL XE K RA (fun a σ M=>(f a σ M).bind fun b M1=>k a b σ M1) av σ H Q):LN XE RB K RA f av σ H (fun bv H1=>LNL XE K (PrR RA RB) (fun ab=>k ab.1 ab.2) (av,bv) σ H1 Q):=by
 obtain ⟨S,στ,a,e,m,ev,ra,fin⟩:=h
 refine ⟨S,στ,a,e,m,ev,ra,?_⟩
 replace fin:FinL XE K S ((f a στ S.M).bind fun b M1=>k a b στ M1) Q:=fin
 cases q:f a στ S.M with
 | bad=>rw [q] at fin;exact fin
 | exn C fs M'=>rw [q] at fin;exact fin
 | ok b M1=>
  rw [q] at fin
  intro S1 c e1 s1 r1
  refine ⟨S1,στ,(a,b),rfl,s1.mok,Mo.mo m s1 ev,⟨Mo.mo m s1 ra,r1⟩,?_⟩
  rw [e1]
  exact fin.later s1
def L0L {A AV:Type} (XE:XK) (K:Frag) (RA:Sit->A->AV->Prop) (k:A->Mem->Out (List T)) (av:AV) (H:Hp) (Q:VK):Prop:=∃ (S:Sit) (a:A),S.H = H/\MemOk K S/\RA S a av/\FinL XE K S (k a S.M) Q
noncomputable def zlN (XE:XK) (K:Frag) (o:T->T->Mem->Out (List T)):R2:=fun x y H Q=>L0L XE K (PrR (Rep K) (Rep K)) (fun a M=>o a.1 a.2 M) (x,y) H Q
noncomputable def lOp (o:T->T->Mem->Out (List T)) (f g:Ev->Mem->Out T):Ev->Mem->Out (List T):=fun σ M=>(f σ M).bind fun x M1=>(g σ M1).bind fun y M2=>o x y M2
noncomputable def zrY (F:List T->Mem->Out (List T)) (g:Ev->Mem->Out (List T)):Ev->Mem->Out (List T):=fun σ M=>(g σ M).bind fun ts M1=>F ts M1
theorem zlI (m:MemOk K S) (fin:FinL XE K S (.ok xs S.M) Q) (r:Reps K S xs vs):∀ p,S.H p = none->Q (.ref p) (upd S.H p (.lst vs)):=fun p hp=>
 fin (S.hide p vs) p vs rfl (Stp.hide m hp vs) hp (.head _) yt (r.grow m (Stp.hide m hp vs).toGrow)
section
variable {a b:Expr} {p:Pos}
end
noncomputable def zad (k:Int->Int->Mem->Out T) (x y:T) (M:Mem):Out T:=match x,y with
 | .int i,.int j=>k i j M
 | _,_=>.bad
def Mo64 (i j:Int):Prop:=(i.natAbs < 10 ^ 3000/\j.natAbs < 10 ^ 3000)\/(-(2 ^ 64) < i/\i < 2 ^ 64)\/(-(2 ^ 64) < j/\j < 2 ^ 64)
instance (i j:Int):Decidable (Mo64 i j):=inferInstanceAs (Decidable (_\/_))
variable {i j:Int}
theorem Mo64.ok (h:Mo64 i j):CMulB i j:=by
 rcases h with h | h
 ·exact .inl ⟨3000,3000,h.1,h.2,Q4 _,Q4 _⟩
 ·exact .inr h
noncomputable def zc6:T->T->Mem->Out T:=zad fun i j M=>.ok (.int (i + j)) M
noncomputable def zb5:T->T->Mem->Out T:=zad fun i j M=>.ok (.int (i - j)) M
noncomputable def zhu:T->T->Mem->Out T:=zad fun i j M=>if Mo64 i j then .ok (.int (i * j)) M else .bad
noncomputable def zc5:T->T->Mem->Out T:=zad fun i j M=>if j ≠ 0/\j.natAbs < 10 ^ 2000 then .ok (.int (i.fdiv j)) M else .bad
noncomputable def zac:T->T->Mem->Out T:=zad fun i j M=>if j ≠ 0 then .ok (.int (i.fmod j)) M else .bad
noncomputable def zjo:T->T->Mem->Out T:=zad fun i j M=>if 0<=j/\j<=1000000/\i.natAbs < 2 ^ 64 then .ok (.int (i ^ j.toNat)) M else .bad
noncomputable def ltI:T->T->Mem->Out T:=zad fun i j M=>.ok (.bl (decide (i < j))) M
noncomputable def leI:T->T->Mem->Out T:=zad fun i j M=>.ok (.bl (decide (i<=j))) M
noncomputable def gtI:T->T->Mem->Out T:=zad fun i j M=>.ok (.bl (decide (j < i))) M
noncomputable def geI:T->T->Mem->Out T:=zad fun i j M=>.ok (.bl (decide (j<=i))) M
noncomputable def zht:T->Mem->Out T:=fun x M=>match x with
 | .int i=>.ok (.int (-i)) M
 | _=>.bad
variable {y:V} {F:Value}
section
theorem zix (r:Rep K S (.int i) v):v = .int i:=by cases r;rfl
theorem zbF {fn:Value->Value->Sem Value} {r:R2} {k:Int->Int->Mem->Out T} (ho:OpR X fn r)
  (h:∀ i j S Q,MemOk X.K S->Fin XE (Rep X.K) X.K S (k i j S.M) Q->r (.int i) (.int j) S.H Q):OpR X fn (lR2 XE X.K (zad k)):=by
 intro pins s σ H x y v u Q I rx ry ⟨S,⟨tx,ty⟩,e,m,⟨r1,r2⟩,fin⟩
 replace fin:Fin XE (Rep X.K) X.K S (zad k tx ty S.M) Q:=fin
 unfold zad at fin
 split at fin
 ·have e1:=zix r1
  have e2:=zix r2
  dsimp only at e1 e2
  subst e1;subst e2;subst e
  exact ho pins s σ S.H _ _ v u Q I rx ry (h _ _ S Q m fin)
 ·exact fin.elim
theorem zan:OpR X (binaryOp .Sub) (lR2 XE X.K zb5):=zbF zoS fun i j S Q m fin=>⟨i,j,rfl,rfl,fin S _ rfl (.refl m) (.int _)⟩
theorem zem:OpR X (binaryOp .FloorDiv) (lR2 XE X.K zc5):=zbF zlC fun i j S Q m fin=>by
 by_cases h:j ≠ 0/\j.natAbs < 10 ^ 2000
 ·rw [if_pos h] at fin
  exact ⟨i,j,rfl,rfl,⟨h.1,2000,h.2,Q4 _⟩,fin S _ rfl (.refl m) (.int _)⟩
 ·rw [if_neg h] at fin;exact fin.elim
theorem yW:OpR X (binaryOp .Mod) (lR2 XE X.K zac):=zbF znd fun i j S Q m fin=>by
 by_cases h:j ≠ 0
 ·rw [if_pos h] at fin
  exact ⟨i,j,rfl,rfl,h,fin S _ rfl (.refl m) (.int _)⟩
 ·rw [if_neg h] at fin;exact fin.elim
theorem ziD:OpR X (binaryOp .Pow) (lR2 XE X.K zjo):=zbF zoT fun i j S Q m fin=>by
 by_cases h:0<=j/\j<=1000000/\i.natAbs < 2 ^ 64
 ·rw [if_pos h] at fin
  exact ⟨i,j,rfl,rfl,h,fin S _ rfl (.refl m) (.int _)⟩
 ·rw [if_neg h] at fin;exact fin.elim
theorem zdY:OpR X (compareOp .Lt) (lR2 XE X.K ltI):=zbF zqq fun i j S Q m fin=>⟨i,j,rfl,rfl,fin S _ rfl (.refl m) (.bl _)⟩
theorem zkd:OpR X (compareOp .LtE) (lR2 XE X.K leI):=zbF zqr fun i j S Q m fin=>⟨i,j,rfl,rfl,fin S _ rfl (.refl m) (.bl _)⟩
theorem zfv:OpR X (compareOp .Gt) (lR2 XE X.K gtI):=zbF zqs fun i j S Q m fin=>⟨i,j,rfl,rfl,fin S _ rfl (.refl m) (.bl _)⟩
theorem zmB:L2.UnR X (unaryOp .USub) (lR1 XE X.K zht):=by
 intro pins s σ H x v Q I rx ⟨S,t,e,m,r,fin⟩
 replace fin:Fin XE (Rep X.K) X.K S (zht t S.M) Q:=fin
 unfold zht at fin
 split at fin
 ·cases r
  subst e
  exact zoe pins s σ S.H _ v Q I rx ⟨_,rfl,fin S _ rfl (.refl m) (.int _)⟩
 ·exact fin.elim
noncomputable def isB:T->T->Mem->Out T:=fun x y M=>match x,y with
 | .bl a,.bl b=>.ok (.bl (a == b)) M
 | _,_=>.bad
noncomputable def zqx:T->T->Mem->Out T:=fun x y M=>match x,y with
 | .bl a,.bl b=>.ok (.bl (a != b)) M
 | _,_=>.bad
noncomputable def zlF:T->Bool
 | .non=>true
 | _=>false
noncomputable def isN:T->T->Mem->Out T:=fun x y M=>match y with
 | .non=>.ok (.bl (zlF x)) M
 | _=>.bad
noncomputable def za9:T->T->Mem->Out T:=fun x y M=>match y with
 | .non=>.ok (.bl (!zlF x)) M
 | _=>.bad
theorem zhs (r:Rep K S t v):decide (v = .non) = zlF t:=by
 cases r <;> first | rfl | exact Qy (by intro z;cases z)
theorem zf8:OpR X (compareOp .Is) (lR2 XE X.K isN):=by
 intro pins s σ H x y v u Q I rx ry ⟨S,⟨tx,ty⟩,e,m,⟨r1,r2⟩,fin⟩
 replace fin:Fin XE (Rep X.K) X.K S (isN tx ty S.M) Q:=fin
 unfold isN at fin
 split at fin
 ·cases r2;subst e
  exact zoU pins s σ S.H _ _ v u Q I rx ry ⟨rfl,by rw [zhs r1];exact fin S _ rfl (.refl m) (.bl _)⟩
 ·exact fin.elim
theorem zdZ:OpR X (compareOp .IsNot) (lR2 XE X.K za9):=by
 intro pins s σ H x y v u Q I rx ry ⟨S,⟨tx,ty⟩,e,m,⟨r1,r2⟩,fin⟩
 replace fin:Fin XE (Rep X.K) X.K S (za9 tx ty S.M) Q:=fin
 unfold za9 at fin
 split at fin
 ·cases r2;subst e
  exact znb pins s σ S.H _ _ v u Q I rx ry ⟨rfl,by rw [zhs r1];exact fin S _ rfl (.refl m) (.bl _)⟩
 ·exact fin.elim
noncomputable def zjA (M:Mem):T->T->Option T
 | .tup xs,.int i=>atI xs i
 | .lst xs,.int i=>atI xs i
 | .ref a,.int i=>match M[a]? with
  | some (.lst xs)=>atI xs i
  | _=>none
 | _,_=>none
noncomputable def zf7 (o:Option T) (M:Mem):Out T:=match o with
 | some t=>.ok t M
 | none=>.bad
noncomputable def ixT:T->T->Mem->Out T:=fun x y M=>zf7 (zjA M x y) M
theorem Reps.atI (r:Reps K S ts vs) (e:L2.atI ts i = some t):∃ v,L2.atI vs i = some v/\Rep K S t v:=by
 unfold L2.atI at e ⊢
 rw [← r.1]
 cases q:ixN ts.length i with
 | none=>rw [q] at e;cases e
 | some j=>
  rw [q] at e
  obtain ⟨v,e2,r2⟩:=r.get (show ts[j]? = some t from e)
  exact ⟨v,e2,r2⟩
theorem znO {tx ty:T} {x:V} (m:MemOk K S) (r1:Rep K S tx x) (r2:Rep K S ty y) (e:zjA S.M tx ty = some t) :
  ∃ p vs i v,x = .ref p/\y = .int i/\(SqL K S.H p vs\/SqT K S.H p vs)/\L2.atI vs i = some v/\Rep K S t v:=by
 unfold zjA at e
 split at e
 ·cases r2
  cases r1 with
  | @tup _ p vs h l r=>
   obtain ⟨v,e2,r3⟩:=Reps.atI ⟨l,r⟩ e
   exact ⟨p,vs,_,v,rfl,rfl,.inr h,e2,r3⟩
 ·cases r2
  cases r1 with
  | @lst _ p vs h l r=>
   obtain ⟨v,e2,r3⟩:=Reps.atI ⟨l,r⟩ e
   exact ⟨p,vs,_,v,rfl,rfl,.inl (zdh h),e2,r3⟩
 ·split at e
  ·rename_i q
   cases r2
   cases r1 with
   | ref h=>
    obtain ⟨vs,q2,r⟩:=m.cell _ _ q
    obtain ⟨v,e2,r3⟩:=Reps.atI r e
    exact ⟨_,vs,_,v,rfl,rfl,.inl (.inl (.inl q2)),e2,r3⟩
  ·cases e
 ·cases e
theorem zf6 {o:Option T} (fin:Fin XE (Rep K) K S (zf7 o S.M) Q):∃ t,o = some t/\Fin XE (Rep K) K S (.ok t S.M) Q:=by
 unfold zf7 at fin
 split at fin
 ·exact ⟨_,rfl,fin⟩
 ·exact fin.elim
theorem yg:IxR X (lR2 XE X.K ixT):=by
 intro va sl pins s σ H x y v u Q I rx ry ⟨S,⟨tx,ty⟩,e,m,⟨r1,r2⟩,fin⟩ hs
 obtain ⟨t,et,fin⟩:=zf6 (show Fin XE (Rep X.K) X.K S (zf7 (zjA S.M tx ty) S.M) Q from fin)
 obtain ⟨p,vs,i,w,e1,e2,hq,ea,r3⟩:=znO m r1 r2 et
 dsimp only at e1 e2
 subst e1;subst e2;subst e
 refine zpi va sl pins s σ S.H _ _ v u Q I rx ry ?_ hs
 rcases hq with hq | hq
 ·exact .inl ⟨p,vs,i,w,rfl,rfl,hq,ea,fin S w rfl (.refl m) r3⟩
 ·exact .inr (.inl ⟨p,vs,i,w,rfl,rfl,hq,ea,fin S w rfl (.refl m) r3⟩)
noncomputable def zF (k:T->Mem->Out T) (ts:List T) (M:Mem):Out T:=match ts with
 | [t]=>k t M
 | _=>.bad
noncomputable def call2 (k:T->T->Mem->Out T) (ts:List T) (M:Mem):Out T:=match ts with
 | [t,u]=>k t u M
 | _=>.bad
theorem zcI {k:T->Mem->Out T} (h:∀ (pins:List (Addr × Obj)) (s:Shared) (σ:L2.St) (S:Sit) (t:T) (x:V) (v:Value) (Q:VK),Inv X pins σ S.H s->RelV x v->MemOk X.K S->Rep X.K S t x->Fin XE (Rep X.K) X.K S (k t S.M) Q->wpAny (model X.prog X.w) X.A (call F [v]) (EP X pins σ Q) X.xe s):CallR X F (lRN XE X.K (zF k)):=by
 intro pins s σ H xs us Q I r ⟨S,ts,e,m,rs,fin⟩
 subst e
 replace fin:Fin XE (Rep X.K) X.K S (zF k ts S.M) Q:=fin
 unfold zF at fin
 split at fin
 ·obtain ⟨v,vs,rfl,r1,r2⟩:=rs.consT
  rw [r2.nilT] at r
  obtain ⟨u,rfl,rx⟩:=vals1 r
  exact h pins s σ S _ v u Q I rx m r1 fin
 ·exact fin.elim
theorem zfe {k:T->T->Mem->Out T} (h:∀ (pins:List (Addr × Obj)) (s:Shared) (σ:L2.St) (S:Sit) (t1 t2:T) (x1 x2:V) (v1 v2:Value) (Q:VK),Inv X pins σ S.H s->RelV x1 v1->RelV x2 v2->MemOk X.K S->Rep X.K S t1 x1->Rep X.K S t2 x2->Fin XE (Rep X.K) X.K S (k t1 t2 S.M) Q->wpAny (model X.prog X.w) X.A (call F [v1,v2]) (EP X pins σ Q) X.xe s):CallR X F (lRN XE X.K (call2 k)):=by
 intro pins s σ H xs us Q I r ⟨S,ts,e,m,rs,fin⟩
 subst e
 replace fin:Fin XE (Rep X.K) X.K S (call2 k ts S.M) Q:=fin
 unfold call2 at fin
 split at fin
 ·obtain ⟨v,vs,rfl,r1,r2⟩:=rs.consT
  obtain ⟨v2,vs2,rfl,r3,r4⟩:=r2.consT
  rw [r4.nilT] at r
  obtain ⟨u,w,rfl,rx,ry⟩:=vals2 r
  exact h pins s σ S _ _ v v2 u w Q I rx ry m r1 r3 fin
 ·exact fin.elim
noncomputable def qF:T->Mem->Out T:=fun t M=>match t with
 | .str z=>if z.length<=sizeLine then .ok (.int z.length) M else .bad
 | t=>match zat t M with
  | some xs=>.ok (.int xs.length) M
  | none=>.bad
theorem qD:CallR X (.builtin "len") (lRN XE X.K (zF qF)):=zcI fun pins s σ S t x v Q I rx m r fin=>by
 unfold qF at fin
 split at fin
 ·cases r
  split at fin
  ·rename_i hz
   exact zhR pins s σ S.H _ _ Q I (.cons rx .nil) ⟨_,rfl,hz,fin S _ rfl (.refl m) (.int _)⟩
  ·exact fin.elim
 ·split at fin
  ·rename_i xs q
   obtain ⟨p,vs,rfl,hq,rs⟩:=zdQ m r q
   exact zhS pins s σ S.H _ _ Q I (.cons rx .nil) ⟨p,vs,rfl,hq,by rw [← rs.1];exact fin S _ rfl (.refl m) (.int _)⟩
  ·exact fin.elim
noncomputable def zjt:T->T->Mem->Out T:=zad fun i j M=>.ok (.int (if j > i then j else i)) M
noncomputable def zjs:T->T->Mem->Out T:=zad fun i j M=>.ok (.int (if j < i then j else i)) M
theorem zkU (hc:X.calm = true):CallR X (.builtin "max") (lRN XE X.K (call2 zjt)):=zfe fun pins s σ S t1 t2 x1 x2 v1 v2 Q I rx ry m r1 r2 fin=>by
 unfold zjt zad at fin
 split at fin
 ·cases r1;cases r2
  exact zkV hc pins s σ S.H _ _ Q I (.cons rx (.cons ry .nil)) ⟨_,_,rfl,fin S _ rfl (.refl m) (.int _)⟩
 ·exact fin.elim
theorem zkS (hc:X.calm = true):CallR X (.builtin "min") (lRN XE X.K (call2 zjs)):=zfe fun pins s σ S t1 t2 x1 x2 v1 v2 Q I rx ry m r1 r2 fin=>by
 unfold zjs zad at fin
 split at fin
 ·cases r1;cases r2
  exact zkT hc pins s σ S.H _ _ Q I (.cons rx (.cons ry .nil)) ⟨_,_,rfl,fin S _ rfl (.refl m) (.int _)⟩
 ·exact fin.elim
noncomputable def zfh:List T->Option (List Bool)
 | []=>some []
 | .bl b :: r=>(zfh r).map (b :: ·)
 | _=>none
theorem zhT {K:Frag} {S:Sit}:∀ {ts:List T} {vs:List V} {bs:List Bool},zfh ts = some bs->Reps K S ts vs->vs = bs.map V.bl
 | [],vs,bs,e,r=>by cases e;exact r.nilT
 | .bl b :: ts,vs,bs,e,r=>by
  unfold zfh at e
  obtain ⟨v,vs',rfl,r1,r2⟩:=r.consT
  cases q:zfh ts with
  | none=>rw [q] at e;cases e
  | some bs'=>
   rw [q] at e
   cases e
   cases r1
   rw [zhT q r2];rfl
 | .non :: _,_,_,e,_=>by cases e
 | .int _ :: _,_,_,e,_=>by cases e
 | .str _ :: _,_,_,e,_=>by cases e
 | .ty _ :: _,_,_,e,_=>by cases e
 | .tup _ :: _,_,_,e,_=>by cases e
 | .lst _ :: _,_,_,e,_=>by cases e
 | .ref _ :: _,_,_,e,_=>by cases e
noncomputable def zh1:T->Mem->Out T:=fun t M=>match zy t M with
 | some xs=>match zfh xs with
  | some bs=>.ok (.bl (bs.all id)) M
  | none=>.bad
 | none=>.bad
theorem zkW (hc:X.calm = true):CallR X (.builtin "all") (lRN XE X.K (zF zh1)):=zcI fun pins s σ S t x v Q I rx m r fin=>by
 unfold zh1 at fin
 split at fin
 ·rename_i xs q
  split at fin
  ·rename_i bs q2
   obtain ⟨p,vs,rfl,hq,rs⟩:=zz m r q
   rw [zhT q2 rs] at hq
   exact zkX hc pins s σ S.H _ _ Q I (.cons rx .nil) ⟨p,bs,rfl,hq,fin S _ rfl (.refl m) (.bl _)⟩
  ·exact fin.elim
 ·exact fin.elim
noncomputable def zdP:T->Mem->Out T:=fun t M=>match zat t M with
 | some xs=>.ok (.tup xs) M
 | none=>.bad
theorem zih:CallR X (.type "tuple") (lRN XE X.K (zF zdP)):=zcI fun pins s σ S t x v Q I rx m r fin=>by
 unfold zdP at fin
 split at fin
 ·rename_i xs q
  obtain ⟨p,vs,rfl,hq,rs⟩:=zdQ m r q
  refine zgQ pins s σ S.H _ _ Q I (.cons rx .nil) ⟨p,vs,rfl,?_⟩
  rcases hq with hq | hq
  ·refine .inl ⟨hq,fun l hl=>?_⟩
   have s2:=Stp.new m hl (.tup vs)
   exact fin ⟨S.α,S.M,upd S.H l (.tup vs),S.hid⟩ (.ref l) rfl s2 (.tup (.inl (.inl yt)) rs.1 (rs.grow m s2.toGrow).2)
  ·exact .inr ⟨hq,fin S _ rfl (.refl m) (.tup hq rs.1 rs.2)⟩
 ·exact fin.elim
noncomputable def zgj:T->T->Mem->Out (List T):=fun x y M=>match zy x M,zy y M with
 | some xs,some ys=>if xs.length + ys.length<=sizeLine then .ok (xs ++ ys) M else .bad
 | _,_=>.bad
theorem znf:OpR X (binaryOp .Add) (zlN XE X.K zgj):=by
 intro pins s σ H x y v u Q I rx ry ⟨S,⟨tx,ty⟩,e,m,⟨r1,r2⟩,fin⟩
 subst e
 replace fin:FinL XE X.K S (zgj tx ty S.M) Q:=fin
 unfold zgj at fin
 split at fin
 ·rename_i xs ys q1 q2
  split at fin
  ·rename_i hz
   obtain ⟨p,vs,e1,h1,s1⟩:=zz m r1 q1
   obtain ⟨p2,vs2,e2,h2,s2⟩:=zz m r2 q2
   dsimp only at e1 e2
   subst e1;subst e2
   exact ziE pins s σ S.H _ _ v u Q I rx ry ⟨p,p2,vs,vs2,rfl,rfl,h1,h2,by rw [← s1.1,← s2.1];exact hz,zlI m fin (s1.app s2)⟩
  ·exact fin.elim
 ·exact fin.elim
noncomputable def y4 (x:T) (ts:List T) (M:Mem):Out T:=match x,ts with
 | .ref a,[t]=>match M[a]? with
  | some (.lst xs)=>if xs.length < sizeLine then .ok .non (M.set a (.lst (xs ++ [t]))) else .bad
  | _=>.bad
 | _,_=>.bad
noncomputable def zfX (o i t:T) (M:Mem):Out Unit:=match o,i with
 | .ref a,.int k=>match M[a]? with
  | some (.lst xs)=>match ixN xs.length k with
   | some j=>.ok () (M.set a (.lst (xs.set j t)))
   | none=>.bad
  | _=>.bad
 | _,_=>.bad
theorem zek (m:MemOk K S) {a:Nat} {c:Cell} (e:S.M[a]? = some c) (r:Reps K S ts vs):Stp K S (S.put a (.lst vs) (.lst ts)):=by
 have ha:a < S.M.length:=(List.getElem?_eq_some_iff.mp e).1
 exact Stp.put m ha _ _ ⟨vs,yt,r.grow m (Grow.put m ha _ _)⟩
theorem zjf:zed X (zhy XE X.K zfX):=by
 intro pins s σ H o i v ov iv u Q I ro ri rv ⟨S,⟨⟨to,ti⟩,tv⟩,e,m,⟨⟨r1,r2⟩,r3⟩,fin⟩
 subst e
 replace fin:Fin XE UnR X.K S (zfX to ti tv S.M) (fun _ H'=>Q H'):=fin
 unfold zfX at fin
 split at fin
 ·split at fin
  ·rename_i a k _ xs q
   split at fin
   ·rename_i j qj
    cases r1
    cases r2
    obtain ⟨vs,q2,rs⟩:=m.cell _ _ q
    refine set_list pins s σ S.H _ _ v ov iv u Q I ro ri rv ⟨S.α a,vs,k,j,rfl,rfl,q2,by rw [← rs.1];exact qj,?_⟩
    exact fin (S.put a (.lst (vs.set j v)) (.lst (xs.set j tv))) () rfl (zek m q (rs.set r3 j)) trivial
   ·exact fin.elim
  ·exact fin.elim
 ·exact fin.elim
noncomputable def zK (x:T) (M:Mem):Out T:=match zy x M with
 | some _=>.ok x M
 | none=>.bad
noncomputable def zaO (F:T->List T->Mem->Out T) (f:Ev->Mem->Out T) (g:Ev->Mem->Out (List T)):Ev->Mem->Out T:=fun σ M=>(f σ M).bind fun x M1=>(g σ M1).bind fun ts M2=>F x ts M2
end
noncomputable def zcG (xs:List T) (lo hi:Option Int):List T:=(xs.drop (HT.sIx xs.length 0 lo)).take (HT.sIx xs.length xs.length hi - HT.sIx xs.length 0 lo)
theorem Reps.cutV (r:Reps K S ts vs) (lo hi:Option Int):Reps K S (zcG ts lo hi) (L2.cutV vs lo hi):=by
 unfold zcG L2.cutV
 rw [← r.1]
 exact r.sub _ _
theorem zjH {lo hi:Option Int} (h:HT.sIx xs.length 0 lo = 0/\HT.sIx xs.length xs.length hi = xs.length):zcG xs lo hi = xs:=by
 unfold zcG
 rw [h.1,h.2]
 simp
theorem zf9 (m:MemOk K S) (fin:Fin XE (Rep K) K S (.ok (.tup xs) S.M) Q) (r:Reps K S xs vs):∀ p,S.H p = none->Q (.ref p) (upd S.H p (.tup vs)):=fun p hp=>by
 have s2:=Stp.new m hp (.tup vs)
 exact fin ⟨S.α,S.M,upd S.H p (.tup vs),S.hid⟩ (.ref p) rfl s2 (.tup (.inl (.inl yt)) r.1 (r.grow m s2.toGrow).2)
theorem ziF (m:MemOk K S) (fin:Fin XE (Rep K) K S (.ok (.lst xs) S.M) Q) (r:Reps K S xs vs):∀ p,S.H p = none->Q (.ref p) (upd S.H p (.lst vs)):=fun p hp=>by
 have s2:=Stp.new m hp (.lst vs)
 exact fin ⟨S.α,S.M,upd S.H p (.lst vs),S.hid⟩ (.ref p) rfl s2 (.lst (.inl ⟨.inl yt,m.off_none hp⟩) r.1 (r.grow m s2.toGrow).2)
noncomputable def y9:T->T->Mem->Out T:=fun x y M=>match x,y with
 | .int i,.int j=>.ok (.int (i + j)) M
 | .str a,.str b=>if a.length + b.length<=sizeLine then .ok (.str (a ++ b)) M else .bad
 | .tup xs,.tup ys=>if xs.length + ys.length<=sizeLine then .ok (.tup (xs ++ ys)) M else .bad
 | x,y=>match zy x M,zy y M with
  | some xs,some ys=>if xs.length + ys.length<=sizeLine then .ok (.lst (xs ++ ys)) M else .bad
  | _,_=>.bad
noncomputable def zap:T->T->Mem->Out T:=fun x y M=>match x,y with
 | .int i,.int j=>if Mo64 i j then .ok (.int (i * j)) M else .bad
 | .tup xs,.int k=>if xs ≠ []/\2<=k/\k < 2 ^ 63/\xs.length * k.toNat<=sizeLine then .ok (.tup (List.replicate k.toNat xs).flatten) M else .bad
 | _,_=>.bad
variable {pins:List (Addr × Obj)} {s:Shared}
section
theorem zN:OpR X (binaryOp .Add) (lR2 XE X.K y9):=by
 intro pins s σ H x y v u Q I rx ry ⟨S,⟨tx,ty⟩,e,m,⟨r1,r2⟩,fin⟩
 subst e
 replace fin:Fin XE (Rep X.K) X.K S (y9 tx ty S.M) Q:=fin
 unfold y9 at fin
 split at fin
 ·cases r1;cases r2
  exact zoW pins s σ S.H _ _ v u Q I rx ry ⟨_,_,rfl,rfl,fin S _ rfl (.refl m) (.int _)⟩
 ·cases r1;cases r2
  split at fin
  ·rename_i hz
   exact zjq pins s σ S.H _ _ v u Q I rx ry ⟨_,_,rfl,rfl,hz,fin S _ rfl (.refl m) (.str _)⟩
  ·exact fin.elim
 ·split at fin
  ·rename_i hz
   cases r1 with
   | @tup _ p vs h l r=>
   cases r2 with
   | @tup _ p2 vs2 h2 l2 rr2=>
   have r1:Reps X.K S _ vs:=⟨l,r⟩
   have r2:Reps X.K S _ vs2:=⟨l2,rr2⟩
   refine zng pins s σ S.H _ _ v u Q I rx ry ⟨p,p2,vs,vs2,rfl,rfl,h,h2,by rw [← l,← l2];exact hz,fun e=>?_,fun e1 e2=>?_,fun e1 e2=>zf9 m fin (r1.app r2)⟩
   ·subst e
    rw [r1.nil_inv,nil_append] at fin
    exact fin S _ rfl (.refl m) (.tup h2 l2 rr2)
   ·subst e2
    rw [r2.nil_inv,append_nil] at fin
    exact fin S _ rfl (.refl m) (.tup h l r)
  ·exact fin.elim
 ·split at fin
  ·rename_i xs ys q1 q2
   split at fin
   ·rename_i hz
    obtain ⟨p,vs,e1,h1,s1⟩:=zz m r1 q1
    obtain ⟨p2,vs2,e2,h2,s2⟩:=zz m r2 q2
    dsimp only at e1 e2
    subst e1;subst e2
    exact ziE pins s σ S.H _ _ v u Q I rx ry ⟨p,p2,vs,vs2,rfl,rfl,h1,h2,by rw [← s1.1,← s2.1];exact hz,ziF m fin (s1.app s2)⟩
   ·exact fin.elim
  ·exact fin.elim
theorem Reps.rep (r:Reps K S ts vs) (n:Nat):Reps K S (List.replicate n ts).flatten (List.replicate n vs).flatten:=by
 induction n with
 | zero=>exact .nil
 | succ n ih=>rw [replicate_succ,replicate_succ,flatten_cons,flatten_cons];exact r.app ih
theorem zcm:OpR X (binaryOp .Mult) (lR2 XE X.K zap):=by
 intro pins s σ H x y v u Q I rx ry ⟨S,⟨tx,ty⟩,e,m,⟨r1,r2⟩,fin⟩
 subst e
 replace fin:Fin XE (Rep X.K) X.K S (zap tx ty S.M) Q:=fin
 unfold zap at fin
 split at fin
 ·cases r1;cases r2
  split at fin
  ·rename_i h
   exact znc pins s σ S.H _ _ v u Q I rx ry ⟨_,_,rfl,rfl,h.ok,fin S _ rfl (.refl m) (.int _)⟩
  ·exact fin.elim
 ·split at fin
  ·rename_i h
   cases r2
   cases r1 with
   | @tup _ p vs hq l r=>
   have r1:Reps X.K S _ vs:=⟨l,r⟩
   exact zna pins s σ S.H _ _ v u Q I rx ry ⟨p,_,vs,rfl,rfl,hq,fun z=>h.1 (by subst z;exact r1.nil_inv),h.2.1,h.2.2.1,by rw [← l];exact h.2.2.2,zf9 m fin (r1.rep _)⟩
  ·exact fin.elim
 ·exact fin.elim
noncomputable def lO (XE:XK) (K:Frag) (f:Ev->Mem->Out (Option Int)):TO:=fun σ H Q=>LN XE EqR K UnR (fun _ σ M=>f σ M) () σ H Q
def GO (X:Cx) (XE:XK) (e:Option Expr) (f:Ev->Mem->Out (Option Int)):Prop:=PO X e (lO XE X.K f)
noncomputable def zfx:Ev->Mem->Out (Option Int):=fun _ M=>.ok none M
noncomputable def zlQ (x:T) (M:Mem):Out (Option Int):=match x with
 | .int i=>.ok (some i) M
 | _=>.bad
noncomputable def zfw (f:Ev->Mem->Out T):Ev->Mem->Out (Option Int):=fun σ M=>(f σ M).bind zlQ
theorem PO.imp {e:Option Expr} {t t':TO} (h:PO X e t) (i:∀ σ H Q,t' σ H Q->t σ H Q):PO X e t':=fun pins s σ H Q I q=>h pins s σ H Q I (i σ H Q q)
noncomputable def zgi (x:T) (lo hi:Option Int) (M:Mem):Out T:=match x with
 | .tup xs=>.ok (.tup (zcG xs lo hi)) M
 | x=>match zy x M with
  | some xs=>.ok (.lst (zcG xs lo hi)) M
  | none=>.bad
noncomputable def eSl (f:Ev->Mem->Out T) (p q:Ev->Mem->Out (Option Int)):Ev->Mem->Out T:=fun σ M=>(f σ M).bind fun x M1=>(p σ M1).bind fun lo M2=>(q σ M2).bind fun hi M3=>zgi x lo hi M3
noncomputable def zrk (XE:XK) (K:Frag):V->Option Int->Option Int->Hp->VK->Prop:=fun x lo hi H Q=>∃ S t,S.H = H/\MemOk K S/\Rep K S t x/\Fin XE (Rep K) K S (zgi t lo hi S.M) Q
theorem zq7:SlR X (zrk XE X.K):=by
 intro pins s σ H x v vl vu lo hi sl Q I rx hs pl pu ⟨S,t,e,m,r,fin⟩
 subst e
 unfold zgi at fin
 split at fin
 ·cases r with
  | @tup _ p vs h l r=>
  have r1:Reps X.K S _ vs:=⟨l,r⟩
  refine zmM pins s σ S.H _ v vl vu lo hi sl Q I rx hs pl pu ⟨p,vs,rfl,h,fun w=>?_,fun w=>zf9 m fin (r1.cutV lo hi)⟩
  rw [zjH (by rw [l];exact w)] at fin
  exact fin S _ rfl (.refl m) (.tup h l r)
 ·split at fin
  ·rename_i xs q
   obtain ⟨p,vs,e1,h1,s1⟩:=zz m r q
   subst e1
   exact zmN pins s σ S.H _ v vl vu lo hi sl Q I rx hs pl pu ⟨p,vs,rfl,h1,ziF m fin (s1.cutV lo hi)⟩
  ·exact fin.elim
noncomputable def zpb (T U:String):Option Bool:=if (Value.type T == Value.type U) = true then some true else if PySem.W.kitMeta U = true then (PySem.fastBuiltinMro T).map (·.contains (.type U)) else none
noncomputable def tyN (t:T) (M:Mem):Option String:=match t with
 | .non=>some "NoneType" | .bl _=>some "bool" | .int _=>some "int" | .str _=>some "str" | .tup _=>some "tuple" | .lst _=>some "list"
 | .ref a=>match M[a]? with
  | some (.lst _)=>some "list"
  | some (.dic _)=>some "dict"
  | _=>none
 | _=>none
noncomputable def zmo (n U:String):Bool:=n == U || (n == "bool" && U == "int")
noncomputable def zgR:List String:=["NoneType","bool","int","str","tuple","list","dict"]
theorem zns:∀ n ∈ zgR,∀ U ∈ zgR,U ≠ "NoneType"->zpb n U = some (zmo n U):=by decide +kernel
noncomputable def zbf:T->T->Mem->Out T:=fun t u M=>match u with
 | .ty U=>match tyN t M with
  | some n=>if U ∈ zgR/\U ≠ "NoneType" then .ok (.bl (zmo n U)) M else .bad
  | none=>.bad
 | _=>.bad
theorem zmC {n:String} (h:tyN t M = some n):n ∈ zgR:=by
 unfold tyN at h
 split at h <;> first | (cases h;decide) | (split at h <;> first | (cases h;decide) | (cases h)) | cases h
theorem zlP {x:V} {u:Value} {U n:String} {b:Bool} {Q:Value->Shared->Prop} {E:Value->Shared->Prop} (I:L2.Inv X pins σ S.H s) (m:MemOk X.K S) (rx:RelV x u) (r:Rep X.K S t x) (hn:tyN t S.M = some n) (e:zpb n U = some b) (h:∀ tk,Q (.bool b) { s with toks:=tk }) :
  wpAny (model X.prog X.w) X.A (call (.builtin "isinstance") [u,.type U]) Q E s:=by
 have e':PySem.W.kitOne X.K (.type n) (.type U) = some b:=e
 cases r with
 | non=>cases hn;cases (show u = Value.none from rx);exact PySem.W.kia_one PySem.W.kitx_none I.kIn True.intro e' (fun z=>nomatch z) h
 | bl y=>cases hn;cases (show u = Value.bool y from rx);exact PySem.W.kia_one PySem.W.kitx_bool I.kIn True.intro e' (fun z=>nomatch z) h
 | int i=>cases hn;obtain ⟨t,q⟩:=(show ∃ t,u = Value.int i t from rx);cases q;exact PySem.W.kia_one PySem.W.kitx_int I.kIn True.intro e' (fun z=>nomatch z) h
 | str y=>cases hn;obtain ⟨t,q⟩:=(show ∃ t,u = Value.str y t from rx);cases q;exact PySem.W.kia_one PySem.W.kitx_str I.kIn True.intro e' (fun z=>nomatch z) h
 | ty y=>cases hn
 | @tup ts p vs hq l r=>
  cases hn
  cases (show u = Value.ref p from rx)
  obtain ⟨its,_,pl,_⟩:=I.tuple hq
  obtain ⟨o,h1,h2,_⟩:=pl
  exact PySem.W.kia_one PySem.W.kitx_tuple I.kIn ⟨o,h1,h2⟩ e' (fun z=>nomatch z) h
 | @lst ts p vs hq l r=>
  cases hn
  cases (show u = Value.ref p from rx)
  obtain ⟨its,_,pl,_⟩:=I.list (zdh hq)
  obtain ⟨o,h1,h2⟩:=pl.isList
  exact PySem.W.kia_one PySem.W.kitx_list I.kIn ⟨o,h1,h2.1⟩ e' (fun z=>nomatch z) h
 | @ref a ha=>
  cases (show u = Value.ref _ from rx)
  unfold tyN at hn
  dsimp only at hn
  split at hn
  ·rename_i ts q
   cases hn
   obtain ⟨vs,q2,_⟩:=m.cell a _ q
   obtain ⟨_,_,n,_,h1⟩:=(show ObjOk X.prog X.w S.H s.heap (S.α a) (.lst vs) from I.hok _ _ q2)
   exact PySem.W.kia_one PySem.W.kitx_list I.kIn ⟨_,h1,rfl⟩ e' (fun z=>nomatch z) h
  ·rename_i ts q
   cases hn
   obtain ⟨vs,q2,_⟩:=m.cell a _ q
   obtain ⟨_,_,vs2,_,p⟩:=(show ObjOk X.prog X.w S.H s.heap (S.α a) (.dK vs) from I.hok _ _ q2)
   obtain ⟨o,es,ep,h1,h2,_⟩:=p
   exact PySem.W.kia_one PySem.W.kitx_dict I.kIn ⟨o,h1,h2.1⟩ e' (fun z=>nomatch z) h
  ·cases hn
 | dct h l r=>cases hn
 | exc h hd l r=>cases hn
theorem zcH:CallR X (.builtin "isinstance") (lRN XE X.K (call2 zbf)):=zfe fun pins s σ S t1 t2 x1 x2 v1 v2 Q I rx ry m r1 r2 fin=>by
 unfold zbf at fin
 split at fin
 ·rename_i U
  split at fin
  ·rename_i n hn
   split at fin
   ·rename_i hU
    cases r2
    cases ry
    exact zlP I m rx r1 hn (zns n (zmC hn) U hU.1 hU.2) fun tk=>⟨.bl _,S.H,I.tok tk,rfl,fin S _ rfl (.refl m) (.bl _)⟩
   ·exact fin.elim
  ·exact fin.elim
 ·exact fin.elim
end
noncomputable def zbm:T->Bool
 | .non=>true
 | .bl _=>true
 | .int _=>true
 | .str _=>true
 | _=>false
noncomputable def eqS:T->T->Bool
 | .non,.non=>true
 | .bl a,.bl b=>a == b
 | .bl a,.int b=>(if a then 1 else 0) == b
 | .int a,.bl b=>a == (if b then 1 else 0)
 | .int a,.int b=>a == b
 | .str a,.str b=>a == b
 | _,_=>false
noncomputable def eqL (f:T->T->Option Bool):List T->List T->Option Bool
 | [],[]=>some true
 | [],_ :: _=>some false
 | _ :: _,[]=>some false
 | x :: xs,y :: ys=>match f x y,eqL f xs ys with
  | some a,some b=>some (a && b)
  | _,_=>none
noncomputable def eqD (M:Mem):Nat->T->T->Option Bool
 | d,.tup xs,.tup ys=>match d with
  | 0=>none
  | d + 1=>eqL (eqD M d) xs ys
 | d,x,y=>if (zbm x && zbm y) = true then some (eqS x y) else match d,zy x M,zy y M with
  | d + 1,some xs,some ys=>if xs.length = ys.length then eqL (eqD M d) xs ys else some false
  | _,_,_=>none
noncomputable def eqA:T->T->Mem->Out T:=fun x y M=>match eqD M 20 x y with
 | some b=>.ok (.bl b) M
 | none=>.bad
noncomputable def neA:T->T->Mem->Out T:=fun x y M=>match eqD M 20 x y with
 | some b=>.ok (.bl (!b)) M
 | none=>.bad
theorem zdJ {f:T->T->Option Bool}:∀ {xs ys:List T} {b:Bool},eqL f xs ys = some b->
  ∃ e:Nat->Bool,(∀ j x y,xs[j]? = some x->ys[j]? = some y->f x y = some (e j))/\b = ((List.range (min xs.length ys.length)).all e && xs.length == ys.length)
 | [],[],b,h=>by cases h;exact ⟨fun _=>true,fun j x y e1=>by simp at e1,by simp⟩
 | [],_ :: _,b,h=>by cases h;exact ⟨fun _=>true,fun j x y e1=>by simp at e1,by simp⟩
 | _ :: _,[],b,h=>by cases h;exact ⟨fun _=>true,fun j x y _ e1=>by simp at e1,by simp⟩
 | x :: xs,y :: ys,b,h=>by
  unfold eqL at h
  cases q1:f x y with
  | none=>rw [q1] at h;cases h
  | some a=>
   cases q2:eqL f xs ys with
   | none=>rw [q1,q2] at h;cases h
   | some c=>
    rw [q1,q2] at h
    cases h
    obtain ⟨e,h1,h2⟩:=zdJ q2
    refine ⟨fun j=>match j with | 0=>a | j + 1=>e j,fun j u v e1 e2=>?_,?_⟩
    ·cases j with
     | zero=>simp at e1 e2;subst e1;subst e2;exact q1
     | succ j=>exact h1 j u v (by simpa using e1) (by simpa using e2)
    ·rw [h2]
     have:min (x :: xs).length (y :: ys).length = min xs.length ys.length + 1:=by simp only [Qq];omega
     rw [this,List.range_succ_eq_map,all_cons,List.all_map]
     simp [Bool.and_assoc,Function.comp_def]
variable {A:Around}
section
theorem yR (r:Rep K S t v) (h:zbm t = true):zba v = true:=by
 cases r <;> first | rfl | (exact absurd (show false = true from h) Q5)
theorem zeq {w:V} (r:Rep K S t v) (q:Rep K S u w) (h:zbm t = true) (h2:zbm u = true):eqS t u = eqV v w:=by
 cases r <;> first | (exact absurd (show false = true from h) Q5) | (cases q <;> first | rfl | (exact absurd (show false = true from h2) Q5))
theorem ziu (r:Rep K S t v) (q:Rep K S u v) (h:zbm t = true) (h2:zbm u = true):eqS t u = true:=by
 rw [zeq r q h h2]
 exact zl8 v (yR r h)
theorem zl9 (I:L2.Inv X pins σ S.H s) (m:MemOk X.K S):∀ (d:Nat) {t u:T} {v:V} {b:Bool},Rep X.K S t v->Rep X.K S u v->eqD S.M d t u = some b->b = true:=by
 intro d
 induction d with
 | zero=>
  intro t u v b r q h
  unfold eqD at h
  split at h
  ·cases h
  ·split at h
   ·rename_i hs
    rw [Qu] at hs
    cases h
    exact ziu r q hs.1 hs.2
   ·cases h
 | succ d ih=>
  have key:∀ {xs ys:List T} {vs:List V} {b:Bool},Reps X.K S xs vs->Reps X.K S ys vs->eqL (eqD S.M d) xs ys = some b->b = true:=by
   intro xs ys vs b r q h
   obtain ⟨e,h1,h2⟩:=zdJ h
   rw [h2,r.1,q.1]
   simp only [Nat.min_self,Qz,Bool.and_true,all_eq_true,mem_range]
   intro j hj
   have hx:j < xs.length:=by rw [r.1];exact hj
   have hy:j < ys.length:=by rw [q.1];exact hj
   have ex:xs[j]? = some xs[j]:=by simp [hx]
   have ey:ys[j]? = some ys[j]:=by simp [hy]
   have ev:vs[j]? = some vs[j]:=by simp [hj]
   exact ih (r.2 j _ _ ex ev) (q.2 j _ _ ey ev) (h1 j _ _ ex ey)
  intro t u v b r q h
  unfold eqD at h
  split at h
  ·cases r with
   | @tup _ p vs h1 l1 r1=>
   cases q with
   | @tup _ _ vs2 h2 l2 r2=>
   have:=I.tuple_inj h1 h2
   subst this
   exact key ⟨l1,r1⟩ ⟨l2,r2⟩ h
  ·split at h
   ·rename_i hs
    rw [Qu] at hs
    cases h
    exact ziu r q hs.1 hs.2
   ·split at h
    ·rename_i d' xs ys hd q1 q2
     cases hd
     obtain ⟨p,vs,e1,hq1,s1⟩:=zz m r q1
     obtain ⟨p2,vs2,e2,hq2,s2⟩:=zz m q q2
     rw [e1] at e2
     cases e2
     have:=I.list_inj hq1 hq2
     subst this
     rw [if_pos (by rw [s1.1,s2.1])] at h
     exact key s1 s2 h
    ·cases h
theorem zkH (I:L2.Inv X pins σ S.H s) (m:MemOk X.K S):∀ (d:Nat) {A:Around} {t u:T} {v w:V} {x y:Value} {b:Bool},A.units + d < cLine->RelV v x->RelV w y->Rep X.K S t v->Rep X.K S u w->eqD S.M d t u = some b->SeqAt.EqAt A s x y b:=by
 intro d
 induction d with
 | zero=>
  intro A t u v w x y b hu rx ry r q h
  unfold eqD at h
  split at h
  ·cases h
  ·split at h
   ·rename_i hs
    rw [Qu] at hs
    cases h
    rw [zeq r q hs.1 hs.2]
    exact zhL rx ry (yR r hs.1) (yR q hs.2)
   ·cases h
 | succ d ih=>
  have key:∀ {A:Around} {xs ys:List T} {vs ws:List V} {us zs:List Value} {b:Bool},A.units + d < cLine->Reps X.K S xs vs->Reps X.K S ys ws->Vals vs us->Vals ws zs->eqL (eqD S.M d) xs ys = some b->
    ∃ e:Nat->Bool,(∀ j (h1:j < us.toArray.size) (h2:j < zs.toArray.size),SeqAt.EqAt A s us.toArray[j] zs.toArray[j] (e j))/\b = ((List.range (min us.toArray.size zs.toArray.size)).all e && us.toArray.size == zs.toArray.size):=by
   intro A xs ys vs ws us zs b hu r q hv hw h
   obtain ⟨e,h1,h2⟩:=zdJ h
   have l1:us.length = xs.length:=by rw [← hv.length,r.1]
   have l2:zs.length = ys.length:=by rw [← hw.length,q.1]
   refine ⟨e,fun j g1 g2=>?_,by rw [h2,Qj,Qj,l1,l2]⟩
   have g1':j < us.length:=by simpa using g1
   have g2':j < zs.length:=by simpa using g2
   have ex:xs[j]? = some (xs[j]'(by omega)):=Q0 (by omega)
   have ey:ys[j]? = some (ys[j]'(by omega)):=Q0 (by omega)
   obtain ⟨v,ev,rv⟩:=r.get ex
   obtain ⟨w,ew,rw'⟩:=q.get ey
   obtain ⟨a,ea,ra⟩:=Vals.get hv ev
   obtain ⟨c,ec,rc⟩:=Vals.get hw ew
   have:us.toArray[j] = a:=by
    rw [getElem_toArray];rw [Q0 g1'] at ea;exact Qe ea
   rw [this]
   have:zs.toArray[j] = c:=by
    rw [getElem_toArray];rw [Q0 g2'] at ec;exact Qe ec
   rw [this]
   exact ih hu ra rc rv rw' (h1 j _ _ ex ey)
  intro A t u v w x y b hu rx ry r q h
  have hsame:v = w->b = true:=fun z=>by subst z;exact zl9 I m (d + 1) r q h
  unfold eqD at h
  split at h
  ·cases r with
   | @tup _ p vs h1 l1 r1=>
   cases q with
   | @tup _ p2 vs2 h2 l2 r2=>
   cases rx
   cases ry
   by_cases hp:p = p2
   ·subst hp
    rw [hsame rfl]
    exact SeqAt.EqAt.same _
   ·obtain ⟨its,ri,pl,_⟩:=I.tuple h1
    obtain ⟨its2,ri2,pl2,_⟩:=I.tuple h2
    obtain ⟨e,he,eb⟩:=key (A:=A.in1) (by show A.units + 1 + d < cLine;omega) ⟨l1,r1⟩ ⟨l2,r2⟩ ri ri2 h
    rw [eb]
    exact SeqAt.EqAt.of_refs hp (SeqAt.RcAt.tuples pl pl2 (by omega) he)
  ·split at h
   ·rename_i hs
    rw [Qu] at hs
    cases h
    rw [zeq r q hs.1 hs.2]
    exact zhL rx ry (yR r hs.1) (yR q hs.2)
   ·split at h
    ·rename_i d' xs ys hd q1 q2
     cases hd
     obtain ⟨p,vs,e1,hq1,s1⟩:=zz m r q1
     obtain ⟨p2,vs2,e2,hq2,s2⟩:=zz m q q2
     subst e1
     subst e2
     cases rx
     cases ry
     by_cases hp:p = p2
     ·subst hp
      rw [hsame rfl]
      exact SeqAt.EqAt.same _
     ·obtain ⟨its,ri,pl,_⟩:=I.list hq1
      obtain ⟨its2,ri2,pl2,_⟩:=I.list hq2
      have lz:its.length = xs.length:=by rw [← ri.length,s1.1]
      have lz2:its2.length = ys.length:=by rw [← ri2.length,s2.1]
      by_cases hl:xs.length = ys.length
      ·rw [if_pos hl] at h
       obtain ⟨e,he,eb⟩:=key (A:=A.in1) (by show A.units + 1 + d < cLine;omega) s1 s2 ri ri2 h
       have hsz:its.toArray.size = its2.toArray.size:=by simp [lz,lz2,hl]
       rw [eb,hsz,Nat.min_self,Qz,Bool.and_true,← hsz]
       exact SeqAt.EqAt.of_refs hp (SeqAt.RcAt.lists pl.isList pl2.isList hsz (by omega) he)
      ·rw [if_neg hl] at h
       cases h
       exact SeqAt.EqAt.of_refs hp (SeqAt.RcAt.lists_lengths pl.isList pl2.isList (by simp [lz,lz2,hl]) (by omega))
    ·cases h
theorem zoq {x:V} {u v:Value} (ry:RelV y u) (rx:RelV x v) (fy:zba y = true) (fx:zba x = true):SeqAt.RcAt A s u v (eqV y x):=by
 cases y with
 | non=>
  cases ry
  cases x with
  | non=>cases rx;exact SeqAt.RcAt.none_none
  | bl b=>cases rx;exact SeqAt.RcAt.none_bool b
  | int b=>obtain ⟨t,rfl⟩:=rx;exact SeqAt.RcAt.none_int b t
  | str b=>obtain ⟨t,rfl⟩:=rx;exact SeqAt.RcAt.none_str b t
  | _=>exact absurd (show false = true from fx) Q5
 | bl a=>
  cases ry
  cases x with
  | non=>cases rx;exact SeqAt.RcAt.bool_none a
  | bl b=>cases rx;exact SeqAt.RcAt.bool_bool a b
  | int b=>obtain ⟨t,rfl⟩:=rx;exact SeqAt.RcAt.bool_int a b t
  | str b=>obtain ⟨t,rfl⟩:=rx;exact SeqAt.RcAt.bool_str a b t
  | _=>exact absurd (show false = true from fx) Q5
 | int a=>
  obtain ⟨t',rfl⟩:=ry
  cases x with
  | non=>cases rx;exact SeqAt.RcAt.int_none a t'
  | bl b=>cases rx;exact SeqAt.RcAt.int_bool a t' b
  | int b=>obtain ⟨t,rfl⟩:=rx;exact SeqAt.RcAt.int_int a t' b t
  | str b=>obtain ⟨t,rfl⟩:=rx;exact SeqAt.RcAt.int_str a t' b t
  | _=>exact absurd (show false = true from fx) Q5
 | str a=>
  obtain ⟨t',rfl⟩:=ry
  cases x with
  | non=>cases rx;exact SeqAt.RcAt.str_none a t'
  | bl b=>cases rx;exact SeqAt.RcAt.str_bool a t' b
  | int b=>obtain ⟨t,rfl⟩:=rx;exact SeqAt.RcAt.str_int a t' b t
  | str b=>obtain ⟨t,rfl⟩:=rx;exact SeqAt.RcAt.str_str a t' b t
  | _=>exact absurd (show false = true from fx) Q5
 | _=>exact absurd (show false = true from fy) Q5
theorem zlr {x:V} {u v:Value} (ry:RelV y u) (rx:RelV x v) (fy:zba y = true) (fx:zba x = true):SeqAt.RcNeAt A s u v (!eqV y x):=by
 cases y with
 | non=>
  cases ry
  cases x with
  | non=>cases rx;exact SeqAt.RcNeAt.none_none
  | bl b=>cases rx;exact SeqAt.RcNeAt.none_bool b
  | int b=>obtain ⟨t,rfl⟩:=rx;exact SeqAt.RcNeAt.none_int b t
  | str b=>obtain ⟨t,rfl⟩:=rx;exact SeqAt.RcNeAt.none_str b t
  | _=>exact absurd (show false = true from fx) Q5
 | bl a=>
  cases ry
  cases x with
  | non=>cases rx;exact SeqAt.RcNeAt.bool_none a
  | bl b=>cases rx;exact SeqAt.RcNeAt.bool_bool a b
  | int b=>obtain ⟨t,rfl⟩:=rx;exact SeqAt.RcNeAt.bool_int a b t
  | str b=>obtain ⟨t,rfl⟩:=rx;exact SeqAt.RcNeAt.bool_str a b t
  | _=>exact absurd (show false = true from fx) Q5
 | int a=>
  obtain ⟨t',rfl⟩:=ry
  cases x with
  | non=>cases rx;exact SeqAt.RcNeAt.int_none a t'
  | bl b=>cases rx;exact SeqAt.RcNeAt.int_bool a t' b
  | int b=>obtain ⟨t,rfl⟩:=rx;exact SeqAt.RcNeAt.int_int a t' b t
  | str b=>obtain ⟨t,rfl⟩:=rx;exact SeqAt.RcNeAt.int_str a t' b t
  | _=>exact absurd (show false = true from fx) Q5
 | str a=>
  obtain ⟨t',rfl⟩:=ry
  cases x with
  | non=>cases rx;exact SeqAt.RcNeAt.str_none a t'
  | bl b=>cases rx;exact SeqAt.RcNeAt.str_bool a t' b
  | int b=>obtain ⟨t,rfl⟩:=rx;exact SeqAt.RcNeAt.str_int a t' b t
  | str b=>obtain ⟨t,rfl⟩:=rx;exact SeqAt.RcNeAt.str_str a t' b t
  | _=>exact absurd (show false = true from fx) Q5
 | _=>exact absurd (show false = true from fy) Q5
theorem zkG (I:L2.Inv X pins σ S.H s) (m:MemOk X.K S) (d:Nat) {w:V} {x y:Value} {b:Bool} (hu:A.units + d < cLine) (rx:RelV v x) (ry:RelV w y) (r:Rep X.K S t v) (q:Rep X.K S u w) (h:eqD S.M d t u = some b):SeqAt.RcAt A s x y b/\SeqAt.RcNeAt A s x y (!b):=by
 have at_:∀ {A:Around} {d:Nat} {xs ys:List T} {vs ws:List V} {us zs:List Value} {b:Bool},A.units + d < cLine->Reps X.K S xs vs->Reps X.K S ys ws->Vals vs us->Vals ws zs->eqL (eqD S.M d) xs ys = some b->
    ∃ e:Nat->Bool,(∀ j (h1:j < us.toArray.size) (h2:j < zs.toArray.size),SeqAt.EqAt A s us.toArray[j] zs.toArray[j] (e j))/\b = ((List.range (min us.toArray.size zs.toArray.size)).all e && us.toArray.size == zs.toArray.size):=by
  intro A d xs ys vs ws us zs b hu r q hv hw h
  obtain ⟨e,h1,h2⟩:=zdJ h
  have l1:us.length = xs.length:=by rw [← hv.length,r.1]
  have l2:zs.length = ys.length:=by rw [← hw.length,q.1]
  refine ⟨e,fun j g1 g2=>?_,by rw [h2,Qj,Qj,l1,l2]⟩
  have g1':j < us.length:=by simpa using g1
  have g2':j < zs.length:=by simpa using g2
  have ex:xs[j]? = some (xs[j]'(by omega)):=Q0 (by omega)
  have ey:ys[j]? = some (ys[j]'(by omega)):=Q0 (by omega)
  obtain ⟨v,ev,rv⟩:=r.get ex
  obtain ⟨w,ew,rw'⟩:=q.get ey
  obtain ⟨a,ea,ra⟩:=Vals.get hv ev
  obtain ⟨c,ec,rc⟩:=Vals.get hw ew
  have:us.toArray[j] = a:=by
   rw [getElem_toArray];rw [Q0 g1'] at ea;exact Qe ea
  rw [this]
  have:zs.toArray[j] = c:=by
   rw [getElem_toArray];rw [Q0 g2'] at ec;exact Qe ec
  rw [this]
  exact zkH I m d hu ra rc rv rw' (h1 j _ _ ex ey)
 unfold eqD at h
 split at h
 ·split at h
  ·cases h
  ·rename_i d
   cases r with
   | @tup _ p vs h1 l1 r1=>
   cases q with
   | @tup _ p2 vs2 h2 l2 r2=>
   cases rx
   cases ry
   obtain ⟨its,ri,pl,_⟩:=I.tuple h1
   obtain ⟨its2,ri2,pl2,_⟩:=I.tuple h2
   obtain ⟨e,he,eb⟩:=at_ (A:=A.in1) (by show A.units + 1 + d < cLine;omega) ⟨l1,r1⟩ ⟨l2,r2⟩ ri ri2 h
   rw [eb]
   exact ⟨SeqAt.RcAt.tuples pl pl2 (by omega) he,SeqAt.RcNeAt.tuples pl pl2 (by omega) he⟩
 ·split at h
  ·rename_i hs
   rw [Qu] at hs
   cases h
   rw [zeq r q hs.1 hs.2]
   exact ⟨zoq rx ry (yR r hs.1) (yR q hs.2),zlr rx ry (yR r hs.1) (yR q hs.2)⟩
  ·split at h
   ·rename_i d' xs ys q1 q2
    obtain ⟨p,vs,e1,hq1,s1⟩:=zz m r q1
    obtain ⟨p2,vs2,e2,hq2,s2⟩:=zz m q q2
    subst e1
    subst e2
    cases rx
    cases ry
    obtain ⟨its,ri,pl,_⟩:=I.list hq1
    obtain ⟨its2,ri2,pl2,_⟩:=I.list hq2
    have lz:its.length = xs.length:=by rw [← ri.length,s1.1]
    have lz2:its2.length = ys.length:=by rw [← ri2.length,s2.1]
    by_cases hl:xs.length = ys.length
    ·rw [if_pos hl] at h
     obtain ⟨e,he,eb⟩:=at_ (A:=A.in1) (by show A.units + 1 + d' < cLine;omega) s1 s2 ri ri2 h
     have hsz:its.toArray.size = its2.toArray.size:=by simp [lz,lz2,hl]
     rw [eb,hsz,Nat.min_self,Qz,Bool.and_true,← hsz]
     exact ⟨SeqAt.RcAt.lists pl.isList pl2.isList hsz (by omega) he,SeqAt.RcNeAt.lists pl.isList pl2.isList hsz (by omega) he⟩
    ·rw [if_neg hl] at h
     cases h
     exact ⟨SeqAt.RcAt.lists_lengths pl.isList pl2.isList (by simp [lz,lz2,hl]) (by omega),SeqAt.RcNeAt.lists_lengths pl.isList pl2.isList (by simp [lz,lz2,hl]) (by omega)⟩
   ·cases h
theorem zH (hu:X.A.units + 64 < cLine):OpR X (compareOp .Eq) (lR2 XE X.K eqA):=by
 intro pins s σ H x y v u Q I rx ry ⟨S,⟨tx,ty⟩,e,m,⟨r1,r2⟩,fin⟩
 subst e
 replace fin:Fin XE (Rep X.K) X.K S (eqA tx ty S.M) Q:=fin
 unfold eqA at fin
 split at fin
 ·rename_i b q
  exact (zkG I m 20 (A:=X.A) (by omega) rx ry r1 r2 q).1 _ _ _ _ ⟨.bl b,S.H,I,rfl,fin S _ rfl (.refl m) (.bl _)⟩
 ·exact fin.elim
theorem zdf (hu:X.A.units + 64 < cLine):OpR X (compareOp .NotEq) (lR2 XE X.K neA):=by
 intro pins s σ H x y v u Q I rx ry ⟨S,⟨tx,ty⟩,e,m,⟨r1,r2⟩,fin⟩
 subst e
 replace fin:Fin XE (Rep X.K) X.K S (neA tx ty S.M) Q:=fin
 unfold neA at fin
 split at fin
 ·rename_i b q
  exact (zkG I m 20 (A:=X.A) (by omega) rx ry r1 r2 q).2 _ _ _ _ ⟨.bl (!b),S.H,I,rfl,fin S _ rfl (.refl m) (.bl _)⟩
 ·exact fin.elim
noncomputable def inA:T->T->Mem->Out T:=fun x y M=>match zat y M with
 | some ys=>if (zbm x && ys.all zbm) = true then .ok (.bl (ys.any fun y=>eqS y x)) M else .bad
 | none=>.bad
theorem zmv {K:Frag} {x:T} {v:V} (rx:Rep K S x v) (hx:zbm x = true):∀ {ys:List T} {vs:List V},Reps K S ys vs->ys.all zbm = true->vs.all zba = true/\inV v vs = ys.any fun y=>eqS y x
 | [],vs,r,_=>by rw [r.nilT];exact ⟨rfl,rfl⟩
 | y :: ys,vs,r,h=>by
  obtain ⟨w,ws,rfl,r1,r2⟩:=r.consT
  rw [all_cons,Qu] at h
  obtain ⟨h1,h2⟩:=zmv rx hx r2 h.2
  refine ⟨by rw [all_cons,yR r1 h.1,h1];rfl,?_⟩
  unfold inV at h2 ⊢
  rw [any_cons,any_cons,h2,zeq r1 rx h.1 hx]
end
variable {bop:Operator}
section
noncomputable def ze5:List T->Option (List Int)
 | []=>some []
 | .int b :: r=>(ze5 r).map (b :: ·)
 | _=>none
theorem zhz {K:Frag} {S:Sit}:∀ {ts:List T} {vs:List V} {bs:List Int},ze5 ts = some bs->Reps K S ts vs->vs = bs.map V.int
 | [],vs,bs,e,r=>by cases e;exact r.nilT
 | .int b :: ts,vs,bs,e,r=>by
  unfold ze5 at e
  obtain ⟨v,vs',rfl,r1,r2⟩:=r.consT
  cases q:ze5 ts with
  | none=>rw [q] at e;cases e
  | some bs'=>
   rw [q] at e
   cases e
   cases r1
   rw [zhz q r2];rfl
 | .non :: _,_,_,e,_=>by cases e
 | .bl _ :: _,_,_,e,_=>by cases e
 | .str _ :: _,_,_,e,_=>by cases e
 | .ty _ :: _,_,_,e,_=>by cases e
 | .tup _ :: _,_,_,e,_=>by cases e
 | .lst _ :: _,_,_,e,_=>by cases e
 | .ref _ :: _,_,_,e,_=>by cases e
noncomputable def sumK:T->Mem->Out T:=fun t M=>match zy t M with
 | some xs=>match ze5 xs with
  | some bs=>.ok (.int bs.sum) M
  | none=>.bad
 | none=>.bad
theorem zkP (hc:X.calm = true):CallR X (.builtin "sum") (lRN XE X.K (zF sumK)):=zcI fun pins s σ S t x v Q I rx m r fin=>by
 unfold sumK at fin
 split at fin
 ·rename_i xs q
  split at fin
  ·rename_i bs q2
   obtain ⟨p,vs,rfl,hq,rs⟩:=zz m r q
   rw [zhz q2 rs] at hq
   exact zkQ hc pins s σ S.H _ _ Q I (.cons rx .nil) ⟨p,bs,rfl,hq,fin S _ rfl (.refl m) (.int _)⟩
  ·exact fin.elim
 ·exact fin.elim
noncomputable def getL:T->T->Mem->Out T:=fun x y M=>match y,zy x M with
 | .int i,some xs=>zf7 (atI xs i) M
 | _,_=>.bad
theorem zqE:zh2 X (lR2 XE X.K getL):=by
 intro pins s σ H x y v u Q I rx ry ⟨S,⟨tx,ty⟩,e,m,⟨r1,r2⟩,fin⟩
 subst e
 replace fin:Fin XE (Rep X.K) X.K S (getL tx ty S.M) Q:=fin
 unfold getL at fin
 split at fin
 ·rename_i i xs q
  obtain ⟨t,et,fin⟩:=zf6 fin
  obtain ⟨p,vs,e1,hq,rs⟩:=zz m r1 q
  dsimp only at e1
  subst e1
  cases r2
  obtain ⟨w,ew,rw'⟩:=rs.atI et
  exact zlZ pins s σ S.H _ _ v u Q I rx ry ⟨p,vs,i,w,rfl,rfl,hq,ew,fin S w rfl (.refl m) rw'⟩
 ·exact fin.elim
theorem znv:PIp X .Add (lR2 XE X.K zc6):=by
 intro pins s σ H x y v u Q I rx ry ⟨S,⟨tx,ty⟩,e,m,⟨r1,r2⟩,fin⟩
 subst e
 replace fin:Fin XE (Rep X.K) X.K S (zc6 tx ty S.M) Q:=fin
 unfold zc6 zad at fin
 split at fin
 ·cases r1;cases r2
  exact zpk pins s σ S.H _ _ v u Q I rx ry ⟨_,_,rfl,rfl,fin S _ rfl (.refl m) (.int _)⟩
 ·exact fin.elim
end
noncomputable def zlq (o:Out Fl):Out T:=match o with
 | .ok (.rt t) M'=>.ok t M'
 | .ok (.nx _) M'=>.ok .non M'
 | _=>.bad
theorem zj2 {p:Nat} {g:Ev->Mem->Out Fl} (h:ts.length = p):qh p n g ts M = zlq (g (startT n ts) M):=by
 unfold qh
 rw [if_pos h]
 rfl
theorem zrB:zlq (.ok (.rt t) M) = .ok t M:=rfl
theorem zrC {σ:Ev} :zlq (.ok (.nx σ) M) = .ok .non M:=rfl
theorem zrW {β:Type} {b:Bool} {k:Bool->Mem->Out β}:blT (.bl b) M k = k b M:=rfl
variable {k:Ev->Mem->Out Fl}
theorem yu {σ:Ev} :zcg k (.nx σ) M = k σ M:=rfl
theorem zqS:zcg k (.rt t) M = .ok (.rt t) M:=rfl
theorem zqU {σ:Ev} :zcg k (.bk σ) M = .ok (.bk σ) M:=rfl
theorem zqT {σ:Ev} :zcg k (.ct σ) M = .ok (.ct σ) M:=rfl
theorem zrg {σ:Ev} :yM k (.nx σ) M = k σ M:=rfl
theorem zrf:yM k (.rt t) M = .ok (.rt t) M:=rfl
theorem zri {σ:Ev} :yM k (.bk σ) M = .ok (.nx σ) M:=rfl
theorem zrh {σ:Ev} :yM k (.ct σ) M = k σ M:=rfl
theorem zkA {x:T} {σ:Ev} :forL bd body (x :: xs) σ M = (bd x σ M).bind fun σ1 M1=>(body σ1 M1).bind (yM (forL bd body xs)):=rfl
theorem zrH {k:T->Mem->Out T} :zF k [t] M = k t M:=rfl
theorem zrG {k:T->T->Mem->Out T} :call2 k [t,u] M = k t u M:=rfl
theorem zrJ:y9 (.int i) (.int j) M = .ok (.int (i + j)) M:=rfl
theorem zry:zb5 (.int i) (.int j) M = .ok (.int (i - j)) M:=rfl
theorem znj (h:Mo64 i j):zap (.int i) (.int j) M = .ok (.int (i * j)) M:=if_pos h
theorem zes (h:j ≠ 0/\j.natAbs < 10 ^ 2000):zc5 (.int i) (.int j) M = .ok (.int (i.fdiv j)) M:=if_pos h
theorem zdg (h:j ≠ 0):zac (.int i) (.int j) M = .ok (.int (i.fmod j)) M:=if_pos h
theorem zrD (h:0<=j/\j<=1000000/\i.natAbs < 2 ^ 64):zjo (.int i) (.int j) M = .ok (.int (i ^ j.toNat)) M:=if_pos h
theorem zrO:ltI (.int i) (.int j) M = .ok (.bl (decide (i < j))) M:=rfl
theorem zrP:leI (.int i) (.int j) M = .ok (.bl (decide (i<=j))) M:=rfl
theorem zrR:gtI (.int i) (.int j) M = .ok (.bl (decide (j < i))) M:=rfl
theorem zrS:geI (.int i) (.int j) M = .ok (.bl (decide (j<=i))) M:=rfl
theorem zrM:zht (.int i) M = .ok (.int (-i)) M:=rfl
theorem zrE:zjt (.int i) (.int j) M = .ok (.int (if j > i then j else i)) M:=rfl
theorem zrT:eqA (.int i) (.int j) M = .ok (.bl (i == j)) M:=rfl
theorem zrN:neA (.int i) (.int j) M = .ok (.bl (!(i == j))) M:=rfl
theorem zrQ {a b:Bool} :isB (.bl a) (.bl b) M = .ok (.bl (a == b)) M:=rfl
theorem zrm {a b:Bool} :zqx (.bl a) (.bl b) M = .ok (.bl (a != b)) M:=rfl
theorem zbi {α:Type} {xs:List α} :atI xs (n:Int) = xs[n]?:=by
 unfold atI ixN
 by_cases h:n < xs.length
 ·simp [h]
 ·simp [h]
theorem zr6 {α:Type} {x:α} {l:List α}:atI (x :: l) 0 = some x:=by have:=zbi (xs:=x :: l) (n:=0);exact this
theorem zr5 {α:Type} {x y:α} {l:List α}:atI (x :: y :: l) 1 = some y:=by have:=zbi (xs:=x :: y :: l) (n:=1);exact this
theorem zr4 {α:Type} {x y z:α} {l:List α}:atI (x :: y :: z :: l) 2 = some z:=by have:=zbi (xs:=x :: y :: z :: l) (n:=2);exact this
theorem zr3 {α:Type} {x y z w:α} {l:List α}:atI (x :: y :: z :: w :: l) 3 = some w:=by have:=zbi (xs:=x :: y :: z :: w :: l) (n:=3);exact this
theorem zr1:ixN (n + 1) 0 = some 0:=by unfold ixN;simp
theorem zr0:ixN (n + 2) 1 = some 1:=by unfold ixN;simp;omega
theorem zrZ:ixN (n + 3) 2 = some 2:=by unfold ixN;simp;omega
theorem zai {a:Nat} (e:M[a]? = some (.lst xs)) (h:xs.length < sizeLine):y4 (.ref a) [t] M = .ok .non (M.set a (.lst (xs ++ [t]))):=by
 unfold y4
 simp only [e,if_pos h]
theorem qS {a:Nat} (e:M[a]? = some (.lst xs)):zK (.ref a) M = .ok (.ref a) M:=by
 unfold zK zy
 simp only [e]
theorem zjc {a:Nat} (e:M[a]? = some (.lst xs)):zdP (.ref a) M = .ok (.tup xs) M:=by
 unfold zdP zat zy
 simp only [e]
theorem zop (h:-(2 ^ 62)<=j/\j < 2 ^ 62):zeZ [.int j] M = .ok (zdX 0 j.toNat) M:=if_pos h
theorem zrU:zc5 (.int i) (.int 8) M = .ok (.int (i.fdiv 8)) M:=zes ⟨by decide,Q6 (show (8:Int).natAbs < 10 ^ 1 by decide) (Nat.pow_le_pow_right (by decide) (by decide))⟩
theorem zcC (h:-(2 ^ 64) < i/\i < 2 ^ 64):zap (.int i) (.int j) M = .ok (.int (i * j)) M:=znj (.inr (.inl h))
theorem zjF (n:Nat) (hn:n<=2000) (h0:j ≠ 0) (h:j.natAbs < 10 ^ n):j ≠ 0/\j.natAbs < 10 ^ 2000:=⟨h0,Q6 h (Nat.pow_le_pow_right (by decide) hn)⟩
structure Po where
 a:Int
 b:Int
 c:Int
noncomputable def Po.cell (p:Po):Cell:=.lst [.int p.a,.int p.b,.int p.c]
noncomputable def Po.dig (p:Po) (base:Int):Int:=if 0 < p.a then p.a % base else
 let mixed:=(p.b + 7919 * (p.c + 1)) % 1000000007
 let stir:=(mixed + 11) * (mixed + 48271) % 998244353
 (stir * stir % 2147483647 / 8) % base
noncomputable def Po.nxt (p:Po) (base:Int):Po:=if 0 < p.a then ⟨p.a / base,p.b,p.c⟩ else ⟨p.a,p.b,p.c + 1⟩
noncomputable def Po.new (cell:Int):Po:=⟨if cell - 10 ^ 18 > 0 then cell - 10 ^ 18 else 0,cell % 10 ^ 18,0⟩
theorem Po.dig_lo (p:Po) {base:Int} (h:0 < base):0<=p.dig base:=by
 unfold Po.dig
 split
 ·exact Int.emod_nonneg _ (by omega)
 ·exact Int.emod_nonneg _ (by omega)
theorem Po.dig_hi (p:Po) {base:Int} (h:0 < base):p.dig base < base:=by
 unfold Po.dig
 split
 ·exact Int.emod_lt_of_pos _ h
 ·exact Int.emod_lt_of_pos _ h
theorem zhU {α:Type} (f:α->Bool):∀ xs:List α,zfh (xs.map fun x=>T.bl (f x)) = some (xs.map f)
 | []=>rfl
 | x :: xs=>by
  show (zfh (xs.map fun x=>T.bl (f x))).map (f x :: ·) = _
  rw [zhU f xs]
  rfl
theorem zmf {α:Type} (f:α->Bool) (xs:List α) (M:Mem):zh1 (.lst (xs.map fun x=>T.bl (f x))) M = .ok (.bl (xs.all f)) M:=by
 unfold zh1 zy
 simp only [zhU]
 rw [List.all_map]
 rfl
theorem zlL:qF (.tup xs) M = .ok (.int xs.length) M:=rfl
theorem zrj:qF (.lst xs) M = .ok (.int xs.length) M:=rfl
theorem zk3 {α:Type} {xs:List α} (h0:0<=i) (h1:i < xs.length):∃ x,atI xs i = some x/\x ∈ xs:=by
 obtain ⟨n,rfl⟩:∃ n:Nat,i = n:=⟨i.toNat,by omega⟩
 have hn:n < xs.length:=by omega
 exact ⟨xs[n],by rw [zbi];simp [hn],getElem_mem hn⟩
theorem zrI {ys:List T} (h:xs.length + ys.length<=sizeLine):y9 (.tup xs) (.tup ys) M = .ok (.tup (xs ++ ys)) M:=if_pos h
noncomputable def zet (kvs:List (Key × T)) (k:Key):Option T:=(kvs.find? fun kv=>decide (kv.1 = k)).map (·.2)
noncomputable def zjG (kvs:List (Key × T)) (k:Key) (t:T):List (Key × T):=
 if (kvs.any fun kv=>decide (kv.1 = k)) = true then kvs.map (fun kv=>if kv.1 = k then (kv.1,t) else kv) else kvs ++ [(k,t)]
variable {kvs:List (Key × T)} {us:List (Key × V)}
section
theorem RepK.nilT (r:RepK K S [] us):us = []:=by
 have:=r.1
 simpa using this.symm
theorem RepK.nil:RepK K S [] []:=⟨rfl,.nil⟩
theorem RepK.consT {p:Key × T} (r:RepK K S (p :: kvs) us):∃ u us',us = (p.1,u) :: us'/\Rep K S p.2 u/\RepK K S kvs us':=by
 cases us with
 | nil=>have:=r.1;simp at this
 | cons q us=>
  obtain ⟨h1,h2⟩:=r
  rw [map_cons,map_cons] at h1 h2
  injection h1 with e1 e2
  obtain ⟨v,vs,e3,r1,r2⟩:=h2.consT
  injection e3 with e3 e4
  refine ⟨q.2,us,?_,?_,e2,?_⟩
  ·rw [e1]
  ·rw [e3];exact r1
  ·rw [e4];exact r2
theorem RepK.cons {k:Key} {u:V} (q:Rep K S t u) (r:RepK K S kvs us):RepK K S ((k,t) :: kvs) ((k,u) :: us):=
 ⟨by rw [map_cons,map_cons,r.1],by rw [map_cons,map_cons];exact r.2.cons q⟩
theorem RepK.look (k:Key):∀ {kvs:List (Key × T)} {us:List (Key × V)},RepK K S kvs us->(zet kvs k = none/\zcp us k = none)\/∃ t v,zet kvs k = some t/\zcp us k = some v/\Rep K S t v
 | [],us,r=>by rw [r.nilT];exact .inl ⟨rfl,rfl⟩
 | p :: kvs,us,r=>by
  obtain ⟨u,us',rfl,r1,r2⟩:=r.consT
  by_cases h:p.1 = k
  ·refine .inr ⟨p.2,u,?_,?_,r1⟩
   ·simp [zet,find?_cons,h]
   ·simp [zcp,find?_cons,h]
  ·have e1:zet (p :: kvs) k = zet kvs k:=by simp [zet,find?_cons,h]
   have e2:zcp ((p.1,u) :: us') k = zcp us' k:=by simp [zcp,find?_cons,h]
   rw [e1,e2]
   exact RepK.look k r2
theorem RepK.any (k:Key):∀ {kvs:List (Key × T)} {us:List (Key × V)},RepK K S kvs us->(kvs.any fun kv=>decide (kv.1 = k)) = us.any fun kv=>decide (kv.1 = k)
 | [],us,r=>by rw [r.nilT];rfl
 | p :: kvs,us,r=>by
  obtain ⟨u,us',rfl,r1,r2⟩:=r.consT
  rw [any_cons,any_cons,RepK.any k r2]
theorem RepK.repl (k:Key) {t:T} {v:V} (q:Rep K S t v):∀ {kvs:List (Key × T)} {us:List (Key × V)},RepK K S kvs us->RepK K S (kvs.map (fun kv=>if kv.1 = k then (kv.1,t) else kv)) (us.map (fun kv=>if kv.1 = k then (kv.1,v) else kv))
 | [],us,r=>by rw [r.nilT];exact .nil
 | p :: kvs,us,r=>by
  obtain ⟨u,us',rfl,r1,r2⟩:=r.consT
  rw [map_cons,map_cons]
  by_cases h:p.1 = k
  ·rw [if_pos h,if_pos h]
   exact (RepK.repl k q r2).cons q
  ·rw [if_neg h,if_neg h]
   exact (RepK.repl k q r2).cons r1
theorem RepK.snoc (k:Key) {t:T} {v:V} (q:Rep K S t v):∀ {kvs:List (Key × T)} {us:List (Key × V)},RepK K S kvs us->RepK K S (kvs ++ [(k,t)]) (us ++ [(k,v)])
 | [],us,r=>by rw [r.nilT];exact RepK.nil.cons q
 | p :: kvs,us,r=>by
  obtain ⟨u,us',rfl,r1,r2⟩:=r.consT
  exact (RepK.snoc k q r2).cons r1
theorem RepK.put (k:Key) (q:Rep K S t v) (r:RepK K S kvs us):RepK K S (zjG kvs k t) (putK us k v):=by
 unfold zjG putK
 rw [r.any k]
 split
 ·exact r.repl k q
 ·exact r.snoc k q
end
section
noncomputable def lMt (XE:XK) (K:Frag) (F:T->List T->Mem->Out T):V->List V->Hp->VK->Prop:=fun x xs H Q=>L0 XE (Rep K) K (PrR (Rep K) (Reps K)) (fun a M=>F a.1 a.2 M) (x,xs) H Q
noncomputable def zdj (chk:T->Mem->Bool) (F:T->List T->Mem->Out T) (f:Ev->Mem->Out T) (g:Ev->Mem->Out (List T)):Ev->Mem->Out T:=fun σ M=>(f σ M).bind fun x M1=>if chk x M1 = true then (g σ M1).bind fun ts M2=>F x ts M2 else .bad
end
noncomputable def insI (x:Int):List Int->List Int
 | []=>[x]
 | y :: ys=>if x<=y then x :: y :: ys else y :: insI x ys
theorem insI_perm (x:Int):∀ ys,(insI x ys).Perm (x :: ys)
 | []=>.refl _
 | y :: ys=>by
  unfold insI
  split
  ·exact .refl _
  ·exact ((insI_perm x ys).cons y).trans (.swap x y ys)
theorem Reps.ints {K:Frag} {S:Sit}:∀ ns:List Int,Reps K S (ns.map T.int) (ns.map V.int)
 | []=>.nil
 | n :: ns=>(Reps.ints ns).cons (.int n)
noncomputable def tK:Key->T
 | .inl i=>.int i
 | .inr x=>.str x
theorem zoh (k:Key):Rep K S (tK k) (kV k):=by
 cases k with
 | inl i=>exact .int i
 | inr x=>exact .str x
theorem Reps.keys {K:Frag} {S:Sit}:∀ ks:List Key,Reps K S (ks.map tK) (ks.map kV)
 | []=>.nil
 | k :: ks=>(Reps.keys ks).cons (zoh k)
noncomputable def SubL (m:List (Str × Addr)):List (Str × Addr)->Prop
 | []=>True
 | c :: l=>m.lookup c.1 = some c.2/\SubL m l
theorem zhx:∀ {l m:List (Str × Addr)},SubL m l->∀ x a,l.lookup x = some a->m.lookup x = some a
 | [],_,_,_,_,h=>by cases h
 | (y,b) :: l,m,g,x,a,h=>by
  rw [lookup_cons] at h
  split at h
  ·rename_i e
   cases h
   rw [eq_of_beq e]
   exact g.1
  ·exact zhx g.2 x a h
noncomputable def zkJ (kvs prs:List (Key × T)):List (Key × T):=prs.foldl (fun acc kv=>zjG acc kv.1 kv.2) kvs
theorem RepK.merge {K:Frag} {S:Sit}:∀ {prs:List (Key × T)} {us:List (Key × V)} {kvs:List (Key × T)} {ws:List (Key × V)},RepK K S prs us->RepK K S kvs ws->RepK K S (zkJ kvs prs) (zki ws us)
 | [],us,kvs,ws,r,q=>by rw [r.nilT];exact q
 | p :: prs,us,kvs,ws,r,q=>by
  obtain ⟨u,us',rfl,r1,r2⟩:=r.consT
  show RepK K S (zkJ (zjG kvs p.1 p.2) prs) (zki (putK ws p.1 u) us')
  exact RepK.merge r2 (q.put p.1 r1)
section
theorem znu:PIp X .Mult (lR2 XE X.K zhu):=by
 intro pins s σ H x y v u Q I rx ry ⟨S,⟨tx,ty⟩,e,m,⟨r1,r2⟩,fin⟩
 subst e
 replace fin:Fin XE (Rep X.K) X.K S (zhu tx ty S.M) Q:=fin
 unfold zhu zad at fin
 split at fin
 ·rename_i i j
  cases r1;cases r2
  replace fin:Fin XE (Rep X.K) X.K S (if Mo64 i j then .ok (.int (i * j)) S.M else .bad) Q:=fin
  by_cases h:Mo64 i j
  ·rw [if_pos h] at fin
   obtain ⟨t,rfl⟩:=rx
   obtain ⟨t',rfl⟩:=ry
   exact imul_int ⟨.int _,S.H,I.tok _,⟨_,rfl⟩,fin S _ rfl (.refl m) (.int _)⟩ h.ok.ok
  ·rw [if_neg h] at fin;exact fin.elim
 ·exact fin.elim
end
noncomputable def forR (bd:T->Ev->Mem->Out Ev) (body:Ev->Mem->Out Fl) (a:Nat):Nat->Nat->Ev->Mem->Out Fl
 | 0,i,σ,M=>match M[a]? with
  | some (.lst xs)=>if xs.length<=i then .ok (.nx σ) M else .bad
  | _=>.bad
 | n + 1,i,σ,M=>match M[a]? with
  | some (.lst xs)=>match xs[i]? with
   | some x=>(bd x σ M).bind fun σ1 M1=>(body σ1 M1).bind (yM (forR bd body a n (i + 1)))
   | none=>.ok (.nx σ) M
  | _=>.bad
noncomputable def zdn (bd:T->Ev->Mem->Out Ev) (body:Ev->Mem->Out Fl) (t:T) (σ:Ev) (M:Mem):Out Fl:=match t with
 | .ref a=>match M[a]? with
  | some (.lst xs)=>forR bd body a xs.length 0 σ M
  | _=>.bad
 | _=>.bad
noncomputable def zeh (f:Ev->Mem->Out T) (bd:T->Ev->Mem->Out Ev) (body:Ev->Mem->Out Fl):Ev->Mem->Out Fl:=fun σ M=>(f σ M).bind fun t M1=>zdn bd body t σ M1
section
variable {p:Ev->Mem->Out Fl}
end
theorem zhJ {bd:T->Ev->Mem->Out Ev} {body:Ev->Mem->Out Fl} {a:Nat} {xs:List T} (P:Nat->Ev->Mem->Prop) (hP:∀ k σ M,P k σ M->M[a]? = some (.lst xs))
  (t:∀ k x σ M,xs[k]? = some x->P k σ M->∃ σ' M',((bd x σ M).bind fun σ1 M1=>body σ1 M1) = .ok (.nx σ') M'/\P (k + 1) σ' M'):∀ n i,i + n = xs.length->∀ σ M,P i σ M->∃ σ' M',forR bd body a n i σ M = .ok (.nx σ') M'/\P xs.length σ' M'
 | 0,i,hi,σ,M,h=>by
  have hM:=hP i σ M h
  refine ⟨σ,M,?_,by rw [← hi];exact h⟩
  unfold forR
  rw [hM]
  exact if_pos (by omega)
 | n + 1,i,hi,σ,M,h=>by
  have hM:=hP i σ M h
  have hx:xs[i]? = some xs[i]:=by simp [show i < xs.length by omega]
  obtain ⟨σ1,M1,e1,h1⟩:=t i _ σ M hx h
  obtain ⟨σ2,M2,e2,h2⟩:=zhJ P hP t n (i + 1) (by omega) σ1 M1 h1
  refine ⟨σ2,M2,?_,h2⟩
  unfold forR
  rw [hM]
  simp only [hx]
  cases q:bd xs[i] σ M with
  | bad=>rw [q] at e1;cases e1
  | exn C fs M'=>rw [q] at e1;cases e1
  | ok σ3 M3=>
   rw [q] at e1
   replace e1:body σ3 M3 = .ok (.nx σ1) M1:=e1
   show (body σ3 M3).bind (yM (forR bd body a n (i + 1))) = _
   rw [e1]
   exact e2
noncomputable def zcP (t:T) (M:Mem):Bool:=(zy t M).isSome
theorem zjU {K:Frag} {S:Sit} (m:MemOk K S) {t:T} {x:V} (r:Rep K S t x) (h:zcP t S.M = true):tyV K "list" x S.H:=by
 unfold zcP at h
 cases q:zy t S.M with
 | none=>rw [q] at h;cases h
 | some xs=>
  obtain ⟨p,vs,rfl,hq,_⟩:=zz m r q
  exact .inl ⟨rfl,vs,hq⟩
end FT
namespace L2
open PySem PySem.Spec PySem.W PyProof.Rows
theorem KV.get_val {κ:Type}:∀ {kvs:List (κ × V)} {vs:List (κ × Value)} {i:Nat} {k:κ} {v:Value},KV kvs vs->vs[i]? = some (k,v)->∃ u,(kvs.map (·.2))[i]? = some u/\RelV u v
 | _,_,_,_,_,.nil,e=>by simp at e
 | _,_,0,_,_,.cons r _,e=>by simp at e;subst e;exact ⟨_,rfl,r.2⟩
 | _,_,i + 1,k,v,.cons _ t,e=>by
  obtain ⟨u,h1,h2⟩:=KV.get_val (i:=i) (k:=k) (v:=v) t (by simpa using e)
  exact ⟨u,by simpa using h1,h2⟩
end L2
namespace FT
open PySem PySem.Spec PyProof.Rows L2
noncomputable def zcR (M:Mem) (x:T):List T->Option (List Bool)
 | []=>some []
 | t :: ts=>match eqD M 20 t x,zcR M x ts with
  | some b,some bs=>some (b :: bs)
  | _,_=>none
noncomputable def inN:T->T->Mem->Out T:=fun x y M=>match zat y M with
 | some ys=>match zcR M x ys with
  | some bs=>.ok (.bl (bs.any id)) M
  | none=>.bad
 | none=>.bad
theorem zgG {M:Mem} {x:T}:∀ {ts:List T} {bs:List Bool},zcR M x ts = some bs->bs.length = ts.length/\∀ (i:Nat) t b,ts[i]? = some t->bs[i]? = some b->eqD M 20 t x = some b
 | [],bs,h=>by cases h;exact ⟨rfl,fun i t b e=>by simp at e⟩
 | t :: ts,bs,h=>by
  unfold zcR at h
  split at h
  ·rename_i b bs' q1 q2
   cases h
   obtain ⟨l,g⟩:=zgG q2
   refine ⟨by simp [l],fun i u c e1 e2=>?_⟩
   cases i with
   | zero=>cases (show some t = some u from e1);cases (show some b = some c from e2);exact q1
   | succ i=>exact g i u c (by simpa using e1) (by simpa using e2)
  ·cases h
section
variable {X:Cx} {XE:XK} {pins:List (Addr × Obj)} {s:Shared} {σ:L2.St} {S:Sit}
open Classical in
theorem zhM (I:L2.Inv X pins σ S.H s) (m:MemOk X.K S) (hu:X.A.units + 64 < cLine) {x:T} {v:V} {u:Value} (rx:RelV v u) (r:Rep X.K S x v) {ts:List T} {vs:List V} {its:List Value} (rs:Reps X.K S ts vs) (rv:Vals vs its) {bs:List Bool} (h:zcR S.M x ts = some bs) :
  ∃ e:Value->Bool,(∀ y,y ∈ its.toArray->SeqAt.EqAt X.A.in1 s y u (e y))/\its.toArray.any e = bs.any id:=by
 obtain ⟨hl,g⟩:=zgG h
 have l1:its.length = bs.length:=by rw [← rv.length,← rs.1,hl]
 have at_:∀ (j:Nat) (y:Value) (b:Bool),its[j]? = some y->bs[j]? = some b->SeqAt.EqAt X.A.in1 s y u b:=fun j y b e1 e2=>by
  have hj:j < ts.length:=by rw [← hl];exact (List.getElem?_eq_some_iff.mp e2).1
  have et:ts[j]? = some ts[j]:=by simp [hj]
  obtain ⟨w,ew,rw'⟩:=rs.get et
  obtain ⟨y',ey,ry⟩:=rv.get ew
  rw [e1] at ey
  cases ey
  exact zkH I m 20 (A:=X.A.in1) (by show X.A.units + 1 + 20 < cLine;omega) ry rx rw' r (g j _ b et e2)
 refine ⟨fun y=>decide (∃ j:Nat,its[j]? = some y/\bs[j]? = some true),fun y hy=>?_,?_⟩
 ·by_cases hc:∃ j:Nat,its[j]? = some y/\bs[j]? = some true
  ·show SeqAt.EqAt X.A.in1 s y u (decide (∃ j:Nat,its[j]? = some y/\bs[j]? = some true))
   rw [Qx hc]
   obtain ⟨j,e1,e2⟩:=hc
   exact at_ j y true e1 e2
  ·show SeqAt.EqAt X.A.in1 s y u (decide (∃ j:Nat,its[j]? = some y/\bs[j]? = some true))
   rw [Qy hc]
   obtain ⟨j,hj,e1⟩:=getElem_of_mem (show y ∈ its by simpa using hy)
   have ej:its[j]? = some y:=by rw [Q0 hj,e1]
   have hb:bs[j]? = some bs[j]:=by simp [show j < bs.length by omega]
   cases q:bs[j]'(by omega) with
   | true=>exact absurd ⟨j,ej,by rw [hb,q]⟩ hc
   | false=>exact at_ j y false ej (by rw [hb,q])
 ·rw [Bool.eq_iff_iff]
  simp only [List.any_toArray,List.any_eq_true,id,decide_eq_true_eq]
  constructor
  ·rintro ⟨y,_,j,_,e2⟩
   exact ⟨true,Qb e2,rfl⟩
  ·rintro ⟨b,hb,rfl⟩
   obtain ⟨j,hj,e1⟩:=getElem_of_mem hb
   have hj2:j < its.length:=by omega
   exact ⟨its[j],getElem_mem hj2,j,by simp [hj2],by simp [hj,e1]⟩
theorem zoV (hu:X.A.units + 64 < cLine):OpR X (compareOp .In) (lR2 XE X.K inN):=by
 intro pins s σ H x y v u Q I rx ry ⟨S,⟨tx,ty⟩,e,m,⟨r1,r2⟩,fin⟩
 subst e
 replace fin:Fin XE (Rep X.K) X.K S (inN tx ty S.M) Q:=fin
 unfold inN at fin
 split at fin
 ·rename_i ys q
  split at fin
  ·rename_i bs qb
   obtain ⟨p,vs,e1,hq,rs⟩:=zdQ m r2 q
   dsimp only at e1
   subst e1
   cases ry
   rcases hq with hq | hq
   ·obtain ⟨its,rv,pl,hz⟩:=I.list hq
    obtain ⟨e,h1,h2⟩:=zhM I m hu rx r1 rs rv qb
    exact SeqAt.in_listAt e pl.isList h1 ⟨.bl _,S.H,I,rfl,by rw [h2];exact fin S _ rfl (.refl m) (.bl _)⟩
   ·obtain ⟨its,rv,pl,hz⟩:=I.tuple hq
    obtain ⟨e,h1,h2⟩:=zhM I m hu rx r1 rs rv qb
    exact SeqAt.in_tupleAt e pl h1 ⟨.bl _,S.H,I,rfl,by rw [h2];exact fin S _ rfl (.refl m) (.bl _)⟩
  ·exact fin.elim
 ·exact fin.elim
end
end FT
namespace L2
open PySem PySem.Spec PySem.W PyProof.Rows
variable {X:Cx}
section
variable {pins:List (Addr × Obj)} {σ:St} {H:Hp} {s:Shared} {l:Addr} {us:List (Key × V)}
theorem Inv.freeze (I:Inv X pins σ H s) (e:H l = some (.dK us)):∃ ob,Inv X pins σ (upd H l (.frz ob (.dK us))) s:=by
 obtain ⟨z,hs,vs,rel,o,es,ep,ho,r⟩:=(show ObjOk X.prog X.w H s.heap l (.dK us) from I.hok l _ e)
 exact ⟨o,I.write (x:=l) (e:=l) (o:=.frz o (.dK us)) (h':=s.heap) (t':=s.toks) (by rw [e];trivial) (.inl rfl) (fun b u _ q=>q) ⟨o,ho⟩ ⟨ho,z,hs,vs,rel,o,es,ep,ho,r⟩⟩
end
noncomputable def zrr (Q:VK):VK:=fun v H'=>∃ l us,v = .ref l/\H' l = some (.dK us)/\∀ ob,Q v (upd H' l (.frz ob (.dK us)))
theorem CallR.frz {f:Value} {r:List V->Hp->VK->Prop} (h:CallR X f r):CallR X f (fun xs H Q=>r xs H (zrr Q)):=by
 intro pins s σ H xs us Q I rv hr
 refine Qh (h pins s σ H xs us _ I rv hr) (fun v s' ⟨x,H',I',r',l,us',ex,e,q⟩=>?_) fun _ _ z=>z
 obtain ⟨ob,I2⟩:=I'.freeze e
 exact ⟨x,_,I2,r',q ob⟩
end L2
namespace FT
open PySem PySem.Spec PyProof.Rows L2
noncomputable def zcz (f:Str) (v:T):List (Str × T)->List (Str × T)
 | []=>[(f,v)]
 | (g,x) :: r=>if g = f then (g,v) :: r else (g,x) :: zcz f v r
variable {K:Frag} {us:List (Str × V)} {S:Sit} {t:T}
section
theorem RepF.nil:RepF K S [] []:=⟨rfl,.nil⟩
theorem RepF.nilT (r:RepF K S [] us):us = []:=by
 have:=r.1
 simpa using this.symm
theorem RepF.consT {p:Str × T} {fs:List (Str × T)} (r:RepF K S (p :: fs) us):∃ u us',us = (p.1,u) :: us'/\Rep K S p.2 u/\RepF K S fs us':=by
 cases us with
 | nil=>have:=r.1;simp at this
 | cons q us'=>
  have h1:=r.1
  simp only [map_cons,List.cons.injEq] at h1
  obtain ⟨v,vs,e,r1,r2⟩:=(show Reps K S (p.2 :: fs.map (·.2)) (q.2 :: us'.map (·.2)) from r.2).consT
  cases e
  exact ⟨q.2,us',by rw [h1.1],r1,h1.2,r2⟩
theorem RepF.cons {g:Str} {u:V} {fs:List (Str × T)} (q:Rep K S t u) (r:RepF K S fs us):RepF K S ((g,t) :: fs) ((g,u) :: us):=⟨by simp [r.1],r.2.cons q⟩
theorem RepF.look (f:Str):∀ {fs:List (Str × T)} {us:List (Str × V)},RepF K S fs us->∀ {t:T},fs.lookup f = some t->∃ v,us.lookup f = some v/\Rep K S t v
 | [],us,r,t,e=>by cases e
 | (g,x) :: fs,us,r,t,e=>by
  obtain ⟨u,us',rfl,r1,r2⟩:=r.consT
  rw [lookup_cons] at e ⊢
  cases h:f == g with
  | true=>rw [h] at e;cases e;exact ⟨u,rfl,r1⟩
  | false=>rw [h] at e;exact RepF.look f r2 e
theorem RepF.put (f:Str) {t:T} {v:V} (q:Rep K S t v):∀ {fs:List (Str × T)} {us:List (Str × V)},RepF K S fs us->RepF K S (zcz f t fs) (qU f v us)
 | [],us,r=>by rw [r.nilT];exact RepF.cons q .nil
 | (g,x) :: fs,us,r=>by
  obtain ⟨u,us',rfl,r1,r2⟩:=r.consT
  unfold zcz qU
  by_cases h:g = f
  ·rw [if_pos h,if_pos h];exact RepF.cons q r2
  ·rw [if_neg h,if_neg h];exact RepF.cons r1 (RepF.put f q r2)
theorem RepF.len {fs:List (Str × T)} (r:RepF K S fs us):fs.length = us.length:=by
 have:=congrArg List.length r.1
 simpa using this
end
noncomputable def zaq (Cs:List Addr) (f:Str) (x:T) (M:Mem):Out T:=match x with
 | .ref a=>match M[a]? with
  | some (.ins C fs)=>if C ∈ Cs then zf7 (fs.lookup f) M else .bad
  | _=>.bad
 | _=>.bad
noncomputable def yi (Cs:List Addr) (f:Str) (g:Ev->Mem->Out T):Ev->Mem->Out T:=fun σ M=>(g σ M).bind fun x M1=>zaq Cs f x M1
noncomputable def zav (Cs:List Addr) (f:Str) (x y:T) (M:Mem):Out Unit:=match x with
 | .ref a=>match M[a]? with
  | some (.ins C fs)=>if C ∈ Cs/\fs.length < 1000 then .ok () (M.set a (.ins C (zcz f y fs))) else .bad
  | _=>.bad
 | _=>.bad
noncomputable def yB (Cs:List Addr) (f:Str) (fo fv:Ev->Mem->Out T):Ev->Mem->Out Fl:=fun σ M=>(fv σ M).bind fun y M1=>(fo σ M1).bind fun x M2=>(zav Cs f x y M2).bind fun _ M3=>.ok (.nx σ) M3
variable {X:Cx} {e:Expr} {pos:Pos} {XE:XK}
section
variable {Cs:List Addr} {f:Str}
end
structure MakT (P:Program) (w:World) (K:Frag) (mg:Str->Option Value) (base:Heap) (k:Nat) (x:Str) (C:Addr) (ps:List Str) (f:List T->Mem->Out T):Prop where
 ex:∃ (fI:Addr) (fd:FuncData),Mk K C fI/\FnOk P w K mg base CX0 k fI fd ps (spT K f)/\Binds K fd ps []/\mg x = some (.ref C)
 nox:∀ ts M C fs M',f ts M ≠ .exn C fs M'
structure Di (K:Frag) (mg:Str->Option Value) (x qual:Str) (C:Addr) (st:Stmt) (ps:List Str):Prop where
 ex:∃ (fI:Addr) (fd:FuncData),Mk K C fI/\Fun K "__init__" qual st fI fd/\Binds K fd ps []/\mg x = some (.ref C)
variable {C:Addr} {ps:List Str} {k:Nat} {st:Stmt} {qual x:Str} {mg:Str->Option Value}
theorem zo3 {P:Program} {w:World} {base:Heap} {N:List Str} {p n:Nat} {g:Ev->Mem->Out Fl} (D:Di K mg x qual C st ps) (Sc:FnScope N ps (yd st)) (hp:ps.length = p) (hn:N.length = n)
 (hb:∀ (f:Addr) (cdv:Value) (A:Around) (outer:List PySem.Env) (s:Shared) (H:Hp) (E:XK),Room k (A.deeper (envOfC qual (yd st) s.heap.objs.size f cdv))->GSs (zbc CX0 P w K mg base N qual (yd st) f cdv A outer s H E).nox E0 (zB st) g) :
  MakT P w K mg base (k + 1) x C ps (qh p n g):=by
 obtain ⟨fI,fd,M,F,b,e⟩:=D.ex
 exact ⟨⟨fI,fd,M,F.ok Sc (zhb hp) fun cdv A outer s H vs Q E hr h=>zff hn rfl h (hb fI cdv A outer s H E hr),b,e⟩,zfs _ _ _⟩
noncomputable def zlG (a:Nat) (t:T) (M:Mem):Out T:=match t with
 | .non=>.ok (.ref a) M
 | _=>.bad
noncomputable def zcj (C:Addr) (F:List T->Mem->Out T) (ga:Ev->Mem->Out (List T)):Ev->Mem->Out T:=fun σ M=>(ga σ M).bind fun ts M1=>(F (.ref M1.length :: ts) (M1 ++ [.ins C []])).bind fun t M2=>zlG M1.length t M2
variable {es:List Expr}
section
variable {p:Pos} {ga:Ev->Mem->Out (List T)} {F:List T->Mem->Out T}
end
variable {P:Addr->Prop}
theorem zf:∀ C ∈ ([]:List Addr),P C:=fun C h=>by simp at h
theorem qd {a:Addr} {l:List Addr} (h:P a) (r:∀ C ∈ l,P C):∀ C ∈ a :: l,P C:=fun C hc=>by
 rcases mem_cons.mp hc with rfl | hc
 ·exact h
 ·exact r C hc
noncomputable def yJ (K:Frag) (x:Str):Addr:=match PySem.W.nsIn K mainGlobals x with
 | some (some (.ref a))=>a
 | _=>0
theorem zeu (a:PySem.W.nsIn K mainGlobals x = some (some (.ref C))):yJ K x = C:=by
 unfold yJ
 rw [a]
theorem za8 {f:Str} (a:PySem.W.nsIn K mainGlobals x = some (some (.ref C))) (n:PySem.W.findIn K (.ref C) f = some none):NoAttr K (yJ K x) f:=by
 rw [zeu a];exact n
theorem zkK (a:PySem.W.nsIn K mainGlobals x = some (some (.ref C))) (pg:PySem.W.plainGet K C Str.empty = true) (hd:PySem.W.hasDictIn K C = true) (po:PySem.W.plainOver K C = true)
 (sa:PySem.W.findIn K (.ref C) "__setattr__" = some (some (.builtin "object.__setattr__"))):Cls K (yJ K x):=by
 rw [zeu a];exact ⟨pg,hd,po,sa⟩
theorem zmt {h:Heap} (X:K.In h) (G:h.Ns mainGlobals mg) {fI:Addr} {od an:Option Addr} {sl:Array (Option Value)} {oc kV dc pm cd ct:Value}
 (a:PySem.W.nsIn K mainGlobals x = some (some (.ref C))) (a1:PySem.W.findIn K (.ref C) "__init__" = some (some (.ref fI))) (i1:PySem.W.isFn K (.ref fI) = true)
 (l1:K.lookup fI = some ⟨oc,od,.func (PySem.W.fnOf "__init__" qual (qW st) (zB st) (yd st) .none kV dc pm an cd ct),sl⟩) (c1:PySem.W.codeIn K cd qual = true) (k1:PySem.W.keepIn K (.ref fI) = true) (mk:PySem.W.makesIn K C = true) (kc:PySem.W.keepIn K (.ref C) = true)
 (hb:∀ (kV doc pm:Value) (an:Option Addr) (cdv ct:Value) (us:List Value),us.length = ps.length->bindArgs (PySem.W.fnOf "__init__" qual (qW st) (zB st) (yd st) .none kV doc pm an cdv ct) ⟨us,[]⟩ = pure (ps.zip us)):Di K mg x qual (yJ K x) st ps:=by
 have F:=zfL (st:=st) l1 c1 k1
 rw [zeu a]
 exact ⟨⟨fI,_,⟨mk,a1,i1,kc⟩,F,F.binds hb,PySem.W.mg_of X G a⟩⟩
noncomputable def zn8:List T->List T->List T
 | x :: xs,y :: ys=>.tup [x,y] :: zn8 xs ys
 | _,_=>[]
noncomputable def zp (ts:List T) (M:Mem):Out (List T):=match ts with
 | [.lst xs,.lst ys]=>.ok (zn8 xs ys) M
 | _=>.bad
section
theorem zkj {S1 S3:Sit} (s3:Stp K S1 S3) {p:Addr} {vs:List V} (h:(Rd S1.H p (.lst vs)/\S1.off p)\/KL K p vs):SqL K S3.H p vs:=by
 rcases h with ⟨h2,f2⟩ | h2
 ·exact .inl (s3.toGrow.rd h2 f2).1
 ·exact .inr h2
end
noncomputable abbrev Gd:=List (Nat × List T)
def zaf (G:Gd) (M:Mem):Prop:=∀ g ∈ G,M[g.1]? = some (.lst g.2)
noncomputable def gdK {β:Type} (G:Gd) (M:Mem) (o:Out β):Out β:=@ite _ (zaf G M) (Classical.propDecidable _) o .bad
variable {G:Gd} {M:Mem}
theorem zb2 {β:Type} {o:Out β} (h:zaf G M):gdK G M o = o:=if_pos h
theorem zhE (M:Mem):zaf [] M:=fun g h=>by simp at h
variable {xs:List T}
theorem zhD {a:Nat} (h:M[a]? = some (.lst xs)):zaf [(a,xs)] M:=fun g hg=>by rw [mem_singleton.mp hg];exact h
def ItG (K:Frag) (S:Sit) (items:List T × Gd) (J:It):Prop:=∀ S',Stp K S S'->zaf items.2 S'.M->
 (∀ (i:Nat) t,items.1[i]? = some t->J.go i S'.H/\∀ x H',J.yld i S'.H x H'->∃ S'',S''.H = H'/\S''.M = S'.M/\Stp K S' S''/\Rep K S'' t x)/\∀ i,items.1.length<=i->J.stop i S'.H
instance (K):Mo K (ItG K):=⟨fun _ s r=>fun S' s'=>r S' (s.trans s')⟩
noncomputable def lIG (XE:XK) (K:Frag) (f:Ev->Mem->Out (List T × Gd)):TI:=fun σ H R=>LN XE (ItG K) K UnR (fun _ σ M=>f σ M) () σ H R
def GIG (X:Cx) (XE:XK) (tg iter:Expr) (f:Ev->Mem->Out (List T × Gd)):Prop:=PI X tg iter (lIG XE X.K f)
noncomputable def forG (G:Gd) (bd:T->Ev->Mem->Out Ev) (body:Ev->Mem->Out Fl):List T->Ev->Mem->Out Fl
 | [],σ,M=>gdK G M (.ok (.nx σ) M)
 | x :: xs,σ,M=>gdK G M ((bd x σ M).bind fun σ1 M1=>(body σ1 M1).bind (yM (forG G bd body xs)))
noncomputable def zgT (it:Ev->Mem->Out (List T × Gd)) (bd:T->Ev->Mem->Out Ev) (body:Ev->Mem->Out Fl):Ev->Mem->Out Fl:=fun σ M=>(it σ M).bind fun xs M1=>forG xs.2 bd body xs.1 σ M1
noncomputable def qM (G:Gd) (bd:T->Ev->Mem->Out Ev) (cond:Ev->Mem->Out Bool) (el:Ev->Mem->Out T):List T->Ev->Mem->List T->Out (List T)
 | [],_,M,acc=>gdK G M (.ok acc M)
 | x :: xs,σ,M,acc=>gdK G M ((bd x σ M).bind fun σ1 M1=>(cond σ1 M1).bind fun b M2=>if b = true then (el σ1 M2).bind fun t M3=>if acc.length < sizeLine then qM G bd cond el xs σ1 M3 (acc ++ [t]) else .bad else qM G bd cond el xs σ1 M2 acc)
noncomputable def qX (it:Ev->Mem->Out (List T × Gd)) (bd:T->Ev->Mem->Out Ev) (cond:Ev->Mem->Out Bool) (el:Ev->Mem->Out T) (tgs:List Str) (caps:List (Str × Nat)):Ev->Mem->Out (List T):=fun σ M=>(it σ M).bind fun xs M1=>qM xs.2 bd cond el xs.1 (zbO tgs caps σ) M1 []
theorem Fin.gd {β γ:Type} {R:Sit->β->γ->Prop} {o:Out β} {Q:γ->Hp->Prop} (h:Fin XE R K S (gdK G M o) Q):zaf G M/\Fin XE R K S o Q:=by
 by_cases g:zaf G M
 ·rw [zb2 g] at h;exact ⟨g,h⟩
 ·rw [show gdK G M o = .bad from if_neg g] at h;exact h.elim
variable {Q:VK}
theorem FinL.gd {o:Out (List T)} (h:FinL XE K S (gdK G M o) Q):zaf G M/\FinL XE K S o Q:=by
 by_cases g:zaf G M
 ·rw [zb2 g] at h;exact ⟨g,h⟩
 ·rw [show gdK G M o = .bad from if_neg g] at h;exact h.elim
variable {σ:Ev} {p:Ev->Mem->Out Fl} {bd:T->Ev->Mem->Out Ev}
theorem zkB {Q:FlV->Hp->Prop} (h:Fin XE (FlR K) K S (forG G bd p xs σ M) Q):zaf G M:=by
 cases xs with
 | nil=>exact (Fin.gd h).1
 | cons x xs=>exact (Fin.gd h).1
variable {f:Ev->Mem->Out T}
theorem zjI {c:Ev->Mem->Out Bool} {acc:List T} (h:FinL XE K S (qM G bd c f xs σ M acc) Q):zaf G M:=by
 cases xs with
 | nil=>exact (FinL.gd h).1
 | cons x xs=>exact (FinL.gd h).1
variable {ga:Ev->Mem->Out (List T × Gd)} {cond:Ev->Mem->Out Bool} {elt iter tg:Expr} {cl:List (Str × Addr)} {caps:List (Str × Nat)} {ifs:List Expr} {tgs:List Str} {scope:Scope}
section
variable {a b c:Expr} {pp:Pos} {sts:List Stmt}
theorem zgH {σ:L2.St} {H:Hp} (hh:lL XE X.K (qX ga bd cond f tgs caps) σ H Q) :
  zgS (lIG XE X.K ga) (lG XE X.K bd) (lT XE X.K cond) (lE XE X.K f) (zaE tgs caps) σ H Q:=by
 obtain ⟨S,στ,e,m,ev,fin⟩:=hh
 replace fin:FinL XE X.K S ((ga στ S.M).bind fun xs M1=>qM xs.2 bd cond f xs.1 (zbO tgs caps στ) M1 []) Q:=fin
 refine ⟨S,στ,(),e,m,ev,trivial,?_⟩
 show Fin XE (ItG X.K) X.K S (ga στ S.M) _
 cases o:ga στ S.M with
 | bad=>rw [o] at fin;exact fin
 | exn C fs M'=>rw [o] at fin;exact fin
 | ok items M1=>
  rw [o] at fin
  replace fin:FinL XE X.K S (qM items.2 bd cond f items.1 (zbO tgs caps στ) M1 []) Q:=fin
  intro S0 J e0 s0 it0 D hD
  have m0:=s0.mok
  have fin0:=fin.later s0
  have s1:=Stp.hide (K:=X.K) m0 hD []
  refine ⟨fun i n σ' H'=>∃ S στ acc vs,S.H = H'/\EvR X.K S στ σ'/\n = items.1.length - i/\i<=items.1.length/\D ∈ S.hid/\S.H D = some (.lst vs)/\Reps X.K S acc vs/\Stp X.K S0 S/\FinL XE X.K S0 (qM items.2 bd cond f (items.1.drop i) στ S.M acc) Q,
   ⟨items.1.length - 0,S0.hide D [],zbO tgs caps στ,[],[],rfl,(Mo.mo (K:=X.K) m0 s1 (Mo.mo (K:=X.K) m s0 ev)).cap tgs caps,rfl,Nat.zero_le _,.head _,yt,.nil,s1,by show FinL XE X.K S0 (qM items.2 bd cond f items.1 (zbO tgs caps στ) S0.M []) Q;rw [e0];exact fin0⟩,?_⟩
  rintro i n σ1 H1 ⟨S2,στ2,acc,vs,e2,ev2,en,hi2,hid2,hD2,racc,s2,fin2⟩
  subst e2
  have m2:=s2.mok
  have hgd:=zjI fin2
  obtain ⟨itg,its⟩:=it0 S2 s2 hgd
  by_cases hl:i < items.1.length
  ·have eq:items.1.drop i = items.1[i] :: items.1.drop (i + 1):=List.drop_eq_getElem_cons hl
   rw [eq] at fin2
   replace fin2:=(FinL.gd fin2).2
   obtain ⟨go,yl⟩:=itg i items.1[i] (by simp [hl])
   refine .inr ⟨go,fun σ' H'=>∃ S στ acc vs,S.H = H'/\EvR X.K S στ σ'/\D ∈ S.hid/\S.H D = some (.lst vs)/\Reps X.K S acc vs/\Stp X.K S0 S/\FinL XE X.K S0 (qM items.2 bd cond f (items.1.drop (i + 1)) στ S.M acc) Q,?_,fun x H' hy=>?_⟩
   ·rintro σ' H' ⟨S,στ,acc,vs,a1,a2,a3,a4,a5,a6,a7⟩
    exact ⟨items.1.length - (i + 1),by omega,S,στ,acc,vs,a1,a2,rfl,hl,a3,a4,a5,a6,a7⟩
   ·obtain ⟨S3,e3,eM,s3,r3⟩:=yl x H' hy
    replace fin2:FinL XE X.K S0 ((bd items.1[i] στ2 S2.M).bind fun σ1 M1=>(cond σ1 M1).bind fun b M2=>if b = true then (f σ1 M2).bind fun t M3=>if acc.length < sizeLine then qM items.2 bd cond f (items.1.drop (i + 1)) σ1 M3 (acc ++ [t]) else .bad else qM items.2 bd cond f (items.1.drop (i + 1)) σ1 M2 acc) Q:=fin2
    refine ⟨S3,στ2,items.1[i],e3,s3.mok,Mo.mo m2 s3 ev2,r3,?_⟩
    show Fin XE (EvR X.K) X.K S3 (bd items.1[i] στ2 S3.M) _
    rw [eM]
    cases o1:bd items.1[i] στ2 S2.M with
    | bad=>rw [o1] at fin2;exact fin2
    | exn C fs M'=>rw [o1] at fin2;exact fun S' od a1 a2 a3=>fin2 S' od a1 ((s2.trans s3).trans a2) a3
    | ok σ4 M4=>
     rw [o1] at fin2
     intro S4 σ4v e4 s4 ev4
     have t4:=s3.trans s4
     replace fin2:FinL XE X.K S0 ((cond σ4 M4).bind fun b M2=>if b = true then (f σ4 M2).bind fun t M3=>if acc.length < sizeLine then qM items.2 bd cond f (items.1.drop (i + 1)) σ4 M3 (acc ++ [t]) else .bad else qM items.2 bd cond f (items.1.drop (i + 1)) σ4 M2 acc) Q:=fin2
     refine ⟨S4,σ4,(),rfl,s4.mok,ev4,trivial,?_⟩
     show Fin XE EqR X.K S4 (cond σ4 S4.M) _
     rw [e4]
     cases o2:cond σ4 M4 with
     | bad=>rw [o2] at fin2;exact fin2
     | exn C fs M'=>rw [o2] at fin2;exact fun S' od a1 a2 a3=>fin2 S' od a1 ((s2.trans t4).trans a2) a3
     | ok b M5=>
      rw [o2] at fin2
      intro S5 b5 e5 s5 eb
      have eb':b = b5:=eb
      subst eb'
      have t5:=t4.trans s5
      replace fin2:FinL XE X.K S0 (if b = true then (f σ4 M5).bind fun t M3=>if acc.length < sizeLine then qM items.2 bd cond f (items.1.drop (i + 1)) σ4 M3 (acc ++ [t]) else .bad else qM items.2 bd cond f (items.1.drop (i + 1)) σ4 M5 acc) Q:=fin2
      cases b with
      | false=>
       rw [if_neg Q5] at fin2
       refine (if_neg Q5).mpr ⟨S5,σ4,acc,vs,rfl,Mo.mo s4.mok s5 ev4,(t5.hk D hid2).1,by rw [(t5.hk D hid2).2];exact hD2,racc.grow m2 t5.toGrow,s2.trans t5,by rw [e5];exact fin2⟩
      | true=>
       rw [if_pos rfl] at fin2
       refine (if_pos rfl).mpr ⟨S5,σ4,(),rfl,s5.mok,Mo.mo s4.mok s5 ev4,trivial,?_⟩
       show Fin XE (Rep X.K) X.K S5 (f σ4 S5.M) _
       rw [e5]
       cases o3:f σ4 M5 with
       | bad=>rw [o3] at fin2;exact fin2
       | exn C fs M'=>rw [o3] at fin2;exact fun S' od a1 a2 a3=>fin2 S' od a1 ((s2.trans t5).trans a2) a3
       | ok t M6=>
        rw [o3] at fin2
        replace fin2:FinL XE X.K S0 (if acc.length < sizeLine then qM items.2 bd cond f (items.1.drop (i + 1)) σ4 M6 (acc ++ [t]) else .bad) Q:=fin2
        intro S6 v6 e6 s6 r6
        have t6:=t5.trans s6
        have hz:acc.length < sizeLine:=by
         by_cases hz:acc.length < sizeLine
         ·exact hz
         ·rw [if_neg hz] at fin2;exact fin2.elim
        rw [if_pos hz] at fin2
        have hid6:=(t6.hk D hid2).1
        have hD6:S6.H D = some (.lst vs):=by rw [(t6.hk D hid2).2];exact hD2
        refine ⟨vs,hD6,by rw [← racc.1];exact hz,S6.hput D (vs ++ [v6]),σ4,acc ++ [t],vs ++ [v6],rfl,?_,hid6,yt,?_,(s2.trans t6).hput hid6 hD m0,by show FinL XE X.K S0 (qM items.2 bd cond f (items.1.drop (i + 1)) σ4 S6.M (acc ++ [t])) Q;rw [e6];exact fin2⟩
        ·have ev6:EvR X.K S6 σ4 σ4v:=Mo.mo s4.mok (s5.trans s6) ev4
         exact ⟨ev6.1,fun i t e=>let ⟨v,e',q⟩:=ev6.2 i t e;⟨v,e',q.hput s6.mok hid6⟩⟩
        ·exact ((racc.grow m2 t6.toGrow).app (.cons r6 .nil)).hput s6.mok hid6
  ·rw [List.drop_eq_nil_of_le (by omega)] at fin2
   replace fin2:=(FinL.gd fin2).2
   refine .inl ⟨its i (by omega),?_⟩
   exact fin2 S2 D vs rfl s2 hD hid2 hD2 racc
end
noncomputable def zdE (t:T) (M:Mem):Option (List T × Gd):=match t with
 | .lst xs=>some (xs,[])
 | .ref a=>match M[a]? with
  | some (.lst xs)=>some (xs,[(a,xs)])
  | _=>none
 | _=>none
theorem znm (m:MemOk K S) {v:V} (r:Rep K S t v) (e:zdE t S.M = some (xs,G)):∃ p vs,v = .ref p/\SqL K S.H p vs/\∀ S3,Stp K S S3->zaf G S3.M->∃ vs3,SqL K S3.H p vs3/\Reps K S3 xs vs3:=by
 unfold zdE at e
 split at e
 ·cases e
  cases r with
  | @lst _ p vs h l rr=>
   refine ⟨p,vs,rfl,zdh h,fun S3 s3 _=>⟨vs,zkj s3 h,?_⟩⟩
   exact (show Reps K S xs vs from ⟨l,rr⟩).grow m s3.toGrow
 ·rename_i a
  split at e
  ·rename_i ys q
   cases e
   cases r with
   | ref ha=>
    obtain ⟨vs,h1,r1⟩:=m.cell a _ q
    refine ⟨S.α a,vs,rfl,.inl (.inl h1),fun S3 s3 g=>?_⟩
    obtain ⟨vs3,h3,r3⟩:=s3.mok.cell a _ (g (a,xs) (.head _))
    rw [s3.al a ha] at h3
    exact ⟨vs3,.inl (.inl h3),r3⟩
  ·cases e
 ·cases e
noncomputable def zbT (f:Ev->Mem->Out T):Ev->Mem->Out (List T × Gd):=fun σ M=>(f σ M).bind fun t M1=>match zdE t M1 with
 | some g=>.ok g M1
 | none=>.bad
section
end
end FT
namespace L2
open PySem PySem.Spec PySem.W PyProof.Rows
def SI (b:Bool) (h:Heap) (q t:Addr) (k:Nat):Prop:=match b with
 | true=>h.IsTupleIter q t k
 | false=>h.IsListIter q t k
def SS (b:Bool) (h:Heap) (t:Addr) (xs:Array Value):Prop:=match b with
 | true=>h.IsTuple t xs
 | false=>h.IsList t xs
def SqX (K:Frag) (H:Hp) (b:Bool) (a:Addr) (xs:List V):Prop:=match b with
 | true=>SqT K H a xs
 | false=>SqL K H a xs
noncomputable abbrev TSl:=V->Option Int->Option Int->V->Hp->(Hp->Prop)->Prop
end L2
namespace FT
open PySem PySem.Spec PyProof.Rows L2
noncomputable def zbX (f:List T->Mem->Out T):List T->Mem->Out T:=fun ts M=>match f ts M with
 | .ok v M'=>@ite _ (M'.take M.length = M/\T.lt 0 v) (Classical.propDecidable _) (.ok v M) .bad
 | _=>.bad
theorem zfb (f:List T->Mem->Out T):Refines (zbX f) f:=by
 intro ts M t' M1 _ e
 unfold zbX at e
 split at e
 ·rename_i v M' q
  split at e
  ·rename_i hc
   cases e
   have hl:M.length<=M'.length:=by
    have:=congrArg List.length hc.1
    rw [length_take] at this
    omega
   exact ⟨_,_,q,Q4 _,hl,hc.1.symm,fun i c e=>.inl e,.same (hc.2.mono (Nat.zero_le _))⟩
  ·cases e
 ·cases e
theorem zfc (f:List T->Mem->Out T):∀ ts M C fs M',zbX f ts M ≠ .exn C fs M':=by
 intro ts M C fs M' e
 unfold zbX at e
 split at e
 ·split at e <;> cases e
 ·cases e
noncomputable def zra (o:Out Fl):Out T:=match o with
 | .ok (.rt t) M'=>.ok t M'
 | .ok (.nx _) M'=>.ok .non M'
 | .exn C fs M'=>.exn C fs M'
 | _=>.bad
noncomputable def y8 (p n:Nat) (g:Ev->Mem->Out Fl):List T->Mem->Out T:=fun ts M=>if ts.length = p then zra (g (startT n ts) M) else .bad
structure CalX (P:Program) (w:World) (K:Frag) (mg:Str->Option Value) (base:Heap) (k:Nat) (x:Str) (ps:List Str) (f:List T->Mem->Out T):Prop where
 ex:∃ (fa:Addr) (fd:FuncData),FnOk P w K mg base (CXX P w) k fa fd ps (spT K f)/\PySem.W.keepIn K (.ref fa) = true/\Binds K fd ps []/\mg x = some (.ref fa)
variable {X:Cx} {g:Ev->Mem->Out Fl} {K:Frag} {base:Heap} {ps:List Str} {k n p:Nat} {P:Program} {st:Stmt} {x:Str} {mg:Str->Option Value} {w:World}
section
theorem zkZ {st:List Stmt} {N:List Str} (hn:N.length = n) {E:XK} {vs:List V} {H:Hp} {Q:VK} (hX:X.K = K) (h:spT K (y8 p n g) vs H Q E) (hb:GSs X E st g) :
  ∃ t,PSs X st t/\t { nx:=fun _ H'=>Q .non H',rt:=Q } (start N vs) H:=by
 subst hX
 refine ⟨_,hb,?_⟩
 obtain ⟨S,ts,e,m,r,fin⟩:=h
 refine ⟨S,startT n ts,(),e,m,EvR.start r hn,trivial,?_⟩
 show Fin E (FlR X.K) X.K S (g (startT n ts) S.M) _
 unfold y8 at fin
 by_cases hp:ts.length = p
 ·rw [if_pos hp] at fin
  cases o:g (startT n ts) S.M with
  | bad=>rw [o] at fin;exact fin
  | exn C fs M'=>rw [o] at fin;exact fin
  | ok fl M1=>
   rw [o] at fin
   cases fl with
   | nx σ1=>
    intro S1 c e1 s1 r1
    cases r1 with
    | nx r1=>exact fin S1 .non e1 s1 .non
   | rt t=>
    intro S1 c e1 s1 r1
    cases r1 with
    | rt r1=>exact fin S1 _ e1 s1 r1
   | bk σ1=>exact fin.elim
   | ct σ1=>exact fin.elim
 ·rw [if_neg hp] at fin;exact fin.elim
theorem zmL (hp:ps.length = p):∀ vs H Q E,spT K (y8 p n g) vs H Q E->vs.length = ps.length:=by
 intro vs H Q E ⟨S,ts,e,m,r,fin⟩
 rw [← r.1,hp]
 unfold y8 at fin
 by_cases h:ts.length = p
 ·exact h
 ·rw [if_neg h] at fin;exact fin.elim
theorem zn2 {N:List Str} (D:Df K mg x st ps) (Sc:FnScope N ps (yd st)) (hp:ps.length = p) (hn:N.length = n)
 (hb:∀ (f:Addr) (cdv:Value) (A:Around) (outer:List PySem.Env) (s:Shared) (H:Hp) (E:XK),Room k (A.deeper (envOfC x (yd st) s.heap.objs.size f cdv))->GSs (zbc (CXX P w) P w K mg base N x (yd st) f cdv A outer s H E) E (zB st) g) :
  CalX P w K mg base (k + 1) x ps (y8 p n g):=by
 obtain ⟨f,fd,F,b,gg⟩:=D.ex
 obtain ⟨oc,od,kV,doc,pm,an,cdv,ct,osl,rfl,lk,hcd⟩:=F.ex
 exact ⟨⟨f,_,zmr lk hcd Sc (zmL hp) fun A outer s H vs Q E hr hsp=>zkZ hn rfl hsp (hb f cdv A outer s H E hr),F.kp,b,gg⟩⟩
end
variable {C:Addr} {cs:List Addr} {nm:Str}
section
variable {XE:XK} {i j:Nat} {y v:Str} {p pos pos2 np hp tp vp cpos:Pos} {e:Expr} {es:List Expr} {ga:Ev->Mem->Out (List T)} {F:List T->Mem->Out T} {b0:Stmt} {suite sts:List Stmt} {gs:Ev->Mem->Out Fl}
noncomputable def zfq (r:List T->Mem->Out Fl) (ga:Ev->Mem->Out (List T)):Ev->Mem->Out Fl:=fun σ M=>(ga σ M).bind fun ts M1=>r ts M1
structure XcF (P:Program) (w:World) (K:Frag) (mg:Str->Option Value) (base:Heap) (x:Str) (C:Addr):Prop where
 ex:∃ f fd,XcAt K mg x C f/\FnOk P w K mg base CX0 1 f fd ["self","at"] (fun vs H Q E=>(∃ e t v,vs = [.ref e,v]/\H e = some (.ext (ExN e C t none))/\∀ d,H d = none->d ≠ e->Q .non (upd (upd H e (.ext (ExN e C t (some d)))) d (.xd [("at",v)]))))/\Binds K fd ["self","at"] []
theorem XcF.at (O:XcF P w K mg base x C):∃ nm fI,XcAt K mg nm C fI:=let ⟨f,_,h,_⟩:=O.ex;⟨x,f,h⟩
noncomputable def zcx (C:Addr) (ts:List T) (M:Mem):Out Fl:=match ts with
 | [t]=>.exn C [("at",t)] M
 | _=>.bad
def GX (X:Cx) (sts:List Stmt) (g:Ev->Mem->Out Fl):Prop:=PX X sts fun E=>lS E X.K g
noncomputable def zln:Ev->Mem->Out Fl:=fun _ _=>.bad
noncomputable def noX (o:Out Fl):Out Fl:=match o with
 | .exn _ _ _=>.bad
 | o=>o
noncomputable def zr7 (cs:List Addr) (g gs:Ev->Mem->Out Fl):Ev->Mem->Out Fl:=fun σ M=>match g σ M with
 | .exn C _ M'=>if cs.contains C = true then noX (gs σ M') else .bad
 | o=>o
noncomputable def clr (j:Nat) (fl:Fl) (M:Mem):Out Fl:=match fl with
 | .nx σ=>.ok (.nx (σ.set j none)) M
 | .rt t=>.ok (.rt t) M
 | .bk σ=>.ok (.bk (σ.set j none)) M
 | .ct σ=>.ok (.ct (σ.set j none)) M
noncomputable def zfp (j:Nat) (cs:List Addr) (g gs:Ev->Mem->Out Fl):Ev->Mem->Out Fl:=fun σ M=>match g σ M with
 | .exn C fs M'=>if cs.contains C = true then (noX (gs (σ.set j (some (.exc C fs))) M')).bind (clr j) else .bad
 | o=>o
theorem EvR.clr {S:Sit} {στ:Ev} {σ:L2.St} (r:EvR K S στ σ) (j:Nat):EvR K S (στ.set j none) (σ.set j none):=by
 refine ⟨by simp [r.1],fun i t e=>?_⟩
 rw [Qd] at e ⊢
 by_cases h:j = i
 ·subst h
  rw [if_pos rfl] at e
  split at e <;> cases e
 ·rw [if_neg h] at e ⊢
  exact r.2 i t e
noncomputable def xat (cs:List Addr) (t:T) (M:Mem):Out T:=match t with
 | .exc C fs=>if cs.contains C = true then match fs.lookup ("at":Str) with
  | some v=>.ok v M
  | none=>.bad else .bad
 | _=>.bad
theorem zgv {K:Frag} {S:Sit} {f:Str} {t:T}:∀ {fs:List (Str × T)} {us:List (Str × V)},fs.map (·.1) = us.map (·.1)->(∀ (i:Nat) t v,(fs.map (·.2))[i]? = some t->(us.map (·.2))[i]? = some v->Rep K S t v)->fs.lookup f = some t->∃ v,us.lookup f = some v/\Rep K S t v
 | [],_,_,_,h=>by simp at h
 | (a,x) :: fs,[],l,_,_=>by simp at l
 | (a,x) :: fs,(b,y) :: us,l,r,h=>by
  simp only [map_cons,List.cons.injEq] at l
  obtain ⟨rfl,l⟩:=l
  rw [lookup_cons] at h ⊢
  by_cases hf:(f == a) = true
  ·rw [hf] at h ⊢
   cases h
   exact ⟨y,rfl,r 0 _ _ rfl rfl⟩
  ·have hf:(f == a) = false:=by simpa using hf
   rw [hf] at h ⊢
   exact zgv l (fun i t v e1 e2=>r (i + 1) t v (by simpa using e1) (by simpa using e2)) h
end
variable {N:Addr} {sl:Array (Option Value)} {es:Array DictEntry} {h:Heap} {ep:Nat}
theorem zkf (X:K.In h) {c:Value} {d:Option Addr} (l:K.lookup N = some ⟨c,d,.dict es ep,sl⟩) (sk:zdo es = true) :
  h.Ns N (h.nsMap N)/\∀ (n:Str) r,PySem.W.nsIn K N n = some r->h.nsMap N n = r:=by
 have ho:=X _ _ l
 have hi:h.isNs N = true:=by
  unfold Heap.isNs
  rw [ho]
  unfold zdo at sk
  rw [Array.all_toList] at sk
  exact sk
 refine ⟨Heap.Ns.of_isNs hi,fun n r q=>?_⟩
 obtain ⟨o,es',ep',ho',hd',_,hf⟩:=Heap.Ns.of_isNs hi
 rw [← hf n]
 rw [ho] at ho'
 cases ho'
 cases hd'
 unfold PySem.W.nsIn at q
 rw [l] at q
 dsimp only at q
 unfold nsFind findBy
 cases e:es.toList.find? (·.key.isStr n) with
 | some e'=>
  rw [e] at q
  have:es.find? (fun e=>e.key.isStr n) = some e':=by rw [← Array.find?_toList];exact e
  rw [this]
  exact Qe q
 | none=>
  rw [e] at q
  have:es.find? (fun e=>e.key.isStr n) = none:=by rw [← Array.find?_toList];exact e
  rw [this]
  dsimp only at q
  split at q
  ·cases q
  ·exact Qe q
noncomputable def zcB (K:Frag) (N:Addr) (ns:List Str):Bool:=ns.all fun n=>PySem.W.nsIn K N n == some none
variable {ns:List Str}
theorem zfy (v:∀ (n:Str) r,PySem.W.nsIn K N n = some r->h.nsMap N n = r) (e:zcB K N ns = true):∀ n ∈ ns,h.nsMap N n = none:=fun n hn=>v n none (eq_of_beq (all_eq_true.mp e n hn))
theorem zhr:zcB K N [] = true:=rfl
theorem yX {n:Str} (a:PySem.W.nsIn K N n = some none) (b:zcB K N ns = true):zcB K N (n :: ns) = true:=by unfold zcB at *;rw [all_cons,b,a];rfl
theorem zpZ (X:K.In h) (G:h.Ns mainGlobals mg) {qual q:Str} {W fI:Addr} {bs:List Value} {sn:List Str} {sub:List Value} {ab:Bool} {col:Option Bool} {dd od an:Option Addr} {k0 k1 k2 k3 k5:Option Value}
 {c1 c2 c3 kV dc pm cd ct:Value} {d1 d2 d3:Option Addr} {es':Array DictEntry} {ep':Nat} {s1 s2 s3:Array (Option Value)} {cdw:ClassData} {p1 p2 p3 p4:Pos}
 (a:PySem.W.nsIn K mainGlobals x = some (some (.ref C)))
 (l:K.lookup C = some (excClassObj nm q C N bs (.ref W :: zcd) true sn sub ab col dd k0 k1 k2 k3 k5 "ValueError.__new__"))
 (ln:K.lookup N = some ⟨c1,d1,.dict es ep,s1⟩) (sk:zdo es = true) (q0:PySem.W.nsIn K N "__init__" = some (some (.ref fI))) (n0:zcB K N xns = true)
 (lw:K.lookup W = some ⟨c2,d2,.cls cdw,s2⟩) (lwn:K.lookup cdw.ns = some ⟨c3,d3,.dict es' ep',s3⟩) (sk':zdo es' = true) (n1:zcB K cdw.ns ("__init__" :: xns) = true)
 (lf:K.lookup fI = some ⟨.type "function",od,.func (PySem.W.fnOf "__init__" qual (qW st) (zB st) (yd st) .none kV dc pm an cd ct),sl⟩) (cc:PySem.W.codeIn K cd qual = true) (kk:PySem.W.keepIn K (.ref fI) = true)
 (Sc:FnScope ["self","at"] ["self","at"] (yd st)) (hb:zB st = [.Assign [.Attribute (.Name "self" p1) "at" p2] (.Name "at" p3) p4]) (l1:(yd st).names.lookup ("self":Str) = some NameKind.local) (l2:(yd st).names.lookup ("at":Str) = some NameKind.local)
 (bd:∀ (kV doc pm:Value) (an:Option Addr) (cdv ct:Value) (us:List Value),us.length = 2->bindArgs (PySem.W.fnOf "__init__" qual (qW st) (zB st) (yd st) .none kV doc pm an cdv ct) ⟨us,[]⟩ = pure ((["self","at"]:List Str).zip us)) :
  XcF P w K mg base x (yJ K x):=by
 rw [zeu a]
 have F:=zfL (st:=st) lf cc kk
 have O:XcAt K mg x C fI:=by
  refine ⟨PySem.W.mg_of X G a,fun h' X'=>?_,_,lf,rfl⟩
  obtain ⟨hN,v1⟩:=zkf X' ln sk
  obtain ⟨hW,v2⟩:=zkf X' lwn sk'
  exact ⟨_,N,nm,q,bs,sn,sub,ab,col,dd,k0,k1,k2,k3,k5,_,X' _ _ l,hN,v1 _ _ q0,zfy v1 n0,.own (X' _ _ lw) hW (zfy v2 n1) .base⟩
 exact ⟨fI,_,O,zga O F Sc hb l1 l2,F.binds bd⟩
theorem zle {f:Addr} (O:XcAt K mg x C f):Sup K mg x C C:=⟨O.bound,fun h X=>by
 obtain ⟨bm,N,nm,q,bs,sn,sub,ab,col,dd,k0,k1,k2,k3,k5,mN,hC,_,_,_,T⟩:=O.obj h X
 exact ⟨⟨bm,N,nm,q,bs,true,sn,sub,ab,col,dd,k0,k1,k2,k3,k5,hC,(T.tail (by decide)).hasType PySem.F.excBase_ValueError.hasBase⟩,bm,N,nm,q,bs,true,sn,sub,ab,col,dd,k0,k1,k2,k3,k5,hC,by simp⟩⟩
theorem XcF.sup (O:XcF P w K mg base x C):Sup K mg x C C:=let ⟨_,_,h,_⟩:=O.ex;zle h
end FT
namespace L2
open PySem
noncomputable def subs:Nat->List (List Nat)
 | 0=>[[]]
 | n + 1=>subs n ++ (subs n).map (· ++ [n])
theorem zis:∀ (n:Nat) (ks:List Nat),ks ∈ subs n->ks.Pairwise (· < ·)/\∀ k ∈ ks,k < n
 | 0,ks,h=>by rw [show ks = [] from mem_singleton.mp h];exact ⟨.nil,fun _ h=>by cases h⟩
 | n + 1,ks,h=>by
  unfold subs at h
  rcases mem_append.mp h with h | h
  ·have:=zis n ks h
   exact ⟨this.1,fun k hk=>Nat.lt_succ_of_lt (this.2 k hk)⟩
  ·obtain ⟨l,hl,rfl⟩:=mem_map.mp h
   have:=zis n l hl
   refine ⟨List.pairwise_append.mpr ⟨this.1,List.pairwise_singleton _ _,fun a ha b hb=>by rw [mem_singleton.mp hb];exact this.2 a ha⟩,fun k hk=>?_⟩
   rcases mem_append.mp hk with hk | hk
   ·exact Nat.lt_succ_of_lt (this.2 k hk)
   ·rw [mem_singleton.mp hk];exact Nat.lt_succ_self _
noncomputable def zrv:Bool:=(subs 6).all fun ks=>(List.range 7).all fun h=>SetTable.below ks.toArray h == (ks.filter (· < h)).length
theorem zn5:zrv = true:=by decide +kernel
variable {ks:List Nat}
theorem zhV (hk:ks ∈ subs 6) {h:Nat} (hh:h < 7):SetTable.below ks.toArray h = (ks.filter (· < h)).length:=by
 have:=all_eq_true.mp (all_eq_true.mp zn5 ks hk) h (mem_range.mpr hh)
 exact eq_of_beq this
noncomputable def zo6 (mask:Nat) (hashes:Array Int):Option (List Nat × List Nat):=(SetTable.layClean mask hashes).map fun owner=>
 let live:=(List.range (mask + 1)).filterMap fun j=>(owner.getD j none).map (j,·)
 (live.map (·.1),live.map (·.2))
noncomputable def hsh (ks:List Nat):List Int:=ks.map fun k:Nat=>(k:Int)
noncomputable def layB:Bool:=(subs 6).all fun ks=>[7,15,31].all fun m=>zo6 m (hsh ks).toArray == some (ks,List.range ks.length)
theorem zno:layB = true:=by decide +kernel
theorem znr (hk:ks ∈ subs 6) {m:Nat} (hm:m ∈ [7,15,31]) (f mv:Nat) (l p:Bool) :
  SetTable.laid m f mv l p (hsh ks).toArray = some ({ mask:=m,place:=ks.toArray,dummies:=#[],finger:=f,led:=l,moves:=mv,plain:=p },(List.range ks.length).toArray):=by
 have:=eq_of_beq (all_eq_true.mp (all_eq_true.mp zno ks hk) m hm)
 unfold zo6 at this
 unfold SetTable.laid
 cases q:SetTable.layClean m (hsh ks).toArray with
 | none=>rw [q] at this;cases this
 | some owner=>
  rw [q] at this
  have h:=Prod.mk.inj (Qe this)
  show some _ = some _
  rw [h.1,h.2]
end L2
namespace L2
open PySem PySem.Spec
noncomputable def zpV (w:World):Bool:=w.params.followText "set-order"
structure DTab (w:World) (es:Array (Int × Value)) (t:SetTable) (ks:List Nat) (m:Nat):Prop where
 keys:es.toList.map (·.1) = hsh ks
 vals:∀ e ∈ es.toList,∃ tk,e.2 = .int e.1 tk
 mask:t.mask = m
 place:t.place = ks.toArray
 dumm:t.dummies = #[]
 plain:t.plain = true
 led:zpV w = true\/t.led = true
 sub:ks ∈ subs 6
 ms:m ∈ [7,15,31]
variable {es:Array (Int × Value)} {ks:List Nat} {m:Nat} {t:SetTable} {w:World}
theorem DTab.size (d:DTab w es t ks m):es.size = ks.length:=by
 have:=congrArg List.length d.keys
 unfold hsh at this
 simpa using this
theorem zha (h:ks ∈ subs 6):ks.length<=6:=by
 have:((subs 6).all fun ks=>ks.length<=6) = true:=by decide +kernel
 simpa using all_eq_true.mp this ks h
theorem DTab.fits (d:DTab w es t ks m):t.fits es.size = true:=by
 have:=zha d.sub
 have hm:=d.ms
 unfold SetTable.fits SetTable.fill
 rw [d.size,d.place,d.dumm,d.mask]
 simp at hm ⊢
 omega
variable {k:Nat}
theorem zn7 (h:k < 6):hashInt (k:Int) = k:=by
 have:((List.range 6).all fun k:Nat=>hashInt (k:Int) == (k:Int)) = true:=by decide +kernel
 exact eq_of_beq (all_eq_true.mp this k (mem_range.mpr h))
section
variable {prog:Program} {A:Around} {E:Value->Shared->Prop} {s:Shared} {a:Addr}
noncomputable def zjy (k:Nat) (ks:List Nat):List Nat:=if k ∈ ks then ks else ks.take (ks.filter (· < k)).length ++ k :: ks.drop (ks.filter (· < k)).length
theorem zlR (hk:k < 6) (h:ks ∈ subs 6):zjy k ks ∈ subs 6:=by
 have:((List.range 6).all fun k=>(subs 6).all fun ks=>(subs 6).contains (zjy k ks)) = true:=by decide +kernel
 have:=all_eq_true.mp (all_eq_true.mp this k (mem_range.mpr hk)) ks h
 simpa using this
theorem zig (hp:t.place = ks.toArray) (hd:t.dummies = #[]) (hm:k<=t.mask) (hs:k < 2 ^ 64) (hn:k ∉ ks):t.freeSlot (k:Int) = some (k,false):=by
 have hb:SetTable.bits (k:Int) = k:=by
  unfold SetTable.bits
  rw [Int.emod_eq_of_lt (by omega) (by omega)]
  rfl
 have hsl:t.slot k = .empty:=by
  unfold SetTable.slot SetTable.has
  rw [hp,hd]
  dsimp only
  rw [if_neg (by
   intro e
   have e:=eq_of_beq e
   rw [List.getElem?_toArray] at e
   exact hn (Qb e)),if_neg (by simp)]
 have hj:(t.probeStart (k:Int)).j = k/\(t.probeStart (k:Int)).dummy = none:=by
  unfold SetTable.probeStart
  rw [hb]
  exact ⟨Nat.mod_eq_of_lt (by omega),rfl⟩
 unfold SetTable.freeSlot SetTable.probe
 rw [show 10 * SetTable.turns t.mask = (10 * t.mask + 149) + 1 by unfold SetTable.turns;omega]
 unfold SetTable.probe.go
 rw [hj.1,hsl,hj.2]
 rfl
theorem DTab.ins {tk:Tok} (d:DTab w es t ks m) (hk:k < 6) (hn:k ∉ ks):DTab w (SetTable.insertAt es (t.put k).2 ((k:Int),.int (k:Int) tk)) (t.put k).1 (zjy k ks) m:=by
 have hp:(t.put k).2 = (ks.filter (· < k)).length:=by
  unfold SetTable.put
  rw [d.place]
  exact zhV d.sub (by omega)
 have hi:zjy k ks = ks.take (ks.filter (· < k)).length ++ k :: ks.drop (ks.filter (· < k)).length:=if_neg hn
 refine ⟨?_,?_,d.mask,?_,?_,d.plain,d.led,zlR hk d.sub,d.ms⟩
 ·rw [hp,SetTable.toList_insertAt,hi]
  unfold hsh
  rw [Qs,map_cons,Qs,map_cons,map_take,map_take,List.map_drop,List.map_drop]
  have:=d.keys
  unfold hsh at this
  rw [this]
 ·intro e he
  rw [SetTable.toList_insertAt] at he
  rcases mem_append.mp he with he | he
  ·exact d.vals e (List.mem_of_mem_take he)
  ·rcases mem_cons.mp he with rfl | he
   ·exact ⟨tk,rfl⟩
   ·exact d.vals e (List.mem_of_mem_drop he)
 ·show SetTable.insertAt t.place (SetTable.below t.place k) k = _
  rw [d.place,zhV d.sub (by omega),hi]
  apply Array.toList_inj.mp
  rw [SetTable.toList_insertAt]
 ·show (if SetTable.has t.dummies k then _ else t.dummies) = #[]
  rw [d.dumm]
  rfl
theorem DTab.lay {tk:Tok} (d:DTab w es t ks m) (hk:k < 6) (hn:k ∉ ks):layNew t es (k:Int) (.int (k:Int) tk) = (SetTable.insertAt es (t.put k).2 ((k:Int),.int (k:Int) tk),(t.put k).1,false,false):=by
 have hm:=d.ms
 have hf:=(d.ins (tk:=tk) hk hn).fits
 unfold layNew
 rw [zig d.place d.dumm (by rw [d.mask];simp at hm;omega) (by omega) hn]
 dsimp only
 unfold SetTable.orStandIn
 rw [if_pos hf,hf]
 rfl
theorem DTab.full (d:DTab w es t ks m):∃ t' m',relayAll t es (SetTable.grown es.size) = (es,t',false)/\DTab w es t' ks m':=by
 have h6:=zha d.sub
 have hw:∀ n,n<=6->SetTable.sizeAbove (SetTable.grown n) - 1 ∈ [7,15,31]:=by decide +kernel
 have hms:=hw _ h6
 have e1:es.map (·.1) = (hsh ks).toArray:=by
  rw [← d.keys]
  apply Array.toList_inj.mp
  rw [Array.toList_map]
 have e3:Array.filterMap (fun x=>es[x]?) (List.range ks.length).toArray = es:=by
  apply Array.toList_inj.mp
  rw [← d.size]
  simpa using filterMap_getElem?_range es
 have hc:∀ n,n<=6->coversAll (List.range n).toArray n = true:=by decide +kernel
 have d':DTab w es { mask:=SetTable.sizeAbove (SetTable.grown es.size) - 1,place:=ks.toArray,dummies:=#[],finger:=t.finger,led:=t.led,moves:=t.movedTo (SetTable.sizeAbove (SetTable.grown es.size) - 1),plain:=t.plain } ks (SetTable.sizeAbove (SetTable.grown es.size) - 1):=⟨d.keys,d.vals,rfl,rfl,rfl,d.plain,d.led,d.sub,by rw [d.size];exact hms⟩
 refine ⟨_,_,?_,d'⟩
 unfold relayAll SetTable.relaid
 rw [e1,znr d.sub (by rw [d.size];exact hms)]
 dsimp only
 rw [e3,d'.fits,d.size,hc _ h6]
 rfl
end
end L2
namespace L2
open PySem PySem.Spec PyProof.Rows
section
variable {prog:Program} {w:World} {A:Around} {E:Value->Shared->Prop} {s:Shared} {a:Addr} {ks:List Nat} {m:Nat}
structure DictN (prog:Program) (w:World) (h:Heap) (d:Addr) (ns:List Nat) (od:Obj) (es:Array DictEntry) (ep:Nat):Prop where
 at_:h.get? d = some od
 exact_:od.ExactDict
 data:od.data = .dict es ep
 size:es.size = ns.length
 keys:∀ (i:Nat) n,ns[i]? = some n->∃ e tk,es[i]? = some e/\e.key = .int (n:Int) tk/\e.hash = (n:Int)
 small:∀ n ∈ ns,n < 6
end
end L2
namespace FT
open PySem PySem.Spec PyProof.Rows L2
noncomputable def zgh (f:List T->Mem->Out T):List T->Mem->Out T:=fun ts M=>match f ts M with
 | .ok (.ref a) M'=>match M'[a]? with
  | some (.lst xs)=>@ite _ (M'.take M.length = M/\M.length<=a/\∀ x ∈ xs,T.lt 0 x) (Classical.propDecidable _) (.ok (.lst xs) M) .bad
  | _=>.bad
 | _=>.bad
theorem znU (f:List T->Mem->Out T):Refines (zgh f) f:=by
 intro ts M t' M1 _ e
 unfold zgh at e
 split at e
 ·rename_i a M' q
  split at e
  ·rename_i xs qa
   split at e
   ·rename_i hc
    cases e
    have hl:M.length<=M'.length:=by
     have:=congrArg List.length hc.1
     rw [length_take] at this
     omega
    refine ⟨_,_,q,Q4 _,hl,hc.1.symm,fun i c e=>.inl e,.ref qa hc.2.1 rfl fun i t u e1 e2=>?_⟩
    rw [e1] at e2
    cases e2
    exact .same ((hc.2.2 t (Qb e1)).mono (Nat.zero_le _))
   ·cases e
  ·cases e
 ·cases e
theorem znV (f:List T->Mem->Out T):∀ ts M C fs M',zgh f ts M ≠ .exn C fs M':=by
 intro ts M C fs M' e
 unfold zgh at e
 split at e
 ·split at e
  ·split at e <;> cases e
  ·cases e
 ·cases e
variable {K:Frag} {base:Heap} {N ps:List Str} {k:Nat} {P:Program} {st:Stmt} {x:Str} {mg:Str->Option Value} {w:World}
section
theorem Refines.bad (g:List T->Mem->Out T):Refines (fun _ _=>.bad) g:=fun _ _ _ _ _ e=>by cases e
theorem CalT.bad (D:Df K mg x st ps) (Sc:FnScope N ps (yd st)):CalT P w K mg base (k + 1) x ps (fun _ _=>.bad):=
 CalT.refine (g:=qh ps.length N.length (fun _ _=>.bad)) (zkY D Sc rfl rfl fun f cdv A outer s H E hr=>fun _ _ _ _ _ _ ⟨_,_,_,_,_,_,_,fin⟩=>fin.elim) (Refines.bad _) (fun _ _ _ _ _ z=>by cases z)
end
def KTu (K:Frag) (a:Addr) (xs:List V):Prop:=∃ (o:Obj) (its:Array Value) (n:Nat),K.lookup a = some o/\o.cls = .type "tuple"/\o.dict = none/\o.data = .seq its n/\its.size<=sizeLine/\Vals xs its.toList
variable {n:Nat}
theorem zpa {a:Addr} {t:Tok} {sl:Array (Option Value)} (h:K.lookup a = some ⟨.type "tuple",none,.seq #[.str x t] n,sl⟩):KTu K a [.str x]:=
 ⟨_,_,n,h,rfl,rfl,rfl,(by rw [sizeLine_eq];exact Nat.le_of_ble_eq_true rfl),.cons ⟨t,rfl⟩ .nil⟩
noncomputable def zfr (Cs:List Addr) (f:Str) (fo:Ev->Mem->Out T) (n:Int):Ev->Mem->Out Fl:=fun σ M=>(fo σ M).bind fun x M1=>(zaq Cs f x M1).bind fun v M2=>(zc6 v (.int n) M2).bind fun z M3=>(zav Cs f x z M3).bind fun _ M4=>.ok (.nx σ) M4
noncomputable def ze8:T->List T->Mem->Out T:=fun x ts M=>match x,ts with
 | .ref a,[.lst ys]=>match M[a]? with
  | some (.lst xs)=>if xs.length + ys.length < 1000000 then .ok .non (M.set a (.lst (xs ++ ys))) else .bad
  | _=>.bad
 | .ref a,[.ref b]=>match M[a]?,M[b]? with
  | some (.lst xs),some (.lst ys)=>if xs.length + ys.length < 1000000 then .ok .non (M.set a (.lst (xs ++ ys))) else .bad
  | _,_=>.bad
 | _,_=>.bad
noncomputable def zgb (x:T):List T->Nat->Option Nat
 | [],_=>none
 | y :: ys,n=>if eqS y x = true then some n else zgb x ys (n + 1)
noncomputable def zgd:T->List T->Mem->Out T:=fun x ts M=>match ts with
 | [y]=>match zy x M with
  | some xs=>if (zbm y && xs.all zbm) = true then (match zgb y xs 0 with
   | some n=>.ok (.int (n:Int)) M
   | none=>.bad) else .bad
  | none=>.bad
 | _=>.bad
theorem zgz {x:T}:∀ {ys:List T} {k n:Nat},zgb x ys k = some n->k<=n/\n - k < ys.length/\(∀ y,ys[n - k]? = some y->eqS y x = true)/\∀ (m:Nat) y,m < n - k->ys[m]? = some y->eqS y x = false
 | [],k,n,h=>by cases h
 | y :: ys,k,n,h=>by
  unfold zgb at h
  split at h
  ·rename_i e
   cases h
   refine ⟨Q4 _,by simp,fun z hz=>?_,fun m z hm=>absurd hm (by omega)⟩
   simp at hz
   rw [← hz];exact e
  ·rename_i e
   obtain ⟨h1,h2,h3,h4⟩:=zgz h
   refine ⟨by omega,by rw [Qq];omega,fun z hz=>?_,fun m z hm hz=>?_⟩
   ·rw [show n - k = n - (k + 1) + 1 by omega,getElem?_cons_succ] at hz
    exact h3 z hz
   ·cases m with
    | zero=>simp at hz;rw [← hz];simpa using e
    | succ m=>rw [getElem?_cons_succ] at hz;exact h4 m z (by omega) hz
variable {X:Cx} {fo:Ev->Mem->Out T} {Cs:List Addr} {ss:List Str} {cpos pos tpos:Pos} {XE:XK}
section
variable {f:Str}
theorem zoZ (hu:X.A.units + 64 < cLine):MtR X "list.index" (lMt XE X.K zgd):=by
 intro pins s σ H x xs v us Q I rx rs ⟨S,⟨tx,ts⟩,e,m,⟨r1,r2⟩,fin⟩
 subst e
 replace r1:Rep X.K S tx x:=r1
 replace r2:Reps X.K S ts xs:=r2
 replace fin:Fin XE (Rep X.K) X.K S (zgd tx ts S.M) Q:=fin
 unfold zgd at fin
 split at fin
 ·rename_i y
  split at fin
  ·rename_i ys q
   split at fin
   ·rename_i hs
    split at fin
    ·rename_i n hn
     rw [Qu] at hs
     obtain ⟨p,vs,rfl,hq,rs'⟩:=zz m r1 q
     obtain ⟨w1,ws,rfl,h1,h2⟩:=r2.consT
     cases h2.nilT
     cases rs with | cons a1 a2=>
     cases a2
     cases rx
     obtain ⟨its,rv,pl,hz⟩:=I.list hq
     obtain ⟨i1,i2,i3,i4⟩:=zgz hn
     rw [Nat.sub_zero] at i2 i3 i4
     obtain ⟨b1,b2⟩:=zmv h1 hs.1 rs' hs.2
     have fx:=yR h1 hs.1
     have hlen:=rv.length
     have hys:=rs'.1
     have val:∀ (k:Nat) (hk:k < its.length),∃ y',ys[k]? = some y'/\eqU w1 its[k] = eqS y' y:=fun k hk=>by
      obtain ⟨y',hy'⟩:∃ y',ys[k]? = some y':=⟨ys[k],Q0 (by omega)⟩
      obtain ⟨v',hv',rv'⟩:=rs'.get hy'
      obtain ⟨u',hu',ru'⟩:=rv.get hv'
      rw [Q0 hk] at hu'
      cases hu'
      have sy:zbm y' = true:=all_eq_true.mp hs.2 y' (Qb hy')
      exact ⟨y',hy',by rw [zkF ru' (yR rv' sy),zeq rv' h1 sy hs.1]⟩
     obtain ⟨o,c,ho,hcl,hdi,hda⟩:=pl
     obtain ⟨cls,dict,data,slots⟩:=o
     dsimp only at hcl hdi hda
     subst hcl;subst hdi;subst hda
     have hnl:n < its.length:=by omega
     refine call_meets PySem.F.slot_list_index ⟨_,ho,rfl⟩ PySem.F.entry_list_index (PySem.F.args_list_index_2 _ _) (SeqAt.list_indexAt p its.toArray c none slots _ (eqU w1) n (by simpa using hnl) (by have:=zb1;rw [hlen] at hz;omega) ?_ ?_) ⟨ho,fun w hw=>zhw a1 fx rv b1 w (by simpa using hw),⟨.int (n:Int),S.H,I.tok _,⟨_,rfl⟩,fin S _ rfl (.refl m) (.int _)⟩⟩
     ·obtain ⟨y',hy',e'⟩:=val n hnl
      simp only [getElem_toArray]
      rw [e'];exact i3 y' hy'
     ·intro k hk hk2
      have hk':k < its.length:=by simpa using hk
      obtain ⟨y',hy',e'⟩:=val k hk'
      simp only [getElem_toArray]
      rw [e'];exact i4 k y' hk2 hy'
    ·exact fin.elim
   ·exact fin.elim
  ·exact fin.elim
 ·exact fin.elim
end
theorem zkn (l:Addr) (items:Array Value) (n:Nat) (b:Addr) (items2:Array Value) (n2:Nat) (dd:Option Addr) (sl:Array (Option Value)) (hc0:¬(!items.isEmpty && Builtin.List.listTooLong (items.size + items2.size)) = true) (hc1:items.size<=sizeLine) (hs2:items.size + items2.size<=sizeLine + 1) :
  Meets (Builtin.«list.extend» ⟨[.ref l,.ref b],[]⟩) (fun _ R s=>s.heap.get? l = some { cls:=.type "list",dict:=none,data:=.seq items n,slots:=#[] }/\s.heap.get? b = some { cls:=.type "list",dict:=dd,data:=.seq items2 n2,slots:=sl }/\R (.ok (.ret Value.none)) { s with heap:=s.heap.update l (Obj.mapSeq fun x=>x ++ items2),toks:=s.toks }):=
 .of_wp fun prog w A R s h=>by
  obtain ⟨hp,g,d,tk,os⟩:=s;obtain ⟨hl,hb,h⟩:=h;have f1:=AutoSeq1.idx_int;have f2:=AutoSeq1.sub_tuple_tuple;have f3:=AutoSeq1.sub_list_list;have f4:=AutoSeq1.sub_tuple_list;have f5:=AutoSeq1.sub_list_tuple
  have hz':(items ++ items2).size<=sizeLine + 1:=by rw [Array.size_append];exact hs2
  wp_walk using (wpAny_updateSeq hl rfl (hz:=hc1) (_hz':=hz')),AutoSeq1.wpAny_loadPart' hl,AutoSeq1.wpAny_loadPart' hb;exact ⟨_,rfl,h⟩
section
noncomputable def zqf (K:Frag):V->List V->Hp->VK->Prop:=fun x vs H Q=>∃ l b xs zs,x = .ref l/\vs = [.ref b]/\H l = some (.lst xs)/\SqL K H b zs/\xs.length + zs.length<=sizeLine/\Q .non (upd H l (.lst (xs ++ zs)))
theorem ziG:MtM X "list.extend" (zqf X.K):=by
 intro pins s σ H x vs v us Q I rx rv h
 obtain ⟨l,b,xs,zs,rfl,rfl,hH,hB,hz,q⟩:=h
 cases rx
 obtain ⟨u,rfl,ru⟩:=rv.one
 cases ru
 obtain ⟨z,its,n,r,hl,e⟩:=I.lstM hH
 obtain ⟨its2,r2,pl2,z2⟩:=I.list hB
 obtain ⟨⟨cls2,dd2,data2,sl2⟩,n2,ho2,hc2,hdi2,hd2⟩:=pl2
 simp only at hc2 hd2
 subst hc2 hd2
 have hl2:=r2.length
 have hsz:its.toArray.size + its2.toArray.size<=sizeLine:=by rw [Qj,Qj];omega
 have hlong:¬ (!its.toArray.isEmpty && Builtin.List.listTooLong (its.toArray.size + its2.toArray.size)) = true:=by
  rw [zlE hsz,Bool.and_false]
  exact Q5
 refine call_meets F.slot_list_extend ⟨_,e,rfl⟩ F.entry_list_extend (F.args_list_extend_2 _ _)
  (zkn l its.toArray n b its2.toArray n2 dd2 sl2 hlong (by rw [Qj];omega) (by omega)) ⟨e,ho2,?_⟩
 refine ⟨.non,_,I.lset (its':=its ++ its2) hH e (by simp) (r.append r2) ?_,rfl,q⟩
 rw [Qo]
 omega
theorem znk:MtR X "list.extend" (lMt XE X.K ze8):=by
 intro pins s σ H x xs v us Q I rx rs ⟨S,⟨tx,ts⟩,e,m,⟨r1,r2⟩,fin⟩
 subst e
 replace r1:Rep X.K S tx x:=r1
 replace r2:Reps X.K S ts xs:=r2
 replace fin:Fin XE (Rep X.K) X.K S (ze8 tx ts S.M) Q:=fin
 have hsl:(1000000:Nat)<=sizeLine:=by rw [sizeLine_eq];exact Nat.le_of_ble_eq_true rfl
 unfold ze8 at fin
 split at fin
 ·rename_i a ys
  split at fin
  ·rename_i xs0 q
   split at fin
   ·rename_i hlt
    cases r1 with
    | ref ha=>
    obtain ⟨w1,ws,rfl,h1,h2⟩:=r2.consT
    cases h2.nilT
    obtain ⟨us4,h4,rr⟩:=m.cell _ _ q
    cases h1 with
    | @lst _ p vs h l r=>
    have rr2:Reps X.K S ys vs:=⟨l,r⟩
    have st:=zek m q (rr.app rr2)
    refine ziG pins s σ S.H (.ref (S.α a)) [.ref p] v us Q I rx rs ⟨S.α a,p,us4,vs,rfl,rfl,h4,zdh h,by rw [← rr.1,← l];omega,?_⟩
    exact fin (S.put a (.lst (us4 ++ vs)) (.lst (xs0 ++ ys))) .non rfl st .non
   ·exact fin.elim
  ·exact fin.elim
 ·rename_i a b
  split at fin
  ·rename_i xs0 ys q qb
   split at fin
   ·rename_i hlt
    cases r1 with
    | ref ha=>
    obtain ⟨w1,ws,rfl,h1,h2⟩:=r2.consT
    cases h2.nilT
    obtain ⟨us4,h4,rr⟩:=m.cell _ _ q
    obtain ⟨us5,h5,rr5⟩:=m.cell _ _ qb
    cases h1 with
    | ref hb=>
    have st:=zek m q (rr.app rr5)
    refine ziG pins s σ S.H (.ref (S.α a)) [.ref (S.α b)] v us Q I rx rs ⟨S.α a,S.α b,us4,us5,rfl,rfl,h4,.inl (.inl h5),by rw [← rr.1,← rr5.1];omega,?_⟩
    exact fin (S.put a (.lst (us4 ++ us5)) (.lst (xs0 ++ ys))) .non rfl st .non
   ·exact fin.elim
  ·exact fin.elim
 ·exact fin.elim
end
structure WE (X:Cx) (XE:XK) (e:Expr) (f:Ev->Mem->Out T):Prop where
 pe:GE X XE e f
structure WT (X:Cx) (XE:XK) (e:Expr) (f:Ev->Mem->Out Bool):Prop where
 pe:GT X XE e f
structure WW (X:Cx) (XE:XK) (e:Expr) (f:Ev->Mem->Out Bool):Prop where
 pe:GW X XE e f
structure WA (X:Cx) (XE:XK) (e:List Expr) (f:Ev->Mem->Out (List T)):Prop where
 pe:GA X XE e f
structure WSs (X:Cx) (XE:XK) (e:List Stmt) (f:Ev->Mem->Out Fl):Prop where
 pe:GSs X XE e f
structure WS (X:Cx) (XE:XK) (e:Stmt) (f:Ev->Mem->Out Fl):Prop where
 pe:GS X XE e f
structure WL (X:Cx) (XE:XK) (e:Expr) (f:Ev->Mem->Out (List T)):Prop where
 pe:GL X XE e f
structure WGs (X:Cx) (XE:XK) (e:List Expr) (f:List T->Ev->Mem->Out Ev):Prop where
 pe:GGs X XE e f
structure WG (X:Cx) (XE:XK) (e:Expr) (f:T->Ev->Mem->Out Ev):Prop where
 pe:GG X XE e f
structure WO (X:Cx) (XE:XK) (e:Option Expr) (f:Ev->Mem->Out (Option Int)):Prop where
 pe:GO X XE e f
structure WI (X:Cx) (XE:XK) (tg iter:Expr) (f:Ev->Mem->Out (List T)):Prop where
 pe:GI X XE tg iter f
structure WX (X:Cx) (e:List Stmt) (f:Ev->Mem->Out Fl):Prop where
 pe:GX X e f
structure WIG (X:Cx) (XE:XK) (tg iter:Expr) (f:Ev->Mem->Out (List T × Gd)):Prop where
 pe:GIG X XE tg iter f
variable {op:CmpOp} {ga:Ev->Mem->Out (List T)} {tf:Ev->Mem->Out Bool} {f g h:Ev->Mem->Out T} {e:Expr} {es:List Expr} {i:Nat} {o:T->T->Mem->Out T}
section
variable {a b c:Expr}
theorem za (h:PE X e (zje i)):WE X XE e (zb i):=⟨PE.imp h fun σ H Q h9=>by
 obtain ⟨S,στ,_,e,m,ev,_,fin⟩:=h9
 replace fin:Fin XE (Rep X.K) X.K S (zb i στ S.M) Q:=fin
 unfold zb at fin
 cases q:στ[i]? with
 | none=>rw [q] at fin;exact fin.elim
 | some o=>
  cases o with
  | none=>rw [q] at fin;exact fin.elim
  | some t=>
   rw [q] at fin
   obtain ⟨v,e2,r⟩:=ev.2 i t q
   exact ⟨v,e2,by rw [← e];exact fin S v rfl (.refl m) r⟩⟩
theorem yc {i j}:WE X XE (.Constant (.int i) j pos) (eC (.int i)):=⟨zbK zka fun _=>.int _⟩
theorem zaV {i j}:WE X XE (.Constant (.bool i) j pos) (eC (.bl i)):=⟨zbK zqp fun _=>.bl _⟩
theorem y6 {j}:WE X XE (.Constant .none j pos) (eC .non):=⟨zbK zoM fun _=>.non⟩
theorem yj {i j}:WE X XE (.Constant (.str i) j pos) (eC (.str i)):=⟨zbK zoJ fun _=>.str _⟩
theorem zeR {n:String} (hg:Gl X x) (hm:X.mg x = none) (hv:bootBuiltins x = some (.type n)) (hn:x ≠ "__name__":=by decide) (hd:(x == ("__debug__":Str)) = false:=by decide):WE X XE (.Name x pos) (eC (.ty n)):=⟨zbK (zm7 (v:=.ty n) hg hm hv rfl hn hd) fun _=>.ty _⟩
theorem yk {op:Operator} (ho:OpR X (binaryOp op) (lR2 XE X.K o)) (ha:WE X XE a f) (hb:WE X XE b g):WE X XE (.BinOp a op b pos) (eOp o f g):=by
 have ha:=ha.pe
 have hb:=hb.pe
 exact ⟨PE.imp (zml ho ha hb) fun _ _ _ h=>zg0 h⟩
theorem zbd (ho:OpR X (compareOp op) (lR2 XE X.K o)) (ha:WE X XE a f) (hb:WE X XE b g) (hm:behindInMarks op b = false):WE X XE (.Compare a [op] [b] pos) (eOp o f g):=by
 have ha:=ha.pe
 have hb:=hb.pe
 exact ⟨PE.imp (zm6 ho ha hb hm) fun _ _ _ h=>zg0 h⟩
theorem zoc {op:UnaryOp} {o:T->Mem->Out T} (ho:L2.UnR X (unaryOp op) (lR1 XE X.K o)) (ha:WE X XE a f):WE X XE (.UnaryOp op a pos) (eUn o f):=by
 have ha:=ha.pe
 exact ⟨PE.imp (zqm ho ha) fun σ H Q h=>
  LN.mono (LN.bind (f:=fun _ σ M=>f σ M) (k:=fun _ x σ M1=>o x M1) (RB:=Rep X.K) h) fun v H1 h2=>by
   obtain ⟨S,στ,a,e,m,ev,ra,fin⟩:=h2
   exact ⟨S,a.2,e,m,ra.2,fin⟩⟩
theorem ze (ho:IxR X (lR2 XE X.K o)) (ha:WE X XE a f) (hb:WE X XE b g) (hs:zgn b):WE X XE (.Subscript a b pos) (eOp o f g):=by
 have ha:=ha.pe
 have hb:=hb.pe
 exact ⟨PE.imp (zqo ho ha hb hs) fun _ _ _ h=>zg0 h⟩
theorem zW (ha:WE X XE e f) (he:∀ whole,isTrue e X.env whole = (do let v ← whole;standAt e.pos;holding [v] (truthy v)):=by intro _;rfl):WT X XE e (zr f):=by
 have ha:=ha.pe
 exact ⟨PT.imp (zox ha he) fun σ H Q h=>
  LN.mono (LN.bind (f:=fun _ σ M=>f σ M) (k:=fun _ x σ M1=>blT x M1 fun b M2=>.ok b M2) (RB:=Rep X.K) h) fun v H1 h2=>by
   obtain ⟨S,στ,a,e,m,ev,ra,fin⟩:=h2
   obtain ⟨b,e1,_,fin⟩:=zgZ ra.2 fin
   exact ⟨b,e1,by rw [← e];exact fin S b rfl (.refl m) rfl⟩⟩
theorem qo (ho:OpR X (compareOp op) (lR2 XE X.K o)) (ha:WE X XE a f) (hb:WE X XE b g) (hm:behindInMarks op b = false):WT X XE (.Compare a [op] [b] pos) (zr (eOp o f g)):=by
 have ha:=ha.pe
 have hb:=hb.pe
 exact ⟨PT.imp (zmW ho ha hb hm) fun σ H Q h=>by
  have h1:=LN.bind (f:=fun _ σ M=>eOp o f g σ M) (k:=fun _ x σ M1=>blT x M1 fun b M2=>.ok b M2) (RB:=Rep X.K) h
  refine zg0 (LN.mono h1 fun v H1 h2=>?_)
  obtain ⟨S,στ,a,e,m,ev,ra,fin⟩:=h2
  obtain ⟨b,e1,_,fin⟩:=zgZ ra.2 fin
  exact ⟨b,e1,by rw [← e];exact fin S b rfl (.refl m) rfl⟩⟩
variable {tg:Ev->Mem->Out Bool} {rest:List Expr}
theorem zau (ha:WT X XE a tf):WW X XE (.BoolOp .And [a] pos) tf:=by
 have ha:=ha.pe
 exact ⟨zmT ha⟩
theorem zck (ha:WT X XE a tf):WW X XE (.BoolOp .Or [a] pos) tf:=by
 have ha:=ha.pe
 exact ⟨zov ha⟩
theorem zaG (ha:WT X XE a tf) (hb:WW X XE (.BoolOp .And (b :: rest) pos) tg):WW X XE (.BoolOp .And (a :: b :: rest) pos) (zbl tf tg):=by
 have ha:=ha.pe
 have hb:=hb.pe
 exact ⟨PW.imp (zow ha hb) fun σ H Q h=>
  LN.mono (tif (tf:=tf) (tg:=tg) (p:=fun c σ M1=>if c = true then tg σ M1 else .ok false M1) h) fun c H1 h1=>by
   cases c with
   | true=>exact (if_pos rfl).mpr h1
   | false=>exact (if_neg Q5).mpr (zgV h1)⟩
theorem zbY (ha:WT X XE a tf) (hb:WW X XE (.BoolOp .Or (b :: rest) pos) tg):WW X XE (.BoolOp .Or (a :: b :: rest) pos) (zcq tf tg):=by
 have ha:=ha.pe
 have hb:=hb.pe
 exact ⟨PW.imp (zqj ha hb) fun σ H Q h=>
  LN.mono (tif (tf:=tf) (tg:=tg) (p:=fun c σ M1=>if c = true then .ok true M1 else tg σ M1) h) fun c H1 h1=>by
   cases c with
   | true=>exact (if_pos rfl).mpr (zgV h1)
   | false=>exact (if_neg Q5).mpr h1⟩
theorem WW.gt (h:WW X XE e tf):WT X XE e tf:=⟨GW.gt h.pe⟩
theorem zcl (ha:WT X XE a tf):WT X XE (.UnaryOp .Not a pos) (zcM tf):=by
 have ha:=ha.pe
 exact ⟨PT.imp (zoy ha) fun σ H Q h=>
  LN.mono (tif (tf:=tf) (tg:=tf) (p:=fun c σ M1=>.ok (!c) M1) h) fun c H1 h1=>zgV h1⟩
theorem zef {op} (h:WE X XE a f):WE X XE (.BoolOp op [a] pos) f:=by
 have h:=h.pe
 exact ⟨zoK h⟩
theorem zin (ha:WE X XE a f) (hb:WE X XE (.BoolOp .And (b :: rest) pos) g):WE X XE (.BoolOp .And (a :: b :: rest) pos) (zjE f g):=by
 have ha:=ha.pe
 have hb:=hb.pe
 exact ⟨PE.imp (zoQ ha hb) fun σ H Q h=>
  LN.mono (eif (f:=f) (p:=fun b σ M2=>if b = true then g σ M2 else .ok (.bl false) M2) h) fun x H1 ⟨c,e,h1⟩=>⟨c,e,by
   cases c with
   | true=>exact (if_pos rfl).mpr h1
   | false=>exact (if_neg Q5).mpr (zjx h1 fun _=>.bl _)⟩⟩
theorem zjQ (ha:WE X XE a f) (hb:WE X XE (.BoolOp .Or (b :: rest) pos) g):WE X XE (.BoolOp .Or (a :: b :: rest) pos) (eOr f g):=by
 have ha:=ha.pe
 have hb:=hb.pe
 exact ⟨PE.imp (zqn ha hb) fun σ H Q h=>
  LN.mono (eif (f:=f) (p:=fun b σ M2=>if b = true then .ok (.bl true) M2 else g σ M2) h) fun x H1 ⟨c,e,h1⟩=>⟨c,e,by
   cases c with
   | true=>exact (if_pos rfl).mpr (zjx h1 fun _=>.bl _)
   | false=>exact (if_neg Q5).mpr h1⟩⟩
theorem zim (ha:WE X XE a f):WE X XE (.UnaryOp .Not a pos) (zjD f):=by
 have ha:=ha.pe
 exact ⟨PE.imp (zoL ha) fun σ H Q h=>
  LN.mono (eif (f:=f) (p:=fun b σ M2=>.ok (.bl (!b)) M2) h) fun x H1 ⟨c,e,h1⟩=>⟨c,e,zjx h1 fun _=>.bl _⟩⟩
theorem zod (hc:WT X XE c tf) (ha:WE X XE a f) (hb:WE X XE b g):WE X XE (.IfExp c a b pos) (eIf tf f g):=by
 have hc:=hc.pe
 have ha:=ha.pe
 have hb:=hb.pe
 exact ⟨PE.imp (zlz hc ha hb) fun σ H Q h=>
  LN.mono (LN.bind (f:=fun _ σ M=>tf σ M) (k:=fun _ c σ M1=>if c = true then f σ M1 else g σ M1) (RB:=EqR) h) fun c H1 h2=>by
   obtain ⟨S,στ,a,e,m,ev,ra,fin⟩:=h2
   have:a.2 = c:=ra.2
   subst this
   replace fin:Fin XE (Rep X.K) X.K S (if a.2 = true then f στ S.M else g στ S.M) Q:=fin
   cases q:a.2 with
   | true=>exact (if_pos rfl).mpr ⟨S,στ,(),e,m,ev,trivial,by rw [q] at fin;exact fin⟩
   | false=>exact (if_neg Q5).mpr ⟨S,στ,(),e,m,ev,trivial,by rw [q] at fin;exact fin⟩⟩
theorem zc :WA X XE [] zd:=⟨PA.imp zoR fun σ H Q h9=>by
 obtain ⟨S,στ,_,e,m,ev,_,fin⟩:=h9
 show Q [] H
 rw [← e];exact fin S [] rfl (.refl m) .nil⟩
theorem ya (ha:WE X XE e f) (hr:WA X XE es ga) (hs:noStar e = true:=by rfl):WA X XE (e :: es) (yb f ga):=by
 have ha:=ha.pe
 have hr:=hr.pe
 exact ⟨PA.imp (zm9 ha hr (zX hs)) fun σ H Q h=>
  LN.mono (LN.bind (f:=fun _ σ M=>f σ M) (k:=fun _ x σ M1=>(ga σ M1).bind fun xs M2=>.ok (x :: xs) M2) (RB:=Rep X.K) h) fun v H1 h1=>
   LN.mono (LN.env (f:=ga) (LN.bind (f:=fun _ σ M=>ga σ M) (k:=fun (ax:Unit × T) ys σ M2=>.ok (ax.2 :: ys) M2) (RB:=Reps X.K) h1)) fun w H2 h2=>by
    obtain ⟨S,στ,a,e,m,ev,ra,fin⟩:=h2
    show Q (v :: w) H2
    rw [← e]
    exact fin S _ rfl (.refl m) (Reps.cons ra.1.2 ra.2)⟩
theorem ym {x1} (h:WA X XE es ga):WE X XE (.Tuple es x1 pos) (yw ga):=by
 have h:=h.pe
 exact ⟨PE.imp (zoI h) fun σ H Q h=>
  LN.mono (LN.bind (f:=fun _ σ M=>ga σ M) (k:=fun _ xs σ M1=>if xs.length<=sizeLine then .ok (T.tup xs) M1 else .bad) (RB:=Reps X.K) h) fun v H1 h2=>by
   obtain ⟨S,στ,a,e,m,ev,ra,fin⟩:=h2
   by_cases hl:a.2.length<=sizeLine
   ·replace fin:Fin XE (Rep X.K) X.K S (if a.2.length<=sizeLine then .ok (.tup a.2) S.M else .bad) Q:=fin
    rw [if_pos hl] at fin
    refine ⟨by rw [← ra.2.1];exact hl,fun p hp=>?_⟩
    subst e
    have s:=Stp.new m hp (.tup v)
    exact fin ⟨S.α,S.M,upd S.H p (.tup v),S.hid⟩ (.ref p) rfl s (.tup (.inl (.inl yt)) ra.2.1 (ra.2.grow m s.toGrow).2)
   ·replace fin:Fin XE (Rep X.K) X.K S (if a.2.length<=sizeLine then .ok (.tup a.2) S.M else .bad) Q:=fin
    rw [if_neg hl] at fin
    exact fin.elim⟩
theorem qK (h:WA X XE es ga):WL X XE (.List es pos) (yK ga):=by
 have h:=h.pe
 exact ⟨PE.imp (zoN h) fun σ H Q h9=>by
  obtain ⟨S,στ,e,m,ev,fin⟩:=h9
  replace fin:FinL XE X.K S ((ga στ S.M).bind fun xs M1=>if xs.length<=sizeLine then .ok xs M1 else .bad) Q:=fin
  refine ⟨S,στ,(),e,m,ev,trivial,?_⟩
  show Fin XE (Reps X.K) X.K S (ga στ S.M) _
  cases q:ga στ S.M with
  | bad=>rw [q] at fin;exact fin
  | exn C fs M'=>rw [q] at fin;exact fin
  | ok xs M1=>
   rw [q] at fin
   intro S1 vs e1 s1 r1
   by_cases hl:xs.length<=sizeLine
   ·replace fin:FinL XE X.K S (if xs.length<=sizeLine then .ok xs M1 else .bad) Q:=fin
    rw [if_pos hl] at fin
    refine ⟨by rw [← r1.1];exact hl,fun p hp=>?_⟩
    have s2:=Stp.hide s1.mok hp vs
    exact (fin.later s1) (S1.hide p vs) p vs e1 s2 hp (.head _) yt (r1.grow s1.mok s2.toGrow)
   ·replace fin:FinL XE X.K S (if xs.length<=sizeLine then .ok xs M1 else .bad) Q:=fin
    rw [if_neg hl] at fin
    exact fin.elim⟩
theorem yP (h:WL X XE e ga):WE X XE e (eFz ga):=by
 have h:=h.pe
 exact ⟨PE.imp h fun σ H Q ⟨S,στ,_,e,m,ev,_,fin⟩=>⟨S,στ,e,m,ev,by
  show FinL XE X.K S (ga στ S.M) Q
  replace fin:Fin XE (Rep X.K) X.K S ((ga στ S.M).bind fun xs M1=>.ok (.lst xs) M1) Q:=fin
  cases q:ga στ S.M with
  | bad=>rw [q] at fin;exact fin
  | exn C fs M'=>rw [q] at fin;exact fin
  | ok xs M1=>
   rw [q] at fin
   intro S1 p vs e1 s1 hn hp hv r
   exact fin (S1.show S.hid) (.ref p) e1 s1.show (zge s1 hn m hp hv r)⟩⟩
theorem zbk (h:WL X XE e ga):WE X XE e (eTk ga):=by
 have h:=h.pe
 exact ⟨PE.imp h fun σ H Q ⟨S,στ,_,e,m,ev,_,fin⟩=>⟨S,στ,e,m,ev,by
  show FinL XE X.K S (ga στ S.M) Q
  replace fin:Fin XE (Rep X.K) X.K S ((ga στ S.M).bind fun xs M1=>.ok (.ref M1.length) (M1 ++ [.lst xs])) Q:=fin
  cases q:ga στ S.M with
  | bad=>rw [q] at fin;exact fin
  | exn C fs M'=>rw [q] at fin;exact fin
  | ok xs M1=>
   rw [q] at fin
   intro S1 p vs e1 s1 hn hp hv r
   refine fin (S1.track p xs S.hid) (.ref p) (by show S1.M ++ _ = _;rw [e1]) (s1.track m hn hp hv r) ?_
   have this:(S1.track p xs S.hid).α S1.M.length = p:=if_pos rfl
   rw [← e1]
   have hl:S1.M.length < (S1.track p xs S.hid).M.length:=by show _ < (S1.M ++ [Cell.lst xs]).length;simp
   have r2:Rep X.K (S1.track p xs S.hid) (.ref S1.M.length) (.ref ((S1.track p xs S.hid).α S1.M.length)):=.ref hl
   rw [this] at r2
   exact r2⟩⟩
theorem zjS {op':CmpOp} {o':T->T->Mem->Out T} (ho:OpR X (compareOp op) (lR2 XE X.K o)) (ho':OpR X (compareOp op') (lR2 XE X.K o')) (ha:WE X XE a f) (hb:WE X XE b g) (hc:WE X XE c h) (hm:lastMarks [op,op'] [b,c] = false:=by with_unfolding_all rfl):WE X XE (.Compare a [op,op'] [b,c] pos) (zfN o o' f g h):=by
 have ha:=ha.pe
 have hb:=hb.pe
 have hc:=hc.pe
 exact ⟨PE.imp (zlA ho ho' ha hb hc hm) fun _ _ _ hh=>chain hh⟩
end
variable {iter tg:Expr} {sts:List Stmt} {pos':Pos} {bd:T->Ev->Mem->Out Ev}
section
variable {a b c:Expr} {rest:List Stmt} {p q r:Ev->Mem->Out Fl}
theorem qB :WSs X XE [] yV:=⟨PSs.imp zmX fun D σ H h9=>by
 obtain ⟨S,στ,_,e,m,ev,_,fin⟩:=h9
 show D.nx σ H
 rw [← e];exact fin S (.nx σ) rfl (.refl m) (.nx ev)⟩
theorem qc (h1:WS X XE st p) (h2:WSs X XE rest q):WSs X XE (st :: rest) (qg p q):=by
 have h1:=h1.pe
 have h2:=h2.pe
 exact ⟨PSs.imp (zlv h1 h2) fun _ _ _ hh=>zo9 hh⟩
theorem ye (h1:WS X XE st p):WSs X XE [st] p:=by
 have h1:=h1.pe
 exact ⟨ziz h1⟩
theorem zm (he:WE X XE e f):WS X XE (.Return (some e) pos) (qA f):=by
 have he:=he.pe
 exact ⟨PS.imp (zoB he) fun D σ H hh=>
  LN.mono (LN.bind (f:=fun _ σ M=>f σ M) (k:=fun _ t σ M1=>.ok (Fl.rt t) M1) (RB:=Rep X.K) hh) fun v H1 h9=>by
   obtain ⟨S,στ,a,e,m,ev,ra,fin⟩:=h9
   rw [← e];exact fin S (.rt v) rfl (.refl m) (.rt ra.2)⟩
theorem zu (he:WE X XE e f) (hs:swapsWith e none pos.line X.env = pure false:=by rfl):WS X XE (.Expr e pos) (zE f):=by
 have he:=he.pe
 exact ⟨PS.imp (zmZ he hs) fun D σ H hh=>
  LN.mono (LN.bind (f:=fun _ σ M=>f σ M) (k:=fun _ t σ M1=>.ok (Fl.nx σ) M1) (RB:=Rep X.K) hh) fun v H1 h9=>by
   obtain ⟨S,στ,a,e,m,ev,ra,fin⟩:=h9
   show D.nx σ H1
   rw [← e];exact fin S (.nx σ) rfl (.refl m) (.nx ev)⟩
theorem zC (hc:WT X XE c tf) (ha:WSs X XE sts p) (hb:WSs X XE rest q):WS X XE (.If c sts rest pos) (sIf tf p q):=by
 have hc:=hc.pe
 have ha:=ha.pe
 have hb:=hb.pe
 exact ⟨PS.imp (zqk hc ha hb) fun D σ H hh=>
  LN.mono (LN.bind (f:=fun _ σ M=>tf σ M) (k:=fun _ c σ M1=>if c = true then p σ M1 else q σ M1) (RB:=EqR) hh) fun c H1 h2=>by
   obtain ⟨S,στ,a,e,m,ev,ra,fin⟩:=h2
   have:a.2 = c:=ra.2
   subst this
   replace fin:Fin XE (FlR X.K) X.K S (if a.2 = true then p στ S.M else q στ S.M) (qu D):=fin
   cases q:a.2 with
   | true=>exact (if_pos rfl).mpr ⟨S,στ,(),e,m,ev,trivial,by rw [q] at fin;exact fin⟩
   | false=>exact (if_neg Q5).mpr ⟨S,στ,(),e,m,ev,trivial,by rw [q] at fin;exact fin⟩⟩
theorem zj (hN:X.N.Nodup) (hi:X.N[i]? = some x) (hx:Loc X.env.scope x) (he:WE X XE e f) (hs:swapsWith e (some (.Name x pos')) pos.line X.env = pure false:=by rfl) (hf:X.fn x = true\/X.env.scope.names.lookup x = some .local:=by first | exact .inl rfl | exact .inr rfl | assumption):WS X XE (.Assign [.Name x pos'] e pos) (zq i f):=by
 have he:=he.pe
 exact ⟨PS.imp (zoA hN hi hx he hs hf) fun D σ H hh=>
  LN.mono (LN.bind (f:=fun _ σ M=>f σ M) (k:=fun _ t σ M1=>.ok (Fl.nx (σ.set i (some t))) M1) (RB:=Rep X.K) hh) fun v H1 h9=>by
   obtain ⟨S,στ,a,e,m,ev,ra,fin⟩:=h9
   show D.nx (σ.set i (some v)) H1
   rw [← e];exact fin S (.nx _) rfl (.refl m) (.nx (ev.set ra.2 i))⟩
theorem zn (h:PG X tg (zgW i)):WG X XE tg (qi i):=⟨PG.imp h fun v σ H Q h9=>by
 obtain ⟨S,στ,t,e,m,ev,ra,fin⟩:=h9
 show Q (σ.set i (some v)) H
 rw [← e];exact fin S _ rfl (.refl m) (ev.set ra i)⟩
theorem yZ :WGs X XE [] zas:=⟨PGs.imp zm3 fun v σ H Q h9=>by
 obtain ⟨S,στ,t,e,m,ev,ra,fin⟩:=h9
 cases t with
 | nil=>exact ⟨ra.nilT,by rw [← e];exact fin S _ rfl (.refl m) ev⟩
 | cons t r=>exact fin.elim⟩
theorem qv {bs:List T->Ev->Mem->Out Ev} (h:PGs X (e :: es) (zjB (lG XE X.K bd) (lGs XE X.K bs))):WGs X XE (e :: es) (yy bd bs):=⟨PGs.imp h fun v σ H Q h9=>by
 obtain ⟨S,στ,t,e,m,ev,ra,fin⟩:=h9
 cases t with
 | nil=>exact fin.elim
 | cons t r=>
  obtain ⟨v1,vs,rfl,r1,r2⟩:=ra.consT
  refine ⟨v1,vs,rfl,?_⟩
  replace fin:Fin XE (EvR X.K) X.K S ((bd t στ S.M).bind fun σ1 M1=>bs r σ1 M1) Q:=fin
  refine ⟨S,στ,t,e,m,ev,r1,?_⟩
  show Fin XE (EvR X.K) X.K S (bd t στ S.M) _
  cases o:bd t στ S.M with
  | bad=>rw [o] at fin;exact fin
  | exn C fs M'=>rw [o] at fin;exact fin
  | ok σ1 M1=>
   rw [o] at fin
   intro S1 cc e1 s1 ev1
   exact ⟨S1,σ1,r,rfl,s1.mok,ev1,r2.grow m s1.toGrow,by rw [e1];exact Fin.later s1 fin⟩⟩
theorem zam {bs:List T->Ev->Mem->Out Ev} (h:PG X tg (zl3 X.K n (lGs XE X.K bs))):WG X XE tg (zar n bs):=⟨PG.imp h fun v σ H Q h9=>by
 obtain ⟨S,στ,t,e,m,ev,ra,fin⟩:=h9
 cases ra with
 | @tup ts p vs h l r=>
  replace fin:Fin XE (EvR X.K) X.K S (if ts.length = n then bs ts στ S.M else .bad) Q:=fin
  by_cases hn:ts.length = n
  ·rw [if_pos hn] at fin
   exact ⟨p,vs,rfl,by rw [← e];exact h,by rw [← l];exact hn,S,στ,ts,e,m,ev,⟨l,r⟩,fin⟩
  ·rw [if_neg hn] at fin;exact fin.elim
 | _=>exact fin.elim⟩
theorem zfT (he:WE X XE e f) (hg:WG X XE tg bd) (hs:swapsWithSole [tg] e pos.line X.env = pure false:=by rfl) (hw:swappedStores [tg] e X.env = pure none:=by rfl) (h1:(assignEach [tg] X.env).map (·.2) = [assign tg X.env]:=by rfl):WS X XE (.Assign [tg] e pos) (zhj f bd):=by
 have he:=he.pe
 have hg:=hg.pe
 exact ⟨PS.imp (zoE he hg hs hw h1) fun D σ H hh=>
  LN.mono (LN.bind (f:=fun _ σ M=>f σ M) (k:=fun _ t σ M1=>(bd t σ M1).bind fun σ1 M2=>.ok (Fl.nx σ1) M2) (RB:=Rep X.K) hh) fun v H1 ⟨S,στ,a,e,m,ev,ra,fin⟩=>
   zqw ⟨S,στ,a.2,e,m,ev,ra.2,fin⟩⟩
theorem zc8 (hp:PassesOwn (model X.prog X.w) X.A X.env X.xe) (hc:X.calm = true) (hi:WI X XE tg iter ga) (hg:WG X XE tg bd) (hb:WSs X XE sts p) (hs:∀ x,foldedSetIterable iter X.env x = pure x:=by intro _;rfl):WS X XE (.For tg iter sts [] pos) (zeY ga bd p):=by
 have hi:=hi.pe
 have hg:=hg.pe
 have hb:=hb.pe
 exact ⟨PS.imp (zhn hp hc hi hg hb hs) fun D σ H hh=>by
  refine LN.mono (LN.bind (f:=fun _ σ M=>ga σ M) (k:=fun _ xs σ M1=>forL bd p xs σ M1) (RB:=zdK X.K) hh) fun J H1 h1=>?_
  obtain ⟨S,στ,a,e,m,ev,ra,fin⟩:=h1
  refine ⟨fun i n σ H=>∃ S στ,S.H = H/\MemOk X.K S/\EvR X.K S στ σ/\zdK X.K S a.2 J/\n = a.2.length - i/\i<=a.2.length/\Fin XE (FlR X.K) X.K S (forL bd p (a.2.drop i) στ S.M) (qu D),⟨_,S,στ,e,m,ev,ra.2,rfl,Nat.zero_le _,fin⟩,?_⟩
  rintro i n σ1 H2 ⟨S1,στ1,e1,m1,ev1,it1,en,hi1,fin1⟩
  subst e1
  obtain ⟨it2,it3⟩:=it1 S1 (.refl m1)
  by_cases hl:i < a.2.length
  ·have eq:a.2.drop i = a.2[i] :: a.2.drop (i + 1):=List.drop_eq_getElem_cons hl
   rw [eq] at fin1
   obtain ⟨go,yl⟩:=it2 i a.2[i] (by simp [hl])
   refine .inr ⟨go,fun σ' H'=>∃ S στ,S.H = H'/\MemOk X.K S/\EvR X.K S στ σ'/\zdK X.K S a.2 J/\Fin XE (FlR X.K) X.K S (forL bd p (a.2.drop (i + 1)) στ S.M) (qu D),?_,fun x H' hy=>?_⟩
   ·rintro σ' H' ⟨S2,στ2,e2,m2,ev2,it4,fin2⟩
    exact ⟨a.2.length - (i + 1),by omega,S2,στ2,e2,m2,ev2,it4,rfl,hl,fin2⟩
   ·obtain ⟨S2,e2,eM,s2,r2⟩:=yl x H' hy
    replace fin1:Fin XE (FlR X.K) X.K S1 ((bd a.2[i] στ1 S1.M).bind fun σ1 M1=>(p σ1 M1).bind (yM (forL bd p (a.2.drop (i + 1))))) (qu D):=fin1
    refine ⟨S2,στ1,a.2[i],e2,s2.mok,Mo.mo m1 s2 ev1,r2,?_⟩
    rw [eM]
    cases o:bd a.2[i] στ1 S1.M with
    | bad=>rw [o] at fin1;exact fin1
    | exn C fs M'=>rw [o] at fin1;exact Fin.later s2 fin1
    | ok σ3 M3=>
     rw [o] at fin1
     intro S3 σ3v e3 s3 ev3
     have s13:=s2.trans s3
     refine ⟨S3,σ3,(),rfl,s3.mok,ev3,trivial,?_⟩
     show Fin XE (FlR X.K) X.K S3 (p σ3 S3.M) _
     rw [e3]
     replace fin1:Fin XE (FlR X.K) X.K S1 ((p σ3 M3).bind (yM (forL bd p (a.2.drop (i + 1))))) (qu D):=fin1
     cases o2:p σ3 M3 with
     | bad=>rw [o2] at fin1;exact fin1
     | exn C fs M'=>rw [o2] at fin1;exact Fin.later s13 fin1
     | ok fl M4=>
      rw [o2] at fin1
      intro S4 fv e4 s4 r4
      have s14:=s13.trans s4
      cases r4 with
      | nx r4=>exact ⟨S4,_,rfl,s4.mok,r4,Mo.mo m1 s14 it1,by rw [e4];exact Fin.later s14 fin1⟩
      | ct r4=>exact ⟨S4,_,rfl,s4.mok,r4,Mo.mo m1 s14 it1,by rw [e4];exact Fin.later s14 fin1⟩
      | bk r4=>exact fin1 S4 (.nx _) e4 s14 (.nx r4)
      | rt r4=>exact fin1 S4 (.rt _) e4 s14 (.rt r4)
  ·rw [List.drop_eq_nil_of_le (by omega)] at fin1
   refine .inl ⟨it3 i (by omega),?_⟩
   exact fin1 S1 (.nx σ1) rfl (.refl m1) (.nx ev1)⟩
theorem zjP (hp:PassesOwn (model X.prog X.w) X.A X.env X.xe) (hc:WT X XE c tf) (hb:WSs X XE sts p):WS X XE (.While c sts [] pos) (zbZ tf p):=by
 have hc:=hc.pe
 have hb:=hb.pe
 exact ⟨PS.imp (zlw hp hc hb) fun D σ H hh=>by
  obtain ⟨S,στ,_,e,m,ev,_,fin⟩:=hh
  replace fin:Fin XE (FlR X.K) X.K S (zbZ tf p στ S.M) (qu D):=fin
  have ex:∃ n,Fin XE (FlR X.K) X.K S (whileN tf p n στ S.M) (qu D):=by
   unfold zbZ at fin
   split at fin
   ·exact ⟨_,fin⟩
   ·exact fin.elim
  obtain ⟨n,fin⟩:=ex
  refine ⟨fun n σ H=>∃ S στ,S.H = H/\MemOk X.K S/\EvR X.K S στ σ/\Fin XE (FlR X.K) X.K S (whileN tf p n στ S.M) (qu D),⟨n,S,στ,e,m,ev,fin⟩,?_⟩
  rintro n σ1 H1 ⟨S1,στ1,e1,m1,ev1,fin1⟩
  subst e1
  cases n with
  | zero=>exact fin1.elim
  | succ n=>
   replace fin1:Fin XE (FlR X.K) X.K S1 ((tf στ1 S1.M).bind fun b M1=>if b = true then (p στ1 M1).bind (yM (whileN tf p n)) else .ok (.nx στ1) M1) (qu D):=fin1
   refine ⟨S1,στ1,(),rfl,m1,ev1,trivial,?_⟩
   show Fin XE EqR X.K S1 (tf στ1 S1.M) _
   cases o:tf στ1 S1.M with
   | bad=>rw [o] at fin1;exact fin1
   | exn C fs M'=>rw [o] at fin1;exact fin1
   | ok b M2=>
    rw [o] at fin1
    intro S2 b2 e2 s2 eb
    have eb':b = b2:=eb
    subst eb'
    replace fin1:Fin XE (FlR X.K) X.K S1 (if b = true then (p στ1 M2).bind (yM (whileN tf p n)) else .ok (.nx στ1) M2) (qu D):=fin1
    cases b with
    | false=>exact (if_neg Q5).mpr (fin1 S2 (.nx σ1) e2 s2 (.nx (Mo.mo m1 s2 ev1)))
    | true=>
     refine (if_pos rfl).mpr ⟨fun σ' H'=>∃ S στ,S.H = H'/\MemOk X.K S/\EvR X.K S στ σ'/\Fin XE (FlR X.K) X.K S (whileN tf p n στ S.M) (qu D),fun σ' H' h=>⟨n,Nat.lt_succ_self _,h⟩,?_⟩
     rw [if_pos rfl] at fin1
     refine ⟨S2,στ1,(),rfl,s2.mok,Mo.mo m1 s2 ev1,trivial,?_⟩
     show Fin XE (FlR X.K) X.K S2 (p στ1 S2.M) _
     rw [e2]
     cases o2:p στ1 M2 with
     | bad=>rw [o2] at fin1;exact fin1
     | exn C fs M'=>rw [o2] at fin1;exact Fin.later s2 fin1
     | ok fl M4=>
      rw [o2] at fin1
      intro S4 fv e4 s4 r4
      have s14:=s2.trans s4
      cases r4 with
      | nx r4=>exact ⟨S4,_,rfl,s4.mok,r4,by rw [e4];exact Fin.later s14 fin1⟩
      | ct r4=>exact ⟨S4,_,rfl,s4.mok,r4,by rw [e4];exact Fin.later s14 fin1⟩
      | bk r4=>exact fin1 S4 (.nx _) e4 s14 (.nx r4)
      | rt r4=>exact fin1 S4 (.rt _) e4 s14 (.rt r4)⟩
end
variable {F:List T->Mem->Out T} {p:Pos}
section
theorem qf (C:CalT X.prog X.w X.K X.mg X.base k x ps F) (hr:Room k X.A) (hg:Gl X x) (ha:WA X XE (e :: es) ga) (hdb:(x == ("__debug__":Str)) = false:=by decide) (he:noStar e = true:=by rfl) (hpl:es.all noStar = true:=by rfl):WE X XE (.Call (.Name x p) (e :: es) [] pos) (yf F ga):=by
 have ha:=ha.pe
 exact ⟨PE.imp (zoP C.cal hr hg ha hdb (zX he) (zbC hpl)) fun σ H Q hh=>
  LN.mono (LN.bind (f:=fun _ σ M=>ga σ M) (k:=fun _ ts σ M1=>F ts M1) (RB:=Reps X.K) hh) fun vs H1 h9=>by
   obtain ⟨S,στ,a,e,m,ev,ra,fin⟩:=h9
   rw [append_nil]
   refine ⟨S,a.2,e,m,ra.2,?_⟩
   show Fin E0 (Rep X.K) X.K S (F a.2 S.M) Q
   replace fin:Fin XE (Rep X.K) X.K S (F a.2 S.M) Q:=fin
   cases o:F a.2 S.M with
   | bad=>rw [o] at fin;exact fin
   | exn C' fs M'=>exact absurd o (C.nox _ _ _ _ _)
   | ok t M1=>rw [o] at fin;exact fin⟩
theorem yr {id:String} (hc:CallR X (.builtin id) (lRN XE X.K F)) (hg:Gl X x) (hm:X.mg x = none) (hv:bootBuiltins x = some (.builtin id)) (ha:WA X XE (e :: es) ga) (hn:x ≠ "__name__":=by decide) (hdb:(x == ("__debug__":Str)) = false:=by decide) (he:noStar e = true:=by rfl) (hpl:es.all noStar = true:=by rfl):WE X XE (.Call (.Name x p) (e :: es) [] pos) (yf F ga):=by
 have ha:=ha.pe
 exact ⟨PE.imp (zlB hc hg hm hv ha hn hdb (zX he) (zbC hpl)) fun σ H Q hh=>
  LN.mono (LN.bind (f:=fun _ σ M=>ga σ M) (k:=fun _ ts σ M1=>F ts M1) (RB:=Reps X.K) hh) fun vs H1 ⟨S,στ,a,e,m,ev,ra,fin⟩=>⟨S,a.2,e,m,ra.2,fin⟩⟩
theorem zi7 {id:String} (hc:CallR X (.type id) (lRN XE X.K F)) (hg:Gl X x) (hm:X.mg x = none) (hv:bootBuiltins x = some (.type id)) (ha:WA X XE (e :: es) ga) (hn:x ≠ "__name__":=by decide) (hdb:(x == ("__debug__":Str)) = false:=by decide) (he:noStar e = true:=by rfl) (hpl:es.all noStar = true:=by rfl):WE X XE (.Call (.Name x p) (e :: es) [] pos) (yf F ga):=by
 have ha:=ha.pe
 exact ⟨PE.imp (zkb hc hg hm hv ha hn hdb (zX he) (zbC hpl)) fun σ H Q hh=>
  LN.mono (LN.bind (f:=fun _ σ M=>ga σ M) (k:=fun _ ts σ M1=>F ts M1) (RB:=Reps X.K) hh) fun vs H1 ⟨S,στ,a,e,m,ev,ra,fin⟩=>⟨S,a.2,e,m,ra.2,fin⟩⟩
end
section
variable {a b c:Expr}
theorem z6 (he:WE X XE e f):WI X XE tg e (zaT f):=⟨zpB he.pe⟩
theorem zbj (hg:Gl X "range") (hm:X.mg "range" = none) (ha:WA X XE [a] ga) (hs:starEach [a] X.env = [(false,eval a X.env)]:=by rfl):WI X XE tg (.Call (.Name "range" p) [a] [] pos) (zbJ ga):=by
 have ha:=ha.pe
 exact ⟨PI.imp (zj9 hg hm ha hs) fun σ H R hh=>
  LN.mono (LN.bind (f:=fun _ σ M=>ga σ M) (k:=fun _ ts σ M1=>zeZ ts M1) (RB:=Reps X.K) hh) fun vs H1 h9=>by
   obtain ⟨S,στ,a,e,m,ev,ra,fin⟩:=h9
   obtain ⟨u,ts⟩:=a
   have rr:Reps X.K S ts vs:=ra.2
   replace fin:Fin XE (zdK X.K) X.K S (zeZ ts S.M) R:=fin
   unfold zeZ at fin
   split at fin
   ·rename_i j
    obtain ⟨v,vs',rfl,r1,r2⟩:=rr.consT
    cases r1
    rw [r2.nilT]
    split at fin
    ·rename_i hj
     exact ⟨j,rfl,hj.1,hj.2,by rw [← e];exact fin S _ rfl (.refl m) (zlO _ _ _ _)⟩
    ·exact fin.elim
   ·exact fin.elim⟩
end
variable {cond:Ev->Mem->Out Bool} {elt:Expr} {cl:List (Str × Addr)} {caps:List (Str × Nat)} {ifs:List Expr} {tgs:List Str} {i0:Nat} {spos:Pos} {scope:Scope} {y0:Str}
section
theorem zab (hi:WI X XE tg iter ga) (cb:CB X scope cl caps) (hg:∀ ex s0 H0,WG (X.block scope cl (tgs ++ caps.map (·.1)) ex s0 H0) XE tg bd) (hif:∀ ex s0 H0,PTs (X.block scope cl (tgs ++ caps.map (·.1)) ex s0 H0) ifs (lT XE X.K cond)) (hel:∀ ex s0 H0,WE (X.block scope cl (tgs ++ caps.map (·.1)) ex s0 H0) XE elt f) (hs:∀ x,foldedSetIterable iter X.env x = pure x:=by intro _;rfl):WL X XE (.ListComp elt [⟨tg,iter,ifs,0⟩] scope pos) (zI ga bd cond f tgs caps):=by
 have hi:=hi.pe
 have hg:=fun ex s0 H0=>(hg ex s0 H0).pe
 have hel:=fun ex s0 H0=>(hel ex s0 H0).pe
 exact ⟨PE.imp (ziB (tgs:=tgs) (g:=lG XE X.K bd) (tc:=lT XE X.K cond) (te:=lE XE X.K f) cb.hc hi cb.hclos cb.hcell cb.hkind cb.hnames cb.hcl cb.hhas cb.hcap hg hif hel hs) fun σ H Q hh=>zfd hh⟩
theorem zg3 {py:Pos} (hi:WI X XE tg iter ga) (cb:CB X scope cl caps) (hg:∀ ex s0 H0,WG (X.block scope cl (tgs ++ caps.map (·.1)) ex s0 H0) XE tg bd) (hif:∀ ex s0 H0,PTs (X.block scope cl (tgs ++ caps.map (·.1)) ex s0 H0) ifs (lT XE X.K cond)) (hel:∀ ex s0 H0,WE (X.block scope cl (tgs ++ caps.map (·.1)) ex s0 H0) XE elt f) (hN0:X.N.Nodup) (hi0:X.N[i0]? = some y0) (hx0:Loc X.env.scope y0) (hsw:swapsWith (.ListComp elt [⟨tg,iter,ifs,0⟩] scope pos) (some (.Name y0 py)) spos.line X.env = pure true:=by rfl) (hf0:X.fn y0 = true\/X.env.scope.names.lookup y0 = some .local:=by first | exact .inl rfl | exact .inr rfl | assumption) (hs:∀ x,foldedSetIterable iter X.env x = pure x:=by intro _;rfl):WS X XE (.Assign [.Name y0 py] (.ListComp elt [⟨tg,iter,ifs,0⟩] scope pos) spos) (zq i0 (eFz (zI ga bd cond f tgs caps))):=by
 have hi:=hi.pe
 have hg:=fun ex s0 H0=>(hg ex s0 H0).pe
 have hel:=fun ex s0 H0=>(hel ex s0 H0).pe
 exact ⟨PS.imp (zdC (tgs:=tgs) (g:=lG XE X.K bd) (tc:=lT XE X.K cond) (te:=lE XE X.K f) cb.hc hi cb.hclos cb.hcell cb.hkind cb.hnames cb.hcl cb.hhas cb.hcap hg hif hel hN0 hi0 hx0 hsw hf0 hs) fun D σ H ⟨S,στ,_,e,m,ev,_,fin⟩=>zfd ⟨S,στ,e,m,ev,by
  show FinL XE X.K S (zI ga bd cond f tgs caps στ S.M) _
  replace fin:Fin XE (FlR X.K) X.K S (((zI ga bd cond f tgs caps στ S.M).bind fun xs M1=>.ok (T.lst xs) M1).bind fun t M1=>.ok (.nx (στ.set i0 (some t))) M1) (qu D):=fin
  cases q:zI ga bd cond f tgs caps στ S.M with
  | bad=>rw [q] at fin;exact fin
  | exn C fs M'=>rw [q] at fin;exact fin
  | ok xs M1=>
   rw [q] at fin
   intro S1 p vs e1 s1 hn hp hv r
   exact fin (S1.show S.hid) (.nx (σ.set i0 (some (.ref p)))) e1 s1.show (.nx ((Mo.mo (K:=X.K) m s1.show ev).set (zge s1 hn m hp hv r) i0))⟩⟩
theorem zg2 {py:Pos} (hi:WI X XE tg iter ga) (cb:CB X scope cl caps) (hg:∀ ex s0 H0,WG (X.block scope cl (tgs ++ caps.map (·.1)) ex s0 H0) XE tg bd) (hif:∀ ex s0 H0,PTs (X.block scope cl (tgs ++ caps.map (·.1)) ex s0 H0) ifs (lT XE X.K cond)) (hel:∀ ex s0 H0,WE (X.block scope cl (tgs ++ caps.map (·.1)) ex s0 H0) XE elt f) (hN0:X.N.Nodup) (hi0:X.N[i0]? = some y0) (hx0:Loc X.env.scope y0) (hsw:swapsWith (.ListComp elt [⟨tg,iter,ifs,0⟩] scope pos) (some (.Name y0 py)) spos.line X.env = pure true:=by rfl) (hf0:X.fn y0 = true\/X.env.scope.names.lookup y0 = some .local:=by first | exact .inl rfl | exact .inr rfl | assumption) (hs:∀ x,foldedSetIterable iter X.env x = pure x:=by intro _;rfl):WS X XE (.Assign [.Name y0 py] (.ListComp elt [⟨tg,iter,ifs,0⟩] scope pos) spos) (zq i0 (eTk (zI ga bd cond f tgs caps))):=by
 have hi:=hi.pe
 have hg:=fun ex s0 H0=>(hg ex s0 H0).pe
 have hel:=fun ex s0 H0=>(hel ex s0 H0).pe
 exact ⟨PS.imp (zdC (tgs:=tgs) (g:=lG XE X.K bd) (tc:=lT XE X.K cond) (te:=lE XE X.K f) cb.hc hi cb.hclos cb.hcell cb.hkind cb.hnames cb.hcl cb.hhas cb.hcap hg hif hel hN0 hi0 hx0 hsw hf0 hs) fun D σ H ⟨S,στ,_,e,m,ev,_,fin⟩=>zfd ⟨S,στ,e,m,ev,by
  show FinL XE X.K S (zI ga bd cond f tgs caps στ S.M) _
  replace fin:Fin XE (FlR X.K) X.K S (((zI ga bd cond f tgs caps στ S.M).bind fun xs M1=>.ok (T.ref M1.length) (M1 ++ [.lst xs])).bind fun t M1=>.ok (.nx (στ.set i0 (some t))) M1) (qu D):=fin
  cases q:zI ga bd cond f tgs caps στ S.M with
  | bad=>rw [q] at fin;exact fin
  | exn C fs M'=>rw [q] at fin;exact fin
  | ok xs M1=>
   rw [q] at fin
   intro S1 p vs e1 s1 hn hp hv r
   have st:=s1.track m hn hp hv r
   have this:(S1.track p xs S.hid).α S1.M.length = p:=if_pos rfl
   have hl:S1.M.length < (S1.track p xs S.hid).M.length:=by show _ < (S1.M ++ [Cell.lst xs]).length;simp
   have r2:Rep X.K (S1.track p xs S.hid) (.ref S1.M.length) (.ref ((S1.track p xs S.hid).α S1.M.length)):=.ref hl
   rw [this,e1] at r2
   exact fin (S1.track p xs S.hid) (.nx (σ.set i0 (some (.ref p)))) (by show S1.M ++ _ = _;rw [e1]) st (.nx ((Mo.mo (K:=X.K) m st ev).set r2 i0))⟩⟩
theorem yU :PTs X [] (lT XE X.K yH):=znz 
theorem zeN {c:Expr} (h:WT X XE c tf):PTs X [c] (lT XE X.K tf):=zny h.pe
end
section
variable {a b:Expr}
theorem zob {op:Operator} {o:T->T->Mem->Out (List T)} (ho:OpR X (binaryOp op) (zlN XE X.K o)) (ha:WE X XE a f) (hb:WE X XE b g):WL X XE (.BinOp a op b pos) (lOp o f g):=by
 have ha:=ha.pe
 have hb:=hb.pe
 exact ⟨PE.imp (zml ho ha hb) fun σ H Q ⟨S,στ,e,m,ev,fin⟩=>
  LN.mono (LNL.bind (f:=fun (_:Unit) σ M=>f σ M) (k:=fun _ x σ M1=>(g σ M1).bind fun y M2=>o x y M2) (RA:=UnR) (RB:=Rep X.K) ⟨S,στ,(),e,m,ev,trivial,fin⟩) fun v H1 h1=>
   LN.mono (LN.env (f:=g) (LNL.bind (f:=fun _ σ M=>g σ M) (k:=fun (ax:Unit × T) y σ M2=>o ax.2 y M2) (RB:=Rep X.K) h1)) fun w H2 h2=>by
    obtain ⟨S,στ,a,e,m,ev,ra,fin⟩:=h2
    exact ⟨S,(a.1.2,a.2),e,m,⟨ra.1.2,ra.2⟩,fin⟩⟩
end
section
theorem zil {o i:Expr} {st:T->T->T->Mem->Out Unit} (ho:WE X XE o f) (hi:WE X XE i g) (hs:zed X (zhy XE X.K st)) (ha:∀ v,assign (.Subscript o i pos) X.env v = (do
 let ov ← holding [v] (eval o X.env)
 let iv ← holding [v,ov] (eval i X.env)
 standAt pos
 holding [v,ov,iv] (setItem ov iv v)
 release [v,ov,iv] []):=by intro _;rfl):WG X XE (.Subscript o i pos) (zjL st f g):=by
 have ho:=ho.pe
 have hi:=hi.pe
 exact ⟨PG.imp (zoG ho hi hs ha) fun v σ H Q hh=>by
  have h1:LN XE (EvR X.K) X.K (Rep X.K) (fun t σ M=>(f σ M).bind fun o M1=>(g σ M1).bind fun i M2=>(st o i t M2).bind fun _ M3=>.ok σ M3) v σ H Q:=hh
  refine LN.mono (LN.env (f:=f) (LN.bind (f:=fun _ σ M=>f σ M) (k:=fun t o σ M1=>(g σ M1).bind fun i M2=>(st o i t M2).bind fun _ M3=>.ok σ M3) (RB:=Rep X.K) h1)) fun ov H1 h2=>?_
  refine LN.mono (LN.env (f:=g) (LN.bind (f:=fun _ σ M=>g σ M) (k:=fun (to:T × T) i σ M2=>(st to.2 i to.1 M2).bind fun _ M3=>.ok σ M3) (RB:=Rep X.K) h2)) fun iv H2 h3=>?_
  obtain ⟨S,στ,a,e,m,ev,ra,fin⟩:=h3
  refine ⟨S,((a.1.2,a.2),a.1.1),e,m,⟨⟨ra.1.2,ra.2⟩,ra.1.1⟩,?_⟩
  show Fin XE UnR X.K S (st a.1.2 a.2 a.1.1 S.M) _
  replace fin:Fin XE (EvR X.K) X.K S ((st a.1.2 a.2 a.1.1 S.M).bind fun _ M3=>.ok στ M3) Q:=fin
  cases o:st a.1.2 a.2 a.1.1 S.M with
  | bad=>rw [o] at fin;exact fin
  | exn C fs M'=>rw [o] at fin;exact fin
  | ok b M1=>
   rw [o] at fin
   intro S1 c e1 s1 _
   exact fin S1 σ e1 s1 (Mo.mo m s1 ev)⟩
theorem z7 {o:Expr} {apos:Pos} (h:PE X (.Call (.Attribute o "append" apos) [e] [] cpos) (tBM X.K "list" zf4 (lE XE X.K f) (lA XE X.K ga))):WE X XE (.Call (.Attribute o "append" apos) [e] [] cpos) (zaO y4 (eUn zK f) ga):=⟨PE.imp h fun σ H Q hh=>by
 obtain ⟨S,στ,_,e0,m,ev,_,fin⟩:=hh
 replace fin:Fin XE (Rep X.K) X.K S (((f στ S.M).bind fun x M1=>zK x M1).bind fun x M1=>(ga στ M1).bind fun ts M2=>y4 x ts M2) Q:=fin
 refine ⟨S,στ,(),e0,m,ev,trivial,?_⟩
 show Fin XE (Rep X.K) X.K S (f στ S.M) _
 cases o1:f στ S.M with
 | bad=>rw [o1] at fin;exact fin
 | exn C fs M'=>rw [o1] at fin;exact fin
 | ok x M1=>
  rw [o1] at fin
  intro S1 v e1 s1 r1
  replace fin:Fin XE (Rep X.K) X.K S ((zK x M1).bind fun x M1=>(ga στ M1).bind fun ts M2=>y4 x ts M2) Q:=fin
  unfold zK at fin
  cases q:zy x M1 with
  | none=>rw [q] at fin;exact fin.elim
  | some xs=>
   rw [q] at fin
   replace fin:Fin XE (Rep X.K) X.K S ((ga στ M1).bind fun ts M2=>y4 x ts M2) Q:=fin
   obtain ⟨p,vs,rfl,hq,_⟩:=zz s1.mok r1 (by rw [e1];exact q)
   refine ⟨.inl ⟨rfl,vs,hq⟩,S1,στ,(),rfl,s1.mok,Mo.mo m s1 ev,trivial,?_⟩
   show Fin XE (Reps X.K) X.K S1 (ga στ S1.M) _
   rw [e1]
   cases o2:ga στ M1 with
   | bad=>rw [o2] at fin;exact fin
   | exn C fs M'=>rw [o2] at fin;exact Fin.later s1 fin
   | ok ts M2=>
    rw [o2] at fin
    intro S2 ws e2 s2 r2
    replace fin:Fin XE (Rep X.K) X.K S (y4 x ts M2) Q:=fin
    have fin2:=Fin.later (s1.trans s2) fin
    unfold y4 at fin2
    split at fin2
    ·split at fin2
     ·rename_i a t _ ys qy
      split at fin2
      ·rename_i hz
       obtain ⟨w,ws',rfl,r3,r4⟩:=r2.consT
       rw [r4.nilT]
       have r1':=r1.grow s1.mok s2.toGrow
       cases r1' with
       | ref ha2=>
       obtain ⟨us,q3,rs⟩:=s2.mok.cell a _ (by rw [e2];exact qy)
       refine ⟨S2.α a,us,w,rfl,rfl,q3,by rw [← rs.1];exact hz,?_⟩
       exact fin2 (S2.put a (.lst (us ++ [w])) (.lst (ys ++ [t]))) .non (by show S2.M.set a _ = _;rw [e2]) (zek s2.mok (by rw [e2];exact qy) (rs.app (.cons r3 .nil))) .non
      ·exact fin2.elim
     ·exact fin2.elim
    ·exact fin2.elim⟩
end
section
theorem zeP :WO X XE none zfx:=⟨PO.imp zm2 fun σ H Q h9=>by
 obtain ⟨S,στ,_,e,m,ev,_,fin⟩:=h9
 show Q none H
 rw [← e];exact fin S none rfl (.refl m) rfl⟩
theorem zeO (h:WE X XE e f):WO X XE (some e) (zfw f):=by
 have h:=h.pe
 exact ⟨PO.imp (zm1 h) fun σ H Q hh=>
  LN.mono (LN.bind (f:=fun _ σ M=>f σ M) (k:=fun _ x σ M1=>zlQ x M1) (RB:=Rep X.K) hh) fun v H1 h9=>by
   obtain ⟨S,στ,a,e,m,ev,ra,fin⟩:=h9
   obtain ⟨u,t⟩:=a
   have r:Rep X.K S t v:=ra.2
   replace fin:Fin XE EqR X.K S (zlQ t S.M) Q:=fin
   cases r with
   | int i=>exact ⟨i,rfl,by rw [← e];exact fin S (some i) rfl (.refl m) rfl⟩
   | _=>exact fin.elim⟩
theorem zg5 {lo hi:Option Expr} {p q:Ev->Mem->Out (Option Int)} {p2:Pos} (he:WE X XE e f) (hl:WO X XE lo p) (hu:WO X XE hi q):WE X XE (.Subscript e (.Slice lo hi none p2) pos) (eSl f p q):=by
 have he:=he.pe
 have hl:=hl.pe
 have hu:=hu.pe
 exact ⟨PE.imp (zly zq7 he hl hu) fun σ H Q hh=>
  LN.mono (LN.bind (f:=fun _ σ M=>f σ M) (k:=fun _ x σ M1=>(p σ M1).bind fun lo M2=>(q σ M2).bind fun hi M3=>zgi x lo hi M3) (RB:=Rep X.K) hh) fun v H1 h1=>
   LN.mono (LN.env (f:=p) (LN.bind (f:=fun _ σ M=>p σ M) (k:=fun (ax:Unit × T) lo σ M2=>(q σ M2).bind fun hi M3=>zgi ax.2 lo hi M3) (RB:=EqR) h1)) fun l H2 h2=>
    LN.mono (LN.env (f:=q) (LN.bind (f:=fun _ σ M=>q σ M) (k:=fun (ax:(Unit × T) × Option Int) hi σ M3=>zgi ax.1.2 ax.2 hi M3) (RB:=EqR) h2)) fun w H3 h9=>by
     obtain ⟨S,στ,a,e,m,ev,ra,fin⟩:=h9
     have e1:a.1.2 = l:=ra.1.2
     have e2:a.2 = w:=ra.2
     exact ⟨S,a.1.1.2,e,m,ra.1.1.2,by rw [← e1,← e2];exact fin⟩⟩
end
variable {bop:Operator}
section
theorem zla {o i:Expr} {get op:T->T->Mem->Out T} {st:T->T->T->Mem->Out Unit} (ho:WE X XE o f) (hi:WE X XE i g) (hg:zh2 X (lR2 XE X.K get)) (he:WE X XE e h) (hp:PIp X bop (lR2 XE X.K op)) (hs:zed X (zhy XE X.K st)) (ha:∀ ov iv new,augStore i ov iv new = (do holding [new,ov,iv] (setItem ov iv new);release [new,ov,iv] [];pure .next):=by intros;rfl):WS X XE (.AugAssign (.Subscript o i tpos) bop e pos) (zgU get op st f g h):=by
 have ho:=ho.pe
 have hi:=hi.pe
 have he:=he.pe
 exact ⟨PS.imp (zm0 ho hi hg he hp hs ha) fun D σ H hh=>by
  refine LN.mono (LN.bind (f:=fun _ σ M=>f σ M) (k:=fun _ o σ M1=>(g σ M1).bind fun i M2=>(get o i M2).bind fun x M3=>(h σ M3).bind fun y M4=>(op x y M4).bind fun z M5=>(st o i z M5).bind fun _ M6=>.ok (Fl.nx σ) M6) (RB:=Rep X.K) hh) fun ov H1 h1=>?_
  refine LN.mono (LN.env (f:=g) (LN.bind (f:=fun _ σ M=>g σ M) (k:=fun (a:Unit × T) i σ M2=>(get a.2 i M2).bind fun x M3=>(h σ M3).bind fun y M4=>(op x y M4).bind fun z M5=>(st a.2 i z M5).bind fun _ M6=>.ok (Fl.nx σ) M6) (RB:=Rep X.K) h1)) fun iv H2 h2=>?_
  have h3:=LN.bind (f:=fun (a:(Unit × T) × T) _ M=>get a.1.2 a.2 M) (k:=fun a x σ M3=>(h σ M3).bind fun y M4=>(op x y M4).bind fun z M5=>(st a.1.2 a.2 z M5).bind fun _ M6=>.ok (Fl.nx σ) M6) (RB:=Rep X.K) h2
  obtain ⟨S,a,e,m,ra,fin⟩:=LN.l0 (k:=fun (a:(Unit × T) × T) M=>get a.1.2 a.2 M) h3
  refine ⟨S,(a.1.2,a.2),e,m,⟨ra.1.2,ra.2⟩,fin.mono fun xv H3 h4=>?_⟩
  refine LN.mono (LN.env (f:=h) (LN.bind (f:=fun _ σ M=>h σ M) (k:=fun (a:((Unit × T) × T) × T) y σ M4=>(op a.2 y M4).bind fun z M5=>(st a.1.1.2 a.1.2 z M5).bind fun _ M6=>.ok (Fl.nx σ) M6) (RB:=Rep X.K) h4)) fun yv H4 h5=>?_
  have h6:=LN.bind (f:=fun (a:(((Unit × T) × T) × T) × T) _ M=>op a.1.2 a.2 M) (k:=fun a z σ M5=>(st a.1.1.1.2 a.1.1.2 z M5).bind fun _ M6=>.ok (Fl.nx σ) M6) (RB:=Rep X.K) h5
  obtain ⟨S5,a5,e5,m5,ra5,fin5⟩:=LN.l0 (k:=fun (a:(((Unit × T) × T) × T) × T) M=>op a.1.2 a.2 M) h6
  refine ⟨S5,(a5.1.2,a5.2),e5,m5,⟨ra5.1.2,ra5.2⟩,fin5.mono fun zv H5 h7=>?_⟩
  obtain ⟨S6,στ,a6,e6,m6,ev6,ra6,fin6⟩:=h7
  refine ⟨S6,((a6.1.1.1.1.2,a6.1.1.1.2),a6.2),e6,m6,⟨⟨ra6.1.1.1.1.2,ra6.1.1.1.2⟩,ra6.2⟩,?_⟩
  show Fin XE UnR X.K S6 (st a6.1.1.1.1.2 a6.1.1.1.2 a6.2 S6.M) _
  replace fin6:Fin XE (FlR X.K) X.K S6 ((st a6.1.1.1.1.2 a6.1.1.1.2 a6.2 S6.M).bind fun _ M6=>.ok (Fl.nx στ) M6) (qu D):=fin6
  cases q:st a6.1.1.1.1.2 a6.1.1.1.2 a6.2 S6.M with
  | bad=>rw [q] at fin6;exact fin6
  | exn C fs M'=>rw [q] at fin6;exact fin6
  | ok b M1=>
   rw [q] at fin6
   intro S7 c e7 s7 _
   exact fin6 S7 (.nx σ) e7 s7 (.nx (Mo.mo m6 s7 ev6))⟩
end
section
theorem zg6 {o e:Expr} {es:List Expr} {n:Str} {Ty:String} {f:Ev->Mem->Out T} {ga:Ev->Mem->Out (List T)} {chk:T->Mem->Bool} {F:T->List T->Mem->Out T} {apos cpos:Pos} (hc:∀ {K:Frag} {S:Sit},MemOk K S->∀ {t:T} {x:V},Rep K S t x->chk t S.M = true->tyV K Ty x S.H) (h:PE X (.Call (.Attribute o n apos) (e :: es) [] cpos) (tBM X.K Ty (lMt XE X.K F) (lE XE X.K f) (lA XE X.K ga))):WE X XE (.Call (.Attribute o n apos) (e :: es) [] cpos) (zdj chk F f ga):=⟨PE.imp h fun σ H Q hh=>by
 obtain ⟨S,στ,_,e0,m,ev,_,fin⟩:=hh
 replace fin:Fin XE (Rep X.K) X.K S ((f στ S.M).bind fun x M1=>if chk x M1 = true then (ga στ M1).bind fun ts M2=>F x ts M2 else .bad) Q:=fin
 refine ⟨S,στ,(),e0,m,ev,trivial,?_⟩
 show Fin XE (Rep X.K) X.K S (f στ S.M) _
 cases o1:f στ S.M with
 | bad=>rw [o1] at fin;exact fin
 | exn C fs M'=>rw [o1] at fin;exact fin
 | ok x M1=>
  rw [o1] at fin
  intro S1 v e1 s1 r1
  replace fin:Fin XE (Rep X.K) X.K S (if chk x M1 = true then (ga στ M1).bind fun ts M2=>F x ts M2 else .bad) Q:=fin
  split at fin
  ·rename_i hk
   refine ⟨hc s1.mok r1 (by rw [e1];exact hk),S1,στ,(),rfl,s1.mok,Mo.mo m s1 ev,trivial,?_⟩
   show Fin XE (Reps X.K) X.K S1 (ga στ S1.M) _
   rw [e1]
   cases o2:ga στ M1 with
   | bad=>rw [o2] at fin;exact fin
   | exn C fs M'=>rw [o2] at fin;exact Fin.later s1 fin
   | ok ts M2=>
    rw [o2] at fin
    intro S2 ws e2 s2 r2
    replace fin:Fin XE (Rep X.K) X.K S (F x ts M2) Q:=fin
    have fin2:=Fin.later (s1.trans s2) fin
    exact ⟨S2,(x,ts),rfl,s2.mok,⟨r1.grow s1.mok s2.toGrow,r2⟩,by show Fin XE (Rep X.K) X.K S2 (F x ts S2.M) Q;rw [e2];exact fin2⟩
  ·exact fin.elim⟩
end
section
theorem zmy {op:T->T->Mem->Out T} (hN:X.N.Nodup) (hi:X.N[i]? = some x) (hx:Loc X.env.scope x) (he:WE X XE e f) (ho:PIp X bop (lR2 XE X.K op)) (hf:X.fn x = true\/X.env.scope.names.lookup x = some .local:=by first | exact .inl rfl | exact .inr rfl | assumption):WS X XE (.AugAssign (.Name x pos') bop e pos) (zjk i op f):=by
 have he:=he.pe
 exact ⟨PS.imp (zoD hN hi hx he ho hf) fun D σ H hh=>by
  obtain ⟨S,στ,_,e,m,ev,_,fin⟩:=hh
  replace fin:Fin XE (FlR X.K) X.K S ((zb i στ S.M).bind fun x M0=>(f στ M0).bind fun y M1=>(op x y M1).bind fun z M2=>.ok (Fl.nx (στ.set i (some z))) M2) (qu D):=fin
  unfold zb at fin
  split at fin
  case h_2=>exact fin.elim
  rename_i t et
  obtain ⟨v,e2,rv⟩:=ev.2 i t et
  refine ⟨v,e2,?_⟩
  have h1:LN XE (FlR X.K) X.K (Rep X.K) (fun t σ M=>(f σ M).bind fun y M1=>(op t y M1).bind fun z M2=>.ok (Fl.nx (σ.set i (some z))) M2) v σ H (qu D):=⟨S,στ,t,e,m,ev,rv,fin⟩
  refine LN.mono (LN.env (f:=f) (LN.bind (f:=fun _ σ M=>f σ M) (k:=fun (a:T) y σ M1=>(op a y M1).bind fun z M2=>.ok (Fl.nx (σ.set i (some z))) M2) (RB:=Rep X.K) h1)) fun yv H1 h2=>?_
  have h6:=LN.bind (f:=fun (a:T × T) _ M=>op a.1 a.2 M) (k:=fun a z σ M2=>.ok (Fl.nx (σ.set i (some z))) M2) (RB:=Rep X.K) h2
  obtain ⟨S5,a5,e5,m5,ra5,fin5⟩:=LN.l0 (k:=fun (a:T × T) M=>op a.1 a.2 M) h6
  refine ⟨S5,(a5.1,a5.2),e5,m5,⟨ra5.1,ra5.2⟩,fin5.mono fun zv H2 h7=>?_⟩
  obtain ⟨S6,στ6,a6,e6,m6,ev6,ra6,fin6⟩:=h7
  show D.nx (σ.set i (some zv)) H2
  rw [← e6];exact fin6 S6 (.nx _) rfl (.refl m6) (.nx (ev6.set ra6.2 i))⟩
end
section
variable {p:Ev->Mem->Out Fl}
theorem zg4 (hp:PassesOwn (model X.prog X.w) X.A X.env X.xe) (hc:X.calm = true) (he:WE X XE e f) (hg:WG X XE tg bd) (hb:WSs X XE sts p) (hs:∀ x,foldedSetIterable e X.env x = pure x:=by intro _;rfl):WS X XE (.For tg e sts [] pos) (zeh f bd p):=by
 have he:=he.pe
 have hg:=hg.pe
 have hb:=hb.pe
 exact ⟨PS.imp (zhn hp hc (zf5 he) hg hb hs) fun D σ H hh=>by
  refine LN.mono (LN.bind (f:=fun _ σ M=>f σ M) (k:=fun _ t σ M1=>zdn bd p t σ M1) (RB:=Rep X.K) hh) fun v H1 h1=>?_
  obtain ⟨S,στ,a,e,m,ev,ra,fin⟩:=h1
  replace fin:Fin XE (FlR X.K) X.K S (zdn bd p a.2 στ S.M) (qu D):=fin
  have r2:Rep X.K S a.2 v:=ra.2
  generalize a.2 = t at fin r2
  unfold zdn at fin
  split at fin
  case h_2=>exact fin.elim
  rename_i b
  split at fin
  case h_2=>exact fin.elim
  rename_i xs q
  cases r2 with
  | ref hb=>
  obtain ⟨vs,q2,rs⟩:=m.cell b _ q
  refine ⟨S.α b,rfl,⟨vs,by rw [← e];exact .inl (.inl q2)⟩,fun i n σ H=>∃ S1 στ,S1.H = H/\MemOk X.K S1/\EvR X.K S1 στ σ/\b < S1.M.length/\S1.α b = S.α b/\Fin XE (FlR X.K) X.K S1 (forR bd p b n i στ S1.M) (qu D),⟨_,S,στ,e,m,ev,hb,rfl,fin⟩,?_⟩
  rintro i n σ1 H2 ⟨S1,στ1,e1,m1,ev1,b1,al1,fin1⟩
  subst e1
  have stopped:∀ ys,S1.M[b]? = some (.lst ys)->ys.length<=i->Fin XE (FlR X.K) X.K S1 (.ok (.nx στ1) S1.M) (qu D)->(Itl X.K (S.α b)).stop i S1.H/\D.nx σ1 S1.H:=fun ys qy hl fin=>by
   obtain ⟨us,q3,rs3⟩:=m1.cell b _ qy
   rw [al1] at q3
   exact ⟨⟨us,.inl (.inl q3),by rw [← rs3.1];exact hl⟩,fin S1 (.nx σ1) rfl (.refl m1) (.nx ev1)⟩
  cases n with
  | zero=>
   unfold forR at fin1
   split at fin1
   case h_2=>exact fin1.elim
   rename_i ys qy
   by_cases hl:ys.length<=i
   ·rw [if_pos hl] at fin1;exact .inl (stopped ys qy hl fin1)
   ·rw [if_neg hl] at fin1;exact fin1.elim
  | succ n=>
   unfold forR at fin1
   split at fin1
   case h_2=>exact fin1.elim
   rename_i ys qy
   split at fin1
   case h_2=>
    rename_i qn
    exact .inl (stopped ys qy (List.getElem?_eq_none_iff.mp qn) fin1)
   rename_i x qx
   obtain ⟨us,q3,rs3⟩:=m1.cell b _ qy
   rw [al1] at q3
   obtain ⟨u,eu,ru⟩:=rs3.get qx
   refine .inr ⟨⟨us,u,.inl (.inl q3),eu⟩,fun σ' H'=>∃ S2 στ,S2.H = H'/\MemOk X.K S2/\EvR X.K S2 στ σ'/\b < S2.M.length/\S2.α b = S.α b/\Fin XE (FlR X.K) X.K S2 (forR bd p b n (i + 1) στ S2.M) (qu D),?_,fun y H' hy=>?_⟩
   ·rintro σ' H' ⟨S2,στ2,e2,m2,ev2,b2,al2,fin2⟩
    exact ⟨n,Nat.lt_succ_self _,S2,στ2,e2,m2,ev2,b2,al2,fin2⟩
   ·obtain ⟨ey,hy⟩:=hy
    have:=hy us (.inl (.inl q3))
    rw [eu] at this
    cases this
    subst ey
    refine ⟨S1,στ1,x,rfl,m1,ev1,ru,?_⟩
    cases o:bd x στ1 S1.M with
    | bad=>rw [o] at fin1;exact fin1
    | exn C fs M'=>rw [o] at fin1;exact fin1
    | ok σ3 M3=>
     rw [o] at fin1
     intro S3 σ3v e3 s3 ev3
     refine ⟨S3,σ3,(),rfl,s3.mok,ev3,trivial,?_⟩
     show Fin XE (FlR X.K) X.K S3 (p σ3 S3.M) _
     rw [e3]
     replace fin1:Fin XE (FlR X.K) X.K S1 ((p σ3 M3).bind (yM (forR bd p b n (i + 1)))) (qu D):=fin1
     cases o2:p σ3 M3 with
     | bad=>rw [o2] at fin1;exact fin1
     | exn C fs M'=>rw [o2] at fin1;exact Fin.later s3 fin1
     | ok fl M4=>
      rw [o2] at fin1
      intro S4 fv e4 s4 r4
      have s14:=s3.trans s4
      have b4:b < S4.M.length:=Q6 b1 s14.le
      have al4:S4.α b = S.α b:=by rw [s14.al b b1];exact al1
      cases r4 with
      | nx r4=>exact ⟨S4,_,rfl,s4.mok,r4,b4,al4,by rw [e4];exact Fin.later s14 fin1⟩
      | ct r4=>exact ⟨S4,_,rfl,s4.mok,r4,b4,al4,by rw [e4];exact Fin.later s14 fin1⟩
      | bk r4=>exact fin1 S4 (.nx _) e4 s14 (.nx r4)
      | rt r4=>exact fin1 S4 (.rt _) e4 s14 (.rt r4)⟩
end
section
variable {f:Str}
theorem zh (hC:∀ C ∈ Cs,Cls X.K C/\NoAttr X.K C f) (he:WE X XE e g) (hb:attributeBase e f X.env (eval e X.env) = eval e X.env:=by rfl):WE X XE (.Attribute e f pos) (yi Cs f g):=by
 have he:=he.pe
 exact ⟨PE.imp (zoO he hb) fun σ H Q hh=>
  LN.mono (LN.bind (f:=fun _ σ M=>g σ M) (k:=fun _ x σ M1=>zaq Cs f x M1) (RB:=Rep X.K) hh) fun v H1 h9=>by
   obtain ⟨S,στ,a,e,m,ev,ra,fin⟩:=h9
   obtain ⟨u0,t⟩:=a
   subst e
   have rt:Rep X.K S t v:=ra.2
   replace fin:Fin XE (Rep X.K) X.K S (zaq Cs f t S.M) Q:=fin
   unfold zaq at fin
   split at fin
   ·rename_i a
    split at fin
    ·rename_i C fs q
     split at fin
     ·rename_i hc
      obtain ⟨t,et,fin⟩:=zf6 fin
      cases rt
      obtain ⟨dx,us,h1,rf⟩:=m.cell _ _ q
      obtain ⟨w,ew,rw'⟩:=rf.look f et
      exact ⟨S.α a,C,dx,us,w,rfl,h1,(hC C hc).1,(hC C hc).2,ew,fin S w rfl (.refl m) rw'⟩
     ·exact fin.elim
    ·exact fin.elim
   ·exact fin.elim⟩
theorem yI {o value:Expr} {fv:Ev->Mem->Out T} (hC:∀ C ∈ Cs,Cls X.K C/\NoAttr X.K C f) (ho:WE X XE o fo) (hv:WE X XE value fv) (hs:swapsWith value (some (.Attribute o f pos')) pos.line X.env = pure false:=by rfl):WS X XE (.Assign [.Attribute o f pos'] value pos) (yB Cs f fo fv):=by
 have ho:=ho.pe
 have hv:=hv.pe
 exact ⟨PS.imp (zoC ho hv hs) fun D σ H hh=>by
  refine LN.mono (LN.bind (f:=fun _ σ M=>fv σ M) (k:=fun _ y σ M1=>(fo σ M1).bind fun x M2=>(zav Cs f x y M2).bind fun _ M3=>.ok (Fl.nx σ) M3) (RB:=Rep X.K) hh) fun yv H1 h1=>?_
  refine LN.mono (LN.env (f:=fo) (LN.bind (f:=fun _ σ M=>fo σ M) (k:=fun (a:Unit × T) x σ M2=>(zav Cs f x a.2 M2).bind fun _ M3=>.ok (Fl.nx σ) M3) (RB:=Rep X.K) h1)) fun xv H2 h2=>?_
  obtain ⟨S,στ,⟨⟨u0,y⟩,x⟩,e,m,ev,⟨⟨hu0,ry⟩,rx⟩,fin⟩:=h2
  subst e
  dsimp only at ry rx
  replace fin:Fin XE (FlR X.K) X.K S ((zav Cs f x y S.M).bind fun _ M3=>.ok (Fl.nx στ) M3) (qu D):=fin
  unfold zav at fin
  split at fin
  ·rename_i a
   split at fin
   ·rename_i C fs q
    split at fin
    ·rename_i hc
     cases rx
     obtain ⟨dx,us,h3,rf⟩:=m.cell _ _ q
     have ha:a < S.M.length:=(List.getElem?_eq_some_iff.mp q).1
     refine ⟨S.α a,C,dx,us,rfl,h3,(hC C hc.1).1,(hC C hc.1).2,by rw [← rf.len];exact hc.2,?_⟩
     have s1:=Stp.put m ha (.ins C dx (qU f yv us)) (.ins C (zcz f y fs)) ⟨dx,_,yt,(rf.put f ry).grow m (Grow.put m ha _ _)⟩
     exact fin (S.put a (.ins C dx (qU f yv us)) (.ins C (zcz f y fs))) (.nx σ) rfl s1 (.nx (Mo.mo m s1 ev))
    ·exact fin.elim
   ·exact fin.elim
  ·exact fin.elim⟩
end
variable {C:Addr}
section
theorem zeQ (M:MakT X.prog X.w X.K X.mg X.base k x C ps F) (hr:Room (k + 1) X.A) (hg:Gl X x) (ha:WA X XE (e :: es) ga) (hdb:(x == ("__debug__":Str)) = false:=by decide) (he:noStar e = true:=by rfl) (hpl:es.all noStar = true:=by rfl):WE X XE (.Call (.Name x p) (e :: es) [] pos) (zcj C F ga):=by
 have ha:=ha.pe
 refine ⟨?_⟩
 obtain ⟨fI,fd,Mk1,Fo,b,hm⟩:=M.ex
 refine PE.imp (zm4 Mk1 Fo hr hg hm b .nil zmm ha hdb (zX he) (zbC hpl)) fun σ H Q hh=>?_
 refine LN.mono (LN.bind (f:=fun _ σ M=>ga σ M) (k:=fun _ ts σ M1=>(F (T.ref M1.length :: ts) (M1 ++ [Cell.ins C []])).bind fun t M2=>zlG M1.length t M2) (RB:=Reps X.K) (R:=Rep X.K) hh) fun vs H1 ⟨S,στ,a,e,m,ev,ra,fin⟩=>?_
 obtain ⟨u0,ts⟩:=a
 subst e
 intro y dx hy hdx hne
 rw [append_nil]
 replace ra:Reps X.K S ts vs:=ra.2
 replace fin:Fin XE (Rep X.K) X.K S ((F (.ref S.M.length :: ts) (S.M ++ [.ins C []])).bind fun t M2=>zlG S.M.length t M2) Q:=fin
 have s1:=Stp.new m hdx (.own y)
 have hy1:(upd S.H dx (.own y)) y = none:=by rw [yh (Ne.symm hne)];exact hy
 have s2:Stp X.K ⟨S.α,S.M,upd S.H dx (.own y),S.hid⟩ (Sit.more ⟨S.α,S.M,upd S.H dx (.own y),S.hid⟩ y (.ins C dx []) (.ins C [])):=Stp.more s1.mok hy1 _ _ ⟨dx,[],yt,.nil⟩
 have s12:=s1.trans s2
 have al:(Sit.more ⟨S.α,S.M,upd S.H dx (.own y),S.hid⟩ y (.ins C dx []) (.ins C [])).α S.M.length = y:=if_pos rfl
 have h0:S.M.length < (S.M ++ [Cell.ins C []]).length:=by simp
 have r0:Rep X.K (Sit.more ⟨S.α,S.M,upd S.H dx (.own y),S.hid⟩ y (.ins C dx []) (.ins C [])) (.ref S.M.length) (.ref y):=by
  have:=Rep.ref (K:=X.K) (S:=Sit.more ⟨S.α,S.M,upd S.H dx (.own y),S.hid⟩ y (.ins C dx []) (.ins C [])) (a:=S.M.length) h0
  rw [al] at this
  exact this
 refine ⟨_,.ref S.M.length :: ts,rfl,s2.mok,(ra.grow m s12.toGrow).cons r0,?_⟩
 show Fin E0 (Rep X.K) X.K _ (F (.ref S.M.length :: ts) (S.M ++ [.ins C []])) _
 cases o:F (.ref S.M.length :: ts) (S.M ++ [.ins C []]) with
 | bad=>rw [o] at fin;exact fin.elim
 | exn C' fs M'=>exact absurd o (M.nox _ _ _ _ _)
 | ok t M2=>
  rw [o] at fin
  intro S3 c e3 s3 r3
  cases t with
  | non=>
   cases r3
   exact ⟨rfl,fin S3 (.ref y) e3 (s12.trans s3) (r0.grow s2.mok s3.toGrow)⟩
  | _=>exact fin.elim
end
section
variable {a b c:Expr} {pp:Pos} {p:Ev->Mem->Out Fl} {ga:Ev->Mem->Out (List T × Gd)}
theorem zk8 (hp:PassesOwn (model X.prog X.w) X.A X.env X.xe) (hc:X.calm = true) (hi:WIG X XE tg iter ga) (hg:WG X XE tg bd) (hb:WSs X XE sts p) (hs:∀ x,foldedSetIterable iter X.env x = pure x:=by intro _;rfl):WS X XE (.For tg iter sts [] pos) (zgT ga bd p):=by
 have hi:=hi.pe
 have hg:=hg.pe
 have hb:=hb.pe
 exact ⟨PS.imp (zhn hp hc hi hg hb hs) fun D σ H hh=>by
  refine LN.mono (LN.bind (f:=fun _ σ M=>ga σ M) (k:=fun _ xs σ M1=>forG xs.2 bd p xs.1 σ M1) (RB:=ItG X.K) hh) fun J H1 h1=>?_
  obtain ⟨S,στ,a,e,m,ev,ra,fin⟩:=h1
  refine ⟨fun i n σ H=>∃ S στ,S.H = H/\MemOk X.K S/\EvR X.K S στ σ/\ItG X.K S a.2 J/\n = a.2.1.length - i/\i<=a.2.1.length/\Fin XE (FlR X.K) X.K S (forG a.2.2 bd p (a.2.1.drop i) στ S.M) (qu D),⟨_,S,στ,e,m,ev,ra.2,rfl,Nat.zero_le _,fin⟩,?_⟩
  rintro i n σ1 H2 ⟨S1,στ1,e1,m1,ev1,it1,en,hi1,fin1⟩
  subst e1
  have hgd:=zkB fin1
  obtain ⟨it2,it3⟩:=it1 S1 (.refl m1) hgd
  by_cases hl:i < a.2.1.length
  ·have eq:a.2.1.drop i = a.2.1[i] :: a.2.1.drop (i + 1):=List.drop_eq_getElem_cons hl
   rw [eq] at fin1
   replace fin1:=(Fin.gd fin1).2
   obtain ⟨go,yl⟩:=it2 i a.2.1[i] (by simp [hl])
   refine .inr ⟨go,fun σ' H'=>∃ S στ,S.H = H'/\MemOk X.K S/\EvR X.K S στ σ'/\ItG X.K S a.2 J/\Fin XE (FlR X.K) X.K S (forG a.2.2 bd p (a.2.1.drop (i + 1)) στ S.M) (qu D),?_,fun x H' hy=>?_⟩
   ·rintro σ' H' ⟨S2,στ2,e2,m2,ev2,it4,fin2⟩
    exact ⟨a.2.1.length - (i + 1),by omega,S2,στ2,e2,m2,ev2,it4,rfl,hl,fin2⟩
   ·obtain ⟨S2,e2,eM,s2,r2⟩:=yl x H' hy
    replace fin1:Fin XE (FlR X.K) X.K S1 ((bd a.2.1[i] στ1 S1.M).bind fun σ1 M1=>(p σ1 M1).bind (yM (forG a.2.2 bd p (a.2.1.drop (i + 1))))) (qu D):=fin1
    refine ⟨S2,στ1,a.2.1[i],e2,s2.mok,Mo.mo m1 s2 ev1,r2,?_⟩
    rw [eM]
    cases o:bd a.2.1[i] στ1 S1.M with
    | bad=>rw [o] at fin1;exact fin1
    | exn C fs M'=>rw [o] at fin1;exact Fin.later s2 fin1
    | ok σ3 M3=>
     rw [o] at fin1
     intro S3 σ3v e3 s3 ev3
     have s13:=s2.trans s3
     refine ⟨S3,σ3,(),rfl,s3.mok,ev3,trivial,?_⟩
     show Fin XE (FlR X.K) X.K S3 (p σ3 S3.M) _
     rw [e3]
     replace fin1:Fin XE (FlR X.K) X.K S1 ((p σ3 M3).bind (yM (forG a.2.2 bd p (a.2.1.drop (i + 1))))) (qu D):=fin1
     cases o2:p σ3 M3 with
     | bad=>rw [o2] at fin1;exact fin1
     | exn C fs M'=>rw [o2] at fin1;exact Fin.later s13 fin1
     | ok fl M4=>
      rw [o2] at fin1
      intro S4 fv e4 s4 r4
      have s14:=s13.trans s4
      cases r4 with
      | nx r4=>exact ⟨S4,_,rfl,s4.mok,r4,Mo.mo m1 s14 it1,by rw [e4];exact Fin.later s14 fin1⟩
      | ct r4=>exact ⟨S4,_,rfl,s4.mok,r4,Mo.mo m1 s14 it1,by rw [e4];exact Fin.later s14 fin1⟩
      | bk r4=>exact fin1 S4 (.nx _) e4 s14 (.nx r4)
      | rt r4=>exact fin1 S4 (.rt _) e4 s14 (.rt r4)
  ·rw [List.drop_eq_nil_of_le (by omega)] at fin1
   replace fin1:=(Fin.gd fin1).2
   refine .inl ⟨it3 i (by omega),?_⟩
   exact fin1 S1 (.nx σ1) rfl (.refl m1) (.nx ev1)⟩
theorem zgp (hi:WIG X XE tg iter ga) (cb:CB X scope cl caps) (hg:∀ ex s0 H0,WG (X.block scope cl (tgs ++ caps.map (·.1)) ex s0 H0) XE tg bd) (hif:∀ ex s0 H0,PTs (X.block scope cl (tgs ++ caps.map (·.1)) ex s0 H0) ifs (lT XE X.K cond)) (hel:∀ ex s0 H0,WE (X.block scope cl (tgs ++ caps.map (·.1)) ex s0 H0) XE elt f) (hs:∀ x,foldedSetIterable iter X.env x = pure x:=by intro _;rfl):WL X XE (.ListComp elt [⟨tg,iter,ifs,0⟩] scope pos) (qX ga bd cond f tgs caps):=by
 have hi:=hi.pe
 have hg:=fun ex s0 H0=>(hg ex s0 H0).pe
 have hel:=fun ex s0 H0=>(hel ex s0 H0).pe
 exact ⟨PE.imp (ziB (tgs:=tgs) (g:=lG XE X.K bd) (tc:=lT XE X.K cond) (te:=lE XE X.K f) cb.hc hi cb.hclos cb.hcell cb.hkind cb.hnames cb.hcl cb.hhas cb.hcap hg hif hel hs) fun σ H Q hh=>zgH hh⟩
theorem zgM {py:Pos} (hi:WIG X XE tg iter ga) (cb:CB X scope cl caps) (hg:∀ ex s0 H0,WG (X.block scope cl (tgs ++ caps.map (·.1)) ex s0 H0) XE tg bd) (hif:∀ ex s0 H0,PTs (X.block scope cl (tgs ++ caps.map (·.1)) ex s0 H0) ifs (lT XE X.K cond)) (hel:∀ ex s0 H0,WE (X.block scope cl (tgs ++ caps.map (·.1)) ex s0 H0) XE elt f) (hN0:X.N.Nodup) (hi0:X.N[i0]? = some y0) (hx0:Loc X.env.scope y0) (hsw:swapsWith (.ListComp elt [⟨tg,iter,ifs,0⟩] scope pos) (some (.Name y0 py)) spos.line X.env = pure true:=by rfl) (hf0:X.fn y0 = true\/X.env.scope.names.lookup y0 = some .local:=by first | exact .inl rfl | exact .inr rfl | assumption) (hs:∀ x,foldedSetIterable iter X.env x = pure x:=by intro _;rfl):WS X XE (.Assign [.Name y0 py] (.ListComp elt [⟨tg,iter,ifs,0⟩] scope pos) spos) (zq i0 (eFz (qX ga bd cond f tgs caps))):=by
 have hi:=hi.pe
 have hg:=fun ex s0 H0=>(hg ex s0 H0).pe
 have hel:=fun ex s0 H0=>(hel ex s0 H0).pe
 exact ⟨PS.imp (zdC (tgs:=tgs) (g:=lG XE X.K bd) (tc:=lT XE X.K cond) (te:=lE XE X.K f) cb.hc hi cb.hclos cb.hcell cb.hkind cb.hnames cb.hcl cb.hhas cb.hcap hg hif hel hN0 hi0 hx0 hsw hf0 hs) fun D σ H ⟨S,στ,_,e,m,ev,_,fin⟩=>zgH ⟨S,στ,e,m,ev,by
  show FinL XE X.K S (qX ga bd cond f tgs caps στ S.M) _
  replace fin:Fin XE (FlR X.K) X.K S (((qX ga bd cond f tgs caps στ S.M).bind fun xs M1=>.ok (T.lst xs) M1).bind fun t M1=>.ok (.nx (στ.set i0 (some t))) M1) (qu D):=fin
  cases q:qX ga bd cond f tgs caps στ S.M with
  | bad=>rw [q] at fin;exact fin
  | exn C fs M'=>rw [q] at fin;exact fin
  | ok xs M1=>
   rw [q] at fin
   intro S1 p vs e1 s1 hn hp hv r
   exact fin (S1.show S.hid) (.nx (σ.set i0 (some (.ref p)))) e1 s1.show (.nx ((Mo.mo (K:=X.K) m s1.show ev).set (zge s1 hn m hp hv r) i0))⟩⟩
end
section
theorem zdm (he:WE X XE e f):WIG X XE tg e (zbT f):=by
 have he:=he.pe
 exact ⟨PI.imp (zf5 he) fun σ H R hh=>
  LN.mono (LN.bind (f:=fun _ σ M=>f σ M) (k:=fun _ t σ M1=>match zdE t M1 with | some g=>.ok g M1 | none=>.bad) (RB:=Rep X.K) hh) fun v H1 h9=>by
   obtain ⟨S,στ,a,e,m,ev,ra,fin⟩:=h9
   obtain ⟨u,t⟩:=a
   subst e
   have rt:Rep X.K S t v:=ra.2
   replace fin:Fin XE (ItG X.K) X.K S (match zdE t S.M with | some g=>.ok g S.M | none=>.bad) R:=fin
   cases q:zdE t S.M with
   | none=>rw [q] at fin;exact fin.elim
   | some g=>
    rw [q] at fin
    obtain ⟨xs,G⟩:=g
    obtain ⟨p,vs,rfl,h1,h2⟩:=znm m rt q
    refine ⟨p,rfl,⟨vs,h1⟩,fin S _ rfl (.refl m) fun S3 s3 gd=>?_⟩
    obtain ⟨vs3,g3,r3⟩:=h2 S3 s3 gd
    refine ⟨fun i t et=>?_,fun i hi=>⟨vs3,g3,by rw [← r3.1];exact hi⟩⟩
    obtain ⟨v2,ev3,rv⟩:=r3.get et
    refine ⟨⟨vs3,v2,g3,ev3⟩,fun x H' hy=>?_⟩
    obtain ⟨ey,hy⟩:=hy
    have:=hy vs3 g3
    rw [ev3] at this
    cases this
    exact ⟨S3,ey.symm,rfl,.refl s3.mok,rv⟩⟩
end
variable {cs:List Addr}
section
variable {j:Nat} {y v nm:Str} {pos2 np hp tp vp:Pos} {b0:Stmt} {suite:List Stmt} {g gs:Ev->Mem->Out Fl}
theorem zg7 (c:CalX X.prog X.w X.K X.mg X.base k x ps F) (hr:Room k X.A) (hg:Gl X x) (hx:Passes (CXX X.prog X.w) X XE) (ha:WA X XE (e :: es) ga) (hdb:(x == ("__debug__":Str)) = false:=by decide) (he:noStar e = true:=by rfl) (hpl:es.all noStar = true:=by rfl):WE X XE (.Call (.Name x p) (e :: es) [] pos) (yf F ga):=by
 have ha:=ha.pe
 refine ⟨?_⟩
 obtain ⟨fa,fd,Fo,kp,b,gg⟩:=c.ex
 exact PE.imp (ziC Fo hr hg gg kp b .nil hx ha hdb (zX he) (zbC hpl)) fun σ H Q hh=>
  LN.mono (LN.bind (f:=fun _ σ M=>ga σ M) (k:=fun _ ts σ M1=>F ts M1) (RB:=Reps X.K) hh) fun vs H1 h9=>by
   obtain ⟨S,στ,a,e,m,ev,ra,fin⟩:=h9
   rw [append_nil]
   exact ⟨S,a.2,e,m,ra.2,fin⟩
theorem zi6 (O:XcF X.prog X.w X.K X.mg X.base x C) (hr:Room 2 X.A) (hg:Gl X x) (hst:X.stack = X.env :: X.outer) (hf:X.env.frame = some X.env.locals) (hex:X.ex = []) (hxe:X.xe = fun ev s'=>wpAny (model X.prog X.w) X.A (leaving X.env ev) (fun _ s''=>CXX X.prog X.w X.outer X.H₀ X.s₀ XE ev s'') (fun e' s''=>CXX X.prog X.w X.outer X.H₀ X.s₀ XE e' s'') s') (ha:WA X XE [e] ga) (hd:(x == ("__debug__":Str)) = false:=by decide) (he:noStar e = true:=by rfl):WS X XE (.Raise (some (.Call (.Name x np) [e] [] cpos)) none pos) (zfq (zcx C) ga):=by
 have ha:=ha.pe
 refine ⟨?_⟩
 obtain ⟨f,fd,O1,Fo,hbd⟩:=O.ex
 exact PS.imp (zj4 O1 Fo hbd hr hg hst hf hex hxe ha hd (zX he)) fun D σ H hh=>
  LN.mono (LN.bind (f:=fun _ σ M=>ga σ M) (k:=fun _ ts σ M1=>zcx C ts M1) (RB:=Reps X.K) hh) fun vs H1 h9=>by
   obtain ⟨S,στ,a,e,m,ev,ra,fin⟩:=h9
   obtain ⟨u,ts⟩:=a
   have r:Reps X.K S ts vs:=ra.2
   replace fin:Fin XE (FlR X.K) X.K S (zcx C ts S.M) (qu D):=fin
   unfold zcx at fin
   split at fin
   ·rename_i t
    obtain ⟨w,vs1,rfl,r1,r2⟩:=r.consT
    have:=r2.nilT
    subst this
    refine ⟨w,rfl,fun d hd=>?_⟩
    subst e
    have s1:=Stp.new m hd (.xd [("at",w)])
    exact fin ⟨S.α,S.M,upd S.H d (.xd [("at",w)]),S.hid⟩ (some d) rfl s1 (.inr ⟨d,_,rfl,yt,rfl,.cons (r1.grow m s1.toGrow) .nil⟩)
   ·exact fin.elim
theorem zk6 (c:CalX X.prog X.w X.K X.mg X.base k x ps F) (hr:Room k X.A) (hg:Gl X x) (ha:∀ E1 XE,WA (X.wish E1) XE (e :: es) ga) (hdb:(x == ("__debug__":Str)) = false:=by decide) (he:noStar e = true:=by rfl) (hpl:es.all noStar = true:=by rfl) (hsw:swapsWith (.Call (.Name x p) (e :: es) [] pos) none pos2.line X.env = pure false:=by rfl):WX X [.Expr (.Call (.Name x p) (e :: es) [] pos) pos2] (zE (yf F ga)):=by
 have ha:=fun E1 XE=>(ha E1 XE).pe
 refine ⟨?_⟩
 obtain ⟨fa,fd,Fo,kp,b,gg⟩:=c.ex
 intro E
 have hp:=zmS (pos2:=pos2) (p:=p) (pos:=pos) (e:=e) (es:=es) (ta:=lA E X.K ga) Fo hr hg gg kp b (fun E'=>ha E' E) hdb (zX he) (zbC hpl) hsw
 intro pins s σ H D I q
 refine hp E pins s σ H D I ?_
 have h1:=LN.bind (f:=fun _ σ M=>ga σ M) (k:=fun _ ts σ M1=>(F ts M1).bind fun _ M2=>.ok (Fl.nx σ) M2) (RB:=Reps X.K) (XE:=E) (K:=X.K) (R:=FlR X.K) (RA:=UnR) (av:=()) (σ:=σ) (H:=H) (Q:=qu D) (by
  obtain ⟨S,στ,a,e,m,ev,ra,fin⟩:=q
  refine ⟨S,στ,a,e,m,ev,ra,?_⟩
  have:(zE (yf F ga) στ S.M) = ((ga στ S.M).bind fun ts M1=>(F ts M1).bind fun _ M2=>.ok (Fl.nx στ) M2):=by
   unfold zE yf
   cases ga στ S.M <;> rfl
  show Fin E (FlR X.K) X.K S ((ga στ S.M).bind fun ts M1=>(F ts M1).bind fun _ M2=>.ok (Fl.nx στ) M2) (qu D)
  rw [← this]
  exact fin)
 refine LN.mono h1 fun vs H1 ⟨S,στ,a,e,m,ev,ra,fin⟩=>?_
 refine ⟨S,a.2,e,m,ra.2,?_⟩
 show Fin E (Rep X.K) X.K S (F a.2 S.M) _
 replace fin:Fin E (FlR X.K) X.K S ((F a.2 S.M).bind fun _ M2=>.ok (Fl.nx στ) M2) (qu D):=fin
 cases o:F a.2 S.M with
 | bad=>rw [o] at fin;exact fin
 | exn C fs M'=>rw [o] at fin;exact fin
 | ok t M1=>
  rw [o] at fin
  intro S1 w e1 s1 r1
  exact fin S1 (.nx σ) e1 s1 (.nx (Mo.mo m s1 ev))
theorem zmx:WS X XE st zln:=⟨fun _ _ _ _ _ _ ⟨_,_,_,_,_,_,_,fin⟩=>fin.elim⟩
theorem zk7 (hb:WX X sts g) (hS:∀ C' ∈ cs,Sup X.K X.mg y C C') (hgy:Gl X y) (hst:X.stack = X.env :: X.outer) (hf:X.env.frame = some X.env.locals) (hex:X.ex = []) (hN:X.N.Nodup) (hj:X.N[j]? = some nm) (hk:X.env.scope.names.lookup nm = some .local) (hs:∀ ev,WSs (X.suite ev) E0 (b0 :: suite) gs) (hdy:(y == ("__debug__":Str)) = false:=by decide):WS X XE (.Try sts [.ExceptHandler (some (.Name y np)) (some nm) (b0 :: suite) hp] [] [] tp) (zfp j cs g gs):=by
 have hb:=hb.pe
 have hs:=fun ev=>(hs ev).pe
 exact ⟨PS.imp (zmY (th:=lS E0 X.K gs) hb hgy hst hf hex hN hj hk hs hdy) fun D σ H h9=>by
  obtain ⟨S,στ,a,e,m,ev,ra,fin⟩:=h9
  refine ⟨S,στ,a,e,m,ev,ra,?_⟩
  show Fin _ (FlR X.K) X.K S (g στ S.M) (qu D)
  replace fin:Fin XE (FlR X.K) X.K S (match g στ S.M with | .exn C fs M'=>if cs.contains C = true then (noX (gs (στ.set j (some (.exc C fs))) M')).bind (clr j) else .bad | o=>o) (qu D):=fin
  cases o:g στ S.M with
  | bad=>rw [o] at fin;exact fin
  | ok fl M1=>rw [o] at fin;exact fin
  | exn C' fs M'=>
   rw [o] at fin
   intro S1 od e1 s1 xr
   subst e1
   replace fin:Fin XE (FlR X.K) X.K S (if cs.contains C' = true then (noX (gs (στ.set j (some (.exc C' fs))) S1.M)).bind (clr j) else .bad) (qu D):=fin
   by_cases hc:cs.contains C' = true
   ·rw [if_pos hc] at fin
    refine ⟨C',rfl,hS C' (List.contains_iff_mem.mp hc),fun ex hx=>?_⟩
    have s2:=Stp.new s1.mok hx (.ext (ExO ex C' od))
    have rx:Rep X.K ⟨S1.α,S1.M,upd S1.H ex (.ext (ExO ex C' od)),S1.hid⟩ (.exc C' fs) (.ref ex):=by
     rcases xr with ⟨rfl,rfl⟩ | ⟨d,us,rfl,hd,l,rr⟩
     ·exact .exc (us:=[]) yt (.inl ⟨rfl,rfl⟩) rfl fun i t v z=>by simp at z
     ·exact .exc (us:=us) yt (.inr ⟨d,rfl,(yh (yA hd hx)).trans hd⟩) l (rr.grow s1.mok s2.toGrow).2
    refine ⟨_,στ.set j (some (.exc C' fs)),(),rfl,s2.mok,(Mo.mo s1.mok s2 (Mo.mo m s1 ev)).set rx j,trivial,?_⟩
    show Fin E0 (FlR X.K) X.K _ (gs (στ.set j (some (.exc C' fs))) S1.M) _
    cases o2:gs (στ.set j (some (.exc C' fs))) S1.M with
    | bad=>rw [o2] at fin;exact fin
    | exn C2 fs2 M2=>rw [o2] at fin;exact fin.elim
    | ok fl M2=>
     rw [o2] at fin
     intro S3 c e3 s3 r3
     have st:=(s1.trans s2).trans s3
     cases r3 with
     | nx r=>exact fin S3 (.nx _) e3 st (.nx (r.clr j))
     | rt r=>exact fin S3 (.rt _) e3 st (.rt r)
     | bk r=>exact fin S3 (.bk _) e3 st (.bk (r.clr j))
     | ct r=>exact fin S3 (.ct _) e3 st (.ct (r.clr j))
   ·rw [if_neg hc] at fin
    exact fin.elim⟩
theorem zmz (hS:∀ C' ∈ cs,∃ nm fI,XcAt X.K X.mg nm C' fI) (h:WE X XE e f) (hb:attributeBase e "at" X.env (eval e X.env) = eval e X.env:=by rfl):WE X XE (.Attribute e "at" pos) (eUn (xat cs) f):=by
 have h:=h.pe
 exact ⟨PE.imp (zoH h hb) fun σ H Q hh=>
  LN.mono (LN.bind (f:=fun _ σ M=>f σ M) (k:=fun _ x σ M1=>xat cs x M1) (RB:=Rep X.K) hh) fun v H1 h9=>by
   obtain ⟨S,στ,a,e,m,ev,ra,fin⟩:=h9
   obtain ⟨u,t⟩:=a
   have r:Rep X.K S t v:=ra.2
   replace fin:Fin XE (Rep X.K) X.K S (xat cs t S.M) Q:=fin
   cases r with
   | @exc C fs us p od h hd l rr=>
    unfold xat at fin
    dsimp only at fin
    by_cases hc:cs.contains C = true
    ·rw [if_pos hc] at fin
     split at fin
     ·rename_i w q
      obtain ⟨v,lv,rv⟩:=zgv l rr q
      obtain ⟨nm,fI,O⟩:=hS C (List.contains_iff_mem.mp hc)
      rcases hd with ⟨rfl,rfl⟩ | ⟨d,rfl,hd⟩
      ·simp at lv
      ·subst e
       exact ⟨p,C,d,us,v,nm,fI,rfl,h,hd,O,lv,fin S v rfl (.refl m) rv⟩
     ·exact fin.elim
    ·rw [if_neg hc] at fin;exact fin.elim
   | _=>exact fin.elim⟩
end
variable {qual:Str}
section
theorem zo {p:Nat} {g:Ev->Mem->Out Fl} (D:Df K mg x st ps) (Sc:FnScope N ps (yd st)) (hp:ps.length = p) (hn:N.length = n)
 (hb:∀ (f:Addr) (cdv:Value) (A:Around) (outer:List PySem.Env) (s:Shared) (H:Hp) (E:XK),Room k (A.deeper (envOfC x (yd st) s.heap.objs.size f cdv))->WSs (zbc CX0 P w K mg base N x (yd st) f cdv A outer s H E).nox E0 (zB st) g) :
  CalT P w K mg base (k + 1) x ps (qh p n g):=zkY D Sc hp hn fun f cdv A outer s H E hr=>(hb f cdv A outer s H E hr).pe
theorem zeS {p:Nat} {g:Ev->Mem->Out Fl} (D:Df K mg x st ps) (Sc:FnScope N ps (yd st)) (hp:ps.length = p) (hn:N.length = n)
 (hb:∀ (f:Addr) (cdv:Value) (A:Around) (outer:List PySem.Env) (s:Shared) (H:Hp) (E:XK),Room k (A.deeper (envOfC x (yd st) s.heap.objs.size f cdv))->WSs (zbc (CXX P w) P w K mg base N x (yd st) f cdv A outer s H E) E (zB st) g) :
  CalX P w K mg base (k + 1) x ps (y8 p n g):=zn2 D Sc hp hn fun f cdv A outer s H E hr=>(hb f cdv A outer s H E hr).pe
theorem zmw {f:Addr} {fd:FuncData} {p:Nat} {g:Ev->Mem->Out Fl} (F:Fun K x qual st f fd) (Sc:FnScope N ps (yd st)) (hp:ps.length = p) (hn:N.length = n)
 (hb:∀ (cdv:Value) (A:Around) (outer:List PySem.Env) (s:Shared) (H:Hp) (E:XK),Room k (A.deeper (envOfC qual (yd st) s.heap.objs.size f cdv))->WSs (zbc CX0 P w K mg base N qual (yd st) f cdv A outer s H E).nox E0 (zB st) g) :
  FnOk P w K mg base CX0 (k + 1) f fd ps (spT K (qh p n g)):=zo7 F Sc hp hn fun cdv A outer s H E hr=>(hb cdv A outer s H E hr).pe
theorem zik {p:Nat} {g:Ev->Mem->Out Fl} (D:Di K mg x qual C st ps) (Sc:FnScope N ps (yd st)) (hp:ps.length = p) (hn:N.length = n)
 (hb:∀ (f:Addr) (cdv:Value) (A:Around) (outer:List PySem.Env) (s:Shared) (H:Hp) (E:XK),Room k (A.deeper (envOfC qual (yd st) s.heap.objs.size f cdv))->WSs (zbc CX0 P w K mg base N qual (yd st) f cdv A outer s H E).nox E0 (zB st) g) :
  MakT P w K mg base (k + 1) x C ps (qh p n g):=zo3 D Sc hp hn fun f cdv A outer s H E hr=>(hb f cdv A outer s H E hr).pe
end
section
variable {f:Str}
theorem zjR (hg:Gl X x) (hm:∃ a,X.mg x = some (.ref a)/\KTu X.K a (ss.map .str)) (hd:(x == ("__debug__":Str)) = false:=by decide):WE X XE (.Name x pos) (eC (.tup (ss.map .str))):=by
 refine ⟨?_⟩
 obtain ⟨a,hm,o,its,n,h⟩:=hm
 refine zbK (zm5 (v:=.ref a) hg hm rfl hd) fun S=>.tup (.inr ⟨o,its,n,h⟩) (by simp) fun i t v e1 e2=>?_
 rw [Qc] at e1 e2
 cases q:ss[i]? with
 | none=>rw [q] at e1;cases e1
 | some z=>rw [q] at e1 e2;cases e1;cases e2;exact .str _
theorem zk9 {o:Expr} {n:Int} {j} (hC:∀ C ∈ Cs,Cls X.K C/\NoAttr X.K C f) (ho:WE X XE o fo):WS X XE (.AugAssign (.Attribute o f tpos) .Add (.Constant (.int n) j cpos) pos) (zfr Cs f fo n):=by
 have ho:=ho.pe
 exact ⟨PS.imp (zj5 ho zka zpm) fun D σ H hh=>by
  refine LN.mono (LN.bind (f:=fun _ σ M=>fo σ M) (k:=fun _ x σ M1=>(zaq Cs f x M1).bind fun v M2=>(zc6 v (.int n) M2).bind fun z M3=>(zav Cs f x z M3).bind fun _ M4=>.ok (Fl.nx σ) M4) (RB:=Rep X.K) hh) fun xv H1 h1=>?_
  obtain ⟨S,στ,⟨u0,x⟩,e,m,ev,⟨hu0,rx⟩,fin⟩:=h1
  subst e
  dsimp only at rx
  replace fin:Fin XE (FlR X.K) X.K S ((zaq Cs f x S.M).bind fun v M2=>(zc6 v (.int n) M2).bind fun z M3=>(zav Cs f x z M3).bind fun _ M4=>.ok (Fl.nx στ) M4) (qu D):=fin
  cases x with
  | ref a=>
   unfold zaq at fin
   dsimp only at fin
   cases q:S.M[a]? with
   | none=>rw [q] at fin;exact fin.elim
   | some c=>
    rw [q] at fin
    cases c with
    | ins C fs=>
     dsimp only at fin
     by_cases hc:C ∈ Cs
     ·rw [if_pos hc] at fin
      cases l:fs.lookup f with
      | none=>rw [l] at fin;exact fin.elim
      | some v=>
       rw [l] at fin
       replace fin:Fin XE (FlR X.K) X.K S ((zc6 v (.int n) S.M).bind fun z M3=>(zav Cs f (.ref a) z M3).bind fun _ M4=>.ok (Fl.nx στ) M4) (qu D):=fin
       cases v with
       | int i=>
        replace fin:Fin XE (FlR X.K) X.K S ((zav Cs f (.ref a) (.int (i + n)) S.M).bind fun _ M4=>.ok (Fl.nx στ) M4) (qu D):=fin
        unfold zav at fin
        simp only [q] at fin
        split at fin
        ·rename_i hl
         cases rx
         obtain ⟨dx,us,h3,rf⟩:=m.cell _ _ q
         have ha:a < S.M.length:=(List.getElem?_eq_some_iff.mp q).1
         obtain ⟨w,ew,rw'⟩:=rf.look f l
         cases rw'
         refine ⟨S.α a,C,dx,us,_,rfl,h3,(hC C hc).1,(hC C hc).2,ew,?_⟩
         refine ⟨i,n,rfl,rfl,dx,us,h3,by rw [← rf.len];exact hl.2,?_⟩
         have s1:=Stp.put m ha (.ins C dx (qU f (.int (i + n)) us)) (.ins C (zcz f (.int (i + n)) fs)) ⟨dx,_,yt,(rf.put f (.int _)).grow m (Grow.put m ha _ _)⟩
         exact fin (S.put a (.ins C dx (qU f (.int (i + n)) us)) (.ins C (zcz f (.int (i + n)) fs))) (.nx σ) rfl s1 (.nx (Mo.mo m s1 ev))
        ·exact fin.elim
       | _=>exact fin.elim
     ·rw [if_neg hc] at fin;exact fin.elim
    | _=>exact fin.elim
  | _=>exact fin.elim⟩
end
theorem CalX.refine {f g:List T->Mem->Out T} (C:CalX P w K mg base k x ps g) (h:Refines f g) (nox:∀ ts M C fs M',f ts M ≠ .exn C fs M'):CalT P w K mg base k x ps f:=by
 refine ⟨?_,nox⟩
 obtain ⟨fa,fd,F,kp,b,gg⟩:=C.ex
 have key:∀ vs H Q E,spT K f vs H Q E->spT K g vs H Q fun _ _ _=>False:=by
  rintro vs H Q E ⟨S,ts,e,m,r,fin⟩
  refine ⟨S,ts,e,m,r,?_⟩
  have wf:∀ c ∈ S.M,Cell.lt S.M.length c:=fun c hc=>by
   obtain ⟨i,hi,rfl⟩:=getElem_of_mem hc
   exact (m.cell i _ (by simp [hi])).lt
  cases o:f ts S.M with
  | bad=>rw [o] at fin;exact fin.elim
  | exn C' fs M'=>exact absurd o (nox _ _ _ _ _)
  | ok t' M1=>
   rw [o] at fin
   obtain ⟨t,M',eg,l1,l2,eM,hc,z⟩:=h ts S.M t' M1 wf o
   rw [eg]
   intro S' v e1 s r1
   have hl:∀ (i:Nat) c,i < M1.length->S'.M[i]? = some c->Cell.lt M1.length c:=fun i c hi ec=>by
    have e2:M1[i]? = some c:=by
     rw [eM,getElem?_take,if_pos hi,← e1];exact ec
    rcases hc i c e2 with q | q
    ·exact (wf c (Qb q)).mono l1
    ·exact q
   have sc:=s.cut l1 (by rw [e1];exact l2) hl
   refine fin (S'.cut M1.length S.hid) v ?_ sc ?_
   ·show S'.M.take M1.length = M1
    rw [e1];exact eM.symm
   ·exact Rep.fz s.mok (by rw [e1];exact l2) (fun p h=>(s.hk p h).1) (by rw [e1];exact z) r1
 refine ⟨⟨fa,fd,⟨fun vs H Q E q=>F.len vs H Q _ (key _ _ _ _ q),?_⟩,kp,b,gg⟩⟩
 intro A outer s H args us vs Q E hr h0 hb hv hq
 refine codeAny_mono (F.run A outer s H args us vs Q _ hr h0 hb hv (key _ _ _ _ hq)) fun r s' z=>?_
 cases r with
 | ok v=>cases v <;> exact z
 | error e=>
  obtain ⟨_,_,_,_,_,_,_,_,_,_,_,_,_,_,_,z⟩:=z
  exact z.elim
end FT
namespace L2
open PySem PySem.Spec PyProof.Rows
variable {A:Around} {prog:Program} {s:Shared} {E Q:Value->Shared->Prop} {w:World}
section
def zfS (h:Heap) (v:Value) (p:Int × Int):Prop:=∃ a t u,v = .ref a/\h.IsTuple a #[.int p.1 t,.int p.2 u]
noncomputable def ltP (p q:Int × Int):Bool:=decide (p.1 < q.1) || (p.1 == q.1 && decide (p.2 < q.2))
theorem int_lt {a b:Int} {t u:Tok} (h:Q (.bool (decide (a < b))) s):wpAny (model prog w) A (richCompare .Lt (.int a t) (.int b u)) Q E s:=
 CmpOf.ints_lt (P:=fun i v=>(i = 0/\v = .int a t)\/(i = 1/\v = .int b u)) (fun i=>if i = 0 then a else b) (fun i v h=>by
  rcases h with ⟨rfl,rfl⟩ | ⟨rfl,rfl⟩
  ·exact ⟨t,rfl⟩
  ·exact ⟨u,rfl⟩) 0 1 _ _ s Q E (.inl ⟨rfl,rfl⟩) (.inr ⟨rfl,rfl⟩) h
theorem zhq {a b:Addr} {x1 x2 y1 y2:Int} {t1 t2 u1 u2:Tok} {P:Fin->Shared->Prop} (hx:s.heap.IsTuple a #[.int x1 t1,.int x2 t2]) (hy:s.heap.IsTuple b #[.int y1 u1,.int y2 u2]) (h:P (.done (.ret (.bool (ltP (x1,x2) (y1,y2))))) s) :
  wpAny (model prog w) A (Builtin.«tuple.__lt__» ⟨[.ref a,.ref b],[]⟩) P E s:=by
 obtain ⟨oa,hoa,hca,na,hda⟩:=hx
 obtain ⟨ob,hob,hcb,nb,hdb⟩:=hy
 have hTb:s.TypeIs (.ref b) "tuple":=⟨ob,hob,hcb⟩
 show wpAny _ _ (isInstance (.ref b) (.type "tuple") >>= _) _ _ s
 refine Q2 (wpAny_isInstance hTb isSubtype_tuple_tuple ?_)
 simp only [Bool.not_true,Bool.false_eq_true,if_false]
 refine Q2 (wpAny_tupleItemsOf hoa hda ?_)
 refine Q2 (wpAny_tupleItemsOf hob hdb ?_)
 refine Q2 ?_
 simp only [List.zip_cons_cons,List.zip_nil_right,List.forIn_cons,List.forIn_nil]
 refine Q2 (Q2 (wpAny_eqBool_int ?_))
 by_cases e1:x1 = y1
 ·subst e1
  simp only [BEq.rfl,Bool.not_true,Bool.false_eq_true,if_false]
  refine Qg (Q2 (Q2 (wpAny_eqBool_int ?_)))
  by_cases e2:x2 = y2
  ·subst e2
   simp only [BEq.rfl,Bool.not_true,Bool.false_eq_true,if_false]
   refine Qg (Qg ?_)
   refine Qg ?_
   have:ltP (x1,x2) (x1,x2) = false:=by simp [ltP]
   rw [this] at h
   exact h
  ·have e2':(x2 == y2) = false:=by simpa using e2
   simp only [e2',Bool.not_false,if_true]
   refine Q2 (wpAny_rule (Q2 (int_lt ?_)))
   have:ltP (x1,x2) (x1,y2) = decide (x2 < y2):=by simp [ltP]
   rw [this] at h
   exact Q2 (Qg (Qg (Qg (Qg h))))
 ·have e1':(x1 == y1) = false:=by simpa using e1
  simp only [e1',Bool.not_false,if_true]
  refine Q2 (wpAny_rule (Q2 (int_lt ?_)))
  have:ltP (x1,x2) (y1,y2) = decide (x1 < y1):=by simp [ltP,e1']
  rw [this] at h
  exact Q2 (Qg (Qg (Qg (Qg h))))
theorem zm8 {v u:Value} {p q:Int × Int} (hx:zfS s.heap v p) (hy:zfS s.heap u q) (hu:A.units < cLine) (h:Q (.bool (ltP p q)) s):wpAny (model prog w) A (richCompare .Lt v u) Q E s:=by
 obtain ⟨a,t1,t2,rfl,hx⟩:=hx
 obtain ⟨b,u1,u2,rfl,hy⟩:=hy
 have ta:s.TypeIs (.ref a) "tuple":=by obtain ⟨o,ho,hc,_⟩:=hx;exact ⟨o,ho,hc⟩
 have tb:s.TypeIs (.ref b) "tuple":=by obtain ⟨o,ho,hc,_⟩:=hy;exact ⟨o,ho,hc⟩
 exact wpAny_richCompare_same_room (op:=.Lt) ta tb F.slot_tuple_lt (wpAny_call_entry F.slot_tuple_lt ta F.entry_tuple_lt (zhq hx hy ⟨_,rfl,(fun e=>nomatch e),h⟩) (F.args_tuple_lt_2 _ _)) hu
end
variable {I:Addr} {G:Array GenState->Array GenState->Prop} {fp wr:List Addr} {n:Nat} {P:Nat->Value->Prop}
section
variable {St:Nat->Shared->Prop}
theorem zjT (W:WalksS prog w A I fp wr G n P St) (ts:List Addr) (h0:Heap) (hd:∀ a ∈ ts,a ∉ wr):WalksS prog w A I (fp ++ ts) wr G n P (fun k s=>St k s/\∀ a ∈ ts,∀ o,h0.get? a = some o->s.heap.get? a = some o) where
 sub:=fun b hb=>mem_append_left _ (W.sub b hb)
 grefl:=W.grefl
 gtrans:=W.gtrans
 frame:=fun i s h' tk hs ht hk=>⟨W.frame i s h' tk hs.1 ht fun b hb=>hk b (mem_append_left _ hb),fun a ha o e=>hk a (Qn _ ha) o (hs.2 a ha o e)⟩
 item:=fun i s Q E hi hs k=>W.item i s Q E hi hs.1 fun v s' hP hs' hm=>k v s' hP ⟨hs',fun a ha o e=>hm.heap a o (hd a ha) (hs.2 a ha o e)⟩ hm
 done:=fun s Q E hs k=>W.done s Q E hs.1 k
 self:=fun i s Q E hs k=>W.self i s Q E hs.1 k
end
section
variable {R:Result->Shared->Prop} {St:Nat->Shared->Prop}
def zk5 (prog:Program) (w:World) (A:Around) (P:Nat->Value->Prop) (St:Nat->Shared->Prop) (bt:Nat->Nat->Bool):Prop:=
 ∀ k i j x y (s:Shared) (Q:Value->Shared->Prop) (E:Value->Shared->Prop),St k s->P i x->P j y->Q (.bool (bt i j)) s->wpAny (model prog w) A (richCompare .Lt x y) Q E s
theorem zo2 (W:WalksS prog w A.in1 I fp wr G n P St) (bt:Nat->Nat->Bool) (hl:zk5 prog w A.in1 P St bt) (S:Addr) (hS:S ∉ fp):∀ (k j:Nat) (s:Shared) (b:Value) (c:Nat),n = j + 1 + k->St (j + 1) s->P (argBest bt j) b->
  s.heap.get? S = some { cls:=.type "list",dict:=none,data:=.seq #[b,b] c,slots:=#[] }->(∀ v s',P (argBest bt (n - 1)) v->Moved (S :: wr) G s s'->R (.ok (.ret v)) s')->
  codeAny (model prog w) A (.builtin "min.loop" ⟨[.ref I,.none,.ref S],[]⟩) R s:=by
 have hw:S ∉ wr:=fun h=>hS (W.sub _ h)
 have sb:∀ b ∈ wr,b ∈ S :: wr:=fun b hb=>.tail _ hb
 have nm:(toString "min" ++ toString ".loop":String) = "min.loop":=by decide
 have ns:∀ {b:Addr},b ∉ S :: wr->S ≠ b:=fun hb h=>hb (h ▸ .head _)
 intro k
 induction k with
 | zero=>
  intro j s b c hn st hb hs hR
  refine codeAny_builtin F.entry_min_loop ?_
  rw [Around.under_plainId F.plain_min_loop _]
  refine Q2 (wpAny_seqItems hs rfl ?_)
  refine Q2 (wpAny_tryCatch (W.done s _ _ (by rw [hn];exact st) fun s' hm=>?_))
  have hs':=hm.heap S _ hw hs
  refine Q2 ?_
  refine wpAny_updateSeq hs' rfl (Q2 (wpAny_letGo (Qg ?_)))
  exact hR b _ (by rw [hn];exact hb) ((hm.mono sb).then_heap (tk:=s'.toks) (Q4 _) fun b o hb e=>(Qr _ _ (ns hb)).trans e)
 | succ k ih=>
  intro j s b c hn st hb hs hR
  refine codeAny_builtin F.entry_min_loop ?_
  rw [Around.under_plainId F.plain_min_loop _]
  refine Q2 (wpAny_seqItems hs rfl ?_)
  refine Q2 (wpAny_tryCatch (W.item (j + 1) s _ _ (by omega) st fun v s' hv st' hm=>?_))
  have hs':=hm.heap S _ hw hs
  show wpAny _ A.in1 (tryCatch (holding [v,v] (richCompare .Lt v b >>= _)) _ >>= _) _ _ _
  refine Q2 (wpAny_tryCatch (wpAny_holding (Q2 (hl _ (j + 1) (argBest bt j) v b _ _ _ st' hv hb ?_))))
  refine Q2 (wpAny_holding (wpAny_truthy_bool ?_))
  refine Q2 (wpAny_letGo (Qg ?_))
  cases q:bt (j + 1) (argBest bt j) with
  | true=>
   simp only [if_true]
   refine Q2 ?_
   refine wpAny_updateSeq hs' rfl (Q2 (wpAny_letGo ?_))
   rw [nm]
   refine Qg ⟨plainId_quiet F.plain_min_loop _,ih (j + 1) _ v _ (by omega) (W.frame _ s' _ s'.toks st' (Q4 _) fun b hbf o e=>?_) (by simp only [argBest,q,if_true];exact hv) (Heap.get?_update_self _ hs' rfl) fun v' s'' hv' hm'=>?_⟩
   ·exact (Qr _ _ (fun h:S = b=>hS (h ▸ hbf))).trans e
   ·exact hR v' s'' hv' (Moved.trans W.gtrans ((hm.mono sb).then_heap (Q4 _) fun b o hb e=>(Qr _ _ (ns hb)).trans e) hm')
  | false=>
   simp only [Bool.false_eq_true,if_false]
   refine Q2 (wpAny_letGo ?_)
   rw [nm]
   exact Qg ⟨plainId_quiet F.plain_min_loop _,ih (j + 1) _ b c (by omega) st' (by simp only [argBest,q,Bool.false_eq_true,if_false];exact hb) hs' fun v' s'' hv' hm'=>hR v' s'' hv' (Moved.trans W.gtrans (hm.mono sb) hm')⟩
end
theorem zo0 {x:Value} 
 (h:wpAny (model prog w) A.in1 (pyIter x) (fun it s₂=>∃ I fp wr G n P St bt,it = .ref I/\WalksS prog w A.in1 I fp wr G n P St/\St 0 s₂/\(∀ b ∈ fp,b < s₂.heap.objs.size)/\0 < n/\zk5 prog w A.in1 P St bt/\∀ v s',P (argBest bt (n - 1)) v->Moved wr G s₂ s'->Q v s') E s) :
  wpAny (model prog w) A (call (.builtin "min") [x]) Q E s:=by
 have nm:(toString "min" ++ toString ".loop":String) = "min.loop":=by decide
 refine call_function_tree F.kind_min F.plain_min F.entry_min (F.args_min1 _) ?_
 refine Q2 (wpAny_of_eq (show Builtin.Builtins.bindParams "min" ["key","default"] 0 ⟨[],[]⟩ = pure [none,none] from rfl) ?_)
 refine Q2 (Qg ?_)
 refine Q2 (Qh h (fun it s₂ h₂=>?_) fun _ _ e=>e)
 obtain ⟨I,fp,wr,G,n,P,St,bt,rfl,W,st,lo,hn,hl,hQ⟩:=h₂
 refine Q2 (Qv ?_)
 have hS:s₂.heap.objs.size ∉ fp:=fun hm=>Qp _ (lo _ hm)
 have hw:s₂.heap.objs.size ∉ wr:=fun h=>hS (W.sub _ h)
 have ns:∀ {b:Addr},b ∉ s₂.heap.objs.size :: wr->s₂.heap.objs.size ≠ b:=fun hb h=>hb (h ▸ .head _)
 rw [nm]
 refine Qg ⟨plainId_quiet F.plain_min_loop _,?_⟩
 have st1:=W.frame _ s₂ (s₂.heap.push { cls:=.type "list",dict:=none,data:=.seq #[] 0,slots:=#[] }) s₂.toks st (Q4 _) fun b _ o e=>Q3 _ e
 have hs:(s₂.heap.push { cls:=.type "list",dict:=none,data:=.seq #[] 0,slots:=#[] }).get? s₂.heap.objs.size = some { cls:=.type "list",dict:=none,data:=.seq #[] 0,slots:=#[] }:=Qm _ rfl
 refine codeAny_builtin F.entry_min_loop ?_
 rw [Around.under_plainId F.plain_min_loop _]
 refine Q2 (wpAny_seqItems hs rfl ?_)
 refine Q2 (wpAny_tryCatch (W.item 0 _ _ _ hn st1 fun v s' hv st' hm=>?_))
 have hs':=hm.heap _ _ hw hs
 show wpAny _ A.in1 (updateSeq _ (fun _=>#[v,v]) >>= _) _ _ _
 refine Q2 ?_
 refine wpAny_updateSeq hs' rfl ?_
 rw [nm]
 refine Qg ⟨plainId_quiet F.plain_min_loop _,zo2 W bt hl _ hS (n - 1) 0 _ v _ (by omega) (W.frame _ s' _ s'.toks st' (Q4 _) fun b hbf o e=>?_) hv (Heap.get?_update_self _ hs' rfl) fun v' s'' hv' hm'=>?_⟩
 ·exact (Qr _ _ (fun h:s₂.heap.objs.size = b=>hS (h ▸ hbf))).trans e
 ·refine hQ v' s'' hv' ?_
  have m1:Moved (s₂.heap.objs.size :: wr) G _ s'':=Moved.trans W.gtrans ((hm.mono (fun b hb=>.tail _ hb)).then_heap (Q4 _) fun b o hb e=>(Qr _ _ (ns hb)).trans e) hm'
  exact Moved.drop_new (tk:=s₂.toks) m1 (Q4 _)
noncomputable def zbr (ps:List (Int × Int)):Nat:=argBest (fun i j=>ltP (ps.getD i (0,0)) (ps.getD j (0,0))) (ps.length - 1)
theorem zgk (bt:Nat->Nat->Bool):∀ k,argBest bt k<=k
 | 0=>Q4 _
 | k + 1=>by
  unfold argBest
  split
  ·exact Q4 _
  ·exact Nat.le_succ_of_le (zgk bt k)
section
variable {X:Cx}
theorem zjK (hu:X.A.units + 64 < cLine) (hc:X.calm = true):CallR X (.builtin "min") (fun xs H Q=>∃ (p:Addr) (vs:List V) (ps:List (Int × Int)),xs = [.ref p]/\SqL X.K H p vs/\vs.length = ps.length/\(∀ (i:Nat) v q,vs[i]? = some v->ps[i]? = some q->∃ a,v = .ref a/\SqT X.K H a [.int q.1,.int q.2])/\ps ≠ []/\∃ v,vs[zbr ps]? = some v/\Q v H):=by
 intro pins s σ H xs us Q I r h
 obtain ⟨p,vs,ps,rfl,hq,hl,hp,hne,v0,hv0,q⟩:=h
 obtain ⟨u,rfl,rx⟩:=vals1 r
 cases rx
 obtain ⟨its,r',pl,hz⟩:=I.list hq
 have hlen:=r'.length
 have hpos:=List.length_pos_iff.mpr hne
 have at_:∀ (i:Nat) v,its[i]? = some v->∃ q,ps[i]? = some q/\zfS s.heap v q/\vs[i]? = some (match v with | .ref a=>V.ref a | _=>.non):=by
  intro i v e
  have hi:=(List.getElem?_eq_some_iff.mp e).1
  have h1:vs[i]? = some vs[i]:=Q0 (by omega)
  have h2:ps[i]? = some ps[i]:=Q0 (by omega)
  obtain ⟨a,ea,sq⟩:=hp i _ _ h1 h2
  obtain ⟨u',e2,rv⟩:=r'.get h1
  rw [e] at e2
  cases e2
  rw [ea] at rv
  cases rv
  obtain ⟨its2,r2,pl2,_⟩:=I.tuple sq
  cases r2 with
  | cons ra rb=>
   cases rb with
   | cons rb rc=>
    cases rc
    obtain ⟨t,rfl⟩:=ra
    obtain ⟨t',rfl⟩:=rb
    exact ⟨_,h2,⟨a,t,t',rfl,pl2⟩,by rw [h1,ea]⟩
 have hlt:p < s.heap.objs.size:=by
  obtain ⟨o,n,ho,_⟩:=pl
  exact Qf ho
 have hsz:its.toArray.size = ps.length:=by rw [Qj];omega
 let ts:List Addr:=its.filterMap fun v=>match v with | .ref a=>some a | _=>none
 have tlt:∀ a ∈ ts,a < s.heap.objs.size:=by
  intro a ha
  obtain ⟨v,hv,e⟩:=mem_filterMap.mp ha
  obtain ⟨i,hi⟩:=mem_iff_getElem?.mp hv
  obtain ⟨_,_,⟨b,t,u,rfl,o,ho,_⟩,_⟩:=at_ i v hi
  cases e
  exact Qf ho
 have mem:∀ (i:Nat) a,its[i]? = some (.ref a)->a ∈ ts:=fun i a e=>mem_filterMap.mpr ⟨_,Qb e,rfl⟩
 refine zo0 (wpAny_pyIter_list pl.isList ?_)
 refine ⟨s.heap.objs.size,_,_,_,_,_,_,fun i j=>ltP (ps.getD i (0,0)) (ps.getD j (0,0)),rfl,zjT (Walks.list (by exact I.ok.hd hc) _ p (Ql hlt) its.toArray).toS ts s.heap (fun a ha z=>?_),⟨⟨⟨_,Qm _ rfl,rfl,rfl⟩,?_⟩,fun a _ o e=>Q3 _ e⟩,?_,by rw [hsz];exact hpos,?_,fun v s' hP hm=>?_⟩
 ·have z':a = s.heap.objs.size:=by simpa using z
  exact absurd (tlt a ha) (by rw [z'];exact Qp _)
 ·obtain ⟨o,ho,c⟩:=pl.isList
  exact ⟨o,Q3 _ ho,c⟩
 ·intro b hb
  rw [show ({ s with heap:=s.heap.push _ }:Shared).heap.objs.size = s.heap.objs.size + 1 from Heap.size_push ..]
  rcases mem_append.mp hb with hb | hb
  ·rcases mem_cons.mp hb with rfl | hb
   ·exact Nat.lt_succ_self _
   ·rw [mem_singleton.mp hb];exact Nat.lt_succ_of_lt hlt
  ·exact Nat.lt_succ_of_lt (tlt b hb)
 ·intro k i j x y s1 Q1 E1 st hx hy hQ
  have hx':its[i]? = some x:=by simpa using hx
  have hy':its[j]? = some y:=by simpa using hy
  have kp:∀ (i:Nat) x,its[i]? = some x->zfS s1.heap x (ps.getD i (0,0)):=fun i x e=>by
   obtain ⟨q,h2,⟨a,t,u,rfl,o,ho,c⟩,_⟩:=at_ i x e
   rw [Q8,h2]
   exact ⟨a,t,u,rfl,o,st.2 a (mem i a e) o ho,c⟩
  exact zm8 (kp i x hx') (kp j y hy') (by show X.A.units + 1 < cLine;omega) hQ
 ·have hP':its.toArray[argBest (fun i j=>ltP (ps.getD i (0,0)) (ps.getD j (0,0))) (its.toArray.size - 1)]? = some v:=hP
  rw [hsz,List.getElem?_toArray] at hP'
  obtain ⟨_,_,⟨a,t,u,rfl,_⟩,h3⟩:=at_ _ v hP'
  have h4:vs[zbr ps]? = some (.ref a):=h3
  rw [hv0] at h4
  cases h4
  obtain ⟨h',g',d',tk,o'⟩:=s'
  have e1:g' = s.gens:=hm.gens
  have e2:d' = s.drawn:=hm.drawn
  have e3:o' = s.os:=hm.os
  subst e1;subst e2;subst e3
  refine ⟨.ref a,H,I.kept (t':=tk) (fun b o eb=>hm.heap b o (fun z=>?_) (Q3 _ eb)),rfl,q⟩
  have z':b = s.heap.objs.size:=by simpa using z
  exact absurd (Qf eb) (by rw [z'];exact Qp _)
end
end L2
namespace FT
open PySem PySem.Spec PyProof.Rows L2
noncomputable def ze1:List T->Option (List (Int × Int))
 | []=>some []
 | .tup [.int a,.int b] :: ts=>(ze1 ts).map ((a,b) :: ·)
 | _ :: _=>none
theorem zho:∀ {ts:List T} {ps:List (Int × Int)},ze1 ts = some ps->ts = ps.map fun p=>.tup [.int p.1,.int p.2]
 | [],ps,h=>by cases h;rfl
 | t :: ts,ps,h=>by
  unfold ze1 at h
  split at h
  ·rename_i e
   cases e
  ·rename_i e
   cases e
   cases q:ze1 ts with
   | none=>rw [q] at h;cases h
   | some qs=>
    rw [q] at h
    cases h
    rw [zho q]
    rfl
  ·cases h
noncomputable def zhv:T->Mem->Out T:=fun t M=>match zy t M with
 | some xs=>match ze1 xs with
  | some ps=>if ps = [] then .bad else .ok (.tup [.int (ps.getD (zbr ps) (0,0)).1,.int (ps.getD (zbr ps) (0,0)).2]) M
  | none=>.bad
 | none=>.bad
section
variable {X:Cx} {XE:XK}
theorem zkR (hu:X.A.units + 64 < cLine) (hc:X.calm = true):CallR X (.builtin "min") (lRN XE X.K (zF zhv)):=zcI fun pins s σ S t x v Q I rx m r fin=>by
 unfold zhv at fin
 split at fin
 ·rename_i xs q
  split at fin
  ·rename_i ps q2
   split at fin
   ·exact fin.elim
   ·rename_i hne
    obtain ⟨p,vs,rfl,hq,rs⟩:=zz m r q
    have e:=zho q2
    subst e
    have hl:vs.length = ps.length:=by rw [← rs.1,Qi]
    have hlt:zbr ps < ps.length:=by
     have:=zgk (fun i j=>ltP (ps.getD i (0,0)) (ps.getD j (0,0))) (ps.length - 1)
     have:=List.length_pos_iff.mpr hne
     unfold zbr
     omega
    have hv:vs[zbr ps]? = some (vs[zbr ps]'(by omega)):=Q0 _
    have ht:(ps.map fun p=>FT.T.tup [.int p.1,.int p.2])[zbr ps]? = some (.tup [.int (ps.getD (zbr ps) (0,0)).1,.int (ps.getD (zbr ps) (0,0)).2]):=by
     rw [Qc,Q8,Q0 hlt]
     rfl
    refine zjK hu hc pins s σ S.H _ _ Q I (.cons rx .nil) ⟨p,vs,ps,rfl,hq,hl,fun i v q hv hp=>?_,hne,_,hv,fin S _ rfl (.refl m) (rs.2 _ _ _ ht hv)⟩
    have hr:=rs.2 i (.tup [.int q.1,.int q.2]) v (by rw [Qc,hp];rfl) hv
    cases hr with
    | @tup ts p vs h l r=>
     refine ⟨p,rfl,?_⟩
     obtain ⟨v1,vs1,rfl,r1,r2⟩:=Reps.consT ⟨l,r⟩
     obtain ⟨v2,vs2,rfl,r3,r4⟩:=r2.consT
     have:=r4.nilT
     subst this
     cases r1
     cases r3
     exact h
  ·exact fin.elim
 ·exact fin.elim
end
def Ok {β:Type} (o:Out β) (Q:β->Mem->Prop):Prop:=∃ b M,o = .ok b M/\Q b M
variable {M:Mem}
theorem Ok.ret {β:Type} {b:β} {Q:β->Mem->Prop} (h:Q b M):Ok (.ok b M) Q:=⟨b,M,rfl,h⟩
theorem Ok.of {β:Type} {o:Out β} {b:β} {Q:β->Mem->Prop} (e:o = .ok b M) (h:Q b M):Ok o Q:=⟨b,M,e,h⟩
theorem Ok.bind {β γ:Type} {o:Out β} {k:β->Mem->Out γ} {P:β->Mem->Prop} {Q:γ->Mem->Prop} (h:Ok o P) (g:∀ b M,P b M->Ok (k b M) Q):Ok (o.bind k) Q:=by
 obtain ⟨b,M,e,p⟩:=h
 rw [e]
 exact g b M p
theorem Ok.mono {β:Type} {o:Out β} {P Q:β->Mem->Prop} (h:Ok o P) (g:∀ b M,P b M->Q b M):Ok o Q:=by
 obtain ⟨b,M,e,p⟩:=h
 exact ⟨b,M,e,g b M p⟩
theorem zmb {β γ δ:Type} {o:Out β} {k:β->Mem->Out γ} {l:γ->Mem->Out δ}:(o.bind k).bind l = o.bind fun b M=>(k b M).bind l:=by cases o <;> rfl
theorem zrt {β γ:Type} {p:Prop} [Decidable p] {x y:Out β} {k:β->Mem->Out γ}:(if p then x else y).bind k = if p then x.bind k else y.bind k:=by split <;> rfl
variable {t:T}
theorem zrs {β γ:Type} {k:Bool->Mem->Out β} {l:β->Mem->Out γ}:(blT t M k).bind l = blT t M fun b M=>(k b M).bind l:=by cases t <;> rfl
noncomputable def zca (fl:Fl) (M:Mem):Out T:=match fl with
 | .rt t=>.ok t M
 | .nx _=>.ok .non M
 | _=>.bad
theorem zrz:zca (.rt t) M = .ok t M:=rfl
variable {σ:Ev}
theorem zrA:zca (.nx σ) M = .ok .non M:=rfl
variable {g:Ev->Mem->Out Fl} {ts:List T} {n p:Nat} {Q:T->Mem->Prop}
theorem yD (h:ts.length = p) (k:Ok ((g (startT n ts) M).bind zca) Q):Ok (qh p n g ts M) Q:=by
 obtain ⟨b,M1,e,q⟩:=k
 refine ⟨b,M1,?_,q⟩
 rw [zj2 h]
 cases r:g (startT n ts) M with
 | bad=>rw [r] at e;cases e
 | exn C fs M'=>rw [r] at e;cases e
 | ok fl M'=>
  rw [r] at e
  cases fl with
  | rt t=>exact e
  | nx σ=>exact e
  | bk σ=>cases e
  | ct σ=>cases e
def Fr (S:List Nat) (M M':Mem):Prop:=M.length<=M'.length/\∀ i,i < M.length->i ∉ S->M'[i]? = M[i]?
theorem Fr.refl (S:List Nat) (M:Mem):Fr S M M:=⟨Q4 _,fun _ _ _=>rfl⟩
variable {S S':List Nat}
theorem Fr.tr {A B C:Mem} (h:Fr S A B) (g:Fr S' B C) (s:∀ i ∈ S',i ∈ S\/A.length<=i):Fr S A C:=⟨Qk h.1 g.1,fun i hi hs=>by
 rw [g.2 i (Q6 hi h.1) (fun z=>by rcases s i z with a | a;exact hs a;omega),h.2 i hi hs]⟩
variable {M':Mem} {i:Nat}
theorem Fr.get (h:Fr S M M') {c:Cell} (e:M[i]? = some c) (hs:i ∉ S):M'[i]? = some c:=by
 rw [h.2 i (List.getElem?_eq_some_iff.mp e).1 hs];exact e
theorem Fr.sub (h:Fr S M M') (s:∀ i ∈ S,i ∈ S'\/M.length<=i):Fr S' M M':=⟨h.1,fun i hi hs=>h.2 i hi fun z=>by
 rcases s i z with a | a
 ·exact hs a
 ·omega⟩
theorem Fr.app (M:Mem) (l:List Cell):Fr [] M (M ++ l):=⟨by simp,fun i hi _=>by rw [Q7 hi]⟩
theorem Fr.set (M:Mem) (a:Nat) (c:Cell):Fr [a] M (M.set a c):=⟨by simp,fun i _ hs=>by rw [Qd,if_neg (by simp at hs;omega)]⟩
theorem zS {c:Cell} (e:M[i]? = some c):i < M.length:=(List.getElem?_eq_some_iff.mp e).1
theorem z9 {c:Cell}:(M ++ [c])[M.length]? = some c:=List.getElem?_concat_length
theorem get_set {a:Nat} {c c':Cell} (e:M[a]? = some c):(M.set a c')[a]? = some c':=by
 rw [Qd,if_pos rfl,if_pos (zS e)]
theorem Ok.loop {bd:T->Ev->Mem->Out Ev} {body:Ev->Mem->Out Fl} {α:Type} {r:α->T} (P:Nat->Ev->Mem->Prop) {R:T->Mem->Prop}:∀ (xs:List α) (i:Nat) {σ:Ev} {M:Mem},
  P i σ M->(∀ (k:Nat) x σ M,xs[k]? = some x->P (i + k) σ M->Ok ((bd (r x) σ M).bind fun σ1 M1=>body σ1 M1) fun fl M'=>(∃ σ',(fl = .nx σ'\/fl = .ct σ')/\P (i + k + 1) σ' M')\/(∃ σ',fl = .bk σ'/\P (i + xs.length) σ' M')\/∃ t,fl = .rt t/\R t M')->
  Ok (forL bd body (xs.map r) σ M) fun fl M'=>(∃ σ',fl = .nx σ'/\P (i + xs.length) σ' M')\/∃ t,fl = .rt t/\R t M'
 | [],i,σ,M,h,_=>⟨.nx σ,M,rfl,.inl ⟨σ,rfl,h⟩⟩
 | x :: xs,i,σ,M,h,t=>by
  obtain ⟨fl,M1,e1,h1⟩:=t 0 x σ M rfl h
  rw [map_cons,zkA]
  cases q:bd (r x) σ M with
  | bad=>rw [q] at e1;cases e1
  | exn C fs M'=>rw [q] at e1;cases e1
  | ok σ3 M3=>
   rw [q] at e1
   replace e1:body σ3 M3 = .ok fl M1:=e1
   show Ok ((body σ3 M3).bind (yM (forL bd body (xs.map r)))) _
   rw [e1]
   have go:∀ σ1,P (i + 1) σ1 M1->Ok (forL bd body (xs.map r) σ1 M1) fun fl M'=>(∃ σ',fl = .nx σ'/\P (i + (x :: xs).length) σ' M')\/∃ t,fl = .rt t/\R t M':=fun σ1 h1=>by
    have ih:=Ok.loop (R:=R) P xs (i + 1) (bd:=bd) (body:=body) h1 (fun k y σ M hk hp=>by
     have:=t (k + 1) y σ M (by simpa using hk) (by rw [show i + (k + 1) = i + 1 + k by omega];exact hp)
     rw [show i + (k + 1) + 1 = i + 1 + k + 1 by omega,Qq,show i + (xs.length + 1) = i + 1 + xs.length by omega] at this
     exact this)
    rw [Qq,show i + (xs.length + 1) = i + 1 + xs.length by omega]
    exact ih
   rcases h1 with ⟨σ1,h1 | h1,h2⟩ | ⟨σ1,h1,h2⟩ | ⟨u,h1,h2⟩
   ·rw [h1];exact go σ1 h2
   ·rw [h1];exact go σ1 h2
   ·rw [h1];exact ⟨.nx σ1,M1,rfl,.inl ⟨σ1,rfl,h2⟩⟩
   ·rw [h1];exact ⟨.rt u,M1,rfl,.inr ⟨u,rfl,h2⟩⟩
variable {body:Ev->Mem->Out Fl} {bd:T->Ev->Mem->Out Ev}
theorem Ok.for {α:Type} {r:α->T} (P:Nat->Ev->Mem->Prop) {xs:List α} 
 (h:P 0 σ M) (t:∀ (k:Nat) x σ M,xs[k]? = some x->P k σ M->Ok ((bd (r x) σ M).bind fun σ1 M1=>body σ1 M1) fun fl M'=>∃ σ',fl = .nx σ'/\P (k + 1) σ' M') :
  Ok (forL bd body (xs.map r) σ M) fun fl M'=>∃ σ',fl = .nx σ'/\P xs.length σ' M':=by
 refine (Ok.loop (R:=fun _ _=>False) P xs 0 h (fun k x σ M hk hp=>?_)).mono ?_
 ·rw [Nat.zero_add] at hp
  refine (t k x σ M hk hp).mono ?_
  rintro fl M' ⟨σ',e,q⟩
  exact .inl ⟨σ',.inl e,by rw [Nat.zero_add];exact q⟩
 ·rintro fl M' (⟨σ',e,q⟩ | ⟨t,_,f⟩)
  ·exact ⟨σ',e,by rw [Nat.zero_add] at q;exact q⟩
  ·exact f.elim
theorem Ok.comp {bd:T->Ev->Mem->Out Ev} {cond:Ev->Mem->Out Bool} {el:Ev->Mem->Out T} {α:Type} {r:α->T} (P:Nat->List T->Ev->Mem->Prop):∀ (xs:List α) {σ:Ev} {M:Mem} (i:Nat) (acc:List T),
  P i acc σ M->acc.length + xs.length<=sizeLine->(∀ (k:Nat) x σ M acc,xs[k]? = some x->P (i + k) acc σ M->Ok ((bd (r x) σ M).bind fun σ1 M1=>(cond σ1 M1).bind fun b M2=>if b = true then (el σ1 M2).bind fun t M3=>.ok (some t,σ1) M3 else .ok (none,σ1) M2) fun o M'=>P (i + k + 1) (match o.1 with | some t=>acc ++ [t] | none=>acc) o.2 M')->
  Ok (qr bd cond el (xs.map r) σ M acc) fun ts M'=>∃ σ',P (i + xs.length) ts σ' M'
 | [],σ,M,i,acc,h,_,_=>⟨acc,M,by simp [qr],σ,h⟩
 | x :: xs,σ,M,i,acc,h,hl,t=>by
  obtain ⟨o,M1,e1,h1⟩:=t 0 x σ M acc rfl h
  rw [Qq] at hl
  rw [map_cons]
  unfold qr
  have go:∀ acc σ1 M1,acc.length + xs.length<=sizeLine->P (i + 1) acc σ1 M1->Ok (qr bd cond el (xs.map r) σ1 M1 acc) fun ts M'=>∃ σ',P (i + (x :: xs).length) ts σ' M':=fun acc σ1 M1 hl h1=>by
   have ih:=Ok.comp P xs (i + 1) acc (bd:=bd) (cond:=cond) (el:=el) h1 hl (fun k y σ M acc hk hp=>by
    have:=t (k + 1) y σ M acc (by simpa using hk) (by rw [show i + (k + 1) = i + 1 + k by omega];exact hp)
    rw [show i + (k + 1) + 1 = i + 1 + k + 1 by omega] at this
    exact this)
   rw [Qq,show i + (xs.length + 1) = i + 1 + xs.length by omega]
   exact ih
  cases q:bd (r x) σ M with
  | bad=>rw [q] at e1;cases e1
  | exn C fs M'=>rw [q] at e1;cases e1
  | ok σ3 M3=>
   rw [q] at e1
   replace e1:((cond σ3 M3).bind fun b M2=>if b = true then (el σ3 M2).bind fun t M3=>.ok (some t,σ3) M3 else .ok (none,σ3) M2) = .ok o M1:=e1
   show Ok ((cond σ3 M3).bind _) _
   cases q2:cond σ3 M3 with
   | bad=>rw [q2] at e1;cases e1
   | exn C fs M'=>rw [q2] at e1;cases e1
   | ok b M4=>
    rw [q2] at e1
    cases b with
    | false=>
     replace e1:(Out.ok (none,σ3) M4:Out (Option T × Ev)) = .ok o M1:=e1
     cases e1
     exact go acc σ3 _ (by omega) h1
    | true=>
     replace e1:((el σ3 M4).bind fun t M3=>.ok (some t,σ3) M3) = .ok o M1:=e1
     show Ok ((el σ3 M4).bind _) _
     cases q3:el σ3 M4 with
     | bad=>rw [q3] at e1;cases e1
     | exn C fs M'=>rw [q3] at e1;cases e1
     | ok u M5=>
      rw [q3] at e1
      replace e1:(Out.ok (some u,σ3) M5:Out (Option T × Ev)) = .ok o M1:=e1
      cases e1
      show Ok (if acc.length < sizeLine then _ else _) _
      rw [if_pos (by omega)]
      exact go (acc ++ [u]) σ3 _ (by rw [Qo,Qq,length_nil];omega) h1
theorem Ok.whileN {c:Ev->Mem->Out Bool} {body:Ev->Mem->Out Fl} (P:Ev->Mem->Prop) (μ:Ev->Mem->Nat) {Q:Ev->Mem->Prop} {R:T->Mem->Prop}
  (t:∀ σ M,P σ M->Ok (c σ M) fun b M1=>(b = true/\Ok (body σ M1) fun fl M2=>(∃ σ',(fl = .nx σ'\/fl = .ct σ')/\P σ' M2/\μ σ' M2 < μ σ M)\/(∃ σ',fl = .bk σ'/\Q σ' M2)\/∃ t,fl = .rt t/\R t M2)\/(b = false/\Q σ M1)) :
  ∀ (n:Nat) (σ:Ev) (M:Mem),μ σ M < n->P σ M->Ok (whileN c body n σ M) fun fl M'=>(∃ σ',fl = .nx σ'/\Q σ' M')\/∃ t,fl = .rt t/\R t M'
 | 0,_,_,hn,_=>absurd hn (by omega)
 | n + 1,σ,M,hn,h=>by
  obtain ⟨b,M1,e,r⟩:=t σ M h
  unfold FT.whileN
  rw [e]
  rcases r with ⟨rfl,fl,M2,e2,r⟩ | ⟨rfl,q⟩
  ·show Ok ((body σ M1).bind _) _
   rw [e2]
   rcases r with ⟨σ1,h1 | h1,h2,h3⟩ | ⟨σ1,h1,h2⟩ | ⟨u,h1,h2⟩
   ·rw [h1];exact Ok.whileN P μ t n σ1 M2 (by omega) h2
   ·rw [h1];exact Ok.whileN P μ t n σ1 M2 (by omega) h2
   ·rw [h1];exact ⟨.nx σ1,M2,rfl,.inl ⟨σ1,rfl,h2⟩⟩
   ·rw [h1];exact ⟨.rt u,M2,rfl,.inr ⟨u,rfl,h2⟩⟩
  ·exact ⟨.nx σ,M1,rfl,.inl ⟨σ,rfl,q⟩⟩
theorem Ok.while {c:Ev->Mem->Out Bool} (P:Ev->Mem->Prop) (μ:Ev->Mem->Nat) {Q:Ev->Mem->Prop} {R:T->Mem->Prop} (h:P σ M)
 (t:∀ σ M,P σ M->Ok (c σ M) fun b M1=>(b = true/\Ok (body σ M1) fun fl M2=>(∃ σ',(fl = .nx σ'\/fl = .ct σ')/\P σ' M2/\μ σ' M2 < μ σ M)\/(∃ σ',fl = .bk σ'/\Q σ' M2)\/∃ t,fl = .rt t/\R t M2)\/(b = false/\Q σ M1)) :
  Ok (zbZ c body σ M) fun fl M'=>(∃ σ',fl = .nx σ'/\Q σ' M')\/∃ t,fl = .rt t/\R t M':=by
 obtain ⟨fl,M',e,r⟩:=Ok.whileN P μ t (μ σ M + 1) σ M (by omega) h
 exact ⟨fl,M',zj1 _ e (by simp),r⟩
noncomputable def rgI (n:Nat):List Int:=(List.range n).map fun (k:Nat)=>(k:Int)
theorem zei (n:Nat):(rgI n).length = n:=by simp [rgI]
variable {x:Int}
theorem ziw {k:Nat} (h:(rgI n)[k]? = some x):k < n/\x = k:=by
 unfold rgI at h
 rw [Qc] at h
 cases q:(List.range n)[k]? with
 | none=>rw [q] at h;cases h
 | some j=>
  rw [q] at h
  have hk:k < n:=by have:=(List.getElem?_eq_some_iff.mp q).1;simpa using this
  rw [List.getElem?_range hk] at q
  cases q
  exact ⟨hk,(Qe h).symm⟩
theorem zlp (n:Nat):zdX 0 n = (rgI n).map .int:=by
 unfold zdX rgI
 rw [map_map]
 congr 1
 funext k
 simp
theorem zdc {j:Int} (h:-(2 ^ 62)<=j/\j < 2 ^ 62):zeZ [.int j] M = .ok ((rgI j.toNat).map .int) M:=by rw [zop h,zlp]
theorem zpj (h:0<=x/\x < n):ixN n x = some x.toNat:=by
 unfold ixN
 rw [if_pos (by omega)]
 simp
 try omega
variable {el:Ev->Mem->Out T}
theorem Ok.filt {cond:Ev->Mem->Out Bool} {α:Type} {r:α->T} (I:Ev->Prop) (c:α->Bool) (f:α->T) {xs:List α} (h:I σ) (hl:xs.length<=1000000)
 (t:∀ x σ,x ∈ xs->I σ->∃ σ1,bd (r x) σ M = .ok σ1 M/\I σ1/\cond σ1 M = .ok (c x) M/\(c x = true->el σ1 M = .ok (f x) M)):qr bd cond el (xs.map r) σ M [] = .ok ((xs.filter c).map f) M:=by
 have key:∀ (xs:List α) (σ:Ev) (acc:List T),(∀ x σ,x ∈ xs->I σ->∃ σ1,bd (r x) σ M = .ok σ1 M/\I σ1/\cond σ1 M = .ok (c x) M/\(c x = true->el σ1 M = .ok (f x) M))->I σ->acc.length + xs.length<=sizeLine->qr bd cond el (xs.map r) σ M acc = .ok (acc ++ (xs.filter c).map f) M:=by
  intro xs
  induction xs with
  | nil=>intro σ acc _ _ _;simp [qr]
  | cons x xs ih=>
   intro σ acc t h hl
   obtain ⟨σ1,e1,h1,e2,e3⟩:=t x σ (.head _) h
   rw [Qq] at hl
   rw [map_cons]
   unfold qr
   rw [e1]
   show ((cond σ1 M).bind _) = _
   rw [e2]
   cases hc:c x with
   | true=>
    have ih:=ih σ1 (acc ++ [f x]) (fun y σ hy=>t y σ (.tail _ hy)) h1 (by rw [Qo,Qq,length_nil];omega)
    show ((el σ1 M).bind _) = _
    rw [e3 hc]
    show (if acc.length < sizeLine then qr bd cond el (xs.map r) σ1 M (acc ++ [f x]) else .bad) = _
    rw [if_pos (by omega),ih,List.filter_cons_of_pos hc]
    simp
   | false=>
    have ih:=ih σ1 acc (fun y σ hy=>t y σ (.tail _ hy)) h1 (by omega)
    show qr bd cond el (xs.map r) σ1 M acc = _
    rw [ih,List.filter_cons_of_neg (by rw [hc];exact Q5)]
 have:=key xs σ [] t h (by rw [length_nil,Nat.zero_add];exact Qk hl (by decide))
 rw [this,nil_append]
theorem Ok.mapc {α:Type} {r:α->T} (I:Ev->Prop) (f:α->T) {xs:List α} (h:I σ) (hl:xs.length<=1000000)
 (t:∀ x σ,x ∈ xs->I σ->∃ σ1,bd (r x) σ M = .ok σ1 M/\I σ1/\el σ1 M = .ok (f x) M):qr bd yH el (xs.map r) σ M [] = .ok (xs.map f) M:=by
 have:=Ok.filt (cond:=yH) I (fun _=>true) f h hl (fun x σ hx hs=>by
  obtain ⟨σ1,a,b,c⟩:=t x σ hx hs
  exact ⟨σ1,a,b,rfl,fun _=>c⟩)
 rw [this,List.filter_eq_self.mpr (fun _ _=>rfl)]
theorem zkl {a:Nat} {xs:List T} (e:M[a]? = some (.lst xs)):zy (.ref a) M = some xs:=by
 unfold zy
 simp only [e]
theorem Ok.forR {α:Type} {r:α->T} {a:Nat} {xs:List α} (P:Nat->Ev->Mem->Prop) (hP:∀ k σ M,P k σ M->M[a]? = some (.lst (xs.map r)))
 (h:P 0 σ M) (t:∀ (k:Nat) x σ M,xs[k]? = some x->P k σ M->Ok ((bd (r x) σ M).bind fun σ1 M1=>body σ1 M1) fun fl M'=>∃ σ',fl = .nx σ'/\P (k + 1) σ' M') :
  Ok (zdn bd body (.ref a) σ M) fun fl M'=>∃ σ',fl = .nx σ'/\P xs.length σ' M':=by
 have e0:=hP 0 σ M h
 obtain ⟨σ',M',e,p⟩:=zhJ (bd:=bd) (body:=body) (a:=a) (xs:=xs.map r) P hP (fun k x σ M hx hp=>by
  rw [Qc] at hx
  cases q:xs[k]? with
  | none=>rw [q] at hx;cases hx
  | some y=>
   rw [q] at hx
   cases hx
   obtain ⟨fl,M1,e,σ1,rfl,p⟩:=t k y σ M q hp
   exact ⟨σ1,M1,e,p⟩) xs.length 0 (by simp) σ M h
 refine ⟨.nx σ',M',?_,σ',rfl,by simpa using p⟩
 unfold zdn
 simp only [e0,Qi]
 exact e
theorem Ok.loopG {G:Gd} {bd:T->Ev->Mem->Out Ev} {body:Ev->Mem->Out Fl} {α:Type} {r:α->T} (P:Nat->Ev->Mem->Prop) {R:T->Mem->Prop} (hG:∀ i σ M,P i σ M->zaf G M):∀ (xs:List α) (i:Nat) {σ:Ev} {M:Mem},
  P i σ M->(∀ (k:Nat) x σ M,xs[k]? = some x->P (i + k) σ M->Ok ((bd (r x) σ M).bind fun σ1 M1=>body σ1 M1) fun fl M'=>(∃ σ',(fl = .nx σ'\/fl = .ct σ')/\P (i + k + 1) σ' M')\/(∃ σ',fl = .bk σ'/\P (i + xs.length) σ' M')\/∃ t,fl = .rt t/\R t M')->
  Ok (forG G bd body (xs.map r) σ M) fun fl M'=>(∃ σ',fl = .nx σ'/\P (i + xs.length) σ' M')\/∃ t,fl = .rt t/\R t M'
 | [],i,σ,M,h,_=>⟨.nx σ,M,by rw [map_nil];unfold forG;exact zb2 (hG _ _ _ h),.inl ⟨σ,rfl,h⟩⟩
 | x :: xs,i,σ,M,h,t=>by
  obtain ⟨fl,M1,e1,h1⟩:=t 0 x σ M rfl h
  rw [map_cons]
  unfold forG
  rw [zb2 (hG _ _ _ h)]
  cases q:bd (r x) σ M with
  | bad=>rw [q] at e1;cases e1
  | exn C fs M'=>rw [q] at e1;cases e1
  | ok σ3 M3=>
   rw [q] at e1
   replace e1:body σ3 M3 = .ok fl M1:=e1
   show Ok ((body σ3 M3).bind (yM (forG G bd body (xs.map r)))) _
   rw [e1]
   have go:∀ σ1,P (i + 1) σ1 M1->Ok (forG G bd body (xs.map r) σ1 M1) fun fl M'=>(∃ σ',fl = .nx σ'/\P (i + (x :: xs).length) σ' M')\/∃ t,fl = .rt t/\R t M':=fun σ1 h1=>by
    have ih:=Ok.loopG (R:=R) P hG xs (i + 1) (bd:=bd) (body:=body) h1 (fun k y σ M hk hp=>by
     have:=t (k + 1) y σ M (by simpa using hk) (by rw [show i + (k + 1) = i + 1 + k by omega];exact hp)
     rw [show i + (k + 1) + 1 = i + 1 + k + 1 by omega,Qq,show i + (xs.length + 1) = i + 1 + xs.length by omega] at this
     exact this)
    rw [Qq,show i + (xs.length + 1) = i + 1 + xs.length by omega]
    exact ih
   rcases h1 with ⟨σ1,h1 | h1,h2⟩ | ⟨σ1,h1,h2⟩ | ⟨u,h1,h2⟩
   ·rw [h1];exact go σ1 h2
   ·rw [h1];exact go σ1 h2
   ·rw [h1];exact ⟨.nx σ1,M1,rfl,.inl ⟨σ1,rfl,h2⟩⟩
   ·rw [h1];exact ⟨.rt u,M1,rfl,.inr ⟨u,rfl,h2⟩⟩
def OkX {β:Type} (o:Out β) (Q:β->Mem->Prop) (E:Addr->List (Str × T)->Mem->Prop):Prop:=match o with
 | .ok b M=>Q b M
 | .exn C fs M=>E C fs M
 | .bad=>False
variable {E:Addr->List (Str × T)->Mem->Prop}
theorem OkX.ok {β:Type} {o:Out β} {Q:β->Mem->Prop} (h:Ok o Q):OkX o Q E:=by
 obtain ⟨b,M,rfl,q⟩:=h
 exact q
theorem OkX.bind {β γ:Type} {o:Out β} {k:β->Mem->Out γ} {P:β->Mem->Prop} {Q:γ->Mem->Prop} (h:OkX o P E) (g:∀ b M,P b M->OkX (k b M) Q E):OkX (o.bind k) Q E:=by
 cases o with
 | ok b M=>exact g b M h
 | exn C fs M=>exact h
 | bad=>exact h.elim
theorem OkX.bindO {β γ:Type} {o:Out β} {k:β->Mem->Out γ} {P:β->Mem->Prop} {Q:γ->Mem->Prop} (h:Ok o P) (g:∀ b M,P b M->OkX (k b M) Q E):OkX (o.bind k) Q E:=OkX.bind (OkX.ok h) g
theorem OkX.mono {β:Type} {o:Out β} {P Q:β->Mem->Prop} {D:Addr->List (Str × T)->Mem->Prop} (h:OkX o P D) (g:∀ b M,P b M->Q b M) (g':∀ C fs M,D C fs M->E C fs M):OkX o Q E:=by
 cases o with
 | ok b M=>exact g b M h
 | exn C fs M=>exact g' C fs M h
 | bad=>exact h.elim
theorem OkX.toOk {β:Type} {o:Out β} {Q:β->Mem->Prop} (h:OkX o Q fun _ _ _=>False):Ok o Q:=by
 cases o with
 | ok b M=>exact ⟨b,M,rfl,h⟩
 | exn C fs M=>exact h.elim
 | bad=>exact h.elim
theorem zch (h:ts.length = p) (k:OkX ((g (startT n ts) M).bind zca) Q E):OkX (y8 p n g ts M) Q E:=by
 unfold y8
 rw [if_pos h]
 cases r:g (startT n ts) M with
 | bad=>rw [r] at k;exact k.elim
 | exn C fs M'=>rw [r] at k;exact k
 | ok fl M'=>
  rw [r] at k
  cases fl with
  | rt t=>exact k
  | nx σ=>exact k
  | bk σ=>exact k.elim
  | ct σ=>exact k.elim
theorem Ok.tryN {j:Nat} {cs:List Addr} {gs:Ev->Mem->Out Fl} {Q:Fl->Mem->Prop} (h:OkX (g σ M) Q fun C fs M'=>cs.contains C = true/\Ok ((gs (σ.set j (some (.exc C fs))) M').bind (clr j)) Q):Ok (zfp j cs g gs σ M) Q:=by
 unfold zfp
 cases r:g σ M with
 | ok b M1=>rw [r] at h;exact ⟨b,M1,rfl,h⟩
 | bad=>rw [r] at h;exact h.elim
 | exn C fs M1=>
  rw [r] at h
  obtain ⟨hc,h⟩:=h
  show Ok (if cs.contains C = true then _ else _) _
  rw [if_pos hc]
  cases q:gs (σ.set j (some (.exc C fs))) M1 with
  | ok b M2=>rw [q] at h;exact h
  | bad=>rw [q] at h;obtain ⟨_,_,h,_⟩:=h;cases h
  | exn _ _ _=>rw [q] at h;obtain ⟨_,_,h,_⟩:=h;cases h
end FT
namespace My
open PySem L2 FT
noncomputable def top (i:Nat):Stmt:=PySem.Challenge.pw_tryweir_k64_whole_failed_together.main.body.getD i (.Pass ⟨0,0,0,0⟩)
noncomputable abbrev zf2:Stmt:=inClass (top 2) 0
noncomputable abbrev zeW:Stmt:=top 49
noncomputable abbrev zdy:Stmt:=inClass (top 13) 0
noncomputable abbrev zdW:Stmt:=top 14
noncomputable abbrev zb7:Stmt:=top 23
noncomputable abbrev zbb:Stmt:=top 24
noncomputable abbrev zaS:Stmt:=top 26
noncomputable abbrev zcZ:Stmt:=top 8
noncomputable abbrev zdr:Stmt:=top 15
noncomputable abbrev zcw:Stmt:=top 16
noncomputable abbrev zcv:Stmt:=top 17
noncomputable abbrev zdv:Stmt:=top 25
noncomputable abbrev zc2:Stmt:=top 27
noncomputable abbrev zdu:Stmt:=top 4
noncomputable abbrev zc1:Stmt:=top 6
noncomputable abbrev zdw:Stmt:=top 28
noncomputable abbrev zb8:Stmt:=top 33
noncomputable abbrev zdx:Stmt:=top 9
noncomputable abbrev zb9:Stmt:=inClass (top 12) 0
noncomputable abbrev zbS:Stmt:=top 19
noncomputable abbrev zaI:Stmt:=top 20
noncomputable abbrev zbq:Stmt:=top 21
noncomputable abbrev zfo:Stmt:=top 22
noncomputable abbrev zhi:Stmt:=top 29
noncomputable abbrev zcX:Stmt:=top 18
noncomputable abbrev zcV:Stmt:=top 30
noncomputable abbrev zf1:Stmt:=top 31
noncomputable abbrev zds:Stmt:=top 32
noncomputable abbrev zcY:Stmt:=top 38
noncomputable abbrev zcU:Stmt:=top 40
noncomputable abbrev zcu:Stmt:=top 43
noncomputable abbrev zcW:Stmt:=top 44
noncomputable abbrev zdV:Stmt:=top 46
noncomputable abbrev zeX:Stmt:=top 48
noncomputable abbrev zeV:Stmt:=top 50
noncomputable abbrev zdT:Stmt:=top 35
noncomputable abbrev zf0:Stmt:=top 45
noncomputable abbrev zdt:Stmt:=top 52
noncomputable abbrev zdq:Stmt:=top 39
noncomputable abbrev zdU:Stmt:=top 41
noncomputable abbrev zc0:Stmt:=top 51
noncomputable abbrev zeU:Stmt:=top 34
noncomputable abbrev zji:Stmt:=top 36
noncomputable abbrev zjj:Stmt:=top 53
structure Txt (K:Frag) (mg:Str->Option Value) (kE kR:Addr):Prop where
 cls_Errand:Cls K kE
 cls_Run:Cls K kR
 na_Errand_asked:NoAttr K kE "asked"
 na_Errand_caller:NoAttr K kE "caller"
 na_Errand_house:NoAttr K kE "house"
 na_Errand_is_lost:NoAttr K kE "is_lost"
 na_Errand_state:NoAttr K kE "state"
 na_Errand_stood:NoAttr K kE "stood"
 na_Run_came:NoAttr K kR "came"
 na_Run_errands:NoAttr K kR "errands"
 na_Run_net:NoAttr K kR "net"
 na_Run_payments:NoAttr K kR "payments"
 na_Run_puts:NoAttr K kR "puts"
 na_Run_taken:NoAttr K kR "taken"
 n_max:mg "max" = none
 n_len:mg "len" = none
 n_int:mg "int" = none
 n_isinstance:mg "isinstance" = none
 n_bool:mg "bool" = none
 n_tuple:mg "tuple" = none
 n_min:mg "min" = none
 n_range:mg "range" = none
 n_sum:mg "sum" = none
 n_all:mg "all" = none
 c_FRESH:∃ a,mg "FRESH" = some (.ref a)/\KTu K a [.str "fresh"]
theorem boot_max:bootBuiltins "max" = some (.builtin "max"):=by decide +kernel
theorem boot_len:bootBuiltins "len" = some (.builtin "len"):=by decide +kernel
theorem boot_int:bootBuiltins "int" = some (.type "int"):=by decide +kernel
theorem boot_isinstance:bootBuiltins "isinstance" = some (.builtin "isinstance"):=by decide +kernel
theorem boot_bool:bootBuiltins "bool" = some (.type "bool"):=by decide +kernel
theorem boot_tuple:bootBuiltins "tuple" = some (.type "tuple"):=by decide +kernel
theorem boot_min:bootBuiltins "min" = some (.builtin "min"):=by decide +kernel
theorem boot_range:bootBuiltins "range" = some (.type "range"):=by decide +kernel
theorem boot_sum:bootBuiltins "sum" = some (.builtin "sum"):=by decide +kernel
theorem boot_all:bootBuiltins "all" = some (.builtin "all"):=by decide +kernel
end My
theorem FT.nc_l {k:PySem.NameKind} {P:Prop} (e:(k == .cell || k == .free) = false) (h:k = .cell\/k = .free):P:=by
 rcases h with rfl | rfl
 ·exact absurd e (by decide)
 ·exact absurd e (by decide)
open PySem L2 FT in
local macro_rules | `(tactic| bv_omega) => `(tactic| exact ⟨rfl, rfl, by decide +kernel, rfl, by decide +kernel, by first | exact (fun _ _ h => h) | exact zhx (by repeat (first | exact True.intro | refine ⟨rfl, ?_⟩)), fun _ => zpn (by repeat (first | exact True.intro | (refine ⟨?_, ?_⟩; first | exact (fun _ => ⟨_, rfl⟩) | exact nc_l rfl | exact (fun h => h.elim (fun h => nomatch h) (fun h => nomatch h))))), by repeat (first | exact List.forall_mem_nil _ | refine List.forall_mem_cons.mpr ⟨⟨rfl, rfl, by first | exact .inl rfl | exact .inr rfl⟩, ?_⟩)⟩)
namespace My
open PySem L2 FT
noncomputable def zhH (kE kR:Addr):Ev->Mem->Out Fl:=
 (qA (eTk (yK (yb (yf (call2 zjt) (yb (eC (.int 0)) (yb (eOp zb5 (zb 0) (eOp zjo (eC (.int 10)) (eC (.int 18)))) zd))) (yb (eOp zac (zb 0) (eOp zjo (eC (.int 10)) (eC (.int 18)))) (yb (eC (.int 0)) zd))))))
noncomputable def zbL (kE kR:Addr):List FT.T->Mem->Out FT.T:=qh 1 1 (zhH kE kR)
variable {kE kR:Addr} {K:Frag} {base:Heap} {P:Program} {mg:Str->Option Value} {w:World}
section
theorem zjZ:FnScope ["cell"] ["cell"] (yd zeW):=by ac_rfl
theorem zbQ (D:Df K mg "_law_left" zeW ["cell"]) (T:Txt K mg kE kR)  :CalT P w K mg base 1 "_law_left" ["cell"] (zbL kE kR):=
 zo D zjZ rfl rfl (fun f cdv A outer s H E hr=>(ye (zm (zbk (qK (ya (yr (zkU rfl) rfl T.n_max boot_max (ya yc (ya (yk zan (za (pv 0)) (yk ziD yc yc)) zc))) (ya (yk yW (za (pv 0)) (yk ziD yc yc)) (ya yc zc))))))))
end
noncomputable def zfK (kE kR:Addr):Ev->Mem->Out Fl:=
 (qg (yB [kR] "net" (zb 0) (zb 1))
 (qg (yB [kR] "came" (zb 0) (eC (.int 0)))
 (qg (yB [kR] "errands" (zb 0) (eTk (yK zd)))
 (qg (yB [kR] "puts" (zb 0) (eTk (zI (zaT (eOp ixT (zb 1) (eC (.int 1)))) (qi 0) yH (eTk (yK zd)) ["purse"] [])))
 (qg (yB [kR] "payments" (zb 0) (eTk (yK zd)))
 (yB [kR] "taken" (zb 0) (eTk (zI (zaT (eOp ixT (zb 1) (eC (.int 1)))) (qi 0) yH (eC (.int 0)) ["purse"] []))))))))
noncomputable def yY (kE kR:Addr):List FT.T->Mem->Out FT.T:=qh 2 2 (zfK kE kR)
section
theorem zia:FnScope ["self","net"] ["self","net"] (yd zdy):=by ac_rfl
theorem zcO (D:Di K mg "Run" "Run.__init__" kR zdy ["self","net"]) (T:Txt K mg kE kR)  :MakT P w K mg base 1 "Run" kR ["self","net"] (yY kE kR):=
 zik D zia rfl rfl (fun f cdv A outer s H E hr=>(qc (yI (qd ⟨T.cls_Run,T.na_Run_net⟩ zf) (za (pv 0)) (za (pv 1)))
  (qc (yI (qd ⟨T.cls_Run,T.na_Run_came⟩ zf) (za (pv 0)) yc)
  (qc (yI (qd ⟨T.cls_Run,T.na_Run_errands⟩ zf) (za (pv 0)) (zbk (qK zc)))
  (qc (yI (qd ⟨T.cls_Run,T.na_Run_puts⟩ zf) (za (pv 0)) (zbk (zab (tgs:=["purse"]) (caps:=[]) (z6 (ze yg (za (pv 1)) yc (fun _ _=>rfl))) (by bv_omega) (fun _ _ _=>(zn (qp (i:=0) (show (["purse"]:List Str).Nodup by decide +kernel) rfl (by first | exact Or.inl rfl | exact Or.inr rfl)))) (fun _ _ _=>yU) (fun _ _ _=>(zbk (qK zc))))))
  (qc (yI (qd ⟨T.cls_Run,T.na_Run_payments⟩ zf) (za (pv 0)) (zbk (qK zc)))
  (ye (yI (qd ⟨T.cls_Run,T.na_Run_taken⟩ zf) (za (pv 0)) (zbk (zab (tgs:=["purse"]) (caps:=[]) (z6 (ze yg (za (pv 1)) yc (fun _ _=>rfl))) (by bv_omega) (fun _ _ _=>(zn (qp (i:=0) (show (["purse"]:List Str).Nodup by decide +kernel) rfl (by first | exact Or.inl rfl | exact Or.inr rfl)))) (fun _ _ _=>yU) (fun _ _ _=>yc)))))))))))
end
noncomputable def zgD (kE kR:Addr):Ev->Mem->Out Fl:=
 (qA (eOp ixT (eOp ixT (eOp ixT (yi [kR] "net" (zb 0)) (eC (.int 0))) (yi [kE] "house" (eOp ixT (yi [kR] "errands" (zb 0)) (zb 1)))) (eC (.int 1))))
noncomputable def zx (kE kR:Addr):List FT.T->Mem->Out FT.T:=qh 2 2 (zgD kE kR)
section
theorem zjh:FnScope ["run","number"] ["run","number"] (yd zdW):=by ac_rfl
theorem qk (D:Df K mg "asks_of" zdW ["run","number"]) (T:Txt K mg kE kR)  :CalT P w K mg base 1 "asks_of" ["run","number"] (zx kE kR):=
 zo D zjh rfl rfl (fun f cdv A outer s H E hr=>(ye (zm (ze yg (ze yg (ze yg (zh (qd ⟨T.cls_Run,T.na_Run_net⟩ zf) (za (pv 0))) yc (fun _ _=>rfl)) (zh (qd ⟨T.cls_Errand,T.na_Errand_house⟩ zf) (ze yg (zh (qd ⟨T.cls_Run,T.na_Run_errands⟩ zf) (za (pv 0))) (za (pv 1)) (fun _ _=>rfl))) (fun _ _=>rfl)) yc (fun _ _=>rfl)))))
end
noncomputable def zdM (kE kR:Addr):Ev->Mem->Out Fl:=
 (qg (zq 2 (eOp ixT (yi [kR] "errands" (zb 0)) (zb 1)))
 (qg (sIf (zcq (zr (eOp isN (yi [kE] "caller" (zb 2)) (eC .non))) (zcq (zr (yi [kE] "is_lost" (zb 2))) (zr (eOp eqA (eOp ixT (yi [kE] "state" (zb 2)) (eC (.int 0))) (eC (.str "ended")))))) (qA (eC (.bl false))) yV)
 (qA (zjD (eOp ixT (eOp ixT (yf (zx kE kR) (yb (zb 0) (yb (eOp ixT (yi [kE] "caller" (zb 2)) (eC (.int 0))) zd))) (eOp ixT (yi [kE] "caller" (zb 2)) (eC (.int 1)))) (eC (.int 5)))))))
noncomputable def zak (kE kR:Addr):List FT.T->Mem->Out FT.T:=qh 2 3 (zdM kE kR)
section
theorem zda:FnScope ["run","number","errand"] ["run","number"] (yd zb7):=by ac_rfl
theorem zal (D:Df K mg "may_be_lost" zb7 ["run","number"]) (T:Txt K mg kE kR)  (qk:CalT P w K mg base 1 "asks_of" ["run","number"] (zx kE kR)):CalT P w K mg base 2 "may_be_lost" ["run","number"] (zak kE kR):=
 zo D zda rfl rfl (fun f cdv A outer s H E hr=>(qc (zj (i:=2) zda.nd rfl (Or.inl rfl) (ze yg (zh (qd ⟨T.cls_Run,T.na_Run_errands⟩ zf) (za (pv 0))) (za (pv 1)) (fun _ _=>rfl)))
  (qc (zC (WW.gt (zbY (qo zf8 (zh (qd ⟨T.cls_Errand,T.na_Errand_caller⟩ zf) (za (pv 2))) y6 (yo _)) (zbY (zW (zh (qd ⟨T.cls_Errand,T.na_Errand_is_lost⟩ zf) (za (pv 2)))) (zck (qo (zH hr.units) (ze yg (zh (qd ⟨T.cls_Errand,T.na_Errand_state⟩ zf) (za (pv 2))) yc (fun _ _=>rfl)) yj (yo _)))))) (ye (zm zaV)) qB)
  (ye (zm (zim (ze yg (ze yg (qf qk (hr.mono (by decide)) rfl (ya (za (pv 0)) (ya (ze yg (zh (qd ⟨T.cls_Errand,T.na_Errand_caller⟩ zf) (za (pv 2))) yc (fun _ _=>rfl)) zc))) (ze yg (zh (qd ⟨T.cls_Errand,T.na_Errand_caller⟩ zf) (za (pv 2))) yc (fun _ _=>rfl)) (fun _ _=>rfl)) yc (fun _ _=>rfl))))))))
end
noncomputable def zcF (kE kR:Addr):Ev->Mem->Out Fl:=
 (qg (zq 2 (yi [kE] "state" (eOp ixT (yi [kR] "errands" (zb 0)) (zb 1))))
 (qg (sIf (zr (eOp neA (eOp ixT (zb 2) (eC (.int 0))) (eC (.str "stands")))) (qA (eC (.bl false))) yV)
 (qg (zq 3 (eOp ixT (eOp ixT (yf (zx kE kR) (yb (zb 0) (yb (zb 1) zd))) (eOp ixT (zb 2) (eC (.int 1)))) (eC (.int 1))))
 (qA (eOr (eOp eqA (zb 3) (eC (.int 0))) (eOp ltI (eOp ixT (zb 2) (eC (.int 2))) (zb 3)))))))
noncomputable def zG (kE kR:Addr):List FT.T->Mem->Out FT.T:=qh 2 4 (zcF kE kR)
section
theorem zaR:FnScope ["run","number","state","tries"] ["run","number"] (yd zbb):=by ac_rfl
theorem yG (D:Df K mg "has_tries_left" zbb ["run","number"]) (T:Txt K mg kE kR)  (qk:CalT P w K mg base 1 "asks_of" ["run","number"] (zx kE kR)):CalT P w K mg base 2 "has_tries_left" ["run","number"] (zG kE kR):=
 zo D zaR rfl rfl (fun f cdv A outer s H E hr=>(qc (zj (i:=2) zaR.nd rfl (Or.inl rfl) (zh (qd ⟨T.cls_Errand,T.na_Errand_state⟩ zf) (ze yg (zh (qd ⟨T.cls_Run,T.na_Run_errands⟩ zf) (za (pv 0))) (za (pv 1)) (fun _ _=>rfl))))
  (qc (zC (qo (zdf hr.units) (ze yg (za (pv 2)) yc (fun _ _=>rfl)) yj (yo _)) (ye (zm zaV)) qB)
  (qc (zj (i:=3) zaR.nd rfl (Or.inl rfl) (ze yg (ze yg (qf qk (hr.mono (by decide)) rfl (ya (za (pv 0)) (ya (za (pv 1)) zc))) (ze yg (za (pv 2)) yc (fun _ _=>rfl)) (fun _ _=>rfl)) yc (fun _ _=>rfl)))
  (ye (zm (zjQ (zbd (zH hr.units) (za (pv 3)) yc (yo _)) (zef (zbd zdY (ze yg (za (pv 2)) yc (fun _ _=>rfl)) (za (pv 3)) (yo _))))))))))
end
noncomputable def zce (kE kR:Addr):Ev->Mem->Out Fl:=
 (qg (zq 2 (eOp ixT (yi [kE] "state" (eOp ixT (yi [kR] "errands" (zb 0)) (zb 1))) (eC (.int 0))))
 (qg (zq 3 (eTk (yK zd)))
 (qg (sIf (zr (eOp eqA (zb 2) (eC (.str "works")))) (zE (zdj zcP ze8 (zb 3) (yb (eFz (yK (yb (yw (yb (eC (.str "ends")) (yb (zb 1) (yb (eC (.str "bad")) zd)))) (yb (yw (yb (eC (.str "ends")) (yb (zb 1) (yb (eC (.str "spent")) zd)))) (yb (yw (yb (eC (.str "ends")) (yb (zb 1) (yb (eC (.str "well")) zd)))) zd))))) zd))) yV)
 (qg (sIf (zr (yf (zak kE kR) (yb (zb 0) (yb (zb 1) zd)))) (zE (zaO y4 (eUn zK (zb 3)) (yb (yw (yb (eC (.str "lost")) (yb (zb 1) zd))) zd))) yV)
 (qg (sIf (zr (yf (zG kE kR) (yb (zb 0) (yb (zb 1) zd)))) (zE (zaO y4 (eUn zK (zb 3)) (yb (yw (yb (eC (.str "again")) (yb (zb 1) zd))) zd))) yV)
 (qg (sIf (zr (eOp eqA (zb 2) (eC (.str "stands")))) (zE (zaO y4 (eUn zK (zb 3)) (yb (yw (yb (eC (.str "up")) (yb (zb 1) zd))) zd))) yV)
 (qA (zb 3))))))))
noncomputable def zaU (kE kR:Addr):List FT.T->Mem->Out FT.T:=qh 2 4 (zce kE kR)
noncomputable def z5 (kE kR:Addr):List FT.T->Mem->Out FT.T:=zgh (zaU kE kR)
section
theorem zax:FnScope ["run","number","word","events"] ["run","number"] (yd zaS):=by ac_rfl
theorem qH (D:Df K mg "events_by_tries" zaS ["run","number"]) (T:Txt K mg kE kR)  (zal:CalT P w K mg base 2 "may_be_lost" ["run","number"] (zak kE kR)) (yG:CalT P w K mg base 2 "has_tries_left" ["run","number"] (zG kE kR)):CalT P w K mg base 3 "events_by_tries" ["run","number"] (zaU kE kR):=
 zo D zax rfl rfl (fun f cdv A outer s H E hr=>(qc (zj (i:=2) zax.nd rfl (Or.inl rfl) (ze yg (zh (qd ⟨T.cls_Errand,T.na_Errand_state⟩ zf) (ze yg (zh (qd ⟨T.cls_Run,T.na_Run_errands⟩ zf) (za (pv 0))) (za (pv 1)) (fun _ _=>rfl))) yc (fun _ _=>rfl)))
  (qc (zj (i:=3) zax.nd rfl (Or.inl rfl) (zbk (qK zc)))
  (qc (zC (qo (zH hr.units) (za (pv 2)) yj (yo _)) (ye (zu (zg6 zjU (zaJ PySem.F.plainAttrs_list PySem.F.slot_list_extend PySem.F.type_list_extend znk (WE.pe (za (pv 3))) (WA.pe (ya (yP (qK (ya (ym (ya yj (ya (za (pv 1)) (ya yj zc)))) (ya (ym (ya yj (ya (za (pv 1)) (ya yj zc)))) (ya (ym (ya yj (ya (za (pv 1)) (ya yj zc)))) zc))))) zc)))))) qB)
  (qc (zC (zW (qf zal (hr.mono (by decide)) rfl (ya (za (pv 0)) (ya (za (pv 1)) zc)))) (ye (zu (z7 (zaJ PySem.F.plainAttrs_list PySem.F.slot_list_append PySem.F.type_list_append qJ (WE.pe (za (pv 3))) (WA.pe (ya (ym (ya yj (ya (za (pv 1)) zc))) zc)))))) qB)
  (qc (zC (zW (qf yG (hr.mono (by decide)) rfl (ya (za (pv 0)) (ya (za (pv 1)) zc)))) (ye (zu (z7 (zaJ PySem.F.plainAttrs_list PySem.F.slot_list_append PySem.F.type_list_append qJ (WE.pe (za (pv 3))) (WA.pe (ya (ym (ya yj (ya (za (pv 1)) zc))) zc)))))) qB)
  (qc (zC (qo (zH hr.units) (za (pv 2)) yj (yo _)) (ye (zu (z7 (zaJ PySem.F.plainAttrs_list PySem.F.slot_list_append PySem.F.type_list_append qJ (WE.pe (za (pv 3))) (WA.pe (ya (ym (ya yj (ya (za (pv 1)) zc))) zc)))))) qB)
  (ye (zm (za (pv 3)))))))))))
end
noncomputable def zeI (kE kR:Addr):Ev->Mem->Out Fl:=
 (qA (zdj zcP zgd (eFz (zI (zaT (zb 0)) (qi 0) yH (eOp ixT (zb 0) (eC (.int 0))) ["one"] [])) (yb (zb 1) zd)))
noncomputable def z0 (kE kR:Addr):List FT.T->Mem->Out FT.T:=qh 2 2 (zeI kE kR)
section
theorem zhf:FnScope ["named","name"] ["named","name"] (yd zcZ):=by ac_rfl
theorem zU (D:Df K mg "number_of" zcZ ["named","name"]) (T:Txt K mg kE kR)  :CalT P w K mg base 1 "number_of" ["named","name"] (z0 kE kR):=
 zo D zhf rfl rfl (fun f cdv A outer s H E hr=>(ye (zm (zg6 zjU (zaJ PySem.F.plainAttrs_list PySem.F.slot_list_index PySem.F.type_list_index (zoZ hr.units) (WE.pe (yP (zab (tgs:=["one"]) (caps:=[]) (z6 (za (pv 0))) (by bv_omega) (fun _ _ _=>(zn (qp (i:=0) (show (["one"]:List Str).Nodup by decide +kernel) rfl (by first | exact Or.inl rfl | exact Or.inr rfl)))) (fun _ _ _=>yU) (fun _ _ _=>(ze yg (za (pv 0)) yc (fun _ _=>rfl)))))) (WA.pe (ya (za (pv 1)) zc)))))))
end
noncomputable def zfE (kE kR:Addr):Ev->Mem->Out Fl:=
 (qA (eIf (zr (eOp isN (eOp ixT (zb 1) (eC (.int 2))) (eC .non))) (eC .non) (yf (z0 kE kR) (yb (eOp ixT (yi [kR] "net" (zb 0)) (eC (.int 1))) (yb (eOp ixT (zb 1) (eC (.int 2))) zd)))))
noncomputable def qO (kE kR:Addr):List FT.T->Mem->Out FT.T:=qh 2 2 (zfE kE kR)
section
theorem zh4:FnScope ["run","ask"] ["run","ask"] (yd zdr):=by ac_rfl
theorem yF (D:Df K mg "purse_of" zdr ["run","ask"]) (T:Txt K mg kE kR)  (zU:CalT P w K mg base 1 "number_of" ["named","name"] (z0 kE kR)):CalT P w K mg base 2 "purse_of" ["run","ask"] (qO kE kR):=
 zo D zh4 rfl rfl (fun f cdv A outer s H E hr=>(ye (zm (zod (qo zf8 (ze yg (za (pv 1)) yc (fun _ _=>rfl)) y6 (yo _)) y6 (qf zU (hr.mono (by decide)) rfl (ya (ze yg (zh (qd ⟨T.cls_Run,T.na_Run_net⟩ zf) (za (pv 0))) yc (fun _ _=>rfl)) (ya (ze yg (za (pv 1)) yc (fun _ _=>rfl)) zc)))))))
end
noncomputable def zd6 (kE kR:Addr):Ev->Mem->Out Fl:=
 (qA (eOp zc5 (yf (zF qF) (yb (eOp ixT (yi [kR] "puts" (zb 0)) (zb 1)) zd)) (eOp ixT (eOp ixT (eOp ixT (yi [kR] "net" (zb 0)) (eC (.int 1))) (zb 1)) (eC (.int 2)))))
noncomputable def zaD (kE kR:Addr):List FT.T->Mem->Out FT.T:=qh 2 2 (zd6 kE kR)
section
theorem zgP:FnScope ["run","purse"] ["run","purse"] (yd zcw):=by ac_rfl
theorem zaF (D:Df K mg "coins_made" zcw ["run","purse"]) (T:Txt K mg kE kR)  :CalT P w K mg base 1 "coins_made" ["run","purse"] (zaD kE kR):=
 zo D zgP rfl rfl (fun f cdv A outer s H E hr=>(ye (zm (yk zem (yr qD rfl T.n_len boot_len (ya (ze yg (zh (qd ⟨T.cls_Run,T.na_Run_puts⟩ zf) (za (pv 0))) (za (pv 1)) (fun _ _=>rfl)) zc)) (ze yg (ze yg (ze yg (zh (qd ⟨T.cls_Run,T.na_Run_net⟩ zf) (za (pv 0))) yc (fun _ _=>rfl)) (za (pv 1)) (fun _ _=>rfl)) yc (fun _ _=>rfl))))))
end
noncomputable def zd4 (kE kR:Addr):Ev->Mem->Out Fl:=
 (qA (yw (yb (eOp zac (yf (zF qF) (yb (eOp ixT (yi [kR] "puts" (zb 0)) (zb 1)) zd)) (eOp ixT (eOp ixT (eOp ixT (yi [kR] "net" (zb 0)) (eC (.int 1))) (zb 1)) (eC (.int 2)))) (yb (eOp zb5 (yf (zaD kE kR) (yb (zb 0) (yb (zb 1) zd))) (eOp ixT (yi [kR] "taken" (zb 0)) (zb 1))) zd))))
noncomputable def zQ (kE kR:Addr):List FT.T->Mem->Out FT.T:=qh 2 2 (zd4 kE kR)
section
theorem zgO:FnScope ["run","purse"] ["run","purse"] (yd zcv):=by ac_rfl
theorem zR (D:Df K mg "purse_told" zcv ["run","purse"]) (T:Txt K mg kE kR)  (zaF:CalT P w K mg base 1 "coins_made" ["run","purse"] (zaD kE kR)):CalT P w K mg base 2 "purse_told" ["run","purse"] (zQ kE kR):=
 zo D zgO rfl rfl (fun f cdv A outer s H E hr=>(ye (zm (ym (ya (yk yW (yr qD rfl T.n_len boot_len (ya (ze yg (zh (qd ⟨T.cls_Run,T.na_Run_puts⟩ zf) (za (pv 0))) (za (pv 1)) (fun _ _=>rfl)) zc)) (ze yg (ze yg (ze yg (zh (qd ⟨T.cls_Run,T.na_Run_net⟩ zf) (za (pv 0))) yc (fun _ _=>rfl)) (za (pv 1)) (fun _ _=>rfl)) yc (fun _ _=>rfl))) (ya (yk zan (qf zaF (hr.mono (by decide)) rfl (ya (za (pv 0)) (ya (za (pv 1)) zc))) (ze yg (zh (qd ⟨T.cls_Run,T.na_Run_taken⟩ zf) (za (pv 0))) (za (pv 1)) (fun _ _=>rfl))) zc))))))
end
noncomputable def zfI (kE kR:Addr):Ev->Mem->Out Fl:=
 (qg (zq 2 (yf (qO kE kR) (yb (zb 0) (yb (eOp ixT (yf (zx kE kR) (yb (zb 0) (yb (zb 1) zd))) (eOp ixT (yi [kE] "state" (eOp ixT (yi [kR] "errands" (zb 0)) (zb 1))) (eC (.int 1)))) zd))))
 (qA (eOr (eOp isN (zb 2) (eC .non)) (eOp gtI (eOp ixT (yf (zQ kE kR) (yb (zb 0) (yb (zb 2) zd))) (eC (.int 1))) (eC (.int 0))))))
noncomputable def zaN (kE kR:Addr):List FT.T->Mem->Out FT.T:=qh 2 3 (zfI kE kR)
section
theorem zez:FnScope ["run","number","purse"] ["run","number"] (yd zdv):=by ac_rfl
theorem zbz (D:Df K mg "has_coin" zdv ["run","number"]) (T:Txt K mg kE kR)  (yF:CalT P w K mg base 2 "purse_of" ["run","ask"] (qO kE kR)) (qk:CalT P w K mg base 1 "asks_of" ["run","number"] (zx kE kR)) (zR:CalT P w K mg base 2 "purse_told" ["run","purse"] (zQ kE kR)):CalT P w K mg base 3 "has_coin" ["run","number"] (zaN kE kR):=
 zo D zez rfl rfl (fun f cdv A outer s H E hr=>(qc (zj (i:=2) zez.nd rfl (Or.inl rfl) (qf yF (hr.mono (by decide)) rfl (ya (za (pv 0)) (ya (ze yg (qf qk (hr.mono (by decide)) rfl (ya (za (pv 0)) (ya (za (pv 1)) zc))) (ze yg (zh (qd ⟨T.cls_Errand,T.na_Errand_state⟩ zf) (ze yg (zh (qd ⟨T.cls_Run,T.na_Run_errands⟩ zf) (za (pv 0))) (za (pv 1)) (fun _ _=>rfl))) yc (fun _ _=>rfl)) (fun _ _=>rfl)) zc))))
  (ye (zm (zjQ (zbd zf8 (za (pv 2)) y6 (yo _)) (zef (zbd zfv (ze yg (qf zR (hr.mono (by decide)) rfl (ya (za (pv 0)) (ya (za (pv 2)) zc))) yc (fun _ _=>rfl)) yc (yo _))))))))
end
noncomputable def zeL (kE kR:Addr):Ev->Mem->Out Fl:=
 (qA (eFz (zI (zaT (yf (z5 kE kR) (yb (zb 0) (yb (zb 1) zd)))) (qi 0) (zcq (zr (eOp neA (eOp ixT (zb 0) (eC (.int 0))) (eC (.str "again")))) (zr (yf (zaN kE kR) (yb (zb 1) (yb (zb 2) zd))))) (zb 0) ["event"] [("run",0),("number",1)])))
noncomputable def za0 (kE kR:Addr):List FT.T->Mem->Out FT.T:=qh 2 2 (zeL kE kR)
section
theorem zhh:FnScope ["run","number"] ["run","number"] (yd zc2):=by ac_rfl
theorem za6 (D:Df K mg "events_at" zc2 ["run","number"]) (T:Txt K mg kE kR)  (qH:CalT P w K mg base 3 "events_by_tries" ["run","number"] (z5 kE kR)) (zbz:CalT P w K mg base 3 "has_coin" ["run","number"] (zaN kE kR)):CalT P w K mg base 4 "events_at" ["run","number"] (za0 kE kR):=
 zo D zhh rfl rfl (fun f cdv A outer s H E hr=>(ye (zm (yP (zab (tgs:=["event"]) (caps:=[("run",0),("number",1)]) (z6 (qf qH (hr.mono (by decide)) rfl (ya (za (pv 0)) (ya (za (pv 1)) zc)))) (by bv_omega) (fun _ _ _=>(zn (qp (i:=0) (show (["event","run","number"]:List Str).Nodup by decide +kernel) rfl (by first | exact Or.inl rfl | exact Or.inr rfl)))) (fun _ _ _=>(zeN (WW.gt (zbY (qo (zdf hr.units) (ze yg (za (pv 0)) yc (fun _ _=>rfl)) yj (yo _)) (zck (zW (qf zbz (hr.mono (by decide)) rfl (ya (za (pv 1)) (ya (za (pv 2)) zc))))))))) (fun _ _ _=>(za (pv 0))))))))
end
noncomputable def zfH (kE kR:Addr):Ev->Mem->Out Fl:=
 (qA (zjE (yf (call2 zbf) (yb (zb 0) (yb (eC (.ty "int")) zd))) (zjD (yf (call2 zbf) (yb (zb 0) (yb (eC (.ty "bool")) zd))))))
noncomputable def zbu (kE kR:Addr):List FT.T->Mem->Out FT.T:=qh 1 1 (zfH kE kR)
section
theorem zh7:FnScope ["thing"] ["thing"] (yd zdu):=by ac_rfl
theorem zby (D:Df K mg "is_whole" zdu ["thing"]) (T:Txt K mg kE kR)  :CalT P w K mg base 1 "is_whole" ["thing"] (zbu kE kR):=
 zo D zh7 rfl rfl (fun f cdv A outer s H E hr=>(ye (zm (zin (yr zcH rfl T.n_isinstance boot_isinstance (ya (za (pv 0)) (ya (zeR rfl T.n_int boot_int) zc))) (zef (zim (yr zcH rfl T.n_isinstance boot_isinstance (ya (za (pv 0)) (ya (zeR rfl T.n_bool boot_bool) zc)))))))))
end
noncomputable def zeK (kE kR:Addr):Ev->Mem->Out Fl:=
 (qA (zjE (yf (zbu kE kR) (yb (zb 0) zd)) (zfN leI leI (zb 1) (zb 0) (zb 2))))
noncomputable def zaZ (kE kR:Addr):List FT.T->Mem->Out FT.T:=qh 3 3 (zeK kE kR)
section
theorem zhg:FnScope ["thing","low","high"] ["thing","low","high"] (yd zc1):=by ac_rfl
theorem za5 (D:Df K mg "is_within" zc1 ["thing","low","high"]) (T:Txt K mg kE kR)  (zby:CalT P w K mg base 1 "is_whole" ["thing"] (zbu kE kR)):CalT P w K mg base 2 "is_within" ["thing","low","high"] (zaZ kE kR):=
 zo D zhg rfl rfl (fun f cdv A outer s H E hr=>(ye (zm (zin (qf zby (hr.mono (by decide)) rfl (ya (za (pv 0)) zc)) (zef (zjS zkd zkd (za (pv 1)) (za (pv 0)) (za (pv 2))))))))
end
noncomputable def zdG (kE kR:Addr):Ev->Mem->Out Fl:=
 (qg (sIf (zr (eOp eqA (zb 1) (eC (.tup [.str "fresh"])))) (qA (eC (.bl true))) yV)
 (qg (sIf (zcq (zcM (zr (yf (call2 zbf) (yb (zb 1) (yb (eC (.ty "tuple")) zd))))) (zcq (zr (eOp ltI (yf (zF qF) (yb (zb 1) zd)) (eC (.int 2)))) (zcM (zr (yf (zaZ kE kR) (yb (eOp ixT (zb 1) (eC (.int 1))) (yb (eC (.int 0)) (yb (eOp zb5 (yf (zF qF) (yb (yi [kR] "errands" (zb 0)) zd)) (eC (.int 1))) zd)))))))) (qA (eC (.bl false))) yV)
 (qA (eOp inN (zb 1) (yf (za0 kE kR) (yb (zb 0) (yb (eOp ixT (zb 1) (eC (.int 1))) zd)))))))
noncomputable def zag (kE kR:Addr):List FT.T->Mem->Out FT.T:=qh 2 2 (zdG kE kR)
section
theorem zh8:FnScope ["run","event"] ["run","event"] (yd zdw):=by ac_rfl
theorem zbA (D:Df K mg "can_come" zdw ["run","event"]) (T:Txt K mg kE kR)  (za6:CalT P w K mg base 4 "events_at" ["run","number"] (za0 kE kR)) (za5:CalT P w K mg base 2 "is_within" ["thing","low","high"] (zaZ kE kR)):CalT P w K mg base 5 "can_come" ["run","event"] (zag kE kR):=
 zo D zh8 rfl rfl (fun f cdv A outer s H E hr=>(qc (zC (qo (zH hr.units) (za (pv 1)) (zjR (ss:=["fresh"]) rfl T.c_FRESH) (yo _)) (ye (zm zaV)) qB)
  (qc (zC (WW.gt (zbY (zcl (zW (yr zcH rfl T.n_isinstance boot_isinstance (ya (za (pv 1)) (ya (zeR rfl T.n_tuple boot_tuple) zc))))) (zbY (qo zdY (yr qD rfl T.n_len boot_len (ya (za (pv 1)) zc)) yc (yo _)) (zck (zcl (zW (qf za5 (hr.mono (by decide)) rfl (ya (ze yg (za (pv 1)) yc (fun _ _=>rfl)) (ya yc (ya (yk zan (yr qD rfl T.n_len boot_len (ya (zh (qd ⟨T.cls_Run,T.na_Run_errands⟩ zf) (za (pv 0))) zc)) yc) zc)))))))))) (ye (zm zaV)) qB)
  (ye (zm (zbd (zoV hr.units) (za (pv 1)) (qf za6 (hr.mono (by decide)) rfl (ya (za (pv 0)) (ya (ze yg (za (pv 1)) yc (fun _ _=>rfl)) zc))) rfl))))))
end
noncomputable def zcc (kE kR:Addr):Ev->Mem->Out Fl:=
 (sIf (zcM (zr (yf (zag kE kR) (yb (zb 0) (yb (zb 1) zd))))) zln yV)
noncomputable def qG (kE kR:Addr):List FT.T->Mem->Out FT.T:=qh 2 2 (zcc kE kR)
section
theorem zfY:FnScope ["run","event"] ["run","event"] (yd zb8):=by ac_rfl
theorem qL (D:Df K mg "check_event" zb8 ["run","event"]) (T:Txt K mg kE kR)  (zbA:CalT P w K mg base 5 "can_come" ["run","event"] (zag kE kR)):CalT P w K mg base 6 "check_event" ["run","event"] (qG kE kR):=
 zo D zfY rfl rfl (fun f cdv A outer s H E hr=>(ye (zC (zcl (zW (qf zbA (hr.mono (by decide)) rfl (ya (za (pv 0)) (ya (za (pv 1)) zc))))) (ye zmx) qB)))
end
noncomputable def zfJ (kE kR:Addr):Ev->Mem->Out Fl:=
 (qA (yf (z0 kE kR) (yb (eOp ixT (zb 0) (eC (.int 0))) (yb (eOp ixT (zb 1) (eC (.int 0))) zd))))
noncomputable def zah (kE kR:Addr):List FT.T->Mem->Out FT.T:=qh 2 2 (zfJ kE kR)
section
theorem zh9:FnScope ["net","ask"] ["net","ask"] (yd zdx):=by ac_rfl
theorem zZ (D:Df K mg "asked_by" zdx ["net","ask"]) (T:Txt K mg kE kR)  (zU:CalT P w K mg base 1 "number_of" ["named","name"] (z0 kE kR)):CalT P w K mg base 2 "asked_by" ["net","ask"] (zah kE kR):=
 zo D zh9 rfl rfl (fun f cdv A outer s H E hr=>(ye (zm (qf zU (hr.mono (by decide)) rfl (ya (ze yg (za (pv 0)) yc (fun _ _=>rfl)) (ya (ze yg (za (pv 1)) yc (fun _ _=>rfl)) zc))))))
end
noncomputable def zdN (kE kR:Addr):Ev->Mem->Out Fl:=
 (qg (yB [kE] "house" (zb 0) (zb 1))
 (qg (yB [kE] "caller" (zb 0) (zb 2))
 (qg (yB [kE] "state" (zb 0) (yw (yb (eC (.str "works")) zd)))
 (qg (yB [kE] "is_lost" (zb 0) (eC (.bl false)))
 (qg (yB [kE] "asked" (zb 0) (eC .non))
 (yB [kE] "stood" (zb 0) (eC .non)))))))
noncomputable def qR (kE kR:Addr):List FT.T->Mem->Out FT.T:=qh 3 3 (zdN kE kR)
section
theorem zfZ:FnScope ["self","house","caller"] ["self","house","caller"] (yd zb9):=by ac_rfl
theorem zaz (D:Di K mg "Errand" "Errand.__init__" kE zb9 ["self","house","caller"]) (T:Txt K mg kE kR)  :MakT P w K mg base 1 "Errand" kE ["self","house","caller"] (qR kE kR):=
 zik D zfZ rfl rfl (fun f cdv A outer s H E hr=>(qc (yI (qd ⟨T.cls_Errand,T.na_Errand_house⟩ zf) (za (pv 0)) (za (pv 1)))
  (qc (yI (qd ⟨T.cls_Errand,T.na_Errand_caller⟩ zf) (za (pv 0)) (za (pv 2)))
  (qc (yI (qd ⟨T.cls_Errand,T.na_Errand_state⟩ zf) (za (pv 0)) (ym (ya yj zc)))
  (qc (yI (qd ⟨T.cls_Errand,T.na_Errand_is_lost⟩ zf) (za (pv 0)) zaV)
  (qc (yI (qd ⟨T.cls_Errand,T.na_Errand_asked⟩ zf) (za (pv 0)) y6)
  (ye (yI (qd ⟨T.cls_Errand,T.na_Errand_stood⟩ zf) (za (pv 0)) y6))))))))
end
noncomputable def zaX (kE kR:Addr) (q_begin_try q_begin_errand:List FT.T->Mem->Out FT.T):Ev->Mem->Out Fl:=
 (qg (zq 4 (eOp ixT (yf (zx kE kR) (yb (zb 0) (yb (zb 1) zd))) (zb 2)))
 (qg (zq 5 (yf (zF qF) (yb (yi [kR] "errands" (zb 0)) zd)))
 (qg (yB [kE] "state" (eOp ixT (yi [kR] "errands" (zb 0)) (zb 1)) (yw (yb (eC (.str "waits")) (yb (zb 2) (yb (zb 3) zd)))))
 (qg (yB [kE] "asked" (eOp ixT (yi [kR] "errands" (zb 0)) (zb 1)) (zb 5))
 (qg (zq 6 (yf (qO kE kR) (yb (zb 0) (yb (zb 4) zd))))
 (qg (sIf (zbl (zr (eOp za9 (zb 6) (eC .non))) (zcq (zr (eOp eqA (zb 3) (eC (.int 1)))) (zr (eOp eqA (eOp ixT (eOp ixT (eOp ixT (yi [kR] "net" (zb 0)) (eC (.int 1))) (zb 6)) (eC (.int 1))) (eC (.str "any")))))) (zE (zaO y4 (eUn zK (eOp ixT (yi [kR] "puts" (zb 0)) (zb 6))) (yb (zb 5) zd))) yV)
 (zE (yf q_begin_errand (yb (zb 0) (yb (yf (zah kE kR) (yb (yi [kR] "net" (zb 0)) (yb (zb 4) zd))) (yb (yw (yb (zb 1) (yb (zb 2) (yb (zb 3) zd)))) zd)))))))))))
variable {L:Nat}
section
theorem zay:FnScope ["run","number","at","tried","ask","begun","purse"] ["run","number","at","tried"] (yd zbS):=by ac_rfl
theorem zD {q_begin_try q_begin_errand:List FT.T->Mem->Out FT.T} (hL:2<=L) (D:Df K mg "begin_try" zbS ["run","number","at","tried"]) (T:Txt K mg kE kR) (yF:CalT P w K mg base 2 "purse_of" ["run","ask"] (qO kE kR)) (yN:CalT P w K mg base L "begin_errand" ["run","house","caller"] q_begin_errand) (qk:CalT P w K mg base 1 "asks_of" ["run","number"] (zx kE kR)) (zZ:CalT P w K mg base 2 "asked_by" ["net","ask"] (zah kE kR)):CalT P w K mg base (L + 1) "begin_try" ["run","number","at","tried"] (qh 4 7 (zaX kE kR q_begin_try q_begin_errand)):=
 zo D zay rfl rfl (fun f cdv A outer s H E hr=>(qc (zj (i:=4) zay.nd rfl (Or.inl rfl) (ze yg (qf qk (hr.mono (by omega)) rfl (ya (za (pv 0)) (ya (za (pv 1)) zc))) (za (pv 2)) (fun _ _=>rfl)))
  (qc (zj (i:=5) zay.nd rfl (Or.inl rfl) (yr qD rfl T.n_len boot_len (ya (zh (qd ⟨T.cls_Run,T.na_Run_errands⟩ zf) (za (pv 0))) zc)))
  (qc (yI (qd ⟨T.cls_Errand,T.na_Errand_state⟩ zf) (ze yg (zh (qd ⟨T.cls_Run,T.na_Run_errands⟩ zf) (za (pv 0))) (za (pv 1)) (fun _ _=>rfl)) (ym (ya yj (ya (za (pv 2)) (ya (za (pv 3)) zc)))))
  (qc (yI (qd ⟨T.cls_Errand,T.na_Errand_asked⟩ zf) (ze yg (zh (qd ⟨T.cls_Run,T.na_Run_errands⟩ zf) (za (pv 0))) (za (pv 1)) (fun _ _=>rfl)) (za (pv 5)))
  (qc (zj (i:=6) zay.nd rfl (Or.inl rfl) (qf yF (hr.mono (by omega)) rfl (ya (za (pv 0)) (ya (za (pv 4)) zc))))
  (qc (zC (WW.gt (zaG (qo zdZ (za (pv 6)) y6 (yo _)) (zau (WW.gt (zbY (qo (zH hr.units) (za (pv 3)) yc (yo _)) (zck (qo (zH hr.units) (ze yg (ze yg (ze yg (zh (qd ⟨T.cls_Run,T.na_Run_net⟩ zf) (za (pv 0))) yc (fun _ _=>rfl)) (za (pv 6)) (fun _ _=>rfl)) yc (fun _ _=>rfl)) yj (yo _)))))))) (ye (zu (z7 (zaJ PySem.F.plainAttrs_list PySem.F.slot_list_append PySem.F.type_list_append qJ (WE.pe (ze yg (zh (qd ⟨T.cls_Run,T.na_Run_puts⟩ zf) (za (pv 0))) (za (pv 6)) (fun _ _=>rfl))) (WA.pe (ya (za (pv 5)) zc)))))) qB)
  (ye (zu (qf yN (hr.mono (by omega)) rfl (ya (za (pv 0)) (ya (qf zZ (hr.mono (by omega)) rfl (ya (zh (qd ⟨T.cls_Run,T.na_Run_net⟩ zf) (za (pv 0))) (ya (za (pv 4)) zc))) (ya (ym (ya (za (pv 1)) (ya (za (pv 2)) (ya (za (pv 3)) zc)))) zc)))))))))))))
end
noncomputable def zaL (kE kR:Addr) (q_begin_try q_begin_errand:List FT.T->Mem->Out FT.T):Ev->Mem->Out Fl:=
 (qg (zE (zaO y4 (eUn zK (yi [kR] "errands" (zb 0))) (yb (zcj kE (qR kE kR) (yb (zb 1) (yb (zb 2) zd))) zd)))
 (qg (zq 3 (eOp zb5 (yf (zF qF) (yb (yi [kR] "errands" (zb 0)) zd)) (eC (.int 1))))
 (sIf (zr (eOp gtI (yf (zF qF) (yb (yf (zx kE kR) (yb (zb 0) (yb (zb 3) zd))) zd)) (eC (.int 0)))) (zE (yf q_begin_try (yb (zb 0) (yb (zb 3) (yb (eC (.int 0)) (yb (eC (.int 1)) zd)))))) yV)))
section
theorem zbp:FnScope ["run","house","caller","number"] ["run","house","caller"] (yd zaI):=by ac_rfl
theorem yN {q_begin_try q_begin_errand:List FT.T->Mem->Out FT.T} (hL:2<=L) (D:Df K mg "begin_errand" zaI ["run","house","caller"]) (T:Txt K mg kE kR) (zaz:MakT P w K mg base 1 "Errand" kE ["self","house","caller"] (qR kE kR)) (zD:CalT P w K mg base L "begin_try" ["run","number","at","tried"] q_begin_try) (qk:CalT P w K mg base 1 "asks_of" ["run","number"] (zx kE kR)):CalT P w K mg base (L + 1) "begin_errand" ["run","house","caller"] (qh 3 4 (zaL kE kR q_begin_try q_begin_errand)):=
 zo D zbp rfl rfl (fun f cdv A outer s H E hr=>(qc (zu (z7 (zaJ PySem.F.plainAttrs_list PySem.F.slot_list_append PySem.F.type_list_append qJ (WE.pe (zh (qd ⟨T.cls_Run,T.na_Run_errands⟩ zf) (za (pv 0)))) (WA.pe (ya (zeQ zaz (hr.mono (by omega)) rfl (ya (za (pv 1)) (ya (za (pv 2)) zc))) zc)))))
  (qc (zj (i:=3) zbp.nd rfl (Or.inl rfl) (yk zan (yr qD rfl T.n_len boot_len (ya (zh (qd ⟨T.cls_Run,T.na_Run_errands⟩ zf) (za (pv 0))) zc)) yc))
  (ye (zC (qo zfv (yr qD rfl T.n_len boot_len (ya (qf qk (hr.mono (by omega)) rfl (ya (za (pv 0)) (ya (za (pv 3)) zc))) zc)) yc (yo _)) (ye (zu (qf zD (hr.mono (by omega)) rfl (ya (za (pv 0)) (ya (za (pv 3)) (ya yc (ya yc zc))))))) qB)))))
noncomputable def zi (kE kR:Addr):Nat->(List FT.T->Mem->Out FT.T) × (List FT.T->Mem->Out FT.T)
 | 0=>(fun _ _=>.bad,fun _ _=>.bad)
 | n + 1=>(qh 4 7 (zaX kE kR (zi kE kR n).1 (zi kE kR n).2),qh 3 4 (zaL kE kR (zi kE kR n).1 (zi kE kR n).2))
noncomputable def y3 (kE kR:Addr):List FT.T->Mem->Out FT.T:=(zi kE kR 12).1
noncomputable def zbN (kE kR:Addr):List FT.T->Mem->Out FT.T:=(zi kE kR 12).2
theorem qE (D_begin_try:Df K mg "begin_try" zbS ["run","number","at","tried"]) (D_begin_errand:Df K mg "begin_errand" zaI ["run","house","caller"]) (T:Txt K mg kE kR) (yF:CalT P w K mg base 2 "purse_of" ["run","ask"] (qO kE kR)) (qk:CalT P w K mg base 1 "asks_of" ["run","number"] (zx kE kR)) (zZ:CalT P w K mg base 2 "asked_by" ["net","ask"] (zah kE kR)) (zaz:MakT P w K mg base 1 "Errand" kE ["self","house","caller"] (qR kE kR)):∀ n,CalT P w K mg base (2 + n + 1) "begin_try" ["run","number","at","tried"] (zi kE kR n).1/\CalT P w K mg base (2 + n + 1) "begin_errand" ["run","house","caller"] (zi kE kR n).2
 | 0=>⟨CalT.bad D_begin_try zay,CalT.bad D_begin_errand zbp⟩
 | n + 1=>by
  have ih:=qE D_begin_try D_begin_errand T yF qk zZ zaz n
  exact ⟨zD (by omega) D_begin_try T yF ih.2 qk zZ,yN (by omega) D_begin_errand T zaz ih.1 qk⟩
end
noncomputable def zbs (kE kR:Addr) (q_end_errand q_hear:List FT.T->Mem->Out FT.T):Ev->Mem->Out Fl:=
 (qg (zq 3 (eOp ixT (yi [kR] "errands" (zb 0)) (zb 1)))
 (qg (yB [kE] "state" (zb 3) (yw (yb (eC (.str "ended")) (yb (zb 2) zd))))
 (sIf (zbl (zr (eOp za9 (yi [kE] "caller" (zb 3)) (eC .non))) (zcM (zr (yi [kE] "is_lost" (zb 3))))) (zE (yf q_hear (yb (zb 0) (yb (yi [kE] "caller" (zb 3)) (yb (zb 2) zd))))) yV)))
section
theorem zb6:FnScope ["run","number","word","errand"] ["run","number","word"] (yd zbq):=by ac_rfl
theorem qI {q_end_errand q_hear:List FT.T->Mem->Out FT.T} (hL:15<=L) (D:Df K mg "end_errand" zbq ["run","number","word"]) (T:Txt K mg kE kR) (zcK:CalT P w K mg base L "hear" ["run","caller","word"] q_hear):CalT P w K mg base (L + 1) "end_errand" ["run","number","word"] (qh 3 4 (zbs kE kR q_end_errand q_hear)):=
 zo D zb6 rfl rfl (fun f cdv A outer s H E hr=>(qc (zj (i:=3) zb6.nd rfl (Or.inl rfl) (ze yg (zh (qd ⟨T.cls_Run,T.na_Run_errands⟩ zf) (za (pv 0))) (za (pv 1)) (fun _ _=>rfl)))
  (qc (yI (qd ⟨T.cls_Errand,T.na_Errand_state⟩ zf) (za (pv 3)) (ym (ya yj (ya (za (pv 2)) zc))))
  (ye (zC (WW.gt (zaG (qo zdZ (zh (qd ⟨T.cls_Errand,T.na_Errand_caller⟩ zf) (za (pv 3))) y6 (yo _)) (zau (zcl (zW (zh (qd ⟨T.cls_Errand,T.na_Errand_is_lost⟩ zf) (za (pv 3)))))))) (ye (zu (qf zcK (hr.mono (by omega)) rfl (ya (za (pv 0)) (ya (zh (qd ⟨T.cls_Errand,T.na_Errand_caller⟩ zf) (za (pv 3))) (ya (za (pv 2)) zc)))))) qB)))))
end
noncomputable def zd5 (kE kR:Addr) (q_end_errand q_hear:List FT.T->Mem->Out FT.T):Ev->Mem->Out Fl:=
 (qg (zq 3 (eOp ixT (zb 1) (eC (.int 0))))
 (qg (zq 4 (eOp ixT (zb 1) (eC (.int 1))))
 (qg (zq 5 (yf (zx kE kR) (yb (zb 0) (yb (zb 3) zd))))
 (sIf (zbl (zr (eOp eqA (zb 2) (eC (.str "well")))) (zr (eOp ltI (eOp y9 (zb 4) (eC (.int 1))) (yf (zF qF) (yb (zb 5) zd))))) (zE (yf (y3 kE kR) (yb (zb 0) (yb (zb 3) (yb (eOp y9 (zb 4) (eC (.int 1))) (yb (eC (.int 1)) zd)))))) (sIf (zcq (zr (eOp eqA (zb 2) (eC (.str "well")))) (zbl (zr (eOp eqA (zb 2) (eC (.str "spent")))) (zr (eOp ixT (eOp ixT (zb 5) (zb 4)) (eC (.int 4)))))) (zE (yf q_end_errand (yb (zb 0) (yb (zb 3) (yb (zb 2) zd))))) (qg (yB [kE] "state" (eOp ixT (yi [kR] "errands" (zb 0)) (zb 3)) (yw (yb (eC (.str "stands")) (yb (zb 4) (yb (eOp ixT (zb 1) (eC (.int 2))) zd)))))
 (yB [kE] "stood" (eOp ixT (yi [kR] "errands" (zb 0)) (zb 3)) (yi [kR] "came" (zb 0)))))))))
section
theorem zdb:FnScope ["run","caller","word","number","at","asks"] ["run","caller","word"] (yd zfo):=by ac_rfl
theorem zcK {q_end_errand q_hear:List FT.T->Mem->Out FT.T} (hL:15<=L) (D:Df K mg "hear" zfo ["run","caller","word"]) (T:Txt K mg kE kR) (qk:CalT P w K mg base 1 "asks_of" ["run","number"] (zx kE kR)) (zD:CalT P w K mg base 15 "begin_try" ["run","number","at","tried"] (y3 kE kR)) (qI:CalT P w K mg base L "end_errand" ["run","number","word"] q_end_errand):CalT P w K mg base (L + 1) "hear" ["run","caller","word"] (qh 3 6 (zd5 kE kR q_end_errand q_hear)):=
 zo D zdb rfl rfl (fun f cdv A outer s H E hr=>(qc (zj (i:=3) zdb.nd rfl (Or.inl rfl) (ze yg (za (pv 1)) yc (fun _ _=>rfl)))
  (qc (zj (i:=4) zdb.nd rfl (Or.inl rfl) (ze yg (za (pv 1)) yc (fun _ _=>rfl)))
  (qc (zj (i:=5) zdb.nd rfl (Or.inl rfl) (qf qk (hr.mono (by omega)) rfl (ya (za (pv 0)) (ya (za (pv 3)) zc))))
  (ye (zC (WW.gt (zaG (qo (zH hr.units) (za (pv 2)) yj (yo _)) (zau (qo zdY (yk zN (za (pv 4)) yc) (yr qD rfl T.n_len boot_len (ya (za (pv 5)) zc)) (yo _))))) (ye (zu (qf zD (hr.mono (by omega)) rfl (ya (za (pv 0)) (ya (za (pv 3)) (ya (yk zN (za (pv 4)) yc) (ya yc zc))))))) (ye (zC (WW.gt (zbY (qo (zH hr.units) (za (pv 2)) yj (yo _)) (zck (WW.gt (zaG (qo (zH hr.units) (za (pv 2)) yj (yo _)) (zau (zW (ze yg (ze yg (za (pv 5)) (za (pv 4)) (fun _ _=>rfl)) yc (fun _ _=>rfl))))))))) (ye (zu (qf qI (hr.mono (by omega)) rfl (ya (za (pv 0)) (ya (za (pv 3)) (ya (za (pv 2)) zc)))))) (qc (yI (qd ⟨T.cls_Errand,T.na_Errand_state⟩ zf) (ze yg (zh (qd ⟨T.cls_Run,T.na_Run_errands⟩ zf) (za (pv 0))) (za (pv 3)) (fun _ _=>rfl)) (ym (ya yj (ya (za (pv 4)) (ya (ze yg (za (pv 1)) yc (fun _ _=>rfl)) zc)))))
  (ye (yI (qd ⟨T.cls_Errand,T.na_Errand_stood⟩ zf) (ze yg (zh (qd ⟨T.cls_Run,T.na_Run_errands⟩ zf) (za (pv 0))) (za (pv 3)) (fun _ _=>rfl)) (zh (qd ⟨T.cls_Run,T.na_Run_came⟩ zf) (za (pv 0))))))))))))))
noncomputable def yn (kE kR:Addr):Nat->(List FT.T->Mem->Out FT.T) × (List FT.T->Mem->Out FT.T)
 | 0=>(fun _ _=>.bad,fun _ _=>.bad)
 | n + 1=>(qh 3 4 (zbs kE kR (yn kE kR n).1 (yn kE kR n).2),qh 3 6 (zd5 kE kR (yn kE kR n).1 (yn kE kR n).2))
noncomputable def zaC (kE kR:Addr):List FT.T->Mem->Out FT.T:=(yn kE kR 12).1
noncomputable def zhK (kE kR:Addr):List FT.T->Mem->Out FT.T:=(yn kE kR 12).2
theorem yQ (D_end_errand:Df K mg "end_errand" zbq ["run","number","word"]) (D_hear:Df K mg "hear" zfo ["run","caller","word"]) (T:Txt K mg kE kR) (qk:CalT P w K mg base 1 "asks_of" ["run","number"] (zx kE kR)) (zD:CalT P w K mg base 15 "begin_try" ["run","number","at","tried"] (y3 kE kR)):∀ n,CalT P w K mg base (15 + n + 1) "end_errand" ["run","number","word"] (yn kE kR n).1/\CalT P w K mg base (15 + n + 1) "hear" ["run","caller","word"] (yn kE kR n).2
 | 0=>⟨CalT.bad D_end_errand zb6,CalT.bad D_hear zdb⟩
 | n + 1=>by
  have ih:=yQ D_end_errand D_hear T qk zD n
  exact ⟨qI (by omega) D_end_errand T ih.2,zcK (by omega) D_hear T qk zD ih.1⟩
end
noncomputable def zkz (kE kR:Addr):Ev->Mem->Out Fl:=
 (qg (zq 2 (eOp ixT (yi [kR] "errands" (zb 0)) (zb 1)))
 (qg (yB [kE] "is_lost" (zb 2) (eC (.bl true)))
 (zE (yf (zhK kE kR) (yb (zb 0) (yb (yi [kE] "caller" (zb 2)) (yb (eC (.str "bad")) zd)))))))
noncomputable def zfM (kE kR:Addr):List FT.T->Mem->Out FT.T:=qh 2 3 (zkz kE kR)
section
theorem ziv:FnScope ["run","number","errand"] ["run","number"] (yd zhi):=by ac_rfl
theorem zd9 (D:Df K mg "lose" zhi ["run","number"]) (T:Txt K mg kE kR)  (zcK:CalT P w K mg base 28 "hear" ["run","caller","word"] (zhK kE kR)):CalT P w K mg base 29 "lose" ["run","number"] (zfM kE kR):=
 zo D ziv rfl rfl (fun f cdv A outer s H E hr=>(qc (zj (i:=2) ziv.nd rfl (Or.inl rfl) (ze yg (zh (qd ⟨T.cls_Run,T.na_Run_errands⟩ zf) (za (pv 0))) (za (pv 1)) (fun _ _=>rfl)))
  (qc (yI (qd ⟨T.cls_Errand,T.na_Errand_is_lost⟩ zf) (za (pv 2)) zaV)
  (ye (zu (qf zcK (hr.mono (by decide)) rfl (ya (za (pv 0)) (ya (zh (qd ⟨T.cls_Errand,T.na_Errand_caller⟩ zf) (za (pv 2))) (ya yj zc)))))))))
end
noncomputable def zeG (kE kR:Addr):Ev->Mem->Out Fl:=
 (qg (zE (zaO y4 (eUn zK (yi [kR] "payments" (zb 0))) (yb (yw (yb (yf (zF qF) (yb (yi [kR] "errands" (zb 0)) zd)) (yb (zb 1) (yb (eOp ixT (yi [kR] "taken" (zb 0)) (zb 1)) zd)))) zd)))
 (zgU getL zc6 zfX (yi [kR] "taken" (zb 0)) (zb 1) (eC (.int 1))))
noncomputable def zbV (kE kR:Addr):List FT.T->Mem->Out FT.T:=qh 2 2 (zeG kE kR)
section
theorem zhe:FnScope ["run","purse"] ["run","purse"] (yd zcX):=by ac_rfl
theorem za3 (D:Df K mg "take_coin" zcX ["run","purse"]) (T:Txt K mg kE kR)  :CalT P w K mg base 1 "take_coin" ["run","purse"] (zbV kE kR):=
 zo D zhe rfl rfl (fun f cdv A outer s H E hr=>(qc (zu (z7 (zaJ PySem.F.plainAttrs_list PySem.F.slot_list_append PySem.F.type_list_append qJ (WE.pe (zh (qd ⟨T.cls_Run,T.na_Run_payments⟩ zf) (za (pv 0)))) (WA.pe (ya (ym (ya (yr qD rfl T.n_len boot_len (ya (zh (qd ⟨T.cls_Run,T.na_Run_errands⟩ zf) (za (pv 0))) zc)) (ya (za (pv 1)) (ya (ze yg (zh (qd ⟨T.cls_Run,T.na_Run_taken⟩ zf) (za (pv 0))) (za (pv 1)) (fun _ _=>rfl)) zc)))) zc)))))
  (ye (zla (zh (qd ⟨T.cls_Run,T.na_Run_taken⟩ zf) (za (pv 0))) (za (pv 1)) zqE yc znv zjf))))
end
noncomputable def zeE (kE kR:Addr):Ev->Mem->Out Fl:=
 (qg (zq 2 (yi [kE] "state" (eOp ixT (yi [kR] "errands" (zb 0)) (zb 1))))
 (qg (zq 3 (yf (qO kE kR) (yb (zb 0) (yb (eOp ixT (yf (zx kE kR) (yb (zb 0) (yb (zb 1) zd))) (eOp ixT (zb 2) (eC (.int 1)))) zd))))
 (qg (sIf (zr (eOp za9 (zb 3) (eC .non))) (zE (yf (zbV kE kR) (yb (zb 0) (yb (zb 3) zd)))) yV)
 (zE (yf (y3 kE kR) (yb (zb 0) (yb (zb 1) (yb (eOp ixT (zb 2) (eC (.int 1))) (yb (eOp y9 (eOp ixT (zb 2) (eC (.int 2))) (eC (.int 1))) zd)))))))))
noncomputable def zbU (kE kR:Addr):List FT.T->Mem->Out FT.T:=qh 2 4 (zeE kE kR)
section
theorem zct:FnScope ["run","number","state","purse"] ["run","number"] (yd zcV):=by ac_rfl
theorem za2 (D:Df K mg "try_again" zcV ["run","number"]) (T:Txt K mg kE kR)  (yF:CalT P w K mg base 2 "purse_of" ["run","ask"] (qO kE kR)) (zD:CalT P w K mg base 15 "begin_try" ["run","number","at","tried"] (y3 kE kR)) (za3:CalT P w K mg base 1 "take_coin" ["run","purse"] (zbV kE kR)) (qk:CalT P w K mg base 1 "asks_of" ["run","number"] (zx kE kR)):CalT P w K mg base 16 "try_again" ["run","number"] (zbU kE kR):=
 zo D zct rfl rfl (fun f cdv A outer s H E hr=>(qc (zj (i:=2) zct.nd rfl (Or.inl rfl) (zh (qd ⟨T.cls_Errand,T.na_Errand_state⟩ zf) (ze yg (zh (qd ⟨T.cls_Run,T.na_Run_errands⟩ zf) (za (pv 0))) (za (pv 1)) (fun _ _=>rfl))))
  (qc (zj (i:=3) zct.nd rfl (Or.inl rfl) (qf yF (hr.mono (by decide)) rfl (ya (za (pv 0)) (ya (ze yg (qf qk (hr.mono (by decide)) rfl (ya (za (pv 0)) (ya (za (pv 1)) zc))) (ze yg (za (pv 2)) yc (fun _ _=>rfl)) (fun _ _=>rfl)) zc))))
  (qc (zC (qo zdZ (za (pv 3)) y6 (yo _)) (ye (zu (qf za3 (hr.mono (by decide)) rfl (ya (za (pv 0)) (ya (za (pv 3)) zc))))) qB)
  (ye (zu (qf zD (hr.mono (by decide)) rfl (ya (za (pv 0)) (ya (za (pv 1)) (ya (ze yg (za (pv 2)) yc (fun _ _=>rfl)) (ya (yk zN (ze yg (za (pv 2)) yc (fun _ _=>rfl)) yc) zc)))))))))))
end
noncomputable def ziQ (kE kR:Addr):Ev->Mem->Out Fl:=
 (zE (yf (zaC kE kR) (yb (zb 0) (yb (zb 1) (yb (eOp ixT (eOp ixT (yf (zx kE kR) (yb (zb 0) (yb (zb 1) zd))) (eOp ixT (yi [kE] "state" (eOp ixT (yi [kR] "errands" (zb 0)) (zb 1))) (eC (.int 1)))) (eC (.int 3))) zd)))))
noncomputable def zep (kE kR:Addr):List FT.T->Mem->Out FT.T:=qh 2 2 (ziQ kE kR)
section
theorem zll:FnScope ["run","number"] ["run","number"] (yd zf1):=by ac_rfl
theorem zdk (D:Df K mg "go_up" zf1 ["run","number"]) (T:Txt K mg kE kR)  (qI:CalT P w K mg base 28 "end_errand" ["run","number","word"] (zaC kE kR)) (qk:CalT P w K mg base 1 "asks_of" ["run","number"] (zx kE kR)):CalT P w K mg base 29 "go_up" ["run","number"] (zep kE kR):=
 zo D zll rfl rfl (fun f cdv A outer s H E hr=>(ye (zu (qf qI (hr.mono (by decide)) rfl (ya (za (pv 0)) (ya (za (pv 1)) (ya (ze yg (ze yg (qf qk (hr.mono (by decide)) rfl (ya (za (pv 0)) (ya (za (pv 1)) zc))) (ze yg (zh (qd ⟨T.cls_Errand,T.na_Errand_state⟩ zf) (ze yg (zh (qd ⟨T.cls_Run,T.na_Run_errands⟩ zf) (za (pv 0))) (za (pv 1)) (fun _ _=>rfl))) yc (fun _ _=>rfl)) (fun _ _=>rfl)) yc (fun _ _=>rfl)) zc)))))))
end
noncomputable def zfF (kE kR:Addr):Ev->Mem->Out Fl:=
 (qg (sIf (zr (eOp eqA (eOp ixT (zb 1) (eC (.int 0))) (eC (.str "fresh")))) (zE (yf (zbN kE kR) (yb (zb 0) (yb (eC (.int 0)) (yb (eC .non) zd))))) (sIf (zr (eOp eqA (eOp ixT (zb 1) (eC (.int 0))) (eC (.str "ends")))) (zE (yf (zaC kE kR) (yb (zb 0) (yb (eOp ixT (zb 1) (eC (.int 1))) (yb (eOp ixT (zb 1) (eC (.int 2))) zd))))) (sIf (zr (eOp eqA (eOp ixT (zb 1) (eC (.int 0))) (eC (.str "lost")))) (zE (yf (zfM kE kR) (yb (zb 0) (yb (eOp ixT (zb 1) (eC (.int 1))) zd)))) (sIf (zr (eOp eqA (eOp ixT (zb 1) (eC (.int 0))) (eC (.str "again")))) (zE (yf (zbU kE kR) (yb (zb 0) (yb (eOp ixT (zb 1) (eC (.int 1))) zd)))) (zE (yf (zep kE kR) (yb (zb 0) (yb (eOp ixT (zb 1) (eC (.int 1))) zd))))))))
 (zfr [kR] "came" (zb 0) 1))
noncomputable def zY (kE kR:Addr):List FT.T->Mem->Out FT.T:=qh 2 2 (zfF kE kR)
section
theorem zh5:FnScope ["run","event"] ["run","event"] (yd zds):=by ac_rfl
theorem qY (D:Df K mg "let_come" zds ["run","event"]) (T:Txt K mg kE kR)  (yN:CalT P w K mg base 15 "begin_errand" ["run","house","caller"] (zbN kE kR)) (qI:CalT P w K mg base 28 "end_errand" ["run","number","word"] (zaC kE kR)) (zd9:CalT P w K mg base 29 "lose" ["run","number"] (zfM kE kR)) (za2:CalT P w K mg base 16 "try_again" ["run","number"] (zbU kE kR)) (zdk:CalT P w K mg base 29 "go_up" ["run","number"] (zep kE kR)):CalT P w K mg base 30 "let_come" ["run","event"] (zY kE kR):=
 zo D zh5 rfl rfl (fun f cdv A outer s H E hr=>(qc (zC (qo (zH hr.units) (ze yg (za (pv 1)) yc (fun _ _=>rfl)) yj (yo _)) (ye (zu (qf yN (hr.mono (by decide)) rfl (ya (za (pv 0)) (ya yc (ya y6 zc)))))) (ye (zC (qo (zH hr.units) (ze yg (za (pv 1)) yc (fun _ _=>rfl)) yj (yo _)) (ye (zu (qf qI (hr.mono (by decide)) rfl (ya (za (pv 0)) (ya (ze yg (za (pv 1)) yc (fun _ _=>rfl)) (ya (ze yg (za (pv 1)) yc (fun _ _=>rfl)) zc)))))) (ye (zC (qo (zH hr.units) (ze yg (za (pv 1)) yc (fun _ _=>rfl)) yj (yo _)) (ye (zu (qf zd9 (hr.mono (by decide)) rfl (ya (za (pv 0)) (ya (ze yg (za (pv 1)) yc (fun _ _=>rfl)) zc))))) (ye (zC (qo (zH hr.units) (ze yg (za (pv 1)) yc (fun _ _=>rfl)) yj (yo _)) (ye (zu (qf za2 (hr.mono (by decide)) rfl (ya (za (pv 0)) (ya (ze yg (za (pv 1)) yc (fun _ _=>rfl)) zc))))) (ye (zu (qf zdk (hr.mono (by decide)) rfl (ya (za (pv 0)) (ya (ze yg (za (pv 1)) yc (fun _ _=>rfl)) zc))))))))))))
  (ye (zk9 (qd ⟨T.cls_Run,T.na_Run_came⟩ zf) (za (pv 0))))))
end
noncomputable def zeb (kE kR:Addr):Ev->Mem->Out Fl:=
 (zjk 2 zhu (zb 4))
noncomputable def zeH (kE kR:Addr):Ev->Mem->Out Fl:=
 (qg (zq 2 (eC (.int 1)))
 (qg (zeY (zaT (eSl (zb 0) zfx (zfw (zb 1)))) (zar 2 (yy (qi 3) (yy (qi 4) zas))) (zeb kE kR))
 (qA (zb 2))))
noncomputable def qZ (kE kR:Addr):List FT.T->Mem->Out FT.T:=qh 2 5 (zeH kE kR)
section
theorem zaw:FnScope ["strewing","j","spread","wait","width"] ["strewing","j"] (yd zcY):=by ac_rfl
theorem qT (D:Df K mg "spread_of" zcY ["strewing","j"]) (T:Txt K mg kE kR)  :CalT P w K mg base 1 "spread_of" ["strewing","j"] (qZ kE kR):=
 zo D zaw rfl rfl (fun f cdv A outer s H E hr=>(qc (zj (i:=2) zaw.nd rfl (Or.inl rfl) yc)
  (qc (zc8 PassesOwn.never rfl (z6 (zg5 (za (pv 0)) zeP (zeO (za (pv 1))))) (zam (zaW rfl (WGs.pe (qv (yz (WG.pe (zn (qp (i:=3) zaw.nd rfl (by first | exact Or.inl rfl | exact Or.inr rfl)))) (WGs.pe (qv (yz (WG.pe (zn (qp (i:=4) zaw.nd rfl (by first | exact Or.inl rfl | exact Or.inr rfl)))) (WGs.pe yZ))))))))) (ye (zmy (i:=2) zaw.nd rfl (Or.inl rfl) (za (pv 4)) znu)))
  (ye (zm (za (pv 2)))))))
end
noncomputable def zeD (kE kR:Addr):Ev->Mem->Out Fl:=
 (qg (zq 3 (yf (qZ kE kR) (yb (zb 0) (yb (eOp zb5 (zb 2) (eC (.int 1))) zd))))
 (qA (eOp y9 (eOp ixT (eOp ixT (zb 0) (eOp zb5 (zb 2) (eC (.int 1)))) (eC (.int 0))) (eOp zap (zb 3) (eOp zac (eOp zc5 (zb 1) (zb 3)) (eOp ixT (eOp ixT (zb 0) (eOp zb5 (zb 2) (eC (.int 1)))) (eC (.int 1))))))))
noncomputable def zaY (kE kR:Addr):List FT.T->Mem->Out FT.T:=qh 3 4 (zeD kE kR)
section
theorem zdR:FnScope ["strewing","errand","j","ahead"] ["strewing","errand","j"] (yd zcU):=by ac_rfl
theorem za1 (D:Df K mg "waits_for" zcU ["strewing","errand","j"]) (T:Txt K mg kE kR)  (qT:CalT P w K mg base 1 "spread_of" ["strewing","j"] (qZ kE kR)):CalT P w K mg base 2 "waits_for" ["strewing","errand","j"] (zaY kE kR):=
 zo D zdR rfl rfl (fun f cdv A outer s H E hr=>(qc (zj (i:=3) zdR.nd rfl (Or.inl rfl) (qf qT (hr.mono (by decide)) rfl (ya (za (pv 0)) (ya (yk zan (za (pv 2)) yc) zc))))
  (ye (zm (yk zN (ze yg (ze yg (za (pv 0)) (yk zan (za (pv 2)) yc) (fun _ _=>rfl)) yc (fun _ _=>rfl)) (yk zcm (za (pv 3)) (yk yW (yk zem (za (pv 1)) (za (pv 3))) (ze yg (ze yg (za (pv 0)) (yk zan (za (pv 2)) yc) (fun _ _=>rfl)) yc (fun _ _=>rfl)))))))))
end
noncomputable def zd3 (kE kR:Addr):Ev->Mem->Out Fl:=
 (qg (zq 4 (eOp ixT (yi [kR] "errands" (zb 0)) (zb 3)))
 (qg (zq 5 (eOp ixT (eOp ixT (zb 1) (yi [kE] "house" (zb 4))) (eOp ixT (yi [kE] "state" (zb 4)) (eC (.int 1)))))
 (qg (zq 6 (yf (call2 zjs) (yb (eOp ixT (yi [kE] "state" (zb 4)) (eC (.int 2))) (yb (yf (zF qF) (yb (zb 5) zd)) zd))))
 (qA (eOp y9 (eOp ixT (eOp ixT (zb 2) (yi [kE] "stood" (zb 4))) (eC (.int 0))) (yf (zaY kE kR) (yb (zb 5) (yb (zb 3) (yb (zb 6) zd)))))))))
noncomputable def qP (kE kR:Addr):List FT.T->Mem->Out FT.T:=qh 4 7 (zd3 kE kR)
section
theorem za7:FnScope ["run","waits","pairs","number","errand","strewing","j"] ["run","waits","pairs","number"] (yd zcu):=by ac_rfl
theorem qQ (D:Df K mg "soonest_of" zcu ["run","waits","pairs","number"]) (T:Txt K mg kE kR)  (za1:CalT P w K mg base 2 "waits_for" ["strewing","errand","j"] (zaY kE kR)):CalT P w K mg base 3 "soonest_of" ["run","waits","pairs","number"] (qP kE kR):=
 zo D za7 rfl rfl (fun f cdv A outer s H E hr=>(qc (zj (i:=4) za7.nd rfl (Or.inl rfl) (ze yg (zh (qd ⟨T.cls_Run,T.na_Run_errands⟩ zf) (za (pv 0))) (za (pv 3)) (fun _ _=>rfl)))
  (qc (zj (i:=5) za7.nd rfl (Or.inl rfl) (ze yg (ze yg (za (pv 1)) (zh (qd ⟨T.cls_Errand,T.na_Errand_house⟩ zf) (za (pv 4))) (fun _ _=>rfl)) (ze yg (zh (qd ⟨T.cls_Errand,T.na_Errand_state⟩ zf) (za (pv 4))) yc (fun _ _=>rfl)) (fun _ _=>rfl)))
  (qc (zj (i:=6) za7.nd rfl (Or.inl rfl) (yr (zkS rfl) rfl T.n_min boot_min (ya (ze yg (zh (qd ⟨T.cls_Errand,T.na_Errand_state⟩ zf) (za (pv 4))) yc (fun _ _=>rfl)) (ya (yr qD rfl T.n_len boot_len (ya (za (pv 5)) zc)) zc))))
  (ye (zm (yk zN (ze yg (ze yg (za (pv 2)) (zh (qd ⟨T.cls_Errand,T.na_Errand_stood⟩ zf) (za (pv 4))) (fun _ _=>rfl)) yc (fun _ _=>rfl)) (qf za1 (hr.mono (by decide)) rfl (ya (za (pv 5)) (ya (za (pv 3)) (ya (za (pv 6)) zc)))))))))))
end
noncomputable def zea (kE kR kN:Addr):Ev->Mem->Out Fl:=
 (qg (zE (yf (qG kE kR) (yb (zb 3) (yb (zb 5) zd))))
 (qg (sIf (zbl (zr (eOp eqA (eOp ixT (zb 5) (eC (.int 0))) (eC (.str "again")))) (zr (eOp ltI (zb 4) (yf (qP kE kR) (yb (zb 3) (yb (zb 1) (yb (zb 2) (yb (eOp ixT (zb 5) (eC (.int 1))) zd)))))))) (zfq (zcx kN) (yb (yi [kR] "came" (zb 3)) zd)) yV)
 (zE (yf (zY kE kR) (yb (zb 3) (yb (zb 5) zd))))))
noncomputable def zeF (kE kR kN:Addr):Ev->Mem->Out Fl:=
 (qg (zq 3 (zcj kR (yY kE kR) (yb (zb 0) zd)))
 (qg (zgT (zbT (zb 2)) (zar 2 (yy (qi 4) (yy (qi 5) zas))) (zea kE kR kN))
 (qA (zb 3))))
noncomputable def zT (kE kR kN:Addr):List FT.T->Mem->Out FT.T:=y8 3 6 (zeF kE kR kN)
variable {kN:Addr}
section
theorem zbn:FnScope ["net","waits","pairs","run","tick","event"] ["net","waits","pairs"] (yd zcW):=by ac_rfl
theorem yT (D:Df K mg "timed_run" zcW ["net","waits","pairs"]) (T:Txt K mg kE kR) (x_NoEvent:XcF P w K mg base "NoEvent" kN) (zcO:MakT P w K mg base 1 "Run" kR ["self","net"] (yY kE kR)) (qL:CalT P w K mg base 6 "check_event" ["run","event"] (qG kE kR)) (qY:CalT P w K mg base 30 "let_come" ["run","event"] (zY kE kR)) (qQ:CalT P w K mg base 3 "soonest_of" ["run","waits","pairs","number"] (qP kE kR)):CalX P w K mg base 31 "timed_run" ["net","waits","pairs"] (zT kE kR kN):=
 zeS D zbn rfl rfl (fun f cdv A outer s H E hr=>(qc (zj (i:=3) zbn.nd rfl (Or.inl rfl) (zeQ zcO (hr.mono (by decide)) rfl (ya (za (pv 0)) zc)))
  (qc (zk8 PassesOwn.leaving rfl (zdm (za (pv 2))) (zam (zaW rfl (WGs.pe (qv (yz (WG.pe (zn (qp (i:=4) zbn.nd rfl (by first | exact Or.inl rfl | exact Or.inr rfl)))) (WGs.pe (qv (yz (WG.pe (zn (qp (i:=5) zbn.nd rfl (by first | exact Or.inl rfl | exact Or.inr rfl)))) (WGs.pe yZ))))))))) (qc (zu (qf qL (hr.mono (by decide)) rfl (ya (za (pv 3)) (ya (za (pv 5)) zc))))
  (qc (zC (WW.gt (zaG (qo (zH hr.units) (ze yg (za (pv 5)) yc (fun _ _=>rfl)) yj (yo _)) (zau (qo zdY (za (pv 4)) (qf qQ (hr.mono (by decide)) rfl (ya (za (pv 3)) (ya (za (pv 1)) (ya (za (pv 2)) (ya (ze yg (za (pv 5)) yc (fun _ _=>rfl)) zc))))) (yo _))))) (ye (zi6 x_NoEvent (hr.mono (by decide)) rfl rfl rfl rfl rfl (ya (zh (qd ⟨T.cls_Run,T.na_Run_came⟩ zf) (za (pv 3))) zc))) qB)
  (ye (zu (qf qY (hr.mono (by decide)) rfl (ya (za (pv 3)) (ya (za (pv 5)) zc))))))))
  (ye (zm (za (pv 3)))))))
end
noncomputable def zgC (kE kR kN:Addr):Ev->Mem->Out Fl:=
 (qg (zq 3 (yf (zT kE kR kN) (yb (zb 0) (yb (zb 1) (yb (zb 2) zd)))))
 (qg (zq 4 (eFz (zI (zbJ (yb (yf (zF qF) (yb (yi [kR] "errands" (zb 3)) zd)) zd)) (qi 0) (zr (yf (zG kE kR) (yb (zb 1) (yb (zb 0) zd)))) (zb 0) ["number"] [("run",3)])))
 (qA (eFz (zI (zaT (zb 4)) (qi 0) yH (yw (yb (zb 0) (yb (yf (qP kE kR) (yb (zb 1) (yb (zb 2) (yb (zb 3) (yb (zb 0) zd))))) zd))) ["number"] [("run",3),("waits",1),("pairs",2)])))))
noncomputable def zd7 (kE kR kN:Addr):List FT.T->Mem->Out FT.T:=y8 3 5 (zgC kE kR kN)
noncomputable def zb0 (kE kR kN:Addr):List FT.T->Mem->Out FT.T:=zbX (zd7 kE kR kN)
section
theorem zdp:FnScope ["net","waits","pairs","run","standing"] ["net","waits","pairs"] (yd zdV):=by ac_rfl
theorem zbh (D:Df K mg "soonest" zdV ["net","waits","pairs"]) (T:Txt K mg kE kR)  (yT:CalX P w K mg base 31 "timed_run" ["net","waits","pairs"] (zT kE kR kN)) (yG:CalT P w K mg base 2 "has_tries_left" ["run","number"] (zG kE kR)) (qQ:CalT P w K mg base 3 "soonest_of" ["run","waits","pairs","number"] (qP kE kR)):CalX P w K mg base 32 "soonest" ["net","waits","pairs"] (zd7 kE kR kN):=
 zeS D zdp rfl rfl (fun f cdv A outer s H E hr=>(qc (zj (i:=3) zdp.nd rfl (Or.inr rfl) (zg7 yT (hr.mono (by decide)) rfl (zkc rfl rfl rfl rfl) (ya (za (pv 0)) (ya (za (pv 1)) (ya (za (pv 2)) zc)))))
  (qc (zg3 (i0:=4) (tgs:=["number"]) (caps:=[("run",3)]) (zbj rfl T.n_range (ya (yr qD rfl T.n_len boot_len (ya (zh (qd ⟨T.cls_Run,T.na_Run_errands⟩ zf) (za (pv 3))) zc)) zc)) (by bv_omega) (fun _ _ _=>(zn (qp (i:=0) (show (["number","run"]:List Str).Nodup by decide +kernel) rfl (by first | exact Or.inl rfl | exact Or.inr rfl)))) (fun _ _ _=>(zeN (zW (qf yG (hr.mono (by decide)) rfl (ya (za (pv 1)) (ya (za (pv 0)) zc)))))) (fun _ _ _=>(za (pv 0))) zdp.nd rfl (Or.inl rfl))
  (ye (zm (yP (zab (tgs:=["number"]) (caps:=[("run",3),("waits",1),("pairs",2)]) (z6 (za (pv 4))) (by bv_omega) (fun _ _ _=>(zn (qp (i:=0) (show (["number","run","waits","pairs"]:List Str).Nodup by decide +kernel) rfl (by first | exact Or.inl rfl | exact Or.inr rfl)))) (fun _ _ _=>yU) (fun _ _ _=>(ym (ya (za (pv 0)) (ya (qf qQ (hr.mono (by decide)) rfl (ya (za (pv 1)) (ya (za (pv 2)) (ya (za (pv 3)) (ya (za (pv 0)) zc))))) zc)))))))))))
end
noncomputable def zhI (kE kR:Addr):Ev->Mem->Out Fl:=
 (qg (sIf (zr (eOp ltI (zb 1) (yf (zF qF) (yb (zb 0) zd)))) (qA (eOp ixT (zb 0) (zb 1))) yV)
 (qA (eC (.int 0))))
noncomputable def zbM (kE kR:Addr):List FT.T->Mem->Out FT.T:=qh 2 2 (zhI kE kR)
section
theorem zj0:FnScope ["script","k"] ["script","k"] (yd zeX):=by ac_rfl
theorem zbR (D:Df K mg "_law_cell" zeX ["script","k"]) (T:Txt K mg kE kR)  :CalT P w K mg base 1 "_law_cell" ["script","k"] (zbM kE kR):=
 zo D zj0 rfl rfl (fun f cdv A outer s H E hr=>(qc (zC (qo zdY (za (pv 1)) (yr qD rfl T.n_len boot_len (ya (za (pv 0)) zc)) (yo _)) (ye (zm (ze yg (za (pv 0)) (za (pv 1)) (fun _ _=>rfl)))) qB)
  (ye (zm yc))))
end
noncomputable def zhG (kE kR:Addr):Ev->Mem->Out Fl:=
 (qg (sIf (zr (eOp gtI (eOp ixT (zb 0) (eC (.int 0))) (eC (.int 0)))) (qg (zq 2 (eOp zac (eOp ixT (zb 0) (eC (.int 0))) (zb 1)))
 (qg (zhj (eOp zc5 (eOp ixT (zb 0) (eC (.int 0))) (zb 1)) (zjL zfX (zb 0) (eC (.int 0))))
 (qA (zb 2)))) yV)
 (qg (zhj (eOp y9 (eOp ixT (zb 0) (eC (.int 2))) (eC (.int 1))) (zjL zfX (zb 0) (eC (.int 2))))
 (qg (zq 3 (eOp zac (eOp y9 (eOp ixT (zb 0) (eC (.int 1))) (eOp zap (eC (.int 7919)) (eOp ixT (zb 0) (eC (.int 2))))) (eC (.int 1000000007))))
 (qg (zq 4 (eOp zac (eOp zap (eOp y9 (zb 3) (eC (.int 11))) (eOp y9 (zb 3) (eC (.int 48271)))) (eC (.int 998244353))))
 (qA (eOp zac (eOp zc5 (eOp zac (eOp zap (zb 4) (zb 4)) (eC (.int 2147483647))) (eC (.int 8))) (zb 1)))))))
noncomputable def zJ (kE kR:Addr):List FT.T->Mem->Out FT.T:=qh 2 5 (zhG kE kR)
section
theorem zcN:FnScope ["pool","base","digit","mixed","stir"] ["pool","base"] (yd zeV):=by ac_rfl
theorem yL (D:Df K mg "_law_next" zeV ["pool","base"]) (T:Txt K mg kE kR)  :CalT P w K mg base 1 "_law_next" ["pool","base"] (zJ kE kR):=
 zo D zcN rfl rfl (fun f cdv A outer s H E hr=>(qc (zC (qo zfv (ze yg (za (pv 0)) yc (fun _ _=>rfl)) yc (yo _)) (qc (zj (i:=2) zcN.nd rfl (Or.inl rfl) (yk yW (ze yg (za (pv 0)) yc (fun _ _=>rfl)) (za (pv 1))))
  (qc (zfT (yk zem (ze yg (za (pv 0)) yc (fun _ _=>rfl)) (za (pv 1))) (zil (za (pv 0)) yc zjf))
  (ye (zm (za (pv 2)))))) qB)
  (qc (zfT (yk zN (ze yg (za (pv 0)) yc (fun _ _=>rfl)) yc) (zil (za (pv 0)) yc zjf))
  (qc (zj (i:=3) zcN.nd rfl (Or.inl rfl) (yk yW (yk zN (ze yg (za (pv 0)) yc (fun _ _=>rfl)) (yk zcm yc (ze yg (za (pv 0)) yc (fun _ _=>rfl)))) yc))
  (qc (zj (i:=4) zcN.nd rfl (Or.inl rfl) (yk yW (yk zcm (yk zN (za (pv 3)) yc) (yk zN (za (pv 3)) yc)) yc))
  (ye (zm (yk yW (yk zem (yk yW (yk zcm (za (pv 4)) (za (pv 4))) yc) yc) (za (pv 1))))))))))
end
noncomputable def zgA (kE kR:Addr):Ev->Mem->Out Fl:=
 (qg (zq 1 (eFz (qX (zbT (yi [kR] "errands" (zb 0))) (qi 0) yH (yw (yb (yi [kE] "house" (zb 0)) (yb (yi [kE] "caller" (zb 0)) (yb (yi [kE] "state" (zb 0)) zd)))) ["errand"] [])))
 (qA (yw (yb (zb 1) (yb (eFz (zI (zbJ (yb (yf (zF qF) (yb (eOp ixT (yi [kR] "net" (zb 0)) (eC (.int 1))) zd)) zd)) (qi 0) yH (yf (zQ kE kR) (yb (zb 1) (yb (zb 0) zd))) ["purse"] [("run",0)])) zd)))))
noncomputable def zaB (kE kR:Addr):List FT.T->Mem->Out FT.T:=qh 1 2 (zgA kE kR)
section
theorem zfn:FnScope ["run","errands"] ["run"] (yd zdT):=by ac_rfl
theorem zaa (D:Df K mg "told_of" zdT ["run"]) (T:Txt K mg kE kR)  (zR:CalT P w K mg base 2 "purse_told" ["run","purse"] (zQ kE kR)):CalT P w K mg base 3 "told_of" ["run"] (zaB kE kR):=
 zo D zfn rfl rfl (fun f cdv A outer s H E hr=>(qc (zgM (i0:=1) (tgs:=["errand"]) (caps:=[]) (zdm (zh (qd ⟨T.cls_Run,T.na_Run_errands⟩ zf) (za (pv 0)))) (by bv_omega) (fun _ _ _=>(zn (qp (i:=0) (show (["errand"]:List Str).Nodup by decide +kernel) rfl (by first | exact Or.inl rfl | exact Or.inr rfl)))) (fun _ _ _=>yU) (fun _ _ _=>(ym (ya (zh (qd ⟨T.cls_Errand,T.na_Errand_house⟩ zf) (za (pv 0))) (ya (zh (qd ⟨T.cls_Errand,T.na_Errand_caller⟩ zf) (za (pv 0))) (ya (zh (qd ⟨T.cls_Errand,T.na_Errand_state⟩ zf) (za (pv 0))) zc))))) zfn.nd rfl (Or.inl rfl))
  (ye (zm (ym (ya (za (pv 1)) (ya (yP (zab (tgs:=["purse"]) (caps:=[("run",0)]) (zbj rfl T.n_range (ya (yr qD rfl T.n_len boot_len (ya (ze yg (zh (qd ⟨T.cls_Run,T.na_Run_net⟩ zf) (za (pv 0))) yc (fun _ _=>rfl)) zc)) zc)) (by bv_omega) (fun _ _ _=>(zn (qp (i:=0) (show (["purse","run"]:List Str).Nodup by decide +kernel) rfl (by first | exact Or.inl rfl | exact Or.inr rfl)))) (fun _ _ _=>yU) (fun _ _ _=>(qf zR (hr.mono (by decide)) rfl (ya (za (pv 1)) (ya (za (pv 0)) zc)))))) zc)))))))
end
noncomputable def zgg (kE kR kN:Addr):Ev->Mem->Out Fl:=
 (qA (yf (zaB kE kR) (yb (yf (zT kE kR kN) (yb (zb 0) (yb (zb 1) (yb (zb 2) zd)))) zd)))
noncomputable def zcn (kE kR kN:Addr):List FT.T->Mem->Out FT.T:=y8 3 3 (zgg kE kR kN)
noncomputable def zej (kE kR kN:Addr):List FT.T->Mem->Out FT.T:=zbX (zcn kE kR kN)
section
theorem zlk:FnScope ["net","waits","pairs"] ["net","waits","pairs"] (yd zf0):=by ac_rfl
theorem zbg (D:Df K mg "timed" zf0 ["net","waits","pairs"]) (T:Txt K mg kE kR)  (zaa:CalT P w K mg base 3 "told_of" ["run"] (zaB kE kR)) (yT:CalX P w K mg base 31 "timed_run" ["net","waits","pairs"] (zT kE kR kN)):CalX P w K mg base 32 "timed" ["net","waits","pairs"] (zcn kE kR kN):=
 zeS D zlk rfl rfl (fun f cdv A outer s H E hr=>(ye (zm (qf zaa (hr.mono (by decide)) rfl (ya (zg7 yT (hr.mono (by decide)) rfl (zkc rfl rfl rfl rfl) (ya (za (pv 0)) (ya (za (pv 1)) (ya (za (pv 2)) zc)))) zc)))))
end
noncomputable def zfG (kE kR:Addr):Ev->Mem->Out Fl:=
 (qg (sIf (zbl (zr (eOp eqA (zb 1) (eC (.int 2)))) (zcM (zr (zb 0)))) (qA (yw (yb (zb 3) (yb (yw (yb (eC (.str "lost")) (yb (zb 2) zd))) zd)))) yV)
 (qA (yw (yb (zb 3) (yb (yw (yb (eC (.str "ends")) (yb (zb 2) (yb (eOp ixT (eFz (yK (yb (eC (.str "bad")) (yb (eC (.str "spent")) zd)))) (eOp zac (zb 1) (eC (.int 2)))) zd)))) zd)))))
noncomputable def zaM (kE kR:Addr):List FT.T->Mem->Out FT.T:=qh 4 4 (zfG kE kR)
section
theorem zh6:FnScope ["sure","word","errand","tick"] ["sure","word","errand","tick"] (yd zdt):=by ac_rfl
theorem zaP (D:Df K mg "_law_failed" zdt ["sure","word","errand","tick"]) (T:Txt K mg kE kR)  :CalT P w K mg base 1 "_law_failed" ["sure","word","errand","tick"] (zaM kE kR):=
 zo D zh6 rfl rfl (fun f cdv A outer s H E hr=>(qc (zC (WW.gt (zaG (qo (zH hr.units) (za (pv 1)) yc (yo _)) (zau (zcl (zW (za (pv 0))))))) (ye (zm (ym (ya (za (pv 3)) (ya (ym (ya yj (ya (za (pv 2)) zc))) zc))))) qB)
  (ye (zm (ym (ya (za (pv 3)) (ya (ym (ya yj (ya (za (pv 2)) (ya (ze yg (yP (qK (ya yj (ya yj zc)))) (yk yW (za (pv 1)) yc) (fun _ _=>rfl)) zc)))) zc)))))))
end
noncomputable def zfD (kE kR:Addr):Ev->Mem->Out Fl:=
 (qA (yf (zF sumK) (yb (eFz (zI (zaT (eSl (zb 0) zfx (zfw (zb 1)))) (zar 2 (yy (qi 0) (yy (qi 1) zas))) yH (zb 0) ["wait","width"] [])) zd)))
noncomputable def zbt (kE kR:Addr):List FT.T->Mem->Out FT.T:=qh 2 2 (zfD kE kR)
section
theorem zh3:FnScope ["strewing","j"] ["strewing","j"] (yd zdq):=by ac_rfl
theorem zbx (D:Df K mg "start_of" zdq ["strewing","j"]) (T:Txt K mg kE kR)  :CalT P w K mg base 1 "start_of" ["strewing","j"] (zbt kE kR):=
 zo D zh3 rfl rfl (fun f cdv A outer s H E hr=>(ye (zm (yr (zkP rfl) rfl T.n_sum boot_sum (ya (yP (zab (tgs:=["wait","width"]) (caps:=[]) (z6 (zg5 (za (pv 0)) zeP (zeO (za (pv 1))))) (by bv_omega) (fun _ _ _=>(zam (zaW rfl (WGs.pe (qv (yz (WG.pe (zn (qp (i:=0) (show (["wait","width"]:List Str).Nodup by decide +kernel) rfl (by first | exact Or.inl rfl | exact Or.inr rfl)))) (WGs.pe (qv (yz (WG.pe (zn (qp (i:=1) (show (["wait","width"]:List Str).Nodup by decide +kernel) rfl (by first | exact Or.inl rfl | exact Or.inr rfl)))) (WGs.pe yZ)))))))))) (fun _ _ _=>yU) (fun _ _ _=>(za (pv 0))))) zc)))))
end
noncomputable def zgB (kE kR:Addr):Ev->Mem->Out Fl:=
 (qA (eOp y9 (yf (zbt kE kR) (yb (zb 0) (yb (zb 2) zd))) (eOp zac (zb 1) (yf (qZ kE kR) (yb (zb 0) (yb (zb 2) zd))))))
noncomputable def zb3 (kE kR:Addr):List FT.T->Mem->Out FT.T:=qh 3 3 (zgB kE kR)
section
theorem zjg:FnScope ["strewing","errand","j"] ["strewing","errand","j"] (yd zdU):=by ac_rfl
theorem zb4 (D:Df K mg "tick_of" zdU ["strewing","errand","j"]) (T:Txt K mg kE kR)  (zbx:CalT P w K mg base 1 "start_of" ["strewing","j"] (zbt kE kR)) (qT:CalT P w K mg base 1 "spread_of" ["strewing","j"] (qZ kE kR)):CalT P w K mg base 2 "tick_of" ["strewing","errand","j"] (zb3 kE kR):=
 zo D zjg rfl rfl (fun f cdv A outer s H E hr=>(ye (zm (yk zN (qf zbx (hr.mono (by decide)) rfl (ya (za (pv 0)) (ya (za (pv 2)) zc))) (yk yW (za (pv 1)) (qf qT (hr.mono (by decide)) rfl (ya (za (pv 0)) (ya (za (pv 2)) zc))))))))
end
noncomputable def zeJ (kE kR kN:Addr):Ev->Mem->Out Fl:=
 (qg (zq 3 (eC (.int 0)))
 (qg (zfp 4 [kN] (zE (yf (zcn kE kR kN) (yb (zb 0) (yb (zb 1) (yb (zb 2) zd))))) (zq 3 (eOp y9 (eC (.int 1)) (eUn (xat [kN]) (zb 4)))))
 (qA (eOp eqA (zb 3) (yf (zF qF) (yb (zb 2) zd))))))
noncomputable def zbW (kE kR kN:Addr):List FT.T->Mem->Out FT.T:=qh 3 5 (zeJ kE kR kN)
section
theorem zbo:FnScope ["net","waits","pairs","caught","e"] ["net","waits","pairs"] (yd zc0):=by ac_rfl
theorem za4 (D:Df K mg "_law_refused" zc0 ["net","waits","pairs"]) (T:Txt K mg kE kR) (x_NoEvent:XcF P w K mg base "NoEvent" kN) (zbg:CalX P w K mg base 32 "timed" ["net","waits","pairs"] (zcn kE kR kN)):CalT P w K mg base 33 "_law_refused" ["net","waits","pairs"] (zbW kE kR kN):=
 zo D zbo rfl rfl (fun f cdv A outer s H E hr=>(qc (zj (i:=3) zbo.nd rfl (Or.inl rfl) yc)
  (qc (zk7 (cs:=[kN]) (j:=4) (zk6 zbg (hr.mono (by decide)) rfl (fun _ _=>(ya (za (pv 0)) (ya (za (pv 1)) (ya (za (pv 2)) zc))))) (List.forall_mem_cons.mpr ⟨x_NoEvent.sup,List.forall_mem_nil _⟩) rfl rfl rfl rfl zbo.nd rfl rfl (fun _=>(ye (zj (i:=3) zbo.nd rfl (Or.inl rfl) (yk zN yc (zmz (List.forall_mem_cons.mpr ⟨x_NoEvent.at,List.forall_mem_nil _⟩) (za (pv 4))))))))
  (ye (zm (zbd (zH hr.units) (za (pv 3)) (yr qD rfl T.n_len boot_len (ya (za (pv 2)) zc)) (yo _)))))))
end
noncomputable def zec (kE kR:Addr):Ev->Mem->Out Fl:=
 (qg (zE (yf (qG kE kR) (yb (zb 2) (yb (zb 3) zd))))
 (zE (yf (zY kE kR) (yb (zb 2) (yb (zb 3) zd)))))
noncomputable def zhF (kE kR:Addr):Ev->Mem->Out Fl:=
 (qg (zq 2 (zcj kR (yY kE kR) (yb (zb 0) zd)))
 (qg (zeY (zaT (zb 1)) (qi 3) (zec kE kR))
 (qA (zb 2))))
noncomputable def zdI (kE kR:Addr):List FT.T->Mem->Out FT.T:=qh 2 4 (zhF kE kR)
section
theorem zdS:FnScope ["net","events","run","event"] ["net","events"] (yd zeU):=by ac_rfl
theorem zcJ (D:Df K mg "run_of" zeU ["net","events"]) (T:Txt K mg kE kR)  (zcO:MakT P w K mg base 1 "Run" kR ["self","net"] (yY kE kR)) (qL:CalT P w K mg base 6 "check_event" ["run","event"] (qG kE kR)) (qY:CalT P w K mg base 30 "let_come" ["run","event"] (zY kE kR)):CalT P w K mg base 31 "run_of" ["net","events"] (zdI kE kR):=
 zo D zdS rfl rfl (fun f cdv A outer s H E hr=>(qc (zj (i:=2) zdS.nd rfl (Or.inl rfl) (zeQ zcO (hr.mono (by decide)) rfl (ya (za (pv 0)) zc)))
  (qc (zc8 PassesOwn.never rfl (z6 (za (pv 1))) (zn (qp (i:=3) zdS.nd rfl (by first | exact Or.inl rfl | exact Or.inr rfl))) (qc (zu (qf qL (hr.mono (by decide)) rfl (ya (za (pv 2)) (ya (za (pv 3)) zc))))
  (ye (zu (qf qY (hr.mono (by decide)) rfl (ya (za (pv 2)) (ya (za (pv 3)) zc)))))))
  (ye (zm (za (pv 2)))))))
end
noncomputable def zmp (kE kR:Addr):Ev->Mem->Out Fl:=
 (qA (yf (zaB kE kR) (yb (yf (zdI kE kR) (yb (zb 0) (yb (zb 1) zd))) zd)))
noncomputable def zjC (kE kR:Addr):List FT.T->Mem->Out FT.T:=qh 2 2 (zmp kE kR)
noncomputable def zft (kE kR:Addr):List FT.T->Mem->Out FT.T:=zbX (zjC kE kR)
section
theorem zol:FnScope ["net","events"] ["net","events"] (yd zji):=by ac_rfl
theorem zcS (D:Df K mg "ran" zji ["net","events"]) (T:Txt K mg kE kR)  (zaa:CalT P w K mg base 3 "told_of" ["run"] (zaB kE kR)) (zcJ:CalT P w K mg base 31 "run_of" ["net","events"] (zdI kE kR)):CalT P w K mg base 32 "ran" ["net","events"] (zjC kE kR):=
 zo D zol rfl rfl (fun f cdv A outer s H E hr=>(ye (zm (qf zaa (hr.mono (by decide)) rfl (ya (qf zcJ (hr.mono (by decide)) rfl (ya (za (pv 0)) (ya (za (pv 1)) zc))) zc)))))
end
noncomputable def zh0 (kE kR kN:Addr):Ev->Mem->Out Fl:=
 (qg (zq 7 (yf (zJ kE kR) (yb (zb 1) (yb (eOp ixT (eFz (yK (yb (eC (.int 1)) (yb (eC (.int 3)) (yb (eC (.int 40)) zd))))) (yf (zJ kE kR) (yb (zb 1) (yb (eC (.int 3)) zd)))) zd))))
 (zE (zaO y4 (eUn zK (zb 5)) (yb (yw (yb (zb 7) (yb (eOp y9 (eC (.int 1)) (yf (zJ kE kR) (yb (zb 1) (yb (eOp ixT (eFz (yK (yb (eC (.int 1)) (yb (eC (.int 3)) (yb (eC (.int 9)) zd))))) (yf (zJ kE kR) (yb (zb 1) (yb (eC (.int 3)) zd)))) zd)))) zd))) zd))))
noncomputable def zhZ (kE kR kN:Addr):Ev->Mem->Out Fl:=
 (zE (zaO y4 (eUn zK (zb 10)) (yb (yf (zaM kE kR) (yb (zb 3) (yb (yf (zJ kE kR) (yb (zb 9) (yb (eC (.int 3)) zd))) (yb (eOp y9 (eOp zap (eC (.int 2)) (zb 6)) (eC (.int 1))) (yb (eC (.int 0)) zd))))) zd)))
noncomputable def zhY (kE kR kN:Addr):Ev->Mem->Out Fl:=
 (qg (zhj (yf (zF zhv) (yb (eFz (zI (zaT (zb 12)) (zar 2 (yy (qi 0) (yy (qi 1) zas))) yH (yw (yb (zb 1) (yb (zb 0) zd))) ["n","at"] [])) zd)) (zar 2 (yy (qi 13) (yy (qi 14) zas))))
 (qg (zq 15 (eOp ixT (eOp ixT (eOp ixT (yf (zft kE kR) (yb (zb 4) (yb (eFz (qX (zbT (zb 10)) (zar 2 (yy (qi 0) (yy (qi 1) zas))) yH (zb 1) ["at","event"] [])) zd))) (eC (.int 0))) (zb 14)) (eC (.int 2))))
 (qg (sIf (zcq (zr (eOp neA (eOp ixT (zb 15) (eC (.int 0))) (eC (.str "stands")))) (zr (eOp neA (yf (zb3 kE kR) (yb (zb 5) (yb (zb 14) (yb (eOp ixT (zb 15) (eC (.int 2))) zd)))) (zb 13)))) (qA (eC (.bl false))) yV)
 (qg (sIf (zbl (zr (eOp gtI (zb 13) (eOp ixT (eOp ixT (zb 10) (eUn zht (eC (.int 1)))) (eC (.int 0))))) (zcM (zr (yf (zbW kE kR kN) (yb (zb 4) (yb (zb 8) (yb (eFz (lOp zgj (zb 10) (eFz (yK (yb (yw (yb (eOp zb5 (zb 13) (eC (.int 1))) (yb (yw (yb (eC (.str "again")) (yb (zb 14) zd))) zd))) zd))))) zd))))))) (qA (eC (.bl false))) yV)
 (qg (zE (zaO y4 (eUn zK (zb 11)) (yb (yw (yb (eOp ixT (zb 15) (eC (.int 2))) (yb (zb 13) (yb (zb 14) zd)))) zd)))
 (qg (zE (zaO y4 (eUn zK (zb 10)) (yb (yw (yb (zb 13) (yb (yw (yb (eC (.str "again")) (yb (zb 14) zd))) zd))) zd)))
 (qg (zq 16 (yf (zF qF) (yb (eOp ixT (yf (zft kE kR) (yb (zb 4) (yb (eFz (qX (zbT (zb 10)) (zar 2 (yy (qi 0) (yy (qi 1) zas))) yH (zb 1) ["at","event"] [])) zd))) (eC (.int 0))) zd)))
 (qg (zE (zaO y4 (eUn zK (zb 10)) (yb (yf (zaM kE kR) (yb (zb 3) (yb (yf (zJ kE kR) (yb (zb 9) (yb (eC (.int 3)) zd))) (yb (eOp zb5 (zb 16) (eC (.int 1))) (yb (zb 13) zd))))) zd)))
 (zq 12 (yf (zb0 kE kR kN) (yb (zb 4) (yb (zb 8) (yb (zb 10) zd)))))))))))))
noncomputable def zk2 (kE kR kN:Addr):Ev->Mem->Out Bool:=
 (zr (eOp neA (zb 12) (eFz (yK zd))))
noncomputable def zk1 (kE kR kN:Addr):Ev->Mem->Out Fl:=
 (zq 18 (eOp zap (zb 18) (zb 19)))
noncomputable def zk0 (kE kR kN:Addr):Ev->Mem->Out Fl:=
 (sIf (zbl (zr (eOp eqA (zb 20) (zb 17))) (zbl (zr (eOp eqA (zb 21) (zb 13))) (zr (eOp neA (eOp zac (zb 14) (zb 18)) (eOp zac (zb 22) (zb 18)))))) (qA (eC (.bl false))) yV)
noncomputable def zhX (kE kR kN:Addr):Ev->Mem->Out Fl:=
 (qg (zq 18 (eC (.int 1)))
 (qg (zeY (zaT (eSl (zb 5) zfx (zfw (zb 17)))) (zar 2 (yy (qi 7) (yy (qi 19) zas))) (zk1 kE kR kN))
 (zeh (zb 11) (zar 3 (yy (qi 20) (yy (qi 21) (yy (qi 22) zas)))) (zk0 kE kR kN))))
noncomputable def zmq (kE kR kN:Addr):Ev->Mem->Out Fl:=
 (qg (zq 1 (yf (zbL kE kR) (yb (yf (zbM kE kR) (yb (zb 0) (yb (eC (.int 0)) zd))) zd)))
 (qg (zq 2 (eOp y9 (eC (.int 2)) (yf (zJ kE kR) (yb (zb 1) (yb (eC (.int 3)) zd)))))
 (qg (zq 3 (eOp eqA (yf (zJ kE kR) (yb (zb 1) (yb (eC (.int 2)) zd))) (eC (.int 0))))
 (qg (zq 4 (yw (yb (yw (yb (yw (yb (eOp ixT (eFz (yK (yb (eC (.str "gate")) (yb (eC (.str "b")) zd)))) (yf (zJ kE kR) (yb (zb 1) (yb (eC (.int 2)) zd)))) (yb (yw (yb (yw (yb (eC (.str "mill")) (yb (zb 2) (yb (eC .non) (yb (eC (.str "bad")) (yb (eC (.bl false)) (yb (zb 3) zd))))))) zd)) zd))) (yb (yw (yb (eC (.str "mill")) (yb (yw zd) zd))) zd))) (yb (yw zd) zd))))
 (qg (zq 5 (eTk (yK zd)))
 (qg (zeY (zbJ (yb (eOp zb5 (zb 2) (eC (.int 1))) zd)) (qi 6) (zh0 kE kR kN))
 (qg (zq 5 (yf (zF zdP) (yb (zb 5) zd)))
 (qg (zq 8 (yw (yb (yw (yb (zb 5) zd)) (yb (yw zd) zd))))
 (qg (zq 9 (yf (zbL kE kR) (yb (yf (zbM kE kR) (yb (zb 0) (yb (eC (.int 1)) zd))) zd)))
 (qg (zq 10 (eTk (zI (zbJ (yb (eOp y9 (eC (.int 1)) (yf (zJ kE kR) (yb (zb 9) (yb (eC (.int 12)) zd)))) zd)) (qi 0) yH (yw (yb (eC (.int 0)) (yb (yw (yb (eC (.str "fresh")) zd)) zd))) ["k"] [])))
 (qg (zeY (zbJ (yb (yf (zF qF) (yb (zb 10) zd)) zd)) (qi 6) (zhZ kE kR kN))
 (qg (zq 11 (eTk (yK zd)))
 (qg (zq 12 (yf (zb0 kE kR kN) (yb (zb 4) (yb (zb 8) (yb (zb 10) zd)))))
 (qg (zbZ (zk2 kE kR kN) (zhY kE kR kN))
 (qg (zeh (zb 11) (zar 3 (yy (qi 17) (yy (qi 13) (yy (qi 14) zas)))) (zhX kE kR kN))
 (qg (zq 23 (eOp ixT (yf (zej kE kR kN) (yb (zb 4) (yb (zb 8) (yb (zb 10) zd)))) (eC (.int 0))))
 (qA (yf (zF zh1) (yb (eFz (zI (zaT (zb 23)) (qi 0) (zr (eOp eqA (eOp ixT (zb 0) (eC (.int 0))) (eC (.int 0)))) (eOp eqA (eOp ixT (zb 0) (eC (.int 2))) (yw (yb (eC (.str "stands")) (yb (eC (.int 0)) (yb (zb 1) zd))))) ["errand"] [("tries",2)])) zd)))))))))))))))))))
noncomputable def zgX (kE kR kN:Addr):List FT.T->Mem->Out FT.T:=qh 1 24 (zmq kE kR kN)
section
theorem yx:FnScope ["script","pool","tries","sure","net","strewing","k","wait","waits","own","pairs","seen","told","tick","errand","state","many","j","product","width","i","at","other","errands"] ["script"] (yd zjj):=by ac_rfl
theorem zoY {f:Addr} {fd:FuncData} (D:Fun K "law" "law" zjj f fd) (T:Txt K mg kE kR)  (zbQ:CalT P w K mg base 1 "_law_left" ["cell"] (zbL kE kR)) (zbh:CalT P w K mg base 32 "soonest" ["net","waits","pairs"] (zb0 kE kR kN)) (zbR:CalT P w K mg base 1 "_law_cell" ["script","k"] (zbM kE kR)) (yL:CalT P w K mg base 1 "_law_next" ["pool","base"] (zJ kE kR)) (zbg:CalT P w K mg base 32 "timed" ["net","waits","pairs"] (zej kE kR kN)) (zaP:CalT P w K mg base 1 "_law_failed" ["sure","word","errand","tick"] (zaM kE kR)) (zb4:CalT P w K mg base 2 "tick_of" ["strewing","errand","j"] (zb3 kE kR)) (za4:CalT P w K mg base 33 "_law_refused" ["net","waits","pairs"] (zbW kE kR kN)) (zcS:CalT P w K mg base 32 "ran" ["net","events"] (zft kE kR)):FnOk P w K mg base CX0 34 f fd ["script"] (spT K (zgX kE kR kN)):=
 zmw D yx rfl rfl (fun cdv A outer s H E hr=>(qc (zj (i:=1) yx.nd rfl (Or.inl rfl) (qf zbQ (hr.mono (by decide)) rfl (ya (qf zbR (hr.mono (by decide)) rfl (ya (za (pv 0)) (ya yc zc))) zc)))
  (qc (zj (i:=2) yx.nd rfl (Or.inr rfl) (yk zN yc (qf yL (hr.mono (by decide)) rfl (ya (za (pv 1)) (ya yc zc)))))
  (qc (zj (i:=3) yx.nd rfl (Or.inl rfl) (zbd (zH hr.units) (qf yL (hr.mono (by decide)) rfl (ya (za (pv 1)) (ya yc zc))) yc (yo _)))
  (qc (zj (i:=4) yx.nd rfl (Or.inl rfl) (ym (ya (ym (ya (ym (ya (ze yg (yP (qK (ya yj (ya yj zc)))) (qf yL (hr.mono (by decide)) rfl (ya (za (pv 1)) (ya yc zc))) (fun _ _=>rfl)) (ya (ym (ya (ym (ya yj (ya (za (pv 2)) (ya y6 (ya yj (ya zaV (ya (za (pv 3)) zc))))))) zc)) zc))) (ya (ym (ya yj (ya (ym zc) zc))) zc))) (ya (ym zc) zc))))
  (qc (zj (i:=5) yx.nd rfl (Or.inl rfl) (zbk (qK zc)))
  (qc (zc8 PassesOwn.never rfl (zbj rfl T.n_range (ya (yk zan (za (pv 2)) yc) zc)) (zn (qp (i:=6) yx.nd rfl (by first | exact Or.inl rfl | exact Or.inr rfl))) (qc (zj (i:=7) yx.nd rfl (Or.inl rfl) (qf yL (hr.mono (by decide)) rfl (ya (za (pv 1)) (ya (ze yg (yP (qK (ya yc (ya yc (ya yc zc))))) (qf yL (hr.mono (by decide)) rfl (ya (za (pv 1)) (ya yc zc))) (fun _ _=>rfl)) zc))))
  (ye (zu (z7 (zaJ PySem.F.plainAttrs_list PySem.F.slot_list_append PySem.F.type_list_append qJ (WE.pe (za (pv 5))) (WA.pe (ya (ym (ya (za (pv 7)) (ya (yk zN yc (qf yL (hr.mono (by decide)) rfl (ya (za (pv 1)) (ya (ze yg (yP (qK (ya yc (ya yc (ya yc zc))))) (qf yL (hr.mono (by decide)) rfl (ya (za (pv 1)) (ya yc zc))) (fun _ _=>rfl)) zc)))) zc))) zc))))))))
  (qc (zj (i:=5) yx.nd rfl (Or.inl rfl) (zi7 zih rfl T.n_tuple boot_tuple (ya (za (pv 5)) zc)))
  (qc (zj (i:=8) yx.nd rfl (Or.inl rfl) (ym (ya (ym (ya (za (pv 5)) zc)) (ya (ym zc) zc))))
  (qc (zj (i:=9) yx.nd rfl (Or.inl rfl) (qf zbQ (hr.mono (by decide)) rfl (ya (qf zbR (hr.mono (by decide)) rfl (ya (za (pv 0)) (ya yc zc))) zc)))
  (qc (zg2 (i0:=10) (tgs:=["k"]) (caps:=[]) (zbj rfl T.n_range (ya (yk zN yc (qf yL (hr.mono (by decide)) rfl (ya (za (pv 9)) (ya yc zc)))) zc)) (by bv_omega) (fun _ _ _=>(zn (qp (i:=0) (show (["k"]:List Str).Nodup by decide +kernel) rfl (by first | exact Or.inl rfl | exact Or.inr rfl)))) (fun _ _ _=>yU) (fun _ _ _=>(ym (ya yc (ya (ym (ya yj zc)) zc)))) yx.nd rfl (Or.inl rfl))
  (qc (zc8 PassesOwn.never rfl (zbj rfl T.n_range (ya (yr qD rfl T.n_len boot_len (ya (za (pv 10)) zc)) zc)) (zn (qp (i:=6) yx.nd rfl (by first | exact Or.inl rfl | exact Or.inr rfl))) (ye (zu (z7 (zaJ PySem.F.plainAttrs_list PySem.F.slot_list_append PySem.F.type_list_append qJ (WE.pe (za (pv 10))) (WA.pe (ya (qf zaP (hr.mono (by decide)) rfl (ya (za (pv 3)) (ya (qf yL (hr.mono (by decide)) rfl (ya (za (pv 9)) (ya yc zc))) (ya (yk zN (yk zcm yc (za (pv 6))) yc) (ya yc zc))))) zc)))))))
  (qc (zj (i:=11) yx.nd rfl (Or.inl rfl) (zbk (qK zc)))
  (qc (zj (i:=12) yx.nd rfl (Or.inl rfl) (qf zbh (hr.mono (by decide)) rfl (ya (za (pv 4)) (ya (za (pv 8)) (ya (za (pv 10)) zc)))))
  (qc (zjP PassesOwn.never (qo (zdf hr.units) (za (pv 12)) (yP (qK zc)) (yo _)) (qc (zfT (yr (zkR hr.units rfl) rfl T.n_min boot_min (ya (yP (zab (tgs:=["n","at"]) (caps:=[]) (z6 (za (pv 12))) (by bv_omega) (fun _ _ _=>(zam (zaW rfl (WGs.pe (qv (yz (WG.pe (zn (qp (i:=0) (show (["n","at"]:List Str).Nodup by decide +kernel) rfl (by first | exact Or.inl rfl | exact Or.inr rfl)))) (WGs.pe (qv (yz (WG.pe (zn (qp (i:=1) (show (["n","at"]:List Str).Nodup by decide +kernel) rfl (by first | exact Or.inl rfl | exact Or.inr rfl)))) (WGs.pe yZ)))))))))) (fun _ _ _=>yU) (fun _ _ _=>(ym (ya (za (pv 1)) (ya (za (pv 0)) zc)))))) zc)) (zam (zaW rfl (WGs.pe (qv (yz (WG.pe (zn (qp (i:=13) yx.nd rfl (by first | exact Or.inl rfl | exact Or.inr rfl)))) (WGs.pe (qv (yz (WG.pe (zn (qp (i:=14) yx.nd rfl (by first | exact Or.inl rfl | exact Or.inr rfl)))) (WGs.pe yZ))))))))))
  (qc (zj (i:=15) yx.nd rfl (Or.inl rfl) (ze yg (ze yg (ze yg (qf zcS (hr.mono (by decide)) rfl (ya (za (pv 4)) (ya (yP (zgp (tgs:=["at","event"]) (caps:=[]) (zdm (za (pv 10))) (by bv_omega) (fun _ _ _=>(zam (zaW rfl (WGs.pe (qv (yz (WG.pe (zn (qp (i:=0) (show (["at","event"]:List Str).Nodup by decide +kernel) rfl (by first | exact Or.inl rfl | exact Or.inr rfl)))) (WGs.pe (qv (yz (WG.pe (zn (qp (i:=1) (show (["at","event"]:List Str).Nodup by decide +kernel) rfl (by first | exact Or.inl rfl | exact Or.inr rfl)))) (WGs.pe yZ)))))))))) (fun _ _ _=>yU) (fun _ _ _=>(za (pv 1))))) zc))) yc (fun _ _=>rfl)) (za (pv 14)) (fun _ _=>rfl)) yc (fun _ _=>rfl)))
  (qc (zC (WW.gt (zbY (qo (zdf hr.units) (ze yg (za (pv 15)) yc (fun _ _=>rfl)) yj (yo _)) (zck (qo (zdf hr.units) (qf zb4 (hr.mono (by decide)) rfl (ya (za (pv 5)) (ya (za (pv 14)) (ya (ze yg (za (pv 15)) yc (fun _ _=>rfl)) zc)))) (za (pv 13)) (yo _))))) (ye (zm zaV)) qB)
  (qc (zC (WW.gt (zaG (qo zfv (za (pv 13)) (ze yg (ze yg (za (pv 10)) (zoc zmB yc) (fun _ _=>rfl)) yc (fun _ _=>rfl)) (yo _)) (zau (zcl (zW (qf za4 (hr.mono (by decide)) rfl (ya (za (pv 4)) (ya (za (pv 8)) (ya (yP (zob znf (za (pv 10)) (yP (qK (ya (ym (ya (yk zan (za (pv 13)) yc) (ya (ym (ya yj (ya (za (pv 14)) zc))) zc))) zc))))) zc))))))))) (ye (zm zaV)) qB)
  (qc (zu (z7 (zaJ PySem.F.plainAttrs_list PySem.F.slot_list_append PySem.F.type_list_append qJ (WE.pe (za (pv 11))) (WA.pe (ya (ym (ya (ze yg (za (pv 15)) yc (fun _ _=>rfl)) (ya (za (pv 13)) (ya (za (pv 14)) zc)))) zc)))))
  (qc (zu (z7 (zaJ PySem.F.plainAttrs_list PySem.F.slot_list_append PySem.F.type_list_append qJ (WE.pe (za (pv 10))) (WA.pe (ya (ym (ya (za (pv 13)) (ya (ym (ya yj (ya (za (pv 14)) zc))) zc))) zc)))))
  (qc (zj (i:=16) yx.nd rfl (Or.inl rfl) (yr qD rfl T.n_len boot_len (ya (ze yg (qf zcS (hr.mono (by decide)) rfl (ya (za (pv 4)) (ya (yP (zgp (tgs:=["at","event"]) (caps:=[]) (zdm (za (pv 10))) (by bv_omega) (fun _ _ _=>(zam (zaW rfl (WGs.pe (qv (yz (WG.pe (zn (qp (i:=0) (show (["at","event"]:List Str).Nodup by decide +kernel) rfl (by first | exact Or.inl rfl | exact Or.inr rfl)))) (WGs.pe (qv (yz (WG.pe (zn (qp (i:=1) (show (["at","event"]:List Str).Nodup by decide +kernel) rfl (by first | exact Or.inl rfl | exact Or.inr rfl)))) (WGs.pe yZ)))))))))) (fun _ _ _=>yU) (fun _ _ _=>(za (pv 1))))) zc))) yc (fun _ _=>rfl)) zc)))
  (qc (zu (z7 (zaJ PySem.F.plainAttrs_list PySem.F.slot_list_append PySem.F.type_list_append qJ (WE.pe (za (pv 10))) (WA.pe (ya (qf zaP (hr.mono (by decide)) rfl (ya (za (pv 3)) (ya (qf yL (hr.mono (by decide)) rfl (ya (za (pv 9)) (ya yc zc))) (ya (yk zan (za (pv 16)) yc) (ya (za (pv 13)) zc))))) zc)))))
  (ye (zj (i:=12) yx.nd rfl (Or.inl rfl) (qf zbh (hr.mono (by decide)) rfl (ya (za (pv 4)) (ya (za (pv 8)) (ya (za (pv 10)) zc)))))))))))))))
  (qc (zg4 PassesOwn.never rfl (za (pv 11)) (zam (zaW rfl (WGs.pe (qv (yz (WG.pe (zn (qp (i:=17) yx.nd rfl (by first | exact Or.inl rfl | exact Or.inr rfl)))) (WGs.pe (qv (yz (WG.pe (zn (qp (i:=13) yx.nd rfl (by first | exact Or.inl rfl | exact Or.inr rfl)))) (WGs.pe (qv (yz (WG.pe (zn (qp (i:=14) yx.nd rfl (by first | exact Or.inl rfl | exact Or.inr rfl)))) (WGs.pe yZ)))))))))))) (qc (zj (i:=18) yx.nd rfl (Or.inl rfl) yc)
  (qc (zc8 PassesOwn.never rfl (z6 (zg5 (za (pv 5)) zeP (zeO (za (pv 17))))) (zam (zaW rfl (WGs.pe (qv (yz (WG.pe (zn (qp (i:=7) yx.nd rfl (by first | exact Or.inl rfl | exact Or.inr rfl)))) (WGs.pe (qv (yz (WG.pe (zn (qp (i:=19) yx.nd rfl (by first | exact Or.inl rfl | exact Or.inr rfl)))) (WGs.pe yZ))))))))) (ye (zj (i:=18) yx.nd rfl (Or.inl rfl) (yk zcm (za (pv 18)) (za (pv 19))))))
  (ye (zg4 PassesOwn.never rfl (za (pv 11)) (zam (zaW rfl (WGs.pe (qv (yz (WG.pe (zn (qp (i:=20) yx.nd rfl (by first | exact Or.inl rfl | exact Or.inr rfl)))) (WGs.pe (qv (yz (WG.pe (zn (qp (i:=21) yx.nd rfl (by first | exact Or.inl rfl | exact Or.inr rfl)))) (WGs.pe (qv (yz (WG.pe (zn (qp (i:=22) yx.nd rfl (by first | exact Or.inl rfl | exact Or.inr rfl)))) (WGs.pe yZ)))))))))))) (ye (zC (WW.gt (zaG (qo (zH hr.units) (za (pv 20)) (za (pv 17)) (yo _)) (zaG (qo (zH hr.units) (za (pv 21)) (za (pv 13)) (yo _)) (zau (qo (zdf hr.units) (yk yW (za (pv 14)) (za (pv 18))) (yk yW (za (pv 22)) (za (pv 18))) (yo _)))))) (ye (zm zaV)) qB)))))))
  (qc (zj (i:=23) yx.nd rfl (Or.inl rfl) (ze yg (qf zbg (hr.mono (by decide)) rfl (ya (za (pv 4)) (ya (za (pv 8)) (ya (za (pv 10)) zc)))) yc (fun _ _=>rfl)))
  (ye (zm (yr (zkW rfl) rfl T.n_all boot_all (ya (yP (zab (tgs:=["errand"]) (caps:=[("tries",2)]) (z6 (za (pv 23))) (by bv_omega) (fun _ _ _=>(zn (qp (i:=0) (show (["errand","tries"]:List Str).Nodup by decide +kernel) rfl (by first | exact Or.inl rfl | exact Or.inr rfl)))) (fun _ _ _=>(zeN (qo (zH hr.units) (ze yg (za (pv 0)) yc (fun _ _=>rfl)) yc (yo _)))) (fun _ _ _=>(zbd (zH hr.units) (ze yg (za (pv 0)) yc (fun _ _=>rfl)) (ym (ya yj (ya yc (ya (za (pv 1)) zc)))) (yo _))))) zc)))))))))))))))))))))
end
end My
open Lean in
local macro_rules | `(tactic| simp_arith [$xs,*]) => do
  let ids := ("FT.zj2 FT.zrB FT.zrC FT.startT FT.qg FT.qA FT.zq FT.sIf FT.zE FT.zhj FT.yV FT.zeY FT.zb FT.eC FT.eOp FT.eUn FT.zjE FT.eOr FT.zjD FT.eIf FT.yf FT.yw FT.eFz FT.eTk FT.yK FT.zrY FT.zfN FT.lOp FT.eSl FT.zfx FT.zfw FT.zlQ FT.zgi FT.zrK FT.zrX FT.zaO FT.zd FT.yb FT.zr FT.zbl FT.zcq FT.zcM FT.zrW FT.zew FT.zru FT.yu FT.zqS FT.zqU FT.zqT FT.zrg FT.zrf FT.zri FT.zrh FT.qi FT.zjL FT.zar FT.yy FT.zas FT.zaT FT.zbJ FT.zrF FT.zhd FT.ixT FT.zf7 FT.zjA FT.zr6 FT.zr5 FT.zr4 FT.zr3 FT.zI FT.zbO FT.yH Option.join_some Option.join_none FT.zlL FT.zrj FT.zfX FT.zr1 FT.zr0 FT.zrZ map_cons map_nil Qq length_nil List.cons_append nil_append List.getElem?_cons_zero getElem?_cons_succ List.set_cons_zero List.set_cons_succ List.replicate Nat.zero_add Nat.reduceAdd Nat.reduceSub FT.zrH FT.zrG FT.zrJ FT.zrI Int.reduceBEq Int.reduceLT FT.zry FT.zrO FT.zrP FT.zrR FT.zrS FT.zrM FT.zrE FT.zrT FT.zrN FT.zrQ FT.zrm Bool.false_eq_true reduceIte Nat.reduceEqDiff Nat.succ.injEq Bool.not_true Bool.not_false FT.zdg FT.zrD FT.zrU Int.reduceToNat Int.reducePow ne_eq Int.reduceEq not_false_eq_true Int.reduceNeg Bool.bne_true Bool.bne_false Bool.true_bne Bool.false_bne decide_true decide_false FT.zmb FT.zrt FT.zrs FT.zrz FT.zrA".splitOn " ").toArray.map fun s => Lean.mkIdent s.toName
  `(tactic| simp (config := {decide := true}) only [$[$ids:term],*, $xs,*])
namespace My
open PySem L2 FT
structure Ask where
 to:Str
 tries:Int
 purse:Option Str
 word:Str
 hears:Bool
 sure:Bool
structure Hs where
 name:Str
 asks:List Ask
structure Pu where
 name:Str
 earns:Str
 per:Int
structure Net where
 hs:List Hs
 ps:List Pu
noncomputable def opS (o:Option Str):FT.T:=o.elim .non .str
noncomputable def zO (a:Ask):FT.T:=.tup [.str a.to,.int a.tries,opS a.purse,.str a.word,.bl a.hears,.bl a.sure]
noncomputable def hsT (h:Hs):FT.T:=.tup [.str h.name,.tup (h.asks.map zO)]
noncomputable def puT (p:Pu):FT.T:=.tup [.str p.name,.str p.earns,.int p.per]
noncomputable def zg (n:Net):FT.T:=.tup [.tup (n.hs.map hsT),.tup (n.ps.map puT)]
inductive Ph where
 | works
 | waits (a t:Nat)
 | stands (a t:Nat)
 | ended (w:Str)
noncomputable def phT:Ph->FT.T
 | .works=>.tup [.str "works"]
 | .waits a t=>.tup [.str "waits",.int (a:Int),.int (t:Int)]
 | .stands a t=>.tup [.str "stands",.int (a:Int),.int (t:Int)]
 | .ended w=>.tup [.str "ended",.str w]
structure Er where
 house:Nat
 caller:Option (Nat × Nat × Nat)
 ph:Ph
 lost:Bool
 asked:Option Nat
 stood:Option Nat
noncomputable abbrev nT (n:Nat):FT.T:=.int (n:Int)
noncomputable def clT (o:Option (Nat × Nat × Nat)):FT.T:=o.elim .non fun c=>.tup [nT c.1,nT c.2.1,nT c.2.2]
noncomputable def onT (o:Option Nat):FT.T:=o.elim .non nT
noncomputable def erF (e:Er):List (Str × FT.T):=[("house",nT e.house),("caller",clT e.caller),("state",phT e.ph),("is_lost",.bl e.lost),("asked",onT e.asked),("stood",onT e.stood)]
structure Run where
 came:Nat
 es:List Er
 puts:List (List Nat)
 pays:List (Nat × Nat × Nat)
 taken:List Nat
noncomputable def ze2 (p:Nat × Nat × Nat):FT.T:=.tup [nT p.1,nT p.2.1,nT p.2.2]
structure Lay where
 a:Nat
 p:Nat
 q:Nat
 t:Nat
 es:List Nat
 ps:List Nat
noncomputable def zbD (nt:FT.T) (l:Lay) (R:Run):List (Str × FT.T):=[("net",nt),("came",nT R.came),("errands",.ref l.a),("puts",.ref l.p),("payments",.ref l.q),("taken",.ref l.t)]
variable {e:Er} {l:Lay} {u:List Nat} {M M':Mem} {i k r x:Nat} {R:Run}
section
variable (kE kR:Addr)
noncomputable def ezC (es:List Nat) (rs:List Er):List (Nat × Cell):=List.zipWith (fun x e=>(x,Cell.ins kE (erF e))) es rs
noncomputable def pzC (ps:List Nat) (us:List (List Nat)):List (Nat × Cell):=List.zipWith (fun x u=>(x,Cell.lst (u.map nT))) ps us
noncomputable def cells (nt:FT.T) (r:Nat) (l:Lay) (R:Run):List (Nat × Cell):=
 (r,.ins kR (zbD nt l R)) :: (l.a,.lst (l.es.map .ref)) :: (l.p,.lst (l.ps.map .ref)) :: (l.q,.lst (R.pays.map ze2)) :: (l.t,.lst (R.taken.map nT)) :: (ezC kE l.es R.es ++ pzC l.ps R.puts)
def Holds (M:Mem) (L:List (Nat × Cell)):Prop:=∀ p ∈ L,M[p.1]? = some p.2
theorem Holds.set {L:List (Nat × Cell)} (h:Holds M L) (nd:(L.map (·.1)).Nodup) {p:Nat × Cell} (hk:L[k]? = some p) (c:Cell):Holds (M.set p.1 c) (L.set k (p.1,c)):=by
 intro q hq
 have hkl:=(List.getElem?_eq_some_iff.mp hk).1
 obtain ⟨i,hi⟩:=mem_iff_getElem?.mp hq
 rw [Qd] at hi
 by_cases e:k = i
 ·rw [if_pos e,if_pos hkl] at hi
  cases hi
  exact get_set (h p (Qb hk))
 ·rw [if_neg e] at hi
  have hne:p.1 ≠ q.1:=fun z=>by
   have h1:(L.map (·.1))[k]? = some p.1:=by rw [Qc,hk];rfl
   have h2:(L.map (·.1))[i]? = some q.1:=by rw [Qc,hi];rfl
   exact e ((List.getElem?_inj (by simpa using hkl) nd).mp (h1.trans (by rw [h2,z])))
  rw [Qd,if_neg hne]
  exact h q (Qb hi)
structure RunAt (nt:FT.T) (b r:Nat) (l:Lay) (M:Mem) (R:Run):Prop where
 ho:Holds M (cells kE kR nt r l R)
 nd:((cells kE kR nt r l R).map (·.1)).Nodup
 lo:∀ p ∈ cells kE kR nt r l R,b<=p.1
 el:l.es.length = R.es.length
 pl:l.ps.length = R.puts.length
 tl:R.taken.length = R.puts.length
def Kp (b:Nat) (M M':Mem):Prop:=M.length<=M'.length/\∀ i,i < b->M'[i]? = M[i]?
theorem Kp.refl (b:Nat) (M:Mem):Kp b M M:=⟨Q4 _,fun _ _=>rfl⟩
theorem Kp.trans {b:Nat} {A B C:Mem} (h:Kp b A B) (g:Kp b B C):Kp b A C:=⟨Qk h.1 g.1,fun i hi=>by rw [g.2 i hi,h.2 i hi]⟩
theorem Kp.set {b:Nat} (M:Mem) (c:Cell) (hx:b<=x):Kp b M (M.set x c):=⟨by simp,fun i hi=>by rw [Qd,if_neg (by omega)]⟩
theorem Kp.app {b:Nat} (M:Mem) (cs:List Cell) (hb:b<=M.length):Kp b M (M ++ cs):=⟨by simp,fun i hi=>Q7 (by omega)⟩
theorem Kp.fr (h:Kp M.length M M'):Fr [] M M':=⟨h.1,fun i hi _=>h.2 i hi⟩
variable {kE kR} {nt:FT.T} {b r:Nat} {l:Lay} {M:Mem} {R:Run}
theorem zip_get {α β γ:Type} {f:α->β->γ} {as:List α} {bs:List β} {x:α} {y:β} (h1:as[i]? = some x) (h2:bs[i]? = some y):(List.zipWith f as bs)[i]? = some (f x y):=by
 rw [List.getElem?_zipWith,h1,h2]
theorem RunAt.run (h:RunAt kE kR nt b r l M R):M[r]? = some (.ins kR (zbD nt l R)):=h.ho (r,_) (.head _)
theorem RunAt.er (h:RunAt kE kR nt b r l M R):M[l.a]? = some (.lst (l.es.map .ref)):=h.ho (l.a,_) (.tail _ (.head _))
theorem RunAt.pu (h:RunAt kE kR nt b r l M R):M[l.p]? = some (.lst (l.ps.map .ref)):=h.ho (l.p,_) (.tail _ (.tail _ (.head _)))
theorem RunAt.py (h:RunAt kE kR nt b r l M R):M[l.q]? = some (.lst (R.pays.map ze2)):=h.ho (l.q,_) (.tail _ (.tail _ (.tail _ (.head _))))
theorem RunAt.tk (h:RunAt kE kR nt b r l M R):M[l.t]? = some (.lst (R.taken.map nT)):=h.ho (l.t,_) (.tail _ (.tail _ (.tail _ (.tail _ (.head _)))))
theorem zpP {es:List Nat} {rs:List Er} (h1:es[i]? = some x) (h2:rs[i]? = some e):(ezC kE es rs)[i]? = some (x,.ins kE (erF e)):=zip_get h1 h2
theorem zou {ps:List Nat} {us:List (List Nat)} (h1:ps[i]? = some x) (h2:us[i]? = some u):(pzC ps us)[i]? = some (x,.lst (u.map nT)):=zip_get h1 h2
theorem zdi (h:RunAt kE kR nt b r l M R):(ezC kE l.es R.es).length = R.es.length:=by unfold ezC;rw [List.length_zipWith,h.el,Nat.min_self]
theorem zkM (h:RunAt kE kR nt b r l M R) (h1:l.es[i]? = some x) (h2:R.es[i]? = some e):(cells kE kR nt r l R)[5 + i]? = some (x,.ins kE (erF e)):=by
 have hi:=(List.getElem?_eq_some_iff.mp h2).1
 rw [Nat.add_comm]
 show (ezC kE l.es R.es ++ pzC l.ps R.puts)[i]? = _
 rw [Q7 (by rw [zdi h];exact hi)]
 exact zpP h1 h2
theorem zkL (h:RunAt kE kR nt b r l M R) (h1:l.ps[i]? = some x) (h2:R.puts[i]? = some u):(cells kE kR nt r l R)[5 + (R.es.length + i)]? = some (x,.lst (u.map nT)):=by
 rw [Nat.add_comm 5]
 show (ezC kE l.es R.es ++ pzC l.ps R.puts)[R.es.length + i]? = _
 rw [Q9 (by rw [zdi h];omega),zdi h,show R.es.length + i - R.es.length = i by omega]
 exact zou h1 h2
theorem RunAt.at_e (h:RunAt kE kR nt b r l M R) (h2:R.es[i]? = some e):∃ x,l.es[i]? = some x/\M[x]? = some (.ins kE (erF e)):=by
 have hi:=(List.getElem?_eq_some_iff.mp h2).1
 refine ⟨l.es[i]'(by rw [h.el];exact hi),Q0 _,?_⟩
 exact h.ho _ (Qb (zkM h (Q0 (by rw [h.el];exact hi)) h2))
theorem RunAt.at_p (h:RunAt kE kR nt b r l M R) (h2:R.puts[i]? = some u):∃ x,l.ps[i]? = some x/\M[x]? = some (.lst (u.map nT)):=by
 have hi:=(List.getElem?_eq_some_iff.mp h2).1
 refine ⟨l.ps[i]'(by rw [h.pl];exact hi),Q0 _,?_⟩
 exact h.ho _ (Qb (zkL h (Q0 (by rw [h.pl];exact hi)) h2))
theorem RunAt.write (h:RunAt kE kR nt b r l M R) {c0 c:Cell} (hk:(cells kE kR nt r l R)[k]? = some (x,c0)) {R':Run} (e:cells kE kR nt r l R' = (cells kE kR nt r l R).set k (x,c)) (h1:R'.es.length = R.es.length) (h2:R'.puts.length = R.puts.length) (h3:R'.taken.length = R.taken.length):RunAt kE kR nt b r l (M.set x c) R'/\b<=x:=by
 have em:(cells kE kR nt r l R').map (·.1) = (cells kE kR nt r l R).map (·.1):=by
  rw [e,List.map_set]
  refine List.ext_getElem? fun i=>?_
  rw [Qd]
  by_cases z:k = i
  ·subst z
   have:=(List.getElem?_eq_some_iff.mp hk).1
   rw [if_pos rfl,if_pos (by simpa using this),Qc,hk]
   rfl
  ·rw [if_neg z]
 refine ⟨⟨by rw [e];exact h.ho.set h.nd hk c,by rw [em];exact h.nd,fun p hp=>?_,by rw [h1];exact h.el,by rw [h2];exact h.pl,by rw [h3,h2];exact h.tl⟩,h.lo _ (Qb hk)⟩
 have:p.1 ∈ (cells kE kR nt r l R').map (·.1):=mem_map.mpr ⟨p,hp,rfl⟩
 rw [em] at this
 obtain ⟨q,hq,eq⟩:=mem_map.mp this
 rw [← eq];exact h.lo q hq
theorem zfW {α β γ:Type} {f:α->β->γ}:∀ {as:List α} {bs:List β} {i:Nat} {x:α} (y:β),as[i]? = some x->List.zipWith f as (bs.set i y) = (List.zipWith f as bs).set i (f x y)
 | [],_,_,_,_,h=>by simp at h
 | a :: as,[],i,x,y,h=>by simp
 | a :: as,b :: bs,0,x,y,h=>by simp at h;simp [h]
 | a :: as,b :: bs,i + 1,x,y,h=>by simp at h;simp [zfW y h]
noncomputable def Run.setE (R:Run) (i:Nat) (e:Er):Run:={ R with es:=R.es.set i e }
theorem RunAt.setE (h:RunAt kE kR nt b r l M R) (h1:l.es[i]? = some x) (h2:R.es[i]? = some e) (e':Er):RunAt kE kR nt b r l (M.set x (.ins kE (erF e'))) (R.setE i e')/\b<=x:=by
 refine h.write (zkM h h1 h2) ?_ (by simp [Run.setE]) rfl rfl
 have hi:=(List.getElem?_eq_some_iff.mp h2).1
 rw [Nat.add_comm 5]
 show _ = _ :: _ :: _ :: _ :: _ :: (ezC kE l.es R.es ++ pzC l.ps R.puts).set i (x,.ins kE (erF e'))
 rw [List.set_append_left _ _ (by rw [zdi h];exact hi),show (ezC kE l.es R.es).set i (x,.ins kE (erF e')) = ezC kE l.es (R.es.set i e') from (zfW e' h1).symm]
 rfl
noncomputable def Run.setP (R:Run) (i:Nat) (u:List Nat):Run:={ R with puts:=R.puts.set i u }
theorem RunAt.setP (h:RunAt kE kR nt b r l M R) (h1:l.ps[i]? = some x) (h2:R.puts[i]? = some u) (u':List Nat):RunAt kE kR nt b r l (M.set x (.lst (u'.map nT))) (R.setP i u')/\b<=x:=by
 refine h.write (zkL h h1 h2) ?_ rfl (by simp [Run.setP]) rfl
 rw [Nat.add_comm 5]
 show _ = _ :: _ :: _ :: _ :: _ :: (ezC kE l.es R.es ++ pzC l.ps R.puts).set (R.es.length + i) (x,.lst (u'.map nT))
 rw [set_append_right _ _ (by rw [zdi h];omega),zdi h,show R.es.length + i - R.es.length = i by omega,show (pzC l.ps R.puts).set i (x,.lst (u'.map nT)) = pzC l.ps (R.puts.set i u') from (zfW u' h1).symm]
 rfl
theorem RunAt.setCame (h:RunAt kE kR nt b r l M R) (n:Nat):RunAt kE kR nt b r l (M.set r (.ins kR (zbD nt l { R with came:=n }))) { R with came:=n }/\b<=r:=h.write (k:=0) rfl rfl rfl rfl rfl
theorem RunAt.setPays (h:RunAt kE kR nt b r l M R) (ps:List (Nat × Nat × Nat)):RunAt kE kR nt b r l (M.set l.q (.lst (ps.map ze2))) { R with pays:=ps }/\b<=l.q:=h.write (k:=3) rfl rfl rfl rfl rfl
theorem RunAt.setTaken (h:RunAt kE kR nt b r l M R) (ts:List Nat) (ht:ts.length = R.taken.length):RunAt kE kR nt b r l (M.set l.t (.lst (ts.map nT))) { R with taken:=ts }/\b<=l.t:=h.write (k:=4) rfl rfl rfl rfl ht
theorem RunAt.kept (h:RunAt kE kR nt b r l M R) (k:∀ (i:Nat) c,M[i]? = some c->M'[i]? = some c):RunAt kE kR nt b r l M' R:=⟨fun p hp=>k _ _ (h.ho p hp),h.nd,h.lo,h.el,h.pl,h.tl⟩
theorem RunAt.app (h:RunAt kE kR nt b r l M R) (cs:List Cell):RunAt kE kR nt b r l (M ++ cs) R:=h.kept fun i c e=>by rw [Q7 (zS e)];exact e
noncomputable def Run.push (R:Run) (e:Er):Run:={ R with es:=R.es ++ [e] }
theorem RunAt.push (h:RunAt kE kR nt b r l M R) (hb:b<=M.length) (e:Er):RunAt kE kR nt b r { l with es:=l.es ++ [M.length] } ((M ++ [Cell.ins kE (erF e)]).set l.a (.lst ((l.es ++ [M.length]).map .ref))) (R.push e):=by
 have ez:ezC kE (l.es ++ [M.length]) (R.es ++ [e]) = ezC kE l.es R.es ++ [(M.length,.ins kE (erF e))]:=by
  unfold ezC
  rw [List.zipWith_append h.el]
  rfl
 have fresh:∀ p ∈ cells kE kR nt r l R,p.1 < M.length:=fun p hp=>zS (h.ho p hp)
 have hm:∀ p,p ∈ cells kE kR nt r { l with es:=l.es ++ [M.length] } (R.push e)->p = (l.a,.lst ((l.es ++ [M.length]).map .ref))\/p = (M.length,.ins kE (erF e))\/(p ∈ cells kE kR nt r l R/\p.1 ≠ l.a):=by
  intro p hp
  have nd:=h.nd
  have na:∀ q ∈ ezC kE l.es R.es ++ pzC l.ps R.puts,q.1 ≠ l.a:=fun q hq z=>by
   have h2:=(nodup_cons.mp (nodup_cons.mp nd).2).1
   exact h2 (mem_map.mpr ⟨q,.tail _ (.tail _ (.tail _ hq)),z⟩)
  have n0:r ≠ l.a:=fun z=>(nodup_cons.mp nd).1 (mem_map.mpr ⟨(l.a,_),.head _,z.symm⟩)
  have n2:l.p ≠ l.a:=fun z=>(nodup_cons.mp (nodup_cons.mp nd).2).1 (mem_map.mpr ⟨(l.p,_),.head _,z⟩)
  have n3:l.q ≠ l.a:=fun z=>(nodup_cons.mp (nodup_cons.mp nd).2).1 (mem_map.mpr ⟨(l.q,_),.tail _ (.head _),z⟩)
  have n4:l.t ≠ l.a:=fun z=>(nodup_cons.mp (nodup_cons.mp nd).2).1 (mem_map.mpr ⟨(l.t,_),.tail _ (.tail _ (.head _)),z⟩)
  unfold cells at hp
  rcases mem_cons.mp hp with rfl | hp
  ·exact .inr (.inr ⟨.head _,n0⟩)
  rcases mem_cons.mp hp with rfl | hp
  ·exact .inl rfl
  rcases mem_cons.mp hp with rfl | hp
  ·exact .inr (.inr ⟨.tail _ (.tail _ (.head _)),n2⟩)
  rcases mem_cons.mp hp with rfl | hp
  ·exact .inr (.inr ⟨.tail _ (.tail _ (.tail _ (.head _))),n3⟩)
  rcases mem_cons.mp hp with rfl | hp
  ·exact .inr (.inr ⟨.tail _ (.tail _ (.tail _ (.tail _ (.head _)))),n4⟩)
  replace hp:p ∈ ezC kE (l.es ++ [M.length]) (R.es ++ [e]) ++ pzC l.ps R.puts:=hp
  rw [ez] at hp
  rcases mem_append.mp hp with hp | hp
  ·rcases mem_append.mp hp with hp | hp
   ·exact .inr (.inr ⟨.tail _ (.tail _ (.tail _ (.tail _ (.tail _ (mem_append_left _ hp))))),na p (mem_append_left _ hp)⟩)
   ·exact .inr (.inl (mem_singleton.mp hp))
  ·exact .inr (.inr ⟨.tail _ (.tail _ (.tail _ (.tail _ (.tail _ (Qn _ hp))))),na p (Qn _ hp)⟩)
 have la:=h.er
 have hla:=zS la
 refine ⟨fun p hp=>?_,?_,fun p hp=>?_,by simp [Run.push,h.el],h.pl,h.tl⟩
 ·rcases hm p hp with rfl | rfl | ⟨hp,hne⟩
  ·exact get_set (by rw [Q7 hla];exact la)
  ·show (List.set _ _ _)[M.length]? = _
   rw [Qd,if_neg (by omega)];exact z9
  ·rw [Qd,if_neg (Ne.symm hne),Q7 (fresh p hp)];exact h.ho p hp
 ·have e2:(cells kE kR nt r { l with es:=l.es ++ [M.length] } (R.push e)).map (·.1) = r :: l.a :: l.p :: l.q :: l.t :: ((ezC kE l.es R.es).map (·.1) ++ [M.length] ++ (pzC l.ps R.puts).map (·.1)):=by
   show _ :: _ :: _ :: _ :: _ :: (ezC kE (l.es ++ [M.length]) (R.es ++ [e]) ++ pzC l.ps R.puts).map (·.1) = _
   rw [ez]
   simp
  have e1:(cells kE kR nt r l R).map (·.1) = r :: l.a :: l.p :: l.q :: l.t :: ((ezC kE l.es R.es).map (·.1) ++ (pzC l.ps R.puts).map (·.1)):=by
   show _ :: _ :: _ :: _ :: _ :: (ezC kE l.es R.es ++ pzC l.ps R.puts).map (·.1) = _
   rw [Qs]
  have pm:List.Perm ((cells kE kR nt r { l with es:=l.es ++ [M.length] } (R.push e)).map (·.1)) (M.length :: (cells kE kR nt r l R).map (·.1)):=by
   rw [e2,e1]
   have:List.Perm ((ezC kE l.es R.es).map (·.1) ++ [M.length] ++ (pzC l.ps R.puts).map (·.1)) (M.length :: ((ezC kE l.es R.es).map (·.1) ++ (pzC l.ps R.puts).map (·.1))):=by
    rw [append_assoc]
    exact List.perm_middle
   refine ((((((this.cons _).cons _).cons _).cons _).cons _).trans ?_)
   have sw:∀ (x y:Nat) (L:List Nat),List.Perm (x :: y :: L) (y :: x :: L):=fun x y L=>List.Perm.swap y x L
   refine ((((sw _ _ _).cons _).cons _).cons _).cons _ |>.trans ?_
   refine (((sw _ _ _).cons _).cons _).cons _ |>.trans ?_
   refine ((sw _ _ _).cons _).cons _ |>.trans ?_
   refine (sw _ _ _).cons _ |>.trans ?_
   exact sw _ _ _
  refine pm.nodup_iff.mpr (nodup_cons.mpr ⟨fun z=>?_,h.nd⟩)
  obtain ⟨q,hq,eq⟩:=mem_map.mp z
  have:=fresh q hq
  omega
 ·rcases hm p hp with rfl | rfl | ⟨hp,_⟩
  ·exact h.lo (l.a,.lst (l.es.map .ref)) (.tail _ (.head _))
  ·exact hb
  ·exact h.lo p hp
end
noncomputable def zbI (s:Str):List Str->Nat->Option Nat
 | [],_=>none
 | y :: ys,k=>if (y == s) = true then some k else zbI s ys (k + 1)
theorem zks (s:Str):∀ (ys:List Str) (k:Nat),zgb (.str s) (ys.map .str) k = zbI s ys k
 | [],_=>rfl
 | y :: ys,k=>by
  show (if (y == s) = true then some k else zgb (.str s) (ys.map .str) (k + 1)) = _
  rw [zks s ys (k + 1)]
  rfl
theorem zgc {s:Str}:∀ {ys:List Str} {k n:Nat},zbI s ys k = some n->k<=n/\n < k + ys.length
 | [],_,_,h=>by cases h
 | y :: ys,k,n,h=>by
  unfold zbI at h
  split at h
  ·cases h;simp
  ·have:=zgc h
   rw [Qq]
   omega
noncomputable def Net.hix (n:Net) (s:Str):Nat:=(zbI s (n.hs.map (·.name)) 0).getD 0
noncomputable def Net.pix (n:Net) (s:Str):Nat:=(zbI s (n.ps.map (·.name)) 0).getD 0
noncomputable def Net.asks (n:Net) (h:Nat):List Ask:=((n.hs[h]?).map (·.asks)).getD []
noncomputable def Net.pof (n:Net) (a:Ask):Option Nat:=a.purse.map n.pix
structure WA (n:Net) (i:Nat) (a:Ask):Prop where
 to:zbI a.to (n.hs.map (·.name)) 0 = some (n.hix a.to)
 up:i < n.hix a.to
 pu:∀ s,a.purse = some s->zbI s (n.ps.map (·.name)) 0 = some (n.pix s)
 tr:0<=a.tries
structure WN (n:Net):Prop where
 hl:n.hs.length<=4
 h1:0 < n.hs.length
 pl:n.ps.length<=100
 al:∀ h ∈ n.hs,h.asks.length<=100
 as:∀ i a,a ∈ n.asks i->WA n i a
 pr:∀ p ∈ n.ps,1<=p.per/\p.per<=1000000
variable {n:Net}
theorem WA.lt {a:Ask} (h:WA n i a):n.hix a.to < n.hs.length:=by
 have:=zgc h.to
 simp at this
 exact this
theorem WA.plt {a:Ask} (h:WA n i a) (e:n.pof a = some k):k < n.ps.length:=by
 unfold Net.pof at e
 cases q:a.purse with
 | none=>rw [q] at e;cases e
 | some s=>
  rw [q] at e
  cases e
  have:=zgc (h.pu s q)
  simp at this
  exact this
variable {f:Str}
section
variable (kE kR:Addr)
theorem zgx {α:Type} (xs:List α) (nm:α->Str) (tl:α->List FT.T) {s:Str} {n:Nat} (h:zbI s (xs.map nm) 0 = some n) (hl:xs.length<=1000) (M:Mem):z0 kE kR [.tup (xs.map fun x=>.tup (.str (nm x) :: tl x)),.str s] M = .ok (nT n) M:=by
 unfold z0 zeI
 have c:qr (qi 0) yH (eOp ixT (zb 0) (eC (.int 0))) (xs.map fun x=>FT.T.tup (.str (nm x) :: tl x)) [none] M [] = .ok ((xs.map nm).map .str) M:=by
  rw [map_map]
  exact Ok.mapc (r:=fun x=>FT.T.tup (.str (nm x) :: tl x)) (fun σ=>∃ o,σ = [o]) _ ⟨_,rfl⟩ (by omega) (by
   rintro x σ hx ⟨o,rfl⟩
   exact ⟨[some (.tup (.str (nm x) :: tl x))],rfl,⟨_,rfl⟩,by simp_arith [and_self];rfl⟩)
 have k:zgd (.lst ((xs.map nm).map .str)) [.str s] M = .ok (nT n) M:=by
  unfold zgd zy
  dsimp only
  rw [if_pos,zks,h]
  ·rw [Qu]
   refine ⟨rfl,all_eq_true.mpr fun t ht=>?_⟩
   obtain ⟨y,_,rfl⟩:=mem_map.mp ht
   rfl
 have i1:zcP (.lst ((xs.map nm).map .str)) M = true:=rfl
 simp_arith [c,zdj,i1,k]
variable {kE kR}
theorem zme (wn:WN n) {a:Ask} (w:WA n i a) (M:Mem):zah kE kR [zg n,zO a] M = .ok (nT (n.hix a.to)) M:=by
 unfold zah zfJ zg zO
 have h:=fun M=>zgx kE kR n.hs (·.name) (fun h=>[.tup (h.asks.map zO)]) w.to (by have:=wn.hl;omega) M
 rw [show (n.hs.map fun h=>FT.T.tup (.str h.name :: [.tup (h.asks.map zO)])) = n.hs.map hsT from rfl] at h
 simp_arith [h]
variable {b:Nat}
theorem yE {k:Addr} {fs:List (Str × FT.T)} {t:FT.T} (h:M[x]? = some (.ins k fs)) (e:fs.lookup f = some t):zaq [k] f (.ref x) M = .ok t M:=by
 unfold zaq
 simp only [h]
 rw [if_pos (by simp),e]
 rfl
theorem zaH {k:Addr} {fs fs':List (Str × FT.T)} {y:FT.T} (h:M[x]? = some (.ins k fs)) (e:zcz f y fs = fs') (hl:fs.length < 1000):zav [k] f (.ref x) y M = .ok () (M.set x (.ins k fs')):=by
 unfold zav
 simp only [h]
 rw [if_pos ⟨by simp,hl⟩,e]
theorem RunAt.net (h:RunAt kE kR (zg n) b r l M R):zaq [kR] "net" (.ref r) M = .ok (zg n) M:=yE h.run rfl
theorem RunAt.came (h:RunAt kE kR (zg n) b r l M R):zaq [kR] "came" (.ref r) M = .ok (nT R.came) M:=yE h.run rfl
theorem RunAt.errands (h:RunAt kE kR (zg n) b r l M R):zaq [kR] "errands" (.ref r) M = .ok (.ref l.a) M:=yE h.run rfl
theorem RunAt.putsF (h:RunAt kE kR (zg n) b r l M R):zaq [kR] "puts" (.ref r) M = .ok (.ref l.p) M:=yE h.run rfl
theorem RunAt.payF (h:RunAt kE kR (zg n) b r l M R):zaq [kR] "payments" (.ref r) M = .ok (.ref l.q) M:=yE h.run rfl
theorem RunAt.takenF (h:RunAt kE kR (zg n) b r l M R):zaq [kR] "taken" (.ref r) M = .ok (.ref l.t) M:=yE h.run rfl
theorem yp {α:Type} {f:α->FT.T} {xs:List α} {x:α} (e:xs[i]? = some x):atI (xs.map f) (i:Int) = some (f x):=by rw [FT.zbi,Qc,e];rfl
theorem zP (h:RunAt kE kR (zg n) b r l M R) (he:R.es[i]? = some e) (hh:e.house < n.hs.length):zx kE kR [.ref r,nT i] M = .ok (.tup ((n.asks e.house).map zO)) M:=by
 unfold zx zgD
 obtain ⟨x,hx,hc⟩:=h.at_e he
 have h1:=yE (f:="house") hc rfl
 have hn:n.hs[e.house]? = some n.hs[e.house]:=Q0 hh
 have h2:=yp (f:=hsT) hn
 have h3:n.asks e.house = (n.hs[e.house]).asks:=by unfold Net.asks;rw [hn];rfl
 rw [h3]
 have hnt:=h.net
 unfold zg at hnt
 simp_arith [yi,hnt,h.errands,h.er,yp (f:=FT.T.ref) hx,h1,h2]
 rw [show hsT n.hs[e.house] = .tup [.str n.hs[e.house].name,.tup (n.hs[e.house].asks.map zO)] from rfl]
 simp_arith [and_self]
theorem zc4 (h:RunAt kE kR (zg n) b r l M R) (wn:WN n) {a:Ask} (w:WA n i a):qO kE kR [.ref r,zO a] M = .ok (onT (n.pof a)) M:=by
 unfold qO zfE zO
 have hnt:=h.net
 unfold zg at hnt
 cases q:a.purse with
 | none=>
  have i1:∀ M,isN (opS none) .non M = .ok (.bl true) M:=fun _=>rfl
  have e1:n.pof a = none:=by unfold Net.pof;rw [q];rfl
  rw [e1]
  simp_arith [eIf,i1]
  rfl
 | some s=>
  have i1:∀ M,isN (opS (some s)) .non M = .ok (.bl false) M:=fun _=>rfl
  have e1:n.pof a = some (n.pix s):=by unfold Net.pof;rw [q];rfl
  rw [e1]
  have hk:=zgx kE kR n.ps (·.name) (fun p=>[.str p.earns,.int p.per]) (w.pu s q) (by have:=wn.pl;omega) M
  rw [show (n.ps.map fun p=>FT.T.tup (.str p.name :: [.str p.earns,.int p.per])) = n.ps.map puT from rfl,show FT.T.str s = opS (some s) from rfl] at hk
  simp_arith [eIf,i1,yi,hnt,hk]
  rfl
noncomputable def Run.told (R:Run) (n:Net) (k:Nat):Int × Int:=((((R.puts.getD k []).length:Int) % (n.ps.getD k ⟨"","",1⟩).per),((R.puts.getD k []).length:Int) / (n.ps.getD k ⟨"","",1⟩).per - (R.taken.getD k 0:Nat))
theorem zir (h:RunAt kE kR (zg n) b r l M R) (wn:WN n) (hp:R.puts.length = n.ps.length) (hk:k < n.ps.length):zQ kE kR [.ref r,nT k] M = .ok (.tup [.int (R.told n k).1,.int (R.told n k).2]) M:=by
 unfold zQ zd4
 have hpe:n.ps[k]? = some n.ps[k]:=Q0 hk
 have hu:R.puts[k]? = some (R.puts[k]'(by omega)):=Q0 _
 obtain ⟨x,hx,hc⟩:=h.at_p hu
 have ht:R.taken[k]? = some (R.taken[k]'(by have:=h.tl;omega)):=Q0 _
 have hper:=wn.pr n.ps[k] (getElem_mem _)
 have hnt:=h.net
 unfold zg at hnt
 have h2:atI (n.ps.map puT) (k:Int) = some (.tup [.str n.ps[k].name,.str n.ps[k].earns,.int n.ps[k].per]):=yp (f:=puT) hpe
 have ln:qF (.ref x) M = .ok (.int (((R.puts[k]'(by omega)).length:Nat):Int)) M:=by
  unfold qF zat zy
  simp only [hc]
  simp
 have dv:∀ i M,zc5 (.int i) (.int n.ps[k].per) M = .ok (.int (i.fdiv n.ps[k].per)) M:=fun i M=>zes (zjF 100 (by decide) (by omega) (by
  refine Nat.lt_of_le_of_lt (show n.ps[k].per.natAbs<=10 ^ 7 from by simp only [Nat.reducePow];omega) (Nat.pow_lt_pow_right (by decide) (by decide))))
 have md:∀ i M,zac (.int i) (.int n.ps[k].per) M = .ok (.int (i.fmod n.ps[k].per)) M:=fun i M=>zdg (by omega)
 have cm:zaD kE kR [.ref r,nT k] M = .ok (.int ((((R.puts[k]'(by omega)).length:Nat):Int).fdiv n.ps[k].per)) M:=by
  unfold zaD zd6
  simp_arith [yi,h.putsF,h.pu,yp (f:=FT.T.ref) hx,ln,hnt,h2,dv]
 simp_arith [yi,h.putsF,h.pu,yp (f:=FT.T.ref) hx,ln,hnt,h2,md,cm,h.takenF,h.tk,yp (f:=nT) ht]
 unfold Run.told
 rw [Q8,Q8,Q8,hu,hpe,ht,Qa _ (by omega),Int.fdiv_eq_ediv_of_nonneg _ (by omega)]
 rfl
end
noncomputable def zl (h:Nat) (c:Option (Nat × Nat × Nat)):Er:=⟨h,c,.works,false,none,none⟩
noncomputable def Net.any (n:Net) (k:Nat):Bool:=(n.ps.getD k ⟨"","",1⟩).earns == ("any":Str)
noncomputable def Run.share (R:Run) (n:Net) (a:Ask) (tr x:Nat):Run:=match n.pof a with
 | none=>R
 | some k=>if tr = 1\/n.any k = true then R.setP k (R.puts.getD k [] ++ [x]) else R
noncomputable def zV (n:Net) (g:Run->Nat->Option (Nat × Nat × Nat)->Run) (R:Run) (num at' tr:Nat):Run:=match R.es[num]? with
 | none=>R
 | some e=>match (n.asks e.house)[at']? with
  | none=>R
  | some a=>g ((R.setE num { e with ph:=.waits at' tr,asked:=some R.es.length }).share n a tr R.es.length) (n.hix a.to) (some (num,at',tr))
noncomputable def yC (n:Net):Nat->Run->Nat->Option (Nat × Nat × Nat)->Run
 | 0,R,_,_=>R
 | f + 1,R,h,c=>if n.asks h = [] then R.push (zl h c) else zV n (yC n f) (R.push (zl h c)) R.es.length 0 1
structure SB (B:Nat) (R:Run):Prop where
 es:R.es.length<=B
 pu:∀ u ∈ R.puts,u.length<=B
 py:R.pays.length<=B
 tk:∀ v ∈ R.taken,v<=B
variable {B:Nat}
theorem SB.mono {C:Nat} (h:SB B R) (hc:B<=C):SB C R:=⟨Qk h.es hc,fun u hu=>Qk (h.pu u hu) hc,Qk h.py hc,fun v hv=>Qk (h.tk v hv) hc⟩
theorem SB.push (h:SB B R) (e:Er):SB (B + 1) (R.push e):=⟨by simp [Run.push];exact h.es,fun u hu=>Nat.le_succ_of_le (h.pu u hu),Nat.le_succ_of_le h.py,fun v hv=>Nat.le_succ_of_le (h.tk v hv)⟩
theorem SB.setE (h:SB B R) (i:Nat) (e:Er):SB B (R.setE i e):=⟨by simp [Run.setE];exact h.es,h.pu,h.py,h.tk⟩
theorem mem_set {α:Type} {xs:List α} {y v:α} (h:v ∈ xs.set k y):v ∈ xs\/v = y:=by
 obtain ⟨i,hi⟩:=mem_iff_getElem?.mp h
 rw [Qd] at hi
 split at hi
 ·split at hi
  ·exact .inr (by cases hi;rfl)
  ·cases hi
 ·exact .inl (Qb hi)
theorem SB.share (h:SB B R) (n:Net) (a:Ask) (tr x:Nat):SB (B + 1) (R.share n a tr x):=by
 unfold Run.share
 split
 ·exact h.mono (by omega)
 ·rename_i k _
  split
  ·refine ⟨Nat.le_succ_of_le h.es,fun u hu=>?_,Nat.le_succ_of_le h.py,fun v hv=>Nat.le_succ_of_le (h.tk v hv)⟩
   rcases mem_set hu with hu | rfl
   ·exact Nat.le_succ_of_le (h.pu u hu)
   ·rw [Qo,Qw]
    by_cases hk:k < R.puts.length
    ·have:=h.pu (R.puts.getD k []) (by rw [Q8,Q0 hk];exact getElem_mem _)
     omega
    ·rw [Q8,getElem?_eq_none (by omega)]
     simp
  ·exact h.mono (by omega)
theorem zbe (R:Run) (n:Net) (a:Ask) (tr x:Nat):(R.share n a tr x).es = R.es/\(R.share n a tr x).puts.length = R.puts.length/\(R.share n a tr x).taken = R.taken/\(R.share n a tr x).pays = R.pays/\(R.share n a tr x).came = R.came:=by
 unfold Run.share
 split
 ·exact ⟨rfl,rfl,rfl,rfl,rfl⟩
 ·split
  ·exact ⟨rfl,by simp [Run.setP],rfl,rfl,rfl⟩
  ·exact ⟨rfl,rfl,rfl,rfl,rfl⟩
variable {kE kR:Addr} {q1 q2:List FT.T->Mem->Out FT.T} {at':Nat} {g:Run->Nat->Option (Nat × Nat × Nat)->Run}
section
variable {b:Nat}
noncomputable def Lv (kE kR:Addr) (n:Net) (b r:Nat) (R':Run) (M:Mem):FT.T->Mem->Prop:=fun t M'=>t = .non/\Kp b M M'/\∃ l',RunAt kE kR (zg n) b r l' M' R'
theorem any_eq {p:Pu} (h:n.ps[k]? = some p) (M:Mem):eqA (.str p.earns) (.str "any") M = .ok (.bl (n.any k)) M:=by
 unfold Net.any
 rw [Q8,h]
 rfl
theorem zjW (wn:WN n) (hB:B < 100000) {num tr:Nat} {a:Ask} 
 (h:RunAt kE kR (zg n) b r l M R) (sb:SB B R) (hp:R.puts.length = n.ps.length) (he:R.es[num]? = some e) (hh:e.house < n.hs.length) (ha:(n.asks e.house)[at']? = some a)
 (hg:∀ (l:Lay) (M:Mem) (R':Run),R' = (R.setE num { e with ph:=.waits at' tr,asked:=some R.es.length }).share n a tr R.es.length->RunAt kE kR (zg n) b r l M R'->Ok (q2 [.ref r,nT (n.hix a.to),clT (some (num,at',tr))] M) (Lv kE kR n b r (g R' (n.hix a.to) (some (num,at',tr))) M)) :
  Ok (qh 4 7 (zaX kE kR q1 q2) [.ref r,nT num,nT at',nT tr] M) (Lv kE kR n b r (zV n g R num at' tr) M):=by
 have w:=wn.as e.house a (Qb ha)
 have e0:zV n g R num at' tr = g ((R.setE num { e with ph:=.waits at' tr,asked:=some R.es.length }).share n a tr R.es.length) (n.hix a.to) (some (num,at',tr)):=by
  unfold zV
  rw [he]
  dsimp only
  rw [ha]
 rw [e0]
 refine yD rfl ?_
 unfold zaX
 obtain ⟨x,hx,hc⟩:=h.at_e he
 have ln:qF (.ref l.a) M = .ok (nT R.es.length) M:=by
  unfold qF zat zy
  simp only [h.er]
  simp [h.el]
 obtain ⟨h1,bx⟩:=h.setE hx he { e with ph:=.waits at' tr }
 have s1:=zaH (f:="state") (y:=.tup [.str "waits",nT at',nT tr]) (fs':=erF { e with ph:=.waits at' tr }) hc rfl (by simp [erF])
 have he1:(R.setE num { e with ph:=.waits at' tr }).es[num]? = some { e with ph:=.waits at' tr }:=by
  show (R.es.set num _)[num]? = _
  rw [Qd,if_pos rfl,if_pos (List.getElem?_eq_some_iff.mp he).1]
 obtain ⟨h2,_⟩:=h1.setE hx he1 { e with ph:=.waits at' tr,asked:=some R.es.length }
 have ss:(R.setE num { e with ph:=.waits at' tr }).setE num { e with ph:=.waits at' tr,asked:=some R.es.length } = R.setE num { e with ph:=.waits at' tr,asked:=some R.es.length }:=by
  show ({ R with es:=(R.es.set num _).set num _ }:Run) = _
  rw [List.set_set]
  rfl
 rw [ss] at h2
 have hc1:(M.set x (.ins kE (erF { e with ph:=.waits at' tr })))[x]? = some (.ins kE (erF { e with ph:=.waits at' tr })):=get_set hc
 have s2:=zaH (f:="asked") (y:=nT R.es.length) (fs':=erF { e with ph:=.waits at' tr,asked:=some R.es.length }) hc1 rfl (by simp [erF])
 simp_arith [zP h he hh,yp (f:=zO) ha,yi,h.errands,ln,yB,h.er,yp (f:=FT.T.ref) hx,s1,h1.errands,h1.er,s2,zc4 h2 wn w]
 generalize hM2:(M.set x (.ins kE (erF { e with ph:=.waits at' tr }))).set x (.ins kE (erF { e with ph:=.waits at' tr,asked:=some R.es.length })) = M2 at h2 ⊢
 have k2:Kp b M M2:=by rw [← hM2];exact (Kp.set _ _ bx).trans (Kp.set _ _ bx)
 have hnt:=h2.net
 have fin:∀ (l3:Lay) (M3:Mem),Kp b M M3->RunAt kE kR (zg n) b r l3 M3 ((R.setE num { e with ph:=.waits at' tr,asked:=some R.es.length }).share n a tr R.es.length)->
   Ok ((zah kE kR [zg n,zO a] M3).bind fun y M=>(q2 [.ref r,y,.tup [nT num,nT at',nT tr]] M).bind fun _ M=>.ok .non M) (Lv kE kR n b r (g ((R.setE num { e with ph:=.waits at' tr,asked:=some R.es.length }).share n a tr R.es.length) (n.hix a.to) (some (num,at',tr))) M):=by
  intro l3 M3 k3 h3
  rw [zme wn w]
  simp_arith [and_self]
  refine Ok.bind (hg l3 M3 _ rfl h3) ?_
  rintro t M4 ⟨rfl,k4,l4,h4⟩
  try simp_arith [and_self]
  exact Ok.ret ⟨rfl,k3.trans k4,l4,h4⟩
 cases q:n.pof a with
 | none=>
  have i1:∀ M,za9 (onT none) .non M = .ok (.bl false) M:=fun _=>rfl
  have e1:(R.setE num { e with ph:=.waits at' tr,asked:=some R.es.length }).share n a tr R.es.length = R.setE num { e with ph:=.waits at' tr,asked:=some R.es.length }:=by unfold Run.share;rw [q]
  simp_arith [i1,hnt]
  exact fin l M2 k2 (by rw [e1];exact h2)
 | some k=>
  have hk:=w.plt q
  rw [show onT (some k) = .int (k:Int) from rfl]
  have i1:∀ M,za9 (.int (k:Int)) .non M = .ok (.bl true) M:=fun _=>rfl
  have hu:(R.setE num { e with ph:=.waits at' tr,asked:=some R.es.length }).puts[k]? = some (R.puts[k]'(by omega)):=Q0 (show k < R.puts.length by omega)
  obtain ⟨y,hy,hcy⟩:=h2.at_p hu
  have gd:R.puts.getD k [] = R.puts[k]'(by omega):=by rw [Q8,Q0 (show k < R.puts.length by omega)];rfl
  obtain ⟨h3,by3⟩:=h2.setP hy hu (R.puts.getD k [] ++ [R.es.length])
  have ap:=zai (t:=nT R.es.length) hcy (by rw [Qi,sizeLine_eq];have:=sb.pu _ (getElem_mem (show k < R.puts.length by omega));omega)
  have hps:n.ps[k]? = some n.ps[k]:=Q0 hk
  have hpa:atI (n.ps.map puT) (k:Int) = some (.tup [.str n.ps[k].name,.str n.ps[k].earns,.int n.ps[k].per]):=yp (f:=puT) hps
  have lc:zK (.ref y) M2 = .ok (.ref y) M2:=qS hcy
  unfold zg at hnt
  by_cases hs:tr = 1\/n.any k = true
  ·have e1:(R.setE num { e with ph:=.waits at' tr,asked:=some R.es.length }).share n a tr R.es.length = (R.setE num { e with ph:=.waits at' tr,asked:=some R.es.length }).setP k (R.puts.getD k [] ++ [R.es.length]):=by
    unfold Run.share
    rw [q]
    dsimp only
    rw [if_pos hs]
    rfl
   have h3':RunAt kE kR (zg n) b r l (M2.set y (.lst (((R.puts[k]'(by omega)).map nT) ++ [nT R.es.length]))) ((R.setE num { e with ph:=.waits at' tr,asked:=some R.es.length }).share n a tr R.es.length):=by
    rw [e1,gd]
    rw [gd,Qs] at h3
    exact h3
   have k3:Kp b M (M2.set y (.lst (((R.puts[k]'(by omega)).map nT) ++ [nT R.es.length]))):=k2.trans (Kp.set _ _ by3)
   have fn:=fin l _ k3 h3'
   have hn3:=h3'.net
   by_cases z:tr = 1
   ·have zt:((tr:Int) == 1) = true:=by rw [z];rfl
    simp_arith [i1,zt,h2.putsF,h2.pu,yp (f:=FT.T.ref) hy,lc,ap,hn3]
    exact fn
   ·have zt:((tr:Int) == 1) = false:=by simp;omega
    have ha':n.any k = true:=hs.resolve_left z
    simp_arith [i1,zt,hnt,hpa,any_eq hps,ha',h2.putsF,h2.pu,yp (f:=FT.T.ref) hy,lc,ap,hn3]
    exact fn
  ·have e1:(R.setE num { e with ph:=.waits at' tr,asked:=some R.es.length }).share n a tr R.es.length = R.setE num { e with ph:=.waits at' tr,asked:=some R.es.length }:=by
    unfold Run.share
    rw [q]
    dsimp only
    rw [if_neg hs]
   have zt:((tr:Int) == 1) = false:=by
    have:¬ tr = 1:=fun z=>hs (.inl z)
    simp;omega
   have ha':n.any k = false:=by
    cases z:n.any k with
    | false=>rfl
    | true=>exact absurd (.inr z) hs
   have fn:=fin l M2 k2 (by rw [e1];exact h2)
   unfold zg at fn
   simp_arith [i1,zt,hnt,hpa,any_eq hps,ha']
   exact fn
theorem zbE (R:Run) (e:Er):(R.push e).es[R.es.length]? = some e:=List.getElem?_concat_length
theorem zhW (wn:WN n):∀ (f m:Nat),2 * f<=m->∀ {B:Nat} {h:Nat} {c:Option (Nat × Nat × Nat)} {l:Lay} {M:Mem} {R:Run},B + 2 * f < 100000->RunAt kE kR (zg n) b r l M R->b<=M.length->SB B R->R.puts.length = n.ps.length->h < n.hs.length->n.hs.length<=h + f->
  Ok ((zi kE kR m).2 [.ref r,nT h,clT c] M) (Lv kE kR n b r (yC n f R h c) M)
 | 0,m,_,B,h,c,l,M,R,_,_,_,_,_,hh,hf=>absurd hh (by omega)
 | f + 1,0,hm,B,h,c,l,M,R,_,_,_,_,_,hh,hf=>absurd hm (by omega)
 | f + 1,m + 1,hm,B,h,c,l,M,R,hB,ra,hbM,sb,hp,hh,hf=>by
  show Ok (qh 3 4 (zaL kE kR (zi kE kR m).1 (zi kE kR m).2) [.ref r,nT h,clT c] M) _
  refine yD rfl ?_
  unfold zaL
  have i0:qR kE kR [.ref M.length,nT h,clT c] (M ++ [.ins kE []]) = .ok .non (M ++ [.ins kE (erF (zl h c))]):=by
   unfold qR zdN
   have st:∀ (fs fs':List (Str × FT.T)) (f:Str) (y:FT.T),zcz f y fs = fs'->fs.length < 1000->zav [kE] f (.ref M.length) y (M ++ [.ins kE fs]) = .ok () (M ++ [.ins kE fs']):=fun fs fs' f y e hl=>by
    rw [zaH (x:=M.length) z9 e hl]
    congr 1
    rw [set_append_right _ _ (Q4 _),Nat.sub_self]
    rfl
   simp_arith [yB,st [] [("house",nT h)] "house" (nT h) rfl (by simp),st [("house",nT h)] [("house",nT h),("caller",clT c)] "caller" (clT c) rfl (by simp),st [("house",nT h),("caller",clT c)] [("house",nT h),("caller",clT c),("state",.tup [.str "works"])] "state" (.tup [.str "works"]) rfl (by simp),st [("house",nT h),("caller",clT c),("state",.tup [.str "works"])] [("house",nT h),("caller",clT c),("state",.tup [.str "works"]),("is_lost",.bl false)] "is_lost" (.bl false) rfl (by simp),st [("house",nT h),("caller",clT c),("state",.tup [.str "works"]),("is_lost",.bl false)] [("house",nT h),("caller",clT c),("state",.tup [.str "works"]),("is_lost",.bl false),("asked",.non)] "asked" .non rfl (by simp),st [("house",nT h),("caller",clT c),("state",.tup [.str "works"]),("is_lost",.bl false),("asked",.non)] (erF (zl h c)) "stood" .non rfl (by simp)]
  have ra1:=ra.push hbM (zl h c)
  have er1:(M ++ [Cell.ins kE (erF (zl h c))])[l.a]? = some (.lst (l.es.map .ref)):=by rw [Q7 (zS ra.er)];exact ra.er
  have ap:=zai (t:=.ref M.length) er1 (by rw [Qi,sizeLine_eq,ra.el];have:=sb.es;omega)
  rw [show l.es.map FT.T.ref ++ [.ref M.length] = (l.es ++ [M.length]).map .ref from by simp] at ap
  have kp:Kp b M ((M ++ [Cell.ins kE (erF (zl h c))]).set l.a (.lst ((l.es ++ [M.length]).map .ref))):=(Kp.app _ _ hbM).trans (Kp.set _ _ (ra.lo (l.a,.lst (l.es.map .ref)) (.tail _ (.head _))))
  have mk:zcj kE (qR kE kR) (yb (zb 1) (yb (zb 2) zd)) [some (.ref r),some (nT h),some (clT c),none] M = .ok (.ref M.length) (M ++ [.ins kE (erF (zl h c))]):=by
   simp_arith [zcj,i0]
   rfl
  simp_arith [yi,ra.errands,qS ra.er,mk,ap]
  generalize hM1:(M ++ [Cell.ins kE (erF (zl h c))]).set l.a (.lst ((l.es ++ [M.length]).map .ref)) = M1 at ra1 kp ⊢
  have ln:qF (.ref l.a) M1 = .ok (.int ((R.es.length:Int) + 1)) M1:=by
   unfold qF zat zy
   have:=ra1.er
   simp only at this
   simp only [this]
   simp [ra.el]
  have sub1:(R.es.length:Int) + 1 - 1 = (R.es.length:Int):=by omega
  have hn1:(R.push (zl h c)).es[R.es.length]? = some (zl h c):=zbE R _
  have as1:=zP ra1 hn1 hh
  simp_arith [ra1.errands,ln,sub1,as1]
  by_cases h0:n.asks h = []
  ·have e1:yC n (f + 1) R h c = R.push (zl h c):=by unfold yC;rw [if_pos h0]
   rw [e1]
   have:(zl h c).house = h:=rfl
   rw [this,h0]
   simp_arith [and_self]
   exact Ok.ret ⟨rfl,kp,_,ra1⟩
  ·have e1:yC n (f + 1) R h c = zV n (yC n f) (R.push (zl h c)) R.es.length 0 1:=by rw [yC,if_neg h0]
   rw [e1]
   obtain ⟨a,as,hq⟩:=List.exists_cons_of_ne_nil h0
   have ha:(n.asks (zl h c).house)[0]? = some a:=by show (n.asks h)[0]? = _;rw [hq];rfl
   have w:=wn.as h a (by rw [hq];exact .head _)
   have hlen:decide ((0:Int) < (((n.asks (zl h c).house).map zO).length:Int)) = true:=Qx (by
    rw [Qi]
    show (0:Int) < ((n.asks h).length:Int)
    rw [hq];simp)
   simp_arith [hlen]
   obtain ⟨m',rfl⟩:∃ m',m = m' + 1:=⟨m - 1,by omega⟩
   refine Ok.bind (zjW wn (q1:=(zi kE kR m').1) (q2:=(zi kE kR m').2) (g:=yC n f) (B:=B + 1) (by omega) ra1 (sb.push _) hp hn1 hh ha ?_) ?_
   ·intro l3 M3 R3 e3 ra3
    have hM3:b<=M3.length:=Qk (ra3.lo _ (.head _)) (Nat.le_of_lt (zS ra3.run))
    have sl:=zbe ((R.push (zl h c)).setE R.es.length { zl h c with ph:=.waits 0 1,asked:=some (R.push (zl h c)).es.length }) n a 1 (R.push (zl h c)).es.length
    refine zhW wn f m' (by omega) (B:=B + 2) (by omega) ra3 hM3 ?_ ?_ (by exact w.lt) (by have:=w.up;omega)
    ·rw [e3]
     exact ((sb.push _).setE _ _).share n a 1 _
    ·rw [e3,sl.2.1]
     exact hp
   ·rintro t M2 ⟨rfl,k2,l2,h2⟩
    try simp_arith [and_self]
    exact Ok.ret ⟨rfl,kp.trans k2,l2,h2⟩
end
noncomputable def zae (n:Net) (g:Run->Nat->Str->Run) (R:Run) (c:Nat × Nat × Nat) (w:Str):Run:=match R.es[c.1]? with
 | none=>R
 | some e=>if (w == ("well":Str)) = true/\c.2.1 + 1 < (n.asks e.house).length then zV n (yC n 4) R c.1 (c.2.1 + 1) 1
  else if (w == ("well":Str)) = true\/((w == ("spent":Str)) = true/\((n.asks e.house)[c.2.1]?).any (·.hears) = true) then g R c.1 w
  else R.setE c.1 { e with ph:=.stands c.2.1 c.2.2,stood:=some R.came }
noncomputable def qV (n:Net):Nat->Run->Nat->Str->Run
 | 0,R,_,_=>R
 | f + 1,R,i,w=>match R.es[i]? with
  | none=>R
  | some e=>match e.caller with
   | none=>R.setE i { e with ph:=.ended w }
   | some c=>if e.lost = true then R.setE i { e with ph:=.ended w } else zae n (qV n f) (R.setE i { e with ph:=.ended w }) c w
def zdD (n:Net) (e:Er):Prop:=match e.ph with
 | .waits a t=>a < (n.asks e.house).length/\1<=t
 | .stands a t=>a < (n.asks e.house).length/\e.stood.isSome = true/\1<=t
 | _=>True
structure RI (n:Net) (R:Run):Prop where
 hs:∀ (i:Nat) (e:Er),R.es[i]? = some e->e.house < n.hs.length
 cl:∀ (i:Nat) (e:Er) (c:Nat × Nat × Nat),R.es[i]? = some e->e.caller = some c->c.1 < i/\∃ ce,R.es[c.1]? = some ce/\ce.house < e.house/\c.2.1 < (n.asks ce.house).length
 ph:∀ (i:Nat) (e:Er),R.es[i]? = some e->zdD n e
 pl:R.puts.length = n.ps.length
variable {e' q:Er} {j:Nat}
theorem z8 {es:List Er} (h:(es.set i e')[j]? = some q):(j = i/\q = e'/\i < es.length)\/(j ≠ i/\es[j]? = some q):=by
 rw [Qd] at h
 split at h
 ·rename_i z
  split at h
  ·cases h;exact .inl ⟨z.symm,rfl,by omega⟩
  ·cases h
 ·rename_i z
  exact .inr ⟨fun y=>z y.symm,h⟩
theorem RI.setE (h:RI n R) (he:R.es[i]? = some e) (h1:e'.house = e.house) (h2:e'.caller = e.caller) (h3:zdD n e'):RI n (R.setE i e'):=by
 have fwd:∀ {j:Nat} {q:Er},R.es[j]? = some q->∃ q',(R.setE i e').es[j]? = some q'/\q'.house = q.house:=fun {j q} hq=>by
  show ∃ q',(R.es.set i e')[j]? = some q'/\_
  rw [Qd]
  by_cases z:i = j
  ·rw [if_pos z,if_pos (List.getElem?_eq_some_iff.mp he).1]
   subst z
   rw [he] at hq
   cases hq
   exact ⟨e',rfl,h1⟩
  ·rw [if_neg z];exact ⟨q,hq,rfl⟩
 refine ⟨fun j q hq=>?_,fun j q c hq hc=>?_,fun j q hq=>?_,h.pl⟩
 ·rcases z8 hq with ⟨rfl,rfl,_⟩ | ⟨_,hq⟩
  ·rw [h1];exact h.hs _ _ he
  ·exact h.hs _ _ hq
 ·rcases z8 hq with ⟨rfl,rfl,_⟩ | ⟨_,hq⟩
  ·rw [h2] at hc
   obtain ⟨a,ce,b1,b2,b3⟩:=h.cl _ _ _ he hc
   obtain ⟨q',d1,d2⟩:=fwd b1
   exact ⟨a,q',d1,by rw [d2,h1];exact b2,by rw [d2];exact b3⟩
  ·obtain ⟨a,ce,b1,b2,b3⟩:=h.cl _ _ _ hq hc
   obtain ⟨q',d1,d2⟩:=fwd b1
   exact ⟨a,q',d1,by rw [d2];exact b2,by rw [d2];exact b3⟩
 ·rcases z8 hq with ⟨rfl,rfl,_⟩ | ⟨_,hq⟩
  ·exact h3
  ·exact h.ph _ _ hq
section
variable {b:Nat}
theorem zms (w s:Str) (M:Mem):eqA (.str w) (.str s) M = .ok (.bl (w == s)) M:=rfl
theorem zjr (w s:Str) (M:Mem):neA (.str w) (.str s) M = .ok (.bl (!(w == s))) M:=rfl
theorem ziq (wn:WN n) (hB:B < 90000) {num tr:Nat} {a:Ask} 
 (h:RunAt kE kR (zg n) b r l M R) (sb:SB B R) (hp:R.puts.length = n.ps.length) (he:R.es[num]? = some e) (hh:e.house < n.hs.length) (ha:(n.asks e.house)[at']? = some a) :
  Ok (y3 kE kR [.ref r,nT num,nT at',nT tr] M) (Lv kE kR n b r (zV n (yC n 4) R num at' tr) M):=by
 show Ok (qh 4 7 (zaX kE kR (zi kE kR 11).1 (zi kE kR 11).2) [.ref r,nT num,nT at',nT tr] M) _
 have w:=wn.as e.house a (Qb ha)
 refine zjW wn (B:=B) (by omega) h sb hp he hh ha ?_
 intro l3 M3 R3 e3 ra3
 have hM3:b<=M3.length:=Qk (ra3.lo _ (.head _)) (Nat.le_of_lt (zS ra3.run))
 have sl:=zbe (R.setE num { e with ph:=.waits at' tr,asked:=some R.es.length }) n a tr R.es.length
 refine zhW wn 4 11 (by omega) (B:=B + 1) (by omega) ra3 hM3 (by rw [e3];exact (sb.setE _ _).share n a tr _) (by rw [e3,sl.2.1];exact hp) w.lt (by have:=wn.hl;omega)
theorem ziO (wn:WN n) {g:Run->Nat->Str->Run} (hB:B < 90000) {c:Nat × Nat × Nat} {w:Str} 
 (h:RunAt kE kR (zg n) b r l M R) (sb:SB B R) (ri:RI n R) (he:R.es[c.1]? = some e) (hat:c.2.1 < (n.asks e.house).length)
 (hg:Ok (q1 [.ref r,nT c.1,.str w] M) (Lv kE kR n b r (g R c.1 w) M)) :
  Ok (qh 3 6 (zd5 kE kR q1 q2) [.ref r,clT (some c),.str w] M) (Lv kE kR n b r (zae n g R c w) M):=by
 have hh:=ri.hs _ _ he
 generalize hR:zae n g R c w = R'
 have e0:R' = if (w == ("well":Str)) = true/\c.2.1 + 1 < (n.asks e.house).length then zV n (yC n 4) R c.1 (c.2.1 + 1) 1
  else if (w == ("well":Str)) = true\/((w == ("spent":Str)) = true/\((n.asks e.house)[c.2.1]?).any (·.hears) = true) then g R c.1 w
  else R.setE c.1 { e with ph:=.stands c.2.1 c.2.2,stood:=some R.came }:=by
  rw [← hR]
  unfold zae
  rw [he]
 obtain ⟨x,hx,hc⟩:=h.at_e he
 have ha:(n.asks e.house)[c.2.1]? = some (n.asks e.house)[c.2.1]:=Q0 hat
 have haa:atI ((n.asks e.house).map zO) (c.2.1:Int) = some (.tup [.str (n.asks e.house)[c.2.1].to,.int (n.asks e.house)[c.2.1].tries,opS (n.asks e.house)[c.2.1].purse,.str (n.asks e.house)[c.2.1].word,.bl (n.asks e.house)[c.2.1].hears,.bl (n.asks e.house)[c.2.1].sure]):=yp (f:=zO) ha
 have a4:∀ (t0 t1 t2 t3 t4 t5:FT.T),atI [t0,t1,t2,t3,t4,t5] 4 = some t4:=fun _ _ _ _ _ _=>rfl
 refine yD rfl ?_
 unfold zd5
 rw [show clT (some c) = .tup [nT c.1,nT c.2.1,nT c.2.2] from rfl]
 have hl:(((n.asks e.house).map zO).length:Int) = ((n.asks e.house).length:Int):=by rw [Qi]
 simp_arith [zP h he hh,zms,hl]
 have s1:=zaH (f:="state") (y:=.tup [.str "stands",nT c.2.1,nT c.2.2]) (fs':=erF { e with ph:=.stands c.2.1 c.2.2 }) hc rfl (by simp [erF])
 obtain ⟨h1,bx⟩:=h.setE hx he { e with ph:=.stands c.2.1 c.2.2 }
 have hc1:(M.set x (.ins kE (erF { e with ph:=.stands c.2.1 c.2.2 })))[x]? = some (.ins kE (erF { e with ph:=.stands c.2.1 c.2.2 })):=get_set hc
 have s2:=zaH (f:="stood") (y:=nT R.came) (fs':=erF { e with ph:=.stands c.2.1 c.2.2,stood:=some R.came }) hc1 rfl (by simp [erF])
 have he1:(R.setE c.1 { e with ph:=.stands c.2.1 c.2.2 }).es[c.1]? = some { e with ph:=.stands c.2.1 c.2.2 }:=by
  show (R.es.set c.1 _)[c.1]? = _
  rw [Qd,if_pos rfl,if_pos (List.getElem?_eq_some_iff.mp he).1]
 obtain ⟨h2,_⟩:=h1.setE hx he1 { e with ph:=.stands c.2.1 c.2.2,stood:=some R.came }
 have ss:(R.setE c.1 { e with ph:=.stands c.2.1 c.2.2 }).setE c.1 { e with ph:=.stands c.2.1 c.2.2,stood:=some R.came } = R.setE c.1 { e with ph:=.stands c.2.1 c.2.2,stood:=some R.came }:=by
  show ({ R with es:=(R.es.set c.1 _).set c.1 _ }:Run) = _
  rw [List.set_set]
  rfl
 rw [ss] at h2
 have k2:Kp b M ((M.set x (.ins kE (erF { e with ph:=.stands c.2.1 c.2.2 }))).set x (.ins kE (erF { e with ph:=.stands c.2.1 c.2.2,stood:=some R.came }))):=(Kp.set _ _ bx).trans (Kp.set _ _ bx)
 have ca:zaq [kR] "came" (.ref r) (M.set x (.ins kE (erF { e with ph:=.stands c.2.1 c.2.2 }))) = .ok (nT R.came) (M.set x (.ins kE (erF { e with ph:=.stands c.2.1 c.2.2 }))):=h1.came
 by_cases hw:(w == ("well":Str)) = true
 ·by_cases hl2:c.2.1 + 1 < (n.asks e.house).length
  ·rw [if_pos ⟨hw,hl2⟩] at e0
   rw [e0]
   have d1:decide ((c.2.1:Int) + 1 < ((n.asks e.house).length:Int)) = true:=Qx (by omega)
   simp_arith [hw,d1]
   refine Ok.bind (ziq wn hB h sb ri.pl he hh (at':=c.2.1 + 1) (tr:=1) (Q0 hl2)) ?_
   rintro t M2 ⟨rfl,k2,l2,h2⟩
   try simp_arith [and_self]
   exact Ok.ret ⟨rfl,k2,l2,h2⟩
  ·rw [if_neg fun z=>hl2 z.2,if_pos (.inl hw)] at e0
   rw [e0]
   have d1:decide ((c.2.1:Int) + 1 < ((n.asks e.house).length:Int)) = false:=Qy (by omega)
   simp_arith [hw,d1]
   refine Ok.bind hg ?_
   rintro t M2 ⟨rfl,k2,l2,h2⟩
   try simp_arith [and_self]
   exact Ok.ret ⟨rfl,k2,l2,h2⟩
 ·have hw':(w == ("well":Str)) = false:=by simpa using hw
  rw [if_neg fun z=>hw z.1] at e0
  by_cases hs:(w == ("spent":Str)) = true
  ·by_cases hh2:(n.asks e.house)[c.2.1].hears = true
   ·rw [if_pos (.inr ⟨hs,by rw [ha];exact hh2⟩)] at e0
    rw [e0]
    simp_arith [hw',hs,haa,a4,hh2]
    refine Ok.bind hg ?_
    rintro t M2 ⟨rfl,k2,l2,h2⟩
    try simp_arith [and_self]
    exact Ok.ret ⟨rfl,k2,l2,h2⟩
   ·have hh3:(n.asks e.house)[c.2.1].hears = false:=by simpa using hh2
    rw [if_neg (by
     rintro (z | ⟨_,z⟩)
     ·exact hw z
     ·rw [ha] at z;exact hh2 z)] at e0
    rw [e0]
    simp_arith [hw',hs,haa,a4,hh3,yB,yi,h.errands,h.er,yp (f:=FT.T.ref) hx,s1,ca,h1.errands,h1.er,s2]
    exact Ok.ret ⟨rfl,k2,l,h2⟩
  ·have hs':(w == ("spent":Str)) = false:=by simpa using hs
   rw [if_neg (by
    rintro (z | ⟨z,_⟩)
    ·exact hw z
    ·exact hs z)] at e0
   rw [e0]
   simp_arith [hw',hs',yB,yi,h.errands,h.er,yp (f:=FT.T.ref) hx,s1,ca,h1.errands,h1.er,s2]
   exact Ok.ret ⟨rfl,k2,l,h2⟩
theorem zhN (wn:WN n):∀ (f m:Nat),2 * f<=m->∀ {B i:Nat} {w:Str} {e:Er} {l:Lay} {M:Mem} {R:Run},B < 90000->RunAt kE kR (zg n) b r l M R->SB B R->RI n R->R.es[i]? = some e->e.house < f->
  Ok ((yn kE kR m).1 [.ref r,nT i,.str w] M) (Lv kE kR n b r (qV n f R i w) M)
 | 0,m,_,B,i,w,e,l,M,R,_,_,_,_,_,hf=>absurd hf (by omega)
 | f + 1,0,hm,B,i,w,e,l,M,R,_,_,_,_,_,hf=>absurd hm (by omega)
 | f + 1,m + 1,hm,B,i,w,e,l,M,R,hB,h,sb,ri,he,hf=>by
  show Ok (qh 3 4 (zbs kE kR (yn kE kR m).1 (yn kE kR m).2) [.ref r,nT i,.str w] M) _
  refine yD rfl ?_
  unfold zbs
  obtain ⟨x,hx,hc⟩:=h.at_e he
  have s1:=zaH (f:="state") (y:=.tup [.str "ended",.str w]) (fs':=erF { e with ph:=.ended w }) hc rfl (by simp [erF])
  obtain ⟨h1,bx⟩:=h.setE hx he { e with ph:=.ended w }
  have hc1:(M.set x (.ins kE (erF { e with ph:=.ended w })))[x]? = some (.ins kE (erF { e with ph:=.ended w })):=get_set hc
  have f1:=yE (f:="caller") hc1 rfl
  have f2:=yE (f:="is_lost") hc1 rfl
  have k1:Kp b M (M.set x (.ins kE (erF { e with ph:=.ended w }))):=Kp.set _ _ bx
  generalize hR:qV n (f + 1) R i w = R'
  simp_arith [yi,h.errands,h.er,yp (f:=FT.T.ref) hx,yB,s1,f1]
  generalize hM1:M.set x (.ins kE (erF { e with ph:=.ended w })) = M1 at h1 f1 f2 k1 ⊢
  cases q:e.caller with
  | none=>
   have e1:qV n (f + 1) R i w = R.setE i { e with ph:=.ended w }:=by unfold qV;rw [he];dsimp only;rw [q]
   have i1:∀ M,za9 (clT none) .non M = .ok (.bl false) M:=fun _=>rfl
   rw [← hR,e1]
   have q':({ e with ph:=.ended w }:Er).caller = none:=q
   rw [q] at f1
   simp_arith [i1]
   exact Ok.ret ⟨rfl,k1,l,h1⟩
  | some c=>
   have i1:∀ M,za9 (clT (some c)) .non M = .ok (.bl true) M:=fun _=>rfl
   cases ql:e.lost with
   | true=>
    have e1:qV n (f + 1) R i w = R.setE i { e with ph:=.ended w }:=by unfold qV;rw [he];dsimp only;rw [q];dsimp only;rw [if_pos ql]
    rw [← hR,e1]
    rw [ql] at f2
    simp_arith [i1,f2]
    exact Ok.ret ⟨rfl,k1,l,h1⟩
   | false=>
    have e1:qV n (f + 1) R i w = zae n (qV n f) (R.setE i { e with ph:=.ended w }) c w:=by rw [qV,he];dsimp only;rw [q];dsimp only;rw [if_neg (by rw [ql];simp)]
    rw [← hR,e1]
    rw [ql] at f2
    rw [q] at f1
    have ri1:RI n (R.setE i { e with ph:=.ended w }):=ri.setE he rfl rfl True.intro
    have hei:(R.setE i { e with ph:=.ended w }).es[i]? = some { e with ph:=.ended w }:=by
     show (R.es.set i _)[i]? = _
     rw [Qd,if_pos rfl,if_pos (List.getElem?_eq_some_iff.mp he).1]
    obtain ⟨_,ce,c1,c2,c3⟩:=ri1.cl i _ c hei q
    obtain ⟨m',rfl⟩:∃ m',m = m' + 1:=⟨m - 1,by omega⟩
    simp_arith [i1,f2,f1]
    refine Ok.bind (ziO wn (q1:=(yn kE kR m').1) (q2:=(yn kE kR m').2) (g:=qV n f) hB h1 (sb.setE _ _) ri1 c1 c3 ?_) ?_
    ·exact zhN wn f m' (by omega) hB h1 (sb.setE _ _) ri1 c1 (by have c2':ce.house < e.house:=c2;omega)
    ·rintro t M2 ⟨rfl,k2,l2,h2⟩
     try simp_arith [and_self]
     exact Ok.ret ⟨rfl,k1.trans k2,l2,h2⟩
end
inductive Evt where
 | fresh
 | ends (i:Nat) (w:Str)
 | lost (i:Nat)
 | again (i:Nat)
 | up (i:Nat)
noncomputable def evT:Evt->FT.T
 | .fresh=>.tup [.str "fresh"]
 | .ends i w=>.tup [.str "ends",nT i,.str w]
 | .lost i=>.tup [.str "lost",nT i]
 | .again i=>.tup [.str "again",nT i]
 | .up i=>.tup [.str "up",nT i]
noncomputable def Ph.isW:Ph->Bool
 | .works=>true
 | _=>false
noncomputable def Ph.isS:Ph->Bool
 | .stands _ _=>true
 | _=>false
noncomputable def Ph.isE:Ph->Bool
 | .ended _=>true
 | _=>false
noncomputable def Ph.at1:Ph->Nat
 | .waits a _=>a
 | .stands a _=>a
 | _=>0
noncomputable def Ph.at2:Ph->Nat
 | .waits _ t=>t
 | .stands _ t=>t
 | _=>0
noncomputable def Run.er (R:Run) (i:Nat):Er:=R.es.getD i (zl 0 none)
theorem qC (h:R.es[i]? = some e):R.er i = e:=by unfold Run.er;rw [Q8,h];rfl
noncomputable def Net.ask (n:Net) (h k:Nat):Ask:=(n.asks h).getD k ⟨"",0,none,"",false,false⟩
theorem zdl {h:Nat} {a:Ask} (e:(n.asks h)[k]? = some a):n.ask h k = a:=by unfold Net.ask;rw [Q8,e];rfl
noncomputable def zbG (n:Net) (R:Run) (e:Er):Bool:=match e.caller with
 | none=>false
 | some c=>!(e.lost || e.ph.isE) && !(n.ask (R.er c.1).house c.2.1).sure
noncomputable def qz (n:Net) (e:Er):Bool:=e.ph.isS && ((n.ask e.house e.ph.at1).tries == 0 || decide ((e.ph.at2:Int) < (n.ask e.house e.ph.at1).tries))
noncomputable def zfO (n:Net) (R:Run) (e:Er):Bool:=match n.pof (n.ask e.house e.ph.at1) with
 | none=>true
 | some k=>decide (0 < (R.told n k).2)
noncomputable def qN (n:Net) (R:Run) (i:Nat):List Evt:=(if (R.er i).ph.isW = true then [.ends i "bad",.ends i "spent",.ends i "well"] else []) ++ (if zbG n R (R.er i) = true then [.lost i] else []) ++ (if qz n (R.er i) = true then [.again i] else []) ++ (if (R.er i).ph.isS = true then [.up i] else [])
noncomputable def Evt.isA:Evt->Bool
 | .again _=>true
 | _=>false
noncomputable def ze9 (n:Net) (R:Run) (i:Nat):List Evt:=(qN n R i).filter fun ev=>!ev.isA || zfO n R (R.er i)
variable {xs:List FT.T}
section
variable {b:Nat}
theorem phW (p:Ph) (M:Mem):∃ t ts,phT p = .tup (t :: ts)/\eqA t (.str "works") M = .ok (.bl p.isW) M/\eqA t (.str "stands") M = .ok (.bl p.isS) M/\neA t (.str "stands") M = .ok (.bl (!p.isS)) M/\eqA t (.str "ended") M = .ok (.bl p.isE) M:=by
 cases p with
 | works=>exact ⟨_,_,rfl,rfl,rfl,rfl,rfl⟩
 | waits a t=>exact ⟨_,_,rfl,rfl,rfl,rfl,rfl⟩
 | stands a t=>exact ⟨_,_,rfl,rfl,rfl,rfl,rfl⟩
 | ended w=>exact ⟨_,_,rfl,rfl,rfl,rfl,rfl⟩
theorem phS {p:Ph} (h:p.isS = true):phT p = .tup [.str "stands",nT p.at1,nT p.at2]:=by
 cases p with
 | stands a t=>rfl
 | _=>cases h
theorem zcA (h:e.ph.isS = true) (k:zdD n e):e.ph.at1 < (n.asks e.house).length:=by
 unfold zdD at k
 cases q:e.ph with
 | stands a t=>rw [q] at k;exact k.1
 | _=>rw [q] at h;cases h
theorem zel (h:e.ph.isS = true) (k:zdD n e):1<=e.ph.at2/\e.stood.isSome = true:=by
 unfold zdD at k
 cases q:e.ph with
 | stands a t=>rw [q] at k;exact ⟨k.2.2,k.2.1⟩
 | _=>rw [q] at h;cases h
theorem zid (h:RunAt kE kR (zg n) b r l M R) (ri:RI n R) (he:R.es[i]? = some e):zak kE kR [.ref r,nT i] M = .ok (.bl (zbG n R e)) M:=by
 unfold zak zdM
 obtain ⟨x,hx,hc⟩:=h.at_e he
 have f1:=yE (f:="caller") hc rfl
 have f2:=yE (f:="is_lost") hc rfl
 have f3:=yE (f:="state") hc rfl
 obtain ⟨t,ts,p1,_,_,_,p4⟩:=phW e.ph M
 rw [p1] at f3
 unfold zbG
 cases q:e.caller with
 | none=>
  rw [q] at f1
  have i1:∀ M,isN (clT none) .non M = .ok (.bl true) M:=fun _=>rfl
  simp_arith [yi,h.errands,h.er,yp (f:=FT.T.ref) hx,f1,i1]
 | some c=>
  rw [q] at f1
  have i1:∀ M,isN (.tup [nT c.1,nT c.2.1,nT c.2.2]) .non M = .ok (.bl false) M:=fun _=>rfl
  rw [show clT (some c) = .tup [nT c.1,nT c.2.1,nT c.2.2] from rfl] at f1
  obtain ⟨_,ce,c1,c2,c3⟩:=ri.cl i e c he q
  have ha:(n.asks ce.house)[c.2.1]? = some (n.asks ce.house)[c.2.1]:=Q0 c3
  have haa:atI ((n.asks ce.house).map zO) (c.2.1:Int) = some (.tup [.str (n.asks ce.house)[c.2.1].to,.int (n.asks ce.house)[c.2.1].tries,opS (n.asks ce.house)[c.2.1].purse,.str (n.asks ce.house)[c.2.1].word,.bl (n.asks ce.house)[c.2.1].hears,.bl (n.asks ce.house)[c.2.1].sure]):=yp (f:=zO) ha
  have a5:∀ (t0 t1 t2 t3 t4 t5:FT.T),atI [t0,t1,t2,t3,t4,t5] 5 = some t5:=fun _ _ _ _ _ _=>rfl
  dsimp only
  rw [qC c1,zdl ha]
  cases ql:e.lost with
  | true=>
   rw [ql] at f2
   simp_arith [yi,h.errands,h.er,yp (f:=FT.T.ref) hx,f1,i1,f2]
   rfl
  | false=>
   rw [ql] at f2
   cases qe:e.ph.isE with
   | true=>
    rw [qe] at p4
    simp_arith [yi,h.errands,h.er,yp (f:=FT.T.ref) hx,f1,i1,f2,f3,p4]
    rfl
   | false=>
    rw [qe] at p4
    simp_arith [yi,h.errands,h.er,yp (f:=FT.T.ref) hx,f1,i1,f2,f3,p4,zP h c1 (ri.hs _ _ c1),haa,a5]
    cases (n.asks ce.house)[c.2.1].sure <;> rfl
theorem zdL (h:RunAt kE kR (zg n) b r l M R) (ri:RI n R) (he:R.es[i]? = some e):zG kE kR [.ref r,nT i] M = .ok (.bl (qz n e)) M:=by
 unfold zG zcF
 obtain ⟨x,hx,hc⟩:=h.at_e he
 have f3:=yE (f:="state") hc rfl
 unfold qz
 cases qs:e.ph.isS with
 | false=>
  obtain ⟨t,ts,p1,_,_,p3,_⟩:=phW e.ph M
  rw [p1] at f3
  rw [qs] at p3
  simp_arith [yi,h.errands,h.er,yp (f:=FT.T.ref) hx,f3,p3]
  rfl
 | true=>
  rw [phS qs] at f3
  have hl:=zcA qs (ri.ph _ _ he)
  have ha:(n.asks e.house)[e.ph.at1]? = some (n.asks e.house)[e.ph.at1]:=Q0 hl
  have haa:atI ((n.asks e.house).map zO) (e.ph.at1:Int) = some (.tup [.str (n.asks e.house)[e.ph.at1].to,.int (n.asks e.house)[e.ph.at1].tries,opS (n.asks e.house)[e.ph.at1].purse,.str (n.asks e.house)[e.ph.at1].word,.bl (n.asks e.house)[e.ph.at1].hears,.bl (n.asks e.house)[e.ph.at1].sure]):=yp (f:=zO) ha
  rw [zdl ha]
  have ns:∀ M,neA (.str "stands") (.str "stands") M = .ok (.bl false) M:=fun _=>rfl
  cases q0:(n.asks e.house)[e.ph.at1].tries == 0 with
  | true=>
   simp_arith [yi,h.errands,h.er,yp (f:=FT.T.ref) hx,f3,ns,zP h he (ri.hs _ _ he),haa,q0]
   rfl
  | false=>
   simp_arith [yi,h.errands,h.er,yp (f:=FT.T.ref) hx,f3,ns,zP h he (ri.hs _ _ he),haa,q0]
   rfl
theorem znZ (h:RunAt kE kR (zg n) b r l M R) (wn:WN n) (ri:RI n R) (he:R.es[i]? = some e) (qs:e.ph.isS = true):zaN kE kR [.ref r,nT i] M = .ok (.bl (zfO n R e)) M:=by
 unfold zaN zfI
 obtain ⟨x,hx,hc⟩:=h.at_e he
 have f3:=yE (f:="state") hc rfl
 rw [phS qs] at f3
 have hl:=zcA qs (ri.ph _ _ he)
 have ha:(n.asks e.house)[e.ph.at1]? = some (n.asks e.house)[e.ph.at1]:=Q0 hl
 have haa:atI ((n.asks e.house).map zO) (e.ph.at1:Int) = some (zO (n.asks e.house)[e.ph.at1]):=yp (f:=zO) ha
 have w:=wn.as e.house _ (Qb ha)
 have po:=zc4 h wn w
 unfold zfO
 rw [zdl ha]
 cases q:n.pof (n.asks e.house)[e.ph.at1] with
 | none=>
  rw [q] at po
  have i1:∀ M,isN (onT none) .non M = .ok (.bl true) M:=fun _=>rfl
  simp_arith [yi,h.errands,h.er,yp (f:=FT.T.ref) hx,f3,zP h he (ri.hs _ _ he),haa,po,i1]
 | some k=>
  rw [q] at po
  have i1:∀ M,isN (onT (some k)) .non M = .ok (.bl false) M:=fun _=>rfl
  have te:=zir h wn ri.pl (w.plt q)
  rw [show (nT k:FT.T) = onT (some k) from rfl] at te
  simp_arith [yi,h.errands,h.er,yp (f:=FT.T.ref) hx,f3,zP h he (ri.hs _ _ he),haa,po,i1,te]
theorem znY {a:Nat} {ys:List FT.T} (h:M[a]? = some (.lst xs)) (hl:xs.length + ys.length < 1000000):ze8 (.ref a) [.lst ys] M = .ok .non (M.set a (.lst (xs ++ ys))):=by
 unfold ze8
 simp only [h,if_pos hl]
theorem zkq {a:Nat} (h:M[a]? = some (.lst xs)):zcP (.ref a) M = true:=by
 unfold zcP zy
 simp only [h]
 rfl
theorem zii (h:RunAt kE kR (zg n) b r l M R) (ri:RI n R) (he:R.es[i]? = some e):z5 kE kR [.ref r,nT i] M = .ok (.lst ((qN n R i).map evT)) M:=by
 have key:Ok (zaU kE kR [.ref r,nT i] M) fun t M'=>t = .ref M.length/\M' = M ++ [.lst ((qN n R i).map evT)]:=by
  refine yD rfl ?_
  unfold zce
  obtain ⟨x,hx,hc⟩:=h.at_e he
  have f3:=yE (f:="state") hc rfl
  obtain ⟨t,ts,p1,p2,p3,_,_⟩:=phW e.ph M
  have p2':∀ M',eqA t (.str "works") M' = .ok (.bl e.ph.isW) M':=fun M'=>by
   obtain ⟨t',ts',q1,q2,_⟩:=phW e.ph M'
   rw [p1] at q1;cases q1;exact q2
  have p3':∀ M',eqA t (.str "stands") M' = .ok (.bl e.ph.isS) M':=fun M'=>by
   obtain ⟨t',ts',q1,_,q2,_⟩:=phW e.ph M'
   rw [p1] at q1;cases q1;exact q2
  rw [p1] at f3
  have ml:=fun cs=>zid (h.app cs) ri he
  have tl:=fun cs=>zdL (h.app cs) ri he
  have lc:∀ (ys:List FT.T),zK (.ref M.length) (M ++ [.lst ys]) = .ok (.ref M.length) (M ++ [.lst ys]):=fun ys=>qS z9
  have ap:∀ (ys:List FT.T) (y:FT.T),ys.length < 100->y4 (.ref M.length) [y] (M ++ [.lst ys]) = .ok .non (M ++ [.lst (ys ++ [y])]):=fun ys y hl=>by
   rw [zai z9 (by rw [sizeLine_eq];omega),set_append_right _ _ (Q4 _),Nat.sub_self]
   rfl
  have ex:∀ (zs:List FT.T),zs.length < 100->ze8 (.ref M.length) [.lst zs] (M ++ [.lst []]) = .ok .non (M ++ [.lst zs]):=fun zs hl=>by
   rw [znY z9 (by simp;omega),set_append_right _ _ (Q4 _),Nat.sub_self]
   rfl
  have il:∀ (ys:List FT.T),zcP (.ref M.length) (M ++ [.lst ys]) = true:=fun ys=>zkq z9
  unfold qN
  rw [qC he]
  cases qw:e.ph.isW <;> cases qm:zbG n R e <;> cases qt:qz n e <;> cases qs:e.ph.isS <;> (simp_arith [yi,h.errands,h.er,yp (f:=FT.T.ref) hx,f3,p2',p3',qw,qs,ml,qm,tl,qt,zdj,il,ex,lc,ap,Nat.reduceLT];exact Ok.ret ⟨rfl,rfl⟩)
 obtain ⟨t,M',e1,rfl,rfl⟩:=key
 unfold z5 zgh
 rw [e1]
 dsimp only
 rw [z9]
 dsimp only
 rw [if_pos]
 refine ⟨by simp,Q4 _,fun y hy=>?_⟩
 obtain ⟨ev,_,rfl⟩:=mem_map.mp hy
 cases ev <;> exact .tup fun z hz=>by
  simp only [mem_cons,not_mem_nil,or_false] at hz
  rcases hz with rfl | rfl | rfl <;> first | exact .str _ | exact .int _
end
noncomputable def Evt.num:Evt->Nat
 | .fresh=>0
 | .ends i _=>i
 | .lost i=>i
 | .again i=>i
 | .up i=>i
noncomputable def Evt.isF:Evt->Bool
 | .fresh=>true
 | _=>false
variable {ev:Evt}
section
variable {b:Nat}
theorem zkp (h:ev ∈ qN n R i) (ha:ev.isA = true):(R.er i).ph.isS = true:=by
 unfold qN at h
 cases ev with
 | again j=>
  simp only [mem_append] at h
  rcases h with ((h | h) | h) | h
  ·split at h <;> simp at h
  ·split at h <;> simp at h
  ·split at h
   ·rename_i q
    unfold qz at q
    rw [Qu] at q
    exact q.1
   ·simp at h
  ·split at h <;> simp at h
 | _=>cases ha
theorem ziS (ev:Evt):∃ s ts,evT ev = .tup (.str s :: ts)/\(s == ("again":Str)) = ev.isA/\(s == ("fresh":Str)) = ev.isF:=by
 cases ev <;> exact ⟨_,_,rfl,rfl,rfl⟩
theorem zn3 (i:Nat):(qN n R i).length<=10:=by
 unfold qN
 rw [Qo,Qo,Qo]
 have:∀ (c:Bool) (xs:List Evt),xs.length<=3->(if c = true then xs else []).length<=3:=fun c xs h=>by cases c <;> simp [h]
 have h1:=this (R.er i).ph.isW [.ends i "bad",.ends i "spent",.ends i "well"] (by simp)
 have h2:(if zbG n R (R.er i) = true then [Evt.lost i] else []).length<=1:=by split <;> simp
 have h3:(if qz n (R.er i) = true then [Evt.again i] else []).length<=1:=by split <;> simp
 have h4:(if (R.er i).ph.isS = true then [Evt.up i] else []).length<=1:=by split <;> simp
 omega
theorem zl7 (h:RunAt kE kR (zg n) b r l M R) (wn:WN n) (ri:RI n R) (he:R.es[i]? = some e):za0 kE kR [.ref r,nT i] M = .ok (.lst ((ze9 n R i).map evT)) M:=by
 unfold za0 zeL
 have c:qr (qi 0) (zcq (zr (eOp neA (eOp ixT (zb 0) (eC (.int 0))) (eC (.str "again")))) (zr (yf (zaN kE kR) (yb (zb 1) (yb (zb 2) zd))))) (zb 0) ((qN n R i).map evT) [none,some (.ref r),some (nT i)] M [] = .ok ((ze9 n R i).map evT) M:=
  Ok.filt (r:=evT) (fun σ=>∃ o,σ = [o,some (.ref r),some (nT i)]) _ evT ⟨_,rfl⟩ (Qk (zn3 i) (by decide)) (by
   rintro ev σ hev ⟨o,rfl⟩
   refine ⟨[some (evT ev),some (.ref r),some (nT i)],rfl,⟨_,rfl⟩,?_,fun _=>rfl⟩
   obtain ⟨s,ts,h1,h2,_⟩:=ziS ev
   rw [h1]
   cases q:ev.isA with
   | false=>
    rw [q] at h2
    simp_arith [zjr,h2]
    rfl
   | true=>
    rw [q] at h2
    have hs:e.ph.isS = true:=by rw [← qC he];exact zkp hev q
    simp_arith [zjr,h2,znZ h wn ri he hs]
    rw [qC he]
    rfl)
 simp_arith [zii h ri he,c]
theorem zpR (M:Mem) (x y:Evt):∃ q,eqD M 20 (evT x) (evT y) = some q/\(x = y->q = true):=by
 have hs:∀ w:Str,eqS (.str w) (.str w) = true:=fun w=>by show (w == w) = true;simp
 have hi:∀ i:Int,eqS (.int i) (.int i) = true:=fun w=>by show (w == w) = true;simp
 cases x <;> cases y <;> refine ⟨_,rfl,fun z=>?_⟩ <;> first | (cases z) | skip
 all_goals first | rfl | (simp [hs,hi]) | skip
theorem zpl (M:Mem) {x:Evt}:∀ {ys:List Evt},x ∈ ys->∃ bs,zcR M (evT x) (ys.map evT) = some bs/\bs.any id = true:=by
 intro ys
 have all:∀ ys:List Evt,∃ bs,zcR M (evT x) (ys.map evT) = some bs/\(x ∈ ys->bs.any id = true):=by
  intro ys
  induction ys with
  | nil=>exact ⟨[],rfl,fun h=>by cases h⟩
  | cons y ys ih=>
   obtain ⟨bs,h1,h2⟩:=ih
   obtain ⟨q,q1,q2⟩:=zpR M y x
   refine ⟨q :: bs,?_,fun h=>?_⟩
   ·rw [map_cons]
    unfold zcR
    rw [q1,h1]
   ·rcases mem_cons.mp h with rfl | h
    ·rw [any_cons,q2 rfl];rfl
    ·rw [any_cons,h2 h,Bool.or_true]
 intro h
 obtain ⟨bs,h1,h2⟩:=all ys
 exact ⟨bs,h1,h2 h⟩
theorem zpT (h:RunAt kE kR (zg n) b r l M R) (wn:WN n) (ri:RI n R) (hB:R.es.length < 1000000) (hf:ev.isF = false) (he:R.es[ev.num]? = some e) (hm:ev ∈ ze9 n R ev.num):qG kE kR [.ref r,evT ev] M = .ok .non M:=by
 have hl:=(List.getElem?_eq_some_iff.mp he).1
 have cc:zag kE kR [.ref r,evT ev] M = .ok (.bl true) M:=by
  unfold zag zdG
  obtain ⟨bs,b1,b2⟩:=zpl M hm
  have iN:inN (evT ev) (.lst ((ze9 n R ev.num).map evT)) M = .ok (.bl true) M:=by
   unfold inN zat zy
   simp only [b1,b2]
  have ii:∀ (xs:List FT.T) M,zbf (.tup xs) (.ty "tuple") M = .ok (.bl true) M:=fun _ _=>rfl
  have ln:qF (.ref l.a) M = .ok (nT R.es.length) M:=by
   unfold qF zat zy
   simp only [h.er]
   simp [h.el]
  have wi:zaZ kE kR [nT ev.num,.int 0,.int ((R.es.length:Int) - 1)] M = .ok (.bl true) M:=by
   have wh:zbu kE kR [nT ev.num] M = .ok (.bl true) M:=by
    unfold zbu zfH
    have h1:zbf (nT ev.num) (.ty "int") M = .ok (.bl true) M:=rfl
    have h2:zbf (nT ev.num) (.ty "bool") M = .ok (.bl false) M:=rfl
    simp_arith [h1,h2]
   unfold zaZ zeK
   have d1:decide ((0:Int)<=(ev.num:Int)) = true:=Qx (by omega)
   have d2:decide ((ev.num:Int)<=(R.es.length:Int) - 1) = true:=Qx (by omega)
   simp_arith [wh,d1,d2]
  have ea:=zl7 h wn ri he
  have e0:∃ s ts,evT ev = .tup (.str s :: nT ev.num :: ts)/\eqA (evT ev) (.tup [.str "fresh"]) M = .ok (.bl false) M:=by
   cases ev with
   | fresh=>cases hf
   | ends i w=>exact ⟨_,_,rfl,rfl⟩
   | lost i=>exact ⟨_,_,rfl,rfl⟩
   | again i=>exact ⟨_,_,rfl,rfl⟩
   | up i=>exact ⟨_,_,rfl,rfl⟩
  obtain ⟨s,ts,e1,e2⟩:=e0
  rw [e1] at e2 iN ⊢
  have d3:decide (((FT.T.str s :: nT ev.num :: ts).length:Int) < 2) = false:=Qy (by simp;omega)
  simp only [Qq] at d3
  simp_arith [e2,ii,d3,yi,h.errands,ln,wi,ea,iN]
 unfold qG zcc
 simp_arith [cc]
theorem zkO (h:RunAt kE kR (zg n) b r l M R):qG kE kR [.ref r,evT .fresh] M = .ok .non M:=by
 have cc:zag kE kR [.ref r,evT .fresh] M = .ok (.bl true) M:=by
  unfold zag zdG
  have e2:eqA (evT .fresh) (.tup [.str "fresh"]) M = .ok (.bl true) M:=rfl
  simp_arith [e2]
 unfold qG zcc
 simp_arith [cc]
end
noncomputable def zjd (R:Run) (k:Nat):Run:={ R with pays:=R.pays ++ [(R.es.length,k,R.taken.getD k 0)],taken:=R.taken.set k (R.taken.getD k 0 + 1) }
noncomputable def takeO (R:Run) (o:Option Nat):Run:=o.elim R (zjd R)
noncomputable def zcL (n:Net) (R:Run) (i:Nat):Run:=zV n (yC n 4) (takeO R (n.pof (n.ask (R.er i).house (R.er i).ph.at1))) i (R.er i).ph.at1 ((R.er i).ph.at2 + 1)
noncomputable def zci (n:Net) (R:Run) (i:Nat):Run:=(R.er i).caller.elim R fun c=>zae n (qV n 4) (R.setE i { R.er i with lost:=true }) c "bad"
noncomputable def upR (n:Net) (R:Run) (i:Nat):Run:=qV n 4 R i (n.ask (R.er i).house (R.er i).ph.at1).word
noncomputable def doR (n:Net) (R:Run):Evt->Run
 | .fresh=>yC n 4 R 0 none
 | .ends i w=>qV n 4 R i w
 | .lost i=>zci n R i
 | .again i=>zcL n R i
 | .up i=>upR n R i
noncomputable def Run.tick (R:Run):Run:={ R with came:=R.came + 1 }
noncomputable def yq (n:Net) (R:Run) (ev:Evt):Run:=(doR n R ev).tick
section
variable {b:Nat}
theorem SB.takeO (sb:SB B R) (o:Option Nat):SB (B + 1) (takeO R o):=by
 cases o with
 | none=>exact sb.mono (by omega)
 | some k=>
  refine ⟨Nat.le_succ_of_le sb.es,fun u hu=>Nat.le_succ_of_le (sb.pu u hu),?_,fun v hv=>?_⟩
  ·show (R.pays ++ _).length<=_
   rw [Qo,Qw]
   have:=sb.py
   omega
  ·rcases mem_set hv with hv | rfl
   ·exact Nat.le_succ_of_le (sb.tk v hv)
   ·by_cases hk:k < R.taken.length
    ·have:=sb.tk (R.taken.getD k 0) (by rw [Q8,Q0 hk];exact getElem_mem _)
     omega
    ·rw [Q8,getElem?_eq_none (by omega)]
     simp
theorem zg9 (R:Run) (o:Option Nat):(takeO R o).es = R.es/\(takeO R o).puts = R.puts/\(takeO R o).came = R.came:=by cases o <;> exact ⟨rfl,rfl,rfl⟩
theorem zmI (h:RunAt kE kR (zg n) b r l M R) (hB:B < 90000) (sb:SB B R) (hp:R.puts.length = n.ps.length) (hk:k < n.ps.length):Ok (zbV kE kR [.ref r,nT k] M) (Lv kE kR n b r (zjd R k) M):=by
 refine yD rfl ?_
 unfold zeG
 have hkt:k < R.taken.length:=by have:=h.tl;omega
 have ht:R.taken[k]? = some R.taken[k]:=Q0 hkt
 have gd:R.taken.getD k 0 = R.taken[k]:=by rw [Q8,ht];rfl
 have ln:qF (.ref l.a) M = .ok (nT R.es.length) M:=by
  unfold qF zat zy
  simp only [h.er]
  simp [h.el]
 obtain ⟨h1,b1⟩:=h.setPays (R.pays ++ [(R.es.length,k,R.taken[k])])
 have ap:=zai (t:=.tup [nT R.es.length,nT k,nT R.taken[k]]) h.py (by rw [Qi,sizeLine_eq];have:=sb.py;omega)
 rw [show R.pays.map ze2 ++ [.tup [nT R.es.length,nT k,nT R.taken[k]]] = (R.pays ++ [(R.es.length,k,R.taken[k])]).map ze2 from by simp [ze2]] at ap
 simp_arith [yi,h.payF,qS h.py,h.errands,ln,h.takenF,h.tk,yp (f:=nT) ht,ap]
 generalize hM1:M.set l.q (.lst ((R.pays ++ [(R.es.length,k,R.taken[k])]).map ze2)) = M1 at h1 ⊢
 have k1:Kp b M M1:=by rw [← hM1];exact Kp.set _ _ b1
 obtain ⟨h2,b2⟩:=h1.setTaken (R.taken.set k (R.taken[k] + 1)) (by simp)
 have hix:ixN (R.taken.map nT).length (k:Int) = some k:=by
  rw [zpj (by rw [Qi];omega),Int.toNat_natCast]
 have tk1:M1[l.t]? = some (.lst (R.taken.map nT)):=h1.tk
 have ms:(R.taken.map nT).set k (.int ((R.taken[k]:Int) + 1)) = (R.taken.set k (R.taken[k] + 1)).map nT:=by
  rw [List.map_set];rfl
 have ad:∀ i j M,zc6 (.int i) (.int j) M = .ok (.int (i + j)) M:=fun _ _ _=>rfl
 unfold zgU getL
 simp_arith [yi,h1.takenF,zkl tk1,yp (f:=nT) ht,ad,tk1,hix,ms]
 refine Ok.ret ⟨rfl,k1.trans (Kp.set _ _ b2),l,?_⟩
 unfold zjd
 rw [gd]
 exact h2
theorem zqA (h:RunAt kE kR (zg n) b r l M R):b<=M.length:=Qk (h.lo _ (.head _)) (Nat.le_of_lt (zS h.run))
theorem zmg (h:RunAt kE kR (zg n) b r l M R) (wn:WN n) (hB:B + 1 < 90000) (sb:SB B R) (ri:RI n R) (he:R.es[i]? = some e) (hs:e.ph.isS = true):Ok (zbU kE kR [.ref r,nT i] M) (Lv kE kR n b r (zcL n R i) M):=by
 refine yD rfl ?_
 unfold zeE
 have hl:=zcA hs (ri.ph _ _ he)
 have ha:(n.asks e.house)[e.ph.at1]? = some (n.asks e.house)[e.ph.at1]:=Q0 hl
 have haa:atI ((n.asks e.house).map zO) (e.ph.at1:Int) = some (zO (n.asks e.house)[e.ph.at1]):=yp (f:=zO) ha
 have w:=wn.as e.house _ (Qb ha)
 have po:=zc4 h wn w
 obtain ⟨x,hx,hc⟩:=h.at_e he
 have f3:=yE (f:="state") hc rfl
 rw [phS hs] at f3
 unfold zcL
 rw [qC he,zdl ha]
 simp_arith [yi,h.errands,h.er,yp (f:=FT.T.ref) hx,f3,zP h he (ri.hs _ _ he),haa,po]
 have go:∀ (l1:Lay) (M1:Mem) (o:Option Nat),Kp b M M1->RunAt kE kR (zg n) b r l1 M1 (takeO R o)->Ok ((y3 kE kR [.ref r,nT i,nT e.ph.at1,.int ((e.ph.at2:Int) + 1)] M1).bind fun _ M=>.ok FT.T.non M) (Lv kE kR n b r (zV n (yC n 4) (takeO R o) i e.ph.at1 (e.ph.at2 + 1)) M):=by
  intro l1 M1 o k1 h1
  have te:=zg9 R o
  refine Ok.bind (ziq wn (B:=B + 1) (tr:=e.ph.at2 + 1) hB h1 (sb.takeO o) (by rw [te.2.1];exact ri.pl) (by rw [te.1];exact he) (ri.hs _ _ he) ha) ?_
  rintro t M2 ⟨rfl,k2,l2,h2⟩
  exact Ok.ret ⟨rfl,k1.trans k2,l2,h2⟩
 cases q:n.pof (n.asks e.house)[e.ph.at1] with
 | none=>
  have i1:∀ M,za9 (onT none) .non M = .ok (.bl false) M:=fun _=>rfl
  simp_arith [i1]
  exact go l M none (Kp.refl _ _) h
 | some k=>
  have i1:∀ M,za9 (onT (some k)) .non M = .ok (.bl true) M:=fun _=>rfl
  simp_arith [i1]
  rw [show onT (some k) = nT k from rfl]
  refine Ok.bind (zmI h (by omega) sb ri.pl (w.plt q)) ?_
  rintro t M1 ⟨rfl,k1,l1,h1⟩
  try simp_arith [and_self]
  exact go l1 M1 (some k) k1 h1
theorem ziU (h:RunAt kE kR (zg n) b r l M R) (wn:WN n) (hB:B < 90000) (sb:SB B R) (ri:RI n R) (he:R.es[i]? = some e) (w:Str):Ok (zaC kE kR [.ref r,nT i,.str w] M) (Lv kE kR n b r (qV n 4 R i w) M):=
 zhN wn 4 12 (by omega) hB h sb ri he (by have:=ri.hs _ _ he;have:=wn.hl;omega)
theorem zp0 (h:RunAt kE kR (zg n) b r l M R) (wn:WN n) (hB:B < 90000) (sb:SB B R) (ri:RI n R) (he:R.es[i]? = some e) (hs:e.ph.isS = true):Ok (zep kE kR [.ref r,nT i] M) (Lv kE kR n b r (upR n R i) M):=by
 refine yD rfl ?_
 unfold ziQ
 have hl:=zcA hs (ri.ph _ _ he)
 have ha:(n.asks e.house)[e.ph.at1]? = some (n.asks e.house)[e.ph.at1]:=Q0 hl
 have haa:atI ((n.asks e.house).map zO) (e.ph.at1:Int) = some (.tup [.str (n.asks e.house)[e.ph.at1].to,.int (n.asks e.house)[e.ph.at1].tries,opS (n.asks e.house)[e.ph.at1].purse,.str (n.asks e.house)[e.ph.at1].word,.bl (n.asks e.house)[e.ph.at1].hears,.bl (n.asks e.house)[e.ph.at1].sure]):=yp (f:=zO) ha
 obtain ⟨x,hx,hc⟩:=h.at_e he
 have f3:=yE (f:="state") hc rfl
 rw [phS hs] at f3
 unfold upR
 rw [qC he,zdl ha]
 simp_arith [yi,h.errands,h.er,yp (f:=FT.T.ref) hx,f3,zP h he (ri.hs _ _ he),haa]
 refine Ok.bind (ziU h wn hB sb ri he _) ?_
 rintro t M2 ⟨rfl,k2,l2,h2⟩
 try simp_arith [and_self]
 exact Ok.ret ⟨rfl,k2,l2,h2⟩
theorem znn (h:RunAt kE kR (zg n) b r l M R) (wn:WN n) (hB:B < 90000) (sb:SB B R) (ri:RI n R) (he:R.es[i]? = some e) {c:Nat × Nat × Nat} (hq:e.caller = some c):Ok (zfM kE kR [.ref r,nT i] M) (Lv kE kR n b r (zci n R i) M):=by
 refine yD rfl ?_
 unfold zkz
 obtain ⟨x,hx,hc⟩:=h.at_e he
 have s1:=zaH (f:="is_lost") (y:=.bl true) (fs':=erF { e with lost:=true }) hc rfl (by simp [erF])
 obtain ⟨h1,bx⟩:=h.setE hx he { e with lost:=true }
 have hc1:(M.set x (.ins kE (erF { e with lost:=true })))[x]? = some (.ins kE (erF { e with lost:=true })):=get_set hc
 have f1:=yE (f:="caller") hc1 rfl
 have k1:Kp b M (M.set x (.ins kE (erF { e with lost:=true }))):=Kp.set _ _ bx
 have e0:zci n R i = zae n (qV n 4) (R.setE i { e with lost:=true }) c "bad":=by
  have el:∀ (o:Option (Nat × Nat × Nat)) (f:Nat × Nat × Nat->Run),o = some c->o.elim R f = f c:=fun o f h=>by rw [h];rfl
  unfold zci
  rw [qC he]
  exact el _ _ hq
 rw [e0]
 simp_arith [yi,h.errands,h.er,yp (f:=FT.T.ref) hx,yB,s1]
 generalize hM1:M.set x (.ins kE (erF { e with lost:=true })) = M1 at h1 f1 k1 ⊢
 replace f1:zaq [kE] "caller" (.ref x) M1 = .ok (clT e.caller) M1:=f1
 rw [hq] at f1
 have ri1:RI n (R.setE i { e with lost:=true }):=ri.setE he rfl rfl (by have:=ri.ph _ _ he;unfold zdD at this ⊢;exact this)
 have hei:(R.setE i { e with lost:=true }).es[i]? = some { e with lost:=true }:=by
  show (R.es.set i _)[i]? = _
  rw [Qd,if_pos rfl,if_pos (List.getElem?_eq_some_iff.mp he).1]
 obtain ⟨_,ce,c1,c2,c3⟩:=ri1.cl i _ c hei hq
 simp_arith [f1]
 refine Ok.bind (show Ok (zhK kE kR [.ref r,clT (some c),.str "bad"] M1) (Lv kE kR n b r (zae n (qV n 4) (R.setE i { e with lost:=true }) c "bad") M1) from ?_) ?_
 ·show Ok (qh 3 6 (zd5 kE kR (yn kE kR 11).1 (yn kE kR 11).2) [.ref r,clT (some c),.str "bad"] M1) _
  refine ziO wn hB h1 (sb.setE _ _) ri1 c1 c3 ?_
  exact zhN wn 4 11 (by omega) hB h1 (sb.setE _ _) ri1 c1 (by have:=ri1.hs _ _ c1;have:=wn.hl;omega)
 ·rintro t M2 ⟨rfl,k2,l2,h2⟩
  try simp_arith [and_self]
  exact Ok.ret ⟨rfl,k1.trans k2,l2,h2⟩
noncomputable def zpX (R:Run):Evt->Prop
 | .fresh=>True
 | .ends i _=>∃ e,R.es[i]? = some e
 | .lost i=>∃ e c,R.es[i]? = some e/\e.caller = some c
 | .again i=>∃ e,R.es[i]? = some e/\e.ph.isS = true
 | .up i=>∃ e,R.es[i]? = some e/\e.ph.isS = true
theorem zo5 (h:RunAt kE kR (zg n) b r l M R) (wn:WN n) (hB:B + 10 < 90000) (sb:SB B R) (ri:RI n R) (ho:zpX R ev):Ok (zY kE kR [.ref r,evT ev] M) (Lv kE kR n b r (yq n R ev) M):=by
 refine yD rfl ?_
 unfold zfF
 have fin:∀ (M1:Mem),Lv kE kR n b r (doR n R ev) M .non M1->Ok ((zfr [kR] "came" (zb 0) 1 [some (.ref r),some (evT ev)] M1).bind zca) (Lv kE kR n b r (yq n R ev) M):=by
  rintro M1 ⟨_,k1,l1,h1⟩
  obtain ⟨h2,b2⟩:=h1.setCame ((doR n R ev).came + 1)
  have s1:=zaH (f:="came") (y:=.int (((doR n R ev).came:Int) + 1)) (fs':=zbD (zg n) l1 { (doR n R ev) with came:=(doR n R ev).came + 1 }) h1.run rfl (by simp [zbD])
  have ad:∀ i j M,zc6 (.int i) (.int j) M = .ok (.int (i + j)) M:=fun _ _ _=>rfl
  simp_arith [zfr,h1.came,ad,s1]
  exact Ok.ret ⟨rfl,k1.trans (Kp.set _ _ b2),l1,h2⟩
 cases ev with
 | fresh=>
  have q:∀ M,eqA (.str "fresh") (.str "fresh") M = .ok (.bl true) M:=fun _=>rfl
  rw [show evT .fresh = .tup [.str "fresh"] from rfl] at fin ⊢
  simp_arith [q]
  refine Ok.bind (show Ok (zbN kE kR [.ref r,.int 0,.non] M) (Lv kE kR n b r (yC n 4 R 0 none) M) from zhW wn 4 12 (by omega) (B:=B) (c:=none) (h:=0) (by omega) h (zqA h) sb ri.pl wn.h1 (by have:=wn.hl;omega)) ?_
  rintro t M1 ⟨rfl,k1,l1,h1⟩
  have:=fin M1 ⟨rfl,k1,l1,h1⟩
  try simp_arith [and_self]
  exact this
 | ends i w=>
  obtain ⟨e,he⟩:=ho
  have q0:∀ M,eqA (.str "ends") (.str "fresh") M = .ok (.bl false) M:=fun _=>rfl
  have q:∀ M,eqA (.str "ends") (.str "ends") M = .ok (.bl true) M:=fun _=>rfl
  rw [show evT (.ends i w) = .tup [.str "ends",nT i,.str w] from rfl] at fin ⊢
  simp_arith [q0,q]
  refine Ok.bind (ziU h wn (by omega) sb ri he w) ?_
  rintro t M1 ⟨rfl,k1,l1,h1⟩
  have:=fin M1 ⟨rfl,k1,l1,h1⟩
  try simp_arith [and_self]
  exact this
 | lost i=>
  obtain ⟨e,c,he,hq⟩:=ho
  have q0:∀ M,eqA (.str "lost") (.str "fresh") M = .ok (.bl false) M:=fun _=>rfl
  have q1:∀ M,eqA (.str "lost") (.str "ends") M = .ok (.bl false) M:=fun _=>rfl
  have q:∀ M,eqA (.str "lost") (.str "lost") M = .ok (.bl true) M:=fun _=>rfl
  rw [show evT (.lost i) = .tup [.str "lost",nT i] from rfl] at fin ⊢
  simp_arith [q0,q1,q]
  refine Ok.bind (znn h wn (by omega) sb ri he hq) ?_
  rintro t M1 ⟨rfl,k1,l1,h1⟩
  have:=fin M1 ⟨rfl,k1,l1,h1⟩
  try simp_arith [and_self]
  exact this
 | again i=>
  obtain ⟨e,he,hs⟩:=ho
  have q0:∀ M,eqA (.str "again") (.str "fresh") M = .ok (.bl false) M:=fun _=>rfl
  have q1:∀ M,eqA (.str "again") (.str "ends") M = .ok (.bl false) M:=fun _=>rfl
  have q2:∀ M,eqA (.str "again") (.str "lost") M = .ok (.bl false) M:=fun _=>rfl
  have q:∀ M,eqA (.str "again") (.str "again") M = .ok (.bl true) M:=fun _=>rfl
  rw [show evT (.again i) = .tup [.str "again",nT i] from rfl] at fin ⊢
  simp_arith [q0,q1,q2,q]
  refine Ok.bind (zmg h wn (by omega) sb ri he hs) ?_
  rintro t M1 ⟨rfl,k1,l1,h1⟩
  have:=fin M1 ⟨rfl,k1,l1,h1⟩
  try simp_arith [and_self]
  exact this
 | up i=>
  obtain ⟨e,he,hs⟩:=ho
  have q0:∀ M,eqA (.str "up") (.str "fresh") M = .ok (.bl false) M:=fun _=>rfl
  have q1:∀ M,eqA (.str "up") (.str "ends") M = .ok (.bl false) M:=fun _=>rfl
  have q2:∀ M,eqA (.str "up") (.str "lost") M = .ok (.bl false) M:=fun _=>rfl
  have q:∀ M,eqA (.str "up") (.str "again") M = .ok (.bl false) M:=fun _=>rfl
  rw [show evT (.up i) = .tup [.str "up",nT i] from rfl] at fin ⊢
  simp_arith [q0,q1,q2,q]
  refine Ok.bind (zp0 h wn (by omega) sb ri he hs) ?_
  rintro t M1 ⟨rfl,k1,l1,h1⟩
  have:=fin M1 ⟨rfl,k1,l1,h1⟩
  try simp_arith [and_self]
  exact this
end
variable {n:Net}
def lv (e:Er):Prop:=e.lost = false/\e.ph.isE = false
def WT (R:Run):Prop:=∀ (i:Nat) (e:Er) (c:Nat × Nat × Nat),R.es[i]? = some e->e.caller = some c->lv e->∃ ce,R.es[c.1]? = some ce/\ce.ph = .waits c.2.1 c.2.2/\ce.asked = some i
def NL (R:Run) (k:Nat):Prop:=∀ (i:Nat) (e:Er) (c:Nat × Nat × Nat),R.es[i]? = some e->e.caller = some c->c.1 = k->¬ lv e
def QS (R R':Run) (k:Nat):Prop:=∀ (i:Nat) (e':Er),R'.es[i]? = some e'->e'.ph.isS = true->(∃ e,R.es[i]? = some e/\e.ph = e'.ph/\e.stood = e'.stood)\/(e'.stood = some k/\∃ e a t,R.es[i]? = some e/\e.ph = .waits a t)
structure Inv' (n:Net) (R:Run):Prop where
 ri:RI n R
 wt:WT R
theorem zgf (he:R.es[i]? = some e) (e':Er):(R.setE i e').es[i]? = some e':=by
 show (R.es.set i _)[i]? = _
 rw [Qd,if_pos rfl,if_pos (List.getElem?_eq_some_iff.mp he).1]
theorem ze6 (h:j ≠ i):(R.setE i e').es[j]? = R.es[j]?:=by
 show (R.es.set i _)[j]? = _
 rw [Qd,if_neg (Ne.symm h)]
theorem WT.setE (h:WT R) (he:R.es[i]? = some e) (h2:e'.caller = e.caller) (hv:lv e'->lv e) (nl:NL R i):WT (R.setE i e'):=by
 intro j q c hq hc lq
 have key:∀ q0,R.es[j]? = some q0->q0.caller = some c->lv q0->∃ ce,(R.setE i e').es[c.1]? = some ce/\ce.ph = .waits c.2.1 c.2.2/\ce.asked = some j:=fun q0 h0 hc0 l0=>by
  obtain ⟨ce,c1,c2,c3⟩:=h j q0 c h0 hc0 l0
  have:c.1 ≠ i:=fun z=>nl j q0 c h0 hc0 z l0
  exact ⟨ce,by rw [ze6 this];exact c1,c2,c3⟩
 rcases z8 hq with ⟨rfl,rfl,_⟩ | ⟨_,hq⟩
 ·exact key e he (by rw [← h2];exact hc) (hv lq)
 ·exact key q hq hc lq
theorem RI.push (h:RI n R) {hh:Nat} {c:Option (Nat × Nat × Nat)} (h1:hh < n.hs.length) (hc:∀ c',c = some c'->∃ ce,R.es[c'.1]? = some ce/\ce.house < hh/\c'.2.1 < (n.asks ce.house).length):RI n (R.push (zl hh c)):=by
 have old:∀ {j:Nat} {q:Er},(R.push (zl hh c)).es[j]? = some q->(R.es[j]? = some q)\/(j = R.es.length/\q = zl hh c):=fun {j q} hq=>by
  replace hq:(R.es ++ [zl hh c])[j]? = some q:=hq
  by_cases z:j < R.es.length
  ·rw [Q7 z] at hq;exact .inl hq
  ·rw [Q9 (by omega)] at hq
   have:j - R.es.length = 0:=by
    have:=(List.getElem?_eq_some_iff.mp hq).1
    simp at this
    omega
   rw [this] at hq
   cases hq
   exact .inr ⟨by omega,rfl⟩
 have fwd:∀ {j:Nat} {q:Er},R.es[j]? = some q->(R.push (zl hh c)).es[j]? = some q:=fun {j q} hq=>by
  show (R.es ++ _)[j]? = _
  rw [Q7 (List.getElem?_eq_some_iff.mp hq).1];exact hq
 refine ⟨fun j q hq=>?_,fun j q c' hq hc'=>?_,fun j q hq=>?_,h.pl⟩
 ·rcases old hq with hq | ⟨_,rfl⟩
  ·exact h.hs _ _ hq
  ·exact h1
 ·rcases old hq with hq | ⟨rfl,rfl⟩
  ·obtain ⟨a,ce,b1,b2,b3⟩:=h.cl _ _ _ hq hc'
   exact ⟨a,ce,fwd b1,b2,b3⟩
  ·obtain ⟨ce,b1,b2,b3⟩:=hc c' hc'
   exact ⟨(List.getElem?_eq_some_iff.mp b1).1,ce,fwd b1,b2,b3⟩
 ·rcases old hq with hq | ⟨_,rfl⟩
  ·exact h.ph _ _ hq
  ·exact True.intro
theorem zhm {x:Er} (hq:(R.push x).es[j]? = some q):R.es[j]? = some q\/(j = R.es.length/\q = x):=by
 replace hq:(R.es ++ [x])[j]? = some q:=hq
 by_cases z:j < R.es.length
 ·rw [Q7 z] at hq;exact .inl hq
 ·rw [Q9 (by omega)] at hq
  have:j - R.es.length = 0:=by
   have:=(List.getElem?_eq_some_iff.mp hq).1
   simp at this
   omega
  rw [this] at hq
  cases hq
  exact .inr ⟨by omega,rfl⟩
theorem zdB {x:Er} (hq:R.es[j]? = some q):(R.push x).es[j]? = some q:=by
 show (R.es ++ _)[j]? = _
 rw [Q7 (List.getElem?_eq_some_iff.mp hq).1];exact hq
theorem RI.share (h:RI n R) (a:Ask) (tr x:Nat):RI n (R.share n a tr x):=by
 obtain ⟨s1,s2,_⟩:=zbe R n a tr x
 exact ⟨by rw [s1];exact h.hs,by rw [s1];exact h.cl,by rw [s1];exact h.ph,by rw [s2];exact h.pl⟩
def Old (R R':Run):Prop:=R.es.length<=R'.es.length/\R'.came = R.came/\(∀ (i:Nat) (e:Er),R.es[i]? = some e->R'.es[i]? = some e)/\∀ (i:Nat) (e:Er),R'.es[i]? = some e->R.es.length<=i->e.ph.isS = false
theorem zeg {num tr:Nat} {a:Ask} (he:R.es[num]? = some e) (ha:(n.asks e.house)[at']? = some a):zV n g R num at' tr = g ((R.setE num { e with ph:=.waits at' tr,asked:=some R.es.length }).share n a tr R.es.length) (n.hix a.to) (some (num,at',tr)):=by
 unfold zV
 rw [he]
 dsimp only
 rw [ha]
theorem WT.share (h:WT R) (a:Ask) (tr x:Nat):WT (R.share n a tr x):=by
 intro i e c
 rw [(zbe R n a tr x).1]
 exact h i e c
theorem zgl (wn:WN n):∀ (f:Nat) {R:Run} {h:Nat} {c:Option (Nat × Nat × Nat)} {B:Nat},n.hs.length<=h + f->RI n R->WT R->SB B R->h < n.hs.length->
  (∀ c',c = some c'->∃ ce,R.es[c'.1]? = some ce/\ce.house < h/\c'.2.1 < (n.asks ce.house).length/\ce.ph = .waits c'.2.1 c'.2.2/\ce.asked = some R.es.length)->
  RI n (yC n f R h c)/\WT (yC n f R h c)/\SB (B + 2 * f) (yC n f R h c)/\Old R (yC n f R h c)
 | 0,R,h,c,B,hf,_,_,_,hh,_=>absurd hh (by omega)
 | f + 1,R,h,c,B,hf,ri,wt,sb,hh,hc=>by
  have ri1:RI n (R.push (zl h c)):=ri.push hh fun c' z=>by obtain ⟨ce,a1,a2,a3,_⟩:=hc c' z;exact ⟨ce,a1,a2,a3⟩
  have wt1:WT (R.push (zl h c)):=fun i e c' he hc' l=>by
   rcases zhm he with he | ⟨rfl,rfl⟩
   ·obtain ⟨ce,a1,a2,a3⟩:=wt i e c' he hc' l
    exact ⟨ce,zdB a1,a2,a3⟩
   ·obtain ⟨ce,a1,_,_,a4,a5⟩:=hc c' hc'
    exact ⟨ce,zdB a1,a4,a5⟩
  have od1:Old R (R.push (zl h c)):=⟨by simp [Run.push],rfl,fun i e he=>zdB he,fun i e he hi=>by
   rcases zhm he with he | ⟨rfl,rfl⟩
   ·exact absurd (List.getElem?_eq_some_iff.mp he).1 (by omega)
   ·rfl⟩
  by_cases h0:n.asks h = []
  ·have e1:yC n (f + 1) R h c = R.push (zl h c):=by unfold yC;rw [if_pos h0]
   rw [e1]
   exact ⟨ri1,wt1,(sb.push _).mono (by omega),od1⟩
  ·have e1:yC n (f + 1) R h c = zV n (yC n f) (R.push (zl h c)) R.es.length 0 1:=by rw [yC,if_neg h0]
   obtain ⟨a,as,hq⟩:=List.exists_cons_of_ne_nil h0
   have ha:(n.asks (zl h c).house)[0]? = some a:=by show (n.asks h)[0]? = _;rw [hq];rfl
   have w:=wn.as h a (by rw [hq];exact .head _)
   rw [e1,zeg (zbE R _) ha]
   have len1:(R.push (zl h c)).es.length = R.es.length + 1:=by simp [Run.push]
   have nl:NL (R.push (zl h c)) R.es.length:=fun i e c' he hc' z=>by
    have:=(ri1.cl i e c' he hc').1
    have:=(List.getElem?_eq_some_iff.mp he).1
    omega
   have ri2:RI n ((R.push (zl h c)).setE R.es.length { zl h c with ph:=.waits 0 1,asked:=some (R.push (zl h c)).es.length }):=ri1.setE (zbE R _) rfl rfl (show 0 < (n.asks h).length/\1<=1 from ⟨by rw [hq];simp,Q4 _⟩)
   have wt2:WT ((R.push (zl h c)).setE R.es.length { zl h c with ph:=.waits 0 1,asked:=some (R.push (zl h c)).es.length }):=wt1.setE (zbE R _) rfl (fun _=>⟨rfl,rfl⟩) nl
   have sb2:=((sb.push (zl h c)).setE R.es.length { zl h c with ph:=.waits 0 1,asked:=some (R.push (zl h c)).es.length }).share n a 1 (R.push (zl h c)).es.length
   obtain ⟨s1,s2,s3,s4,s5⟩:=zbe ((R.push (zl h c)).setE R.es.length { zl h c with ph:=.waits 0 1,asked:=some (R.push (zl h c)).es.length }) n a 1 (R.push (zl h c)).es.length
   obtain ⟨r1,r2,r3,r4⟩:=zgl wn f (h:=n.hix a.to) (c:=some (R.es.length,0,1)) (by have:=w.up;omega) (ri2.share a 1 _) (wt2.share a 1 _) sb2 w.lt (fun c' z=>by
    cases z
    rw [s1]
    refine ⟨_,zgf (zbE R _) _,w.up,?_,rfl,?_⟩
    ·show 0 < (n.asks h).length
     rw [hq];simp
    ·show some (R.push (zl h c)).es.length = some (List.length (List.set _ _ _))
     rw [length_set])
   refine ⟨r1,r2,r3.mono (by omega),?_,?_,fun i e he=>?_,fun i e he hi=>?_⟩
   ·have l2:((R.push (zl h c)).setE R.es.length { zl h c with ph:=.waits 0 1,asked:=some (R.push (zl h c)).es.length }).es.length = R.es.length + 1:=by simp [Run.setE,Run.push]
    have:=r4.1
    rw [s1,l2] at this
    exact Qk (Nat.le_succ _) this
   ·rw [r4.2.1,s5];rfl
   ·refine r4.2.2.1 i e ?_
    rw [s1,ze6 (by have:=(List.getElem?_eq_some_iff.mp he).1;omega)]
    exact zdB he
   ·by_cases z:i < R.es.length + 1
    ·have hi':i = R.es.length:=by omega
     subst hi'
     have:=r4.2.2.1 R.es.length { zl h c with ph:=.waits 0 1,asked:=some (R.push (zl h c)).es.length } (by rw [s1];exact zgf (zbE R _) _)
     rw [he] at this
     cases this
     rfl
    ·exact r4.2.2.2 i e he (by rw [s1];simp [Run.setE,Run.push];omega)
theorem zio (wn:WN n) {num tr:Nat} (ri:RI n R) (wt:WT R) (sb:SB B R) (he:R.es[num]? = some e) (hat:at' < (n.asks e.house).length) (hl:e.ph.isE = false) (nl:NL R num) (htr:1<=tr) :
  RI n (zV n (yC n 4) R num at' tr)/\WT (zV n (yC n 4) R num at' tr)/\SB (B + 9) (zV n (yC n 4) R num at' tr)/\R.es.length<=(zV n (yC n 4) R num at' tr).es.length/\(zV n (yC n 4) R num at' tr).came = R.came /\
   (∀ (i:Nat) (q:Er),R.es[i]? = some q->i ≠ num->(zV n (yC n 4) R num at' tr).es[i]? = some q)/\QS R (zV n (yC n 4) R num at' tr) R.came:=by
 have ha:(n.asks e.house)[at']? = some (n.asks e.house)[at']:=Q0 hat
 have w:=wn.as e.house _ (Qb ha)
 rw [zeg he ha]
 have ri2:RI n (R.setE num { e with ph:=.waits at' tr,asked:=some R.es.length }):=ri.setE he rfl rfl (show at' < (n.asks e.house).length/\1<=tr from ⟨hat,htr⟩)
 have wt2:WT (R.setE num { e with ph:=.waits at' tr,asked:=some R.es.length }):=wt.setE he rfl (fun z=>⟨z.1,hl⟩) nl
 obtain ⟨s1,s2,s3,s4,s5⟩:=zbe (R.setE num { e with ph:=.waits at' tr,asked:=some R.es.length }) n (n.asks e.house)[at'] tr R.es.length
 have sb2:=(sb.setE num { e with ph:=.waits at' tr,asked:=some R.es.length }).share n (n.asks e.house)[at'] tr R.es.length
 obtain ⟨r1,r2,r3,r4⟩:=zgl wn 4 (h:=n.hix (n.asks e.house)[at'].to) (c:=some (num,at',tr)) (by have:=wn.hl;omega) (ri2.share _ tr _) (wt2.share _ tr _) sb2 w.lt (fun c' z=>by
  cases z
  rw [s1]
  refine ⟨_,zgf he _,w.up,hat,rfl,?_⟩
  show some R.es.length = some (List.length (List.set _ _ _))
  rw [length_set])
 have ol:∀ (i:Nat) (q:Er),R.es[i]? = some q->i ≠ num->(yC n 4 ((R.setE num { e with ph:=.waits at' tr,asked:=some R.es.length }).share n (n.asks e.house)[at'] tr R.es.length) (n.hix (n.asks e.house)[at'].to) (some (num,at',tr))).es[i]? = some q:=fun i q hq hi=>r4.2.2.1 i q (by rw [s1,ze6 hi];exact hq)
 refine ⟨r1,r2,r3.mono (by omega),?_,by rw [r4.2.1,s5];rfl,ol,fun i e' h' hs=>?_⟩
 ·have l2:(R.setE num { e with ph:=.waits at' tr,asked:=some R.es.length }).es.length = R.es.length:=by simp [Run.setE]
  have:=r4.1
  rw [s1,l2] at this
  exact this
 ·by_cases z:i < R.es.length
  ·by_cases hi:i = num
   ·subst hi
    have:=r4.2.2.1 i { e with ph:=.waits at' tr,asked:=some R.es.length } (by rw [s1];exact zgf he _)
    rw [h'] at this
    cases this
    cases hs
   ·have hq:R.es[i]? = some R.es[i]:=Q0 z
    have:=ol i _ hq hi
    rw [h'] at this
    cases this
    exact .inl ⟨_,hq,rfl,rfl⟩
  ·have:=r4.2.2.2 i e' h' (by rw [s1];simp [Run.setE];omega)
   rw [hs] at this
   cases this
end My
namespace My
open PySem L2 FT
variable {n:Net}
structure Res (n:Net) (R R':Run) (B:Nat):Prop where
 ri:RI n R'
 wt:WT R'
 sb:SB B R'
 le:R.es.length<=R'.es.length
 ca:R'.came = R.came
 qs:QS R R' R.came
variable {B:Nat} {R:Run}
theorem zhB (wn:WN n) {g:Run->Nat->Str->Run} {c:Nat × Nat × Nat} {w:Str} {ce:Er} (ri:RI n R) (wt:WT R) (sb:SB B R) (he:R.es[c.1]? = some ce) (hat:c.2.1 < (n.asks ce.house).length) (hw:ce.ph = .waits c.2.1 c.2.2) (nl:NL R c.1) (hg:Res n R (g R c.1 w) (B + 9)):Res n R (zae n g R c w) (B + 9):=by
 unfold zae
 rw [he]
 dsimp only
 split
 ·rename_i h1
  obtain ⟨r1,r2,r3,r4,r5,_,r7⟩:=zio wn (tr:=1) ri wt sb he h1.2 (by rw [hw];rfl) nl (Q4 _)
  exact ⟨r1,r2,r3,r4,r5,r7⟩
 ·split
  ·exact hg
  ·have h1:1<=c.2.2:=by have:=ri.ph _ _ he;unfold zdD at this;rw [hw] at this;exact this.2
   refine ⟨ri.setE he rfl rfl (show c.2.1 < (n.asks ce.house).length/\(some R.came).isSome = true/\1<=c.2.2 from ⟨hat,rfl,h1⟩),wt.setE he rfl (fun z=>⟨z.1,by rw [hw];rfl⟩) nl,(sb.setE _ _).mono (by omega),by simp [Run.setE],rfl,fun i e' h' hs=>?_⟩
   rcases z8 h' with ⟨rfl,rfl,_⟩ | ⟨_,h'⟩
   ·exact .inr ⟨rfl,ce,_,_,he,hw⟩
   ·exact .inl ⟨e',h',rfl,rfl⟩
theorem zer (wn:WN n):∀ (f:Nat) {R:Run} {i:Nat} {w:Str} {e:Er} {B:Nat},RI n R->WT R->SB B R->R.es[i]? = some e->e.house < f->e.ph.isE = false->NL R i->Res n R (qV n f R i w) (B + 9)
 | 0,R,i,w,e,B,_,_,_,_,hf,_,_=>absurd hf (by omega)
 | f + 1,R,i,w,e,B,ri,wt,sb,he,hf,hl,nl=>by
  have ri1:RI n (R.setE i { e with ph:=.ended w }):=ri.setE he rfl rfl True.intro
  have wt1:WT (R.setE i { e with ph:=.ended w }):=wt.setE he rfl (fun z=>absurd z.2 (by show ¬ true = false;simp)) nl
  have back:∀ {j:Nat} {q:Er},(R.setE i { e with ph:=.ended w }).es[j]? = some q->q.ph.isE = false->R.es[j]? = some q:=fun {j q} hq hE=>by
   rcases z8 hq with ⟨rfl,rfl,_⟩ | ⟨_,hq⟩
   ·cases hE
   ·exact hq
  have stop:Res n R (R.setE i { e with ph:=.ended w }) (B + 9):=⟨ri1,wt1,(sb.setE _ _).mono (by omega),by simp [Run.setE],rfl,fun j e' h' hs=>by
   rcases z8 h' with ⟨rfl,rfl,_⟩ | ⟨_,h'⟩
   ·cases hs
   ·exact .inl ⟨e',h',rfl,rfl⟩⟩
  unfold qV
  rw [he]
  dsimp only
  cases q:e.caller with
  | none=>rw [q] at stop;exact stop
  | some c=>
   dsimp only
   cases ql:e.lost with
   | true=>rw [if_pos rfl];rw [q,ql] at stop;exact stop
   | false=>
    rw [if_neg (by simp)]
    have es:({ e with ph:=.ended w }:Er) = { house:=e.house,caller:=some c,ph:=.ended w,lost:=false,asked:=e.asked,stood:=e.stood }:=by rw [← q,← ql]
    rw [← es]
    obtain ⟨ce,c1,c2,c3⟩:=wt i e c he q ⟨ql,hl⟩
    obtain ⟨d1,ce',d2,d3,d4⟩:=ri.cl i e c he q
    rw [c1] at d2
    cases d2
    have hne:c.1 ≠ i:=by omega
    have c1':(R.setE i { e with ph:=.ended w }).es[c.1]? = some ce:=by rw [ze6 hne];exact c1
    have nl1:NL (R.setE i { e with ph:=.ended w }) c.1:=fun j e' cc h' hc' z l'=>by
     have h2:=back h' l'.2
     obtain ⟨x,x1,x2,x3⟩:=wt j e' cc h2 hc' l'
     rw [z,c1] at x1
     cases x1
     rw [c3] at x3
     cases x3
     rw [zgf he] at h'
     cases h'
     cases l'.2
    have hend:=zer wn f (w:=w) ri1 wt1 (sb.setE _ _) c1' (by omega) (by rw [c2];rfl) nl1
    have hh:=zhB wn (w:=w) ri1 wt1 (sb.setE _ _) c1' d4 c2 nl1 hend
    refine ⟨hh.ri,hh.wt,hh.sb,by have:=hh.le;simp [Run.setE] at this;exact this,hh.ca,fun j e' h' hs=>?_⟩
    rcases hh.qs j e' h' hs with ⟨e1,a1,a2,a3⟩ | ⟨a1,e1,a,t,a2,a3⟩
    ·exact .inl ⟨e1,back a1 (by rw [a2];cases z:e'.ph <;> rw [z] at hs <;> first | rfl | cases hs),a2,a3⟩
    ·exact .inr ⟨a1,e1,a,t,back a2 (by rw [a3];rfl),a3⟩
variable {e:Er} {i:Nat}
theorem zjO (wt:WT R) (he:R.es[i]? = some e) (hn:∀ a t,e.ph ≠ .waits a t):NL R i:=fun j e' c h' hc z l=>by
 obtain ⟨ce,a1,a2,_⟩:=wt j e' c h' hc l
 rw [z,he] at a1
 cases a1
 exact hn _ _ a2
noncomputable def EvC (n:Net) (R:Run):Evt->Prop
 | .fresh=>True
 | .ends i _=>∃ e,R.es[i]? = some e/\e.ph.isW = true
 | .lost i=>∃ e c,R.es[i]? = some e/\e.caller = some c/\lv e
 | .again i=>∃ e,R.es[i]? = some e/\e.ph.isS = true/\qz n e = true
 | .up i=>∃ e,R.es[i]? = some e/\e.ph.isS = true
variable {ev:Evt}
theorem ziT (he:R.es[i]? = some e) (h:ev ∈ ze9 n R i):ev.isF = false/\ev.num = i/\EvC n R ev:=by
 have h:=(mem_filter.mp h).1
 unfold qN at h
 rw [qC he] at h
 simp only [mem_append] at h
 rcases h with ((h | h) | h) | h
 ·split at h
  ·rename_i q
   simp only [mem_cons,not_mem_nil,or_false] at h
   rcases h with rfl | rfl | rfl <;> exact ⟨rfl,rfl,e,he,q⟩
  ·cases h
 ·split at h
  ·rename_i q
   rw [mem_singleton.mp h]
   unfold zbG at q
   split at q
   ·cases q
   ·rename_i c hc
    rw [Qu] at q
    have q1:=q.1
    refine ⟨rfl,rfl,e,c,he,hc,?_,?_⟩
    ·cases z:e.lost with
     | false=>rfl
     | true=>rw [z] at q1;cases q1
    ·cases z:e.ph.isE with
     | false=>rfl
     | true=>rw [z,Bool.or_true] at q1;cases q1
  ·cases h
 ·split at h
  ·rename_i q
   rw [mem_singleton.mp h]
   have q':=q
   unfold qz at q'
   rw [Qu] at q'
   exact ⟨rfl,rfl,e,he,q'.1,q⟩
  ·cases h
 ·split at h
  ·rename_i q
   rw [mem_singleton.mp h]
   exact ⟨rfl,rfl,e,he,q⟩
  ·cases h
theorem EvC.ok (h:EvC n R ev):zpX R ev:=by
 cases ev with
 | fresh=>exact True.intro
 | ends i w=>obtain ⟨e,a,_⟩:=h;exact ⟨e,a⟩
 | lost i=>obtain ⟨e,c,a,b,_⟩:=h;exact ⟨e,c,a,b⟩
 | again i=>obtain ⟨e,a,b,_⟩:=h;exact ⟨e,a,b⟩
 | up i=>exact h
theorem zkI (wn:WN n) (ri:RI n R) (wt:WT R) (sb:SB B R) (hc:EvC n R ev):Res n R (doR n R ev) (B + 10):=by
 have up10:∀ {R':Run},Res n R R' (B + 9)->Res n R R' (B + 10):=fun h=>⟨h.ri,h.wt,h.sb.mono (by omega),h.le,h.ca,h.qs⟩
 cases ev with
 | fresh=>
  obtain ⟨r1,r2,r3,r4⟩:=zgl wn 4 (h:=0) (c:=none) (by have:=wn.hl;omega) ri wt sb wn.h1 (fun c' z=>by cases z)
  refine ⟨r1,r2,r3.mono (by omega),r4.1,r4.2.1,fun i e' h' hs=>?_⟩
  by_cases z:i < R.es.length
  ·have hq:R.es[i]? = some R.es[i]:=Q0 z
   have:=r4.2.2.1 i _ hq
   rw [show doR n R .fresh = yC n 4 R 0 none from rfl,this] at h'
   cases h'
   exact .inl ⟨_,hq,rfl,rfl⟩
  ·have:=r4.2.2.2 i e' h' (by omega)
   rw [hs] at this
   cases this
 | ends i w=>
  obtain ⟨e,he,hw⟩:=hc
  have hp:e.ph = .works:=by
   cases q:e.ph with
   | works=>rfl
   | _=>rw [q] at hw;cases hw
  exact up10 (zer wn 4 ri wt sb he (by have:=ri.hs _ _ he;have:=wn.hl;omega) (by rw [hp];rfl) (zjO wt he fun a t z=>by rw [hp] at z;cases z))
 | up i=>
  obtain ⟨e,he,hs⟩:=hc
  exact up10 (zer wn 4 ri wt sb he (by have:=ri.hs _ _ he;have:=wn.hl;omega) (by cases q:e.ph <;> rw [q] at hs <;> first | rfl | cases hs) (zjO wt he fun a t z=>by rw [z] at hs;cases hs))
 | again i=>
  obtain ⟨e,he,hs,_⟩:=hc
  show Res n R (zcL n R i) _
  unfold zcL
  rw [qC he]
  have te:=zg9 R (n.pof (n.ask e.house e.ph.at1))
  have ri1:RI n (takeO R (n.pof (n.ask e.house e.ph.at1))):=⟨by rw [te.1];exact ri.hs,by rw [te.1];exact ri.cl,by rw [te.1];exact ri.ph,by rw [te.2.1];exact ri.pl⟩
  have wt1:WT (takeO R (n.pof (n.ask e.house e.ph.at1))):=by intro j q c;rw [te.1];exact wt j q c
  have nl1:NL (takeO R (n.pof (n.ask e.house e.ph.at1))) i:=by intro j q c;rw [te.1];exact zjO wt he (fun a t z=>by rw [z] at hs;cases hs) j q c
  obtain ⟨r1,r2,r3,r4,r5,_,r7⟩:=zio wn (at':=e.ph.at1) (tr:=e.ph.at2 + 1) ri1 wt1 (sb.takeO _) (by rw [te.1];exact he) (zcA hs (ri.ph _ _ he)) (by cases q:e.ph <;> rw [q] at hs <;> first | rfl | cases hs) nl1 (by omega)
  refine ⟨r1,r2,r3.mono (by omega),by rw [te.1] at r4;exact r4,by rw [r5,te.2.2],?_⟩
  intro j e' h' hs'
  have:=r7 j e' h' hs'
  rw [te.1,te.2.2] at this
  exact this
 | lost i=>
  obtain ⟨e,c,he,hq,hlv⟩:=hc
  show Res n R (zci n R i) _
  have e0:zci n R i = zae n (qV n 4) (R.setE i { e with lost:=true }) c "bad":=by
   have el:∀ (o:Option (Nat × Nat × Nat)) (f:Nat × Nat × Nat->Run),o = some c->o.elim R f = f c:=fun o f h=>by rw [h];rfl
   unfold zci
   rw [qC he]
   exact el _ _ hq
  rw [e0]
  have ri1:RI n (R.setE i { e with lost:=true }):=ri.setE he rfl rfl (by have:=ri.ph _ _ he;unfold zdD at this ⊢;exact this)
  obtain ⟨ce,c1,c2,c3⟩:=wt i e c he hq hlv
  obtain ⟨d1,ce',d2,d3,d4⟩:=ri.cl i e c he hq
  rw [c1] at d2
  cases d2
  have hne:c.1 ≠ i:=by omega
  have c1':(R.setE i { e with lost:=true }).es[c.1]? = some ce:=by rw [ze6 hne];exact c1
  have wt1:WT (R.setE i { e with lost:=true }):=fun j q cc h' hc' l'=>by
   have key:∀ q0,R.es[j]? = some q0->q0.caller = some cc->lv q0->∃ ce,(R.setE i { e with lost:=true }).es[cc.1]? = some ce/\ce.ph = .waits cc.2.1 cc.2.2/\ce.asked = some j:=fun q0 h0 hc0 l0=>by
    obtain ⟨x,x1,x2,x3⟩:=wt j q0 cc h0 hc0 l0
    by_cases z:cc.1 = i
    ·rw [z] at x1 ⊢
     rw [he] at x1
     cases x1
     exact ⟨_,zgf he _,x2,x3⟩
    ·exact ⟨x,by rw [ze6 z];exact x1,x2,x3⟩
   rcases z8 h' with ⟨rfl,rfl,_⟩ | ⟨_,h'⟩
   ·cases l'.1
   ·exact key q h' hc' l'
  have nl1:NL (R.setE i { e with lost:=true }) c.1:=fun j e' cc h' hc' z l'=>by
   rcases z8 h' with ⟨rfl,rfl,_⟩ | ⟨hji,h'⟩
   ·cases l'.1
   ·obtain ⟨x,x1,x2,x3⟩:=wt j e' cc h' hc' l'
    rw [z,c1] at x1
    cases x1
    rw [c3] at x3
    cases x3
    exact hji rfl
  have hend:=zer wn 4 (w:="bad") ri1 wt1 (sb.setE _ _) c1' (by have:=ri1.hs _ _ c1';have:=wn.hl;omega) (by rw [c2];rfl) nl1
  have hh:=zhB wn (w:="bad") ri1 wt1 (sb.setE _ _) c1' d4 c2 nl1 hend
  refine ⟨hh.ri,hh.wt,hh.sb.mono (by omega),by have:=hh.le;simp [Run.setE] at this;exact this,hh.ca,fun j e' h' hs=>?_⟩
  rcases hh.qs j e' h' hs with ⟨e1,a1,a2,a3⟩ | ⟨a1,e1,a,t,a2,a3⟩
  ·rcases z8 a1 with ⟨rfl,rfl,_⟩ | ⟨_,a1⟩
   ·exact .inl ⟨e,he,a2,a3⟩
   ·exact .inl ⟨e1,a1,a2,a3⟩
  ·rcases z8 a2 with ⟨rfl,rfl,_⟩ | ⟨_,a2⟩
   ·exact .inr ⟨a1,e,a,t,he,a3⟩
   ·exact .inr ⟨a1,e1,a,t,a2,a3⟩
end My
namespace My
open PySem L2 FT
noncomputable def Run.new (n:Net):Run:=⟨0,[],n.ps.map fun _=>[],[],n.ps.map fun _=>0⟩
noncomputable def zA (n:Net) (evs:List Evt):Run:=evs.foldl (yq n) (Run.new n)
def Can (n:Net) (R:Run) (ev:Evt):Prop:=ev.isF = true\/((∃ e,R.es[ev.num]? = some e)/\ev ∈ ze9 n R ev.num)
noncomputable def VEv (n:Net):Run->List Evt->Prop
 | _,[]=>True
 | R,ev :: evs=>Can n R ev/\VEv n (yq n R ev) evs
variable {ev:Evt} {n:Net} {R:Run}
theorem Can.c (h:Can n R ev):EvC n R ev:=by
 rcases h with h | ⟨⟨e,he⟩,hm⟩
 ·cases ev with
  | fresh=>exact True.intro
  | _=>cases h
 ·exact (ziT he hm).2.2
structure Good (n:Net) (R:Run) (B:Nat):Prop where
 ri:RI n R
 wt:WT R
 sb:SB B R
 sd:∀ (i:Nat) (e:Er) (k:Nat),R.es[i]? = some e->e.ph.isS = true->e.stood = some k->k < R.came
theorem zlW (n:Net):Good n (Run.new n) 0:=⟨⟨fun i e h=>by simp [Run.new] at h,fun i e c h=>by simp [Run.new] at h,fun i e h=>by simp [Run.new] at h,by simp [Run.new]⟩,fun i e c h=>by simp [Run.new] at h,⟨Q4 _,fun u hu=>by
 obtain ⟨_,_,rfl⟩:=mem_map.mp hu
 exact Q4 _,Q4 _,fun v hv=>by
 obtain ⟨_,_,rfl⟩:=mem_map.mp hv
 exact Q4 _⟩,fun i e k h=>by simp [Run.new] at h⟩
variable {B:Nat}
theorem zkw (wn:WN n) (g:Good n R B) (hc:Can n R ev):Good n (yq n R ev) (B + 10):=by
 have r:=zkI wn g.ri g.wt g.sb hc.c
 exact ⟨⟨r.ri.hs,r.ri.cl,r.ri.ph,r.ri.pl⟩,r.wt,⟨r.sb.es,r.sb.pu,r.sb.py,r.sb.tk⟩,fun i e k he hs hk=>by
  show k < (doR n R ev).came + 1
  rw [r.ca]
  rcases r.qs i e he hs with ⟨e1,a1,a2,a3⟩ | ⟨a1,_⟩
  ·have:=g.sd i e1 k a1 (by rw [a2];exact hs) (by rw [a3];exact hk)
   omega
  ·rw [a1] at hk
   cases hk
   omega⟩
variable {kE kR:Addr} {l:Lay} {M:Mem} {r:Nat}
section
variable {b:Nat}
theorem zlJ {G:Gd} {bd:FT.T->FT.Ev->Mem->Out FT.Ev} {el:FT.Ev->Mem->Out FT.T} {M:Mem} {α:Type} {r:α->FT.T} (hG:zaf G M) (I:FT.Ev->Prop) (f:α->FT.T):∀ {xs:List α} {σ:FT.Ev} {acc:List FT.T},I σ->acc.length + xs.length<=100000->
  (∀ x σ,x ∈ xs->I σ->∃ σ1,bd (r x) σ M = .ok σ1 M/\I σ1/\el σ1 M = .ok (f x) M)->qM G bd yH el (xs.map r) σ M acc = .ok (acc ++ xs.map f) M
 | [],σ,acc,_,_,_=>by simp [qM,zb2 hG]
 | x :: xs,σ,acc,h,hl,t=>by
  obtain ⟨σ1,e1,h1,e2⟩:=t x σ (.head _) h
  rw [Qq] at hl
  have ih:=zlJ hG I f (xs:=xs) (σ:=σ1) (acc:=acc ++ [f x]) h1 (by rw [Qo,Qq,length_nil];omega) (fun y σ hy=>t y σ (.tail _ hy))
  rw [map_cons]
  unfold qM
  rw [zb2 hG,e1]
  show ((el σ1 M).bind _) = _
  rw [e2]
  show (if acc.length < sizeLine then qM G bd yH el (xs.map r) σ1 M (acc ++ [f x]) else .bad) = _
  rw [if_pos (by rw [sizeLine_eq];omega),ih]
  simp
theorem zcD {a:Nat} {xs:List FT.T} (h:M[a]? = some (.lst xs)):zdE (.ref a) M = some (xs,[(a,xs)]):=by
 show (match M[a]? with | some (.lst xs)=>some (xs,[(a,xs)]) | _=>none) = _
 rw [h]
noncomputable def erT (e:Er):FT.T:=.tup [nT e.house,clT e.caller,phT e.ph]
noncomputable def tdT (p:Int × Int):FT.T:=.tup [.int p.1,.int p.2]
noncomputable def zcf (n:Net) (R:Run):FT.T:=.tup [.lst (R.es.map erT),.lst ((List.range n.ps.length).map fun k=>tdT (R.told n k))]
theorem zfj (h:RunAt kE kR (zg n) b r l M R) (wn:WN n) (ri:RI n R) (hB:B < 90000) (sb:SB B R):zaB kE kR [.ref r] M = .ok (zcf n R) M:=by
 unfold zaB zgA
 have zp:l.es.map FT.T.ref = (List.zip l.es R.es).map fun q=>FT.T.ref q.1:=by
  rw [show (fun q:Nat × Er=>FT.T.ref q.1) = FT.T.ref ∘ Prod.fst from rfl,← map_map,List.map_fst_zip (by rw [h.el];exact Q4 _)]
 have z2:R.es.map erT = (List.zip l.es R.es).map fun q=>erT q.2:=by
  rw [show (fun q:Nat × Er=>erT q.2) = erT ∘ Prod.snd from rfl,← map_map,List.map_snd_zip (by rw [h.el];exact Q4 _)]
 have c1:=zlJ (G:=[(l.a,l.es.map FT.T.ref)]) (bd:=qi 0) (el:=yw (yb (yi [kE] "house" (zb 0)) (yb (yi [kE] "caller" (zb 0)) (yb (yi [kE] "state" (zb 0)) zd)))) (M:=M) (r:=fun q:Nat × Er=>FT.T.ref q.1) (zhD h.er) (fun σ=>∃ o,σ = [o]) (fun q=>erT q.2) (xs:=List.zip l.es R.es) (σ:=[none]) (acc:=[]) ⟨_,rfl⟩ (by rw [length_nil,List.length_zip,h.el,Nat.min_self];have:=sb.es;omega) (by
  rintro ⟨x,e⟩ σ hx ⟨o,rfl⟩
  obtain ⟨i,hi⟩:=mem_iff_getElem?.mp hx
  have hxe:l.es[i]? = some x/\R.es[i]? = some e:=by
   rw [List.getElem?_zip_eq_some] at hi
   exact hi
  obtain ⟨x',hx',hc⟩:=h.at_e hxe.2
  rw [hxe.1] at hx'
  cases hx'
  refine ⟨[some (.ref x)],rfl,⟨_,rfl⟩,?_⟩
  have f1:=yE (f:="house") hc rfl
  have f2:=yE (f:="caller") hc rfl
  have f3:=yE (f:="state") hc rfl
  simp_arith [yi,f1,f2,f3]
  rfl)
 rw [nil_append,← zp,← z2] at c1
 have rg:zeZ [.int ((n.ps.map puT).length:Int)] M = .ok ((rgI n.ps.length).map .int) M:=by
  rw [zdc (by rw [Qi];have:=wn.pl;omega),Qi,Int.toNat_natCast]
 have c2:qr (qi 0) yH (yf (zQ kE kR) (yb (zb 1) (yb (zb 0) zd))) ((rgI n.ps.length).map .int) [none,some (.ref r)] M [] = .ok ((List.range n.ps.length).map fun k=>tdT (R.told n k)) M:=by
  rw [show (rgI n.ps.length).map FT.T.int = (List.range n.ps.length).map nT by unfold rgI;rw [map_map];rfl]
  exact Ok.mapc (r:=nT) (fun σ=>∃ o,σ = [o,some (.ref r)]) _ ⟨_,rfl⟩ (by rw [List.length_range];have:=wn.pl;omega) (by
   rintro k σ hk ⟨o,rfl⟩
   refine ⟨[some (nT k),some (.ref r)],rfl,⟨_,rfl⟩,?_⟩
   simp_arith [zir h wn ri.pl (mem_range.mp hk)]
   rfl)
 have hnt:=h.net
 unfold zg at hnt
 simp_arith [yi,h.errands,zbT,zcD h.er,qX,c1,hnt,rg,c2]
 rfl
end
variable {t:FT.T} {evs:List Evt} {M' X:Mem} {i k:Nat}
section
theorem ziI (M X:Mem) (c:Cell):(M ++ (c :: X))[M.length]? = some c:=by
 rw [Q9 (Q4 _),Nat.sub_self];rfl
theorem znl (M X:Mem) (c d:Cell):(M ++ (c :: X)).set M.length d = M ++ (d :: X):=by
 rw [set_append_right _ _ (Q4 _),Nat.sub_self];rfl
theorem zd0 {c d:Cell} (h:X[i]? = some d):(M ++ (c :: X))[M.length + 1 + i]? = some d:=by
 rw [Q9 (by omega),show M.length + 1 + i - M.length = i + 1 by omega,getElem?_cons_succ];exact h
theorem setM {fs fs':List (Str × FT.T)} {f:Str} {y:FT.T} (e:zcz f y fs = fs') (hl:fs.length < 1000):zav [kR] f (.ref M.length) y (M ++ (.ins kR fs :: X)) = .ok () (M ++ (.ins kR fs' :: X)):=by
 rw [zaH (ziI M X _) e hl,znl]
noncomputable def puA (b p:Nat):List Nat:=(List.range p).map fun j=>b + 2 + j
noncomputable def newX (n:Net) (b:Nat):Mem:=(.lst [] :: List.replicate n.ps.length (.lst [])) ++ [.lst ((puA b n.ps.length).map .ref)] ++ [.lst []] ++ [.lst ((n.ps.map fun _=>0).map nT)]
noncomputable def zcb (n:Net) (b:Nat):Lay:=⟨b + 1,b + 2 + n.ps.length,b + 3 + n.ps.length,b + 4 + n.ps.length,[],puA b n.ps.length⟩
theorem zni (M:Mem):RunAt kE kR (zg n) M.length M.length (zcb n M.length) (M ++ (.ins kR (zbD (zg n) (zcb n M.length) (Run.new n)) :: newX n M.length)) (Run.new n):=by
 have pz:pzC (puA M.length n.ps.length) (n.ps.map fun _=>[]) = (List.range n.ps.length).map fun j=>(M.length + 2 + j,Cell.lst []):=by
  unfold pzC puA
  refine List.ext_getElem? fun i=>?_
  rw [List.getElem?_zipWith,Qc,Qc,Qc]
  by_cases z:i < n.ps.length
  ·rw [List.getElem?_range z,Q0 z]
   rfl
  ·rw [getElem?_eq_none (by simpa using z)]
   rfl
 have cs:cells kE kR (zg n) M.length (zcb n M.length) (Run.new n) = (M.length,.ins kR (zbD (zg n) (zcb n M.length) (Run.new n))) :: (M.length + 1,.lst []) :: (M.length + 2 + n.ps.length,.lst ((puA M.length n.ps.length).map .ref)) :: (M.length + 3 + n.ps.length,.lst []) :: (M.length + 4 + n.ps.length,.lst ((n.ps.map fun _=>0).map nT)) :: ((List.range n.ps.length).map fun j=>(M.length + 2 + j,Cell.lst [])):=by
  rw [← pz]
  rfl
 have xl:newX n M.length = Cell.lst [] :: (List.replicate n.ps.length (Cell.lst []) ++ [.lst ((puA M.length n.ps.length).map .ref),.lst [],.lst ((n.ps.map fun _=>0).map nT)]):=by
  unfold newX
  simp
 have ap:∀ (k:Nat) (d:Cell),[Cell.lst ((puA M.length n.ps.length).map FT.T.ref),.lst [],.lst ((n.ps.map fun _=>0).map nT)][k]? = some d->(newX n M.length)[n.ps.length + 1 + k]? = some d:=fun k d h=>by
  rw [xl,show n.ps.length + 1 + k = (n.ps.length + k) + 1 by omega,getElem?_cons_succ,Q9 (by rw [length_replicate];omega),length_replicate,show n.ps.length + k - n.ps.length = k by omega]
  exact h
 refine ⟨?_,?_,?_,rfl,by simp [zcb,puA,Run.new],by simp [Run.new]⟩
 ·rw [cs]
  intro p hp
  rcases mem_cons.mp hp with rfl | hp
  ·exact ziI _ _ _
  rcases mem_cons.mp hp with rfl | hp
  ·exact zd0 (i:=0) (by rw [xl];rfl)
  rcases mem_cons.mp hp with rfl | hp
  ·have:=zd0 (M:=M) (c:=.ins kR (zbD (zg n) (zcb n M.length) (Run.new n))) (ap 0 _ rfl)
   rw [show M.length + 1 + (n.ps.length + 1 + 0) = M.length + 2 + n.ps.length by omega] at this
   exact this
  rcases mem_cons.mp hp with rfl | hp
  ·have:=zd0 (M:=M) (c:=.ins kR (zbD (zg n) (zcb n M.length) (Run.new n))) (ap 1 _ rfl)
   rw [show M.length + 1 + (n.ps.length + 1 + 1) = M.length + 3 + n.ps.length by omega] at this
   exact this
  rcases mem_cons.mp hp with rfl | hp
  ·have:=zd0 (M:=M) (c:=.ins kR (zbD (zg n) (zcb n M.length) (Run.new n))) (ap 2 _ rfl)
   rw [show M.length + 1 + (n.ps.length + 1 + 2) = M.length + 4 + n.ps.length by omega] at this
   exact this
  ·obtain ⟨j,hj,rfl⟩:=mem_map.mp hp
   have hj:=mem_range.mp hj
   have:(newX n M.length)[1 + j]? = some (.lst []):=by
    rw [xl,Nat.add_comm 1 j,getElem?_cons_succ,Q7 (by rw [length_replicate];exact hj),List.getElem?_replicate,if_pos hj]
   have:=zd0 (M:=M) (c:=.ins kR (zbD (zg n) (zcb n M.length) (Run.new n))) this
   rw [show M.length + 1 + (1 + j) = M.length + 2 + j by omega] at this
   exact this
 ·rw [cs]
  simp only [map_cons,map_map]
  have hm:∀ x,x ∈ (List.range n.ps.length).map ((fun p:Nat × Cell=>p.1) ∘ fun j=>(M.length + 2 + j,Cell.lst []))->M.length + 2<=x/\x < M.length + 2 + n.ps.length:=fun x hx=>by
   obtain ⟨j,hj,rfl⟩:=mem_map.mp hx
   have:=mem_range.mp hj
   simp only [Function.comp]
   omega
  refine nodup_cons.mpr ⟨?_,nodup_cons.mpr ⟨?_,nodup_cons.mpr ⟨?_,nodup_cons.mpr ⟨?_,nodup_cons.mpr ⟨?_,?_⟩⟩⟩⟩⟩
  ·intro z
   simp only [mem_cons] at z
   rcases z with z | z | z | z | z
   ·omega
   ·omega
   ·omega
   ·omega
   ·have:=hm _ z;omega
  ·intro z
   simp only [mem_cons] at z
   rcases z with z | z | z | z
   ·omega
   ·omega
   ·omega
   ·have:=hm _ z;omega
  ·intro z
   simp only [mem_cons] at z
   rcases z with z | z | z
   ·omega
   ·omega
   ·have:=hm _ z;omega
  ·intro z
   simp only [mem_cons] at z
   rcases z with z | z
   ·omega
   ·have:=hm _ z;omega
  ·intro z
   have:=hm _ z;omega
  ·rw [List.Nodup,List.pairwise_map]
   exact (List.nodup_range).imp fun h=>by simp only [Function.comp];omega
 ·rw [cs]
  intro p hp
  rcases mem_cons.mp hp with rfl | hp
  ·exact Q4 _
  rcases mem_cons.mp hp with rfl | hp
  ·exact Nat.le_succ _
  rcases mem_cons.mp hp with rfl | hp
  ·show M.length<=M.length + 2 + n.ps.length;omega
  rcases mem_cons.mp hp with rfl | hp
  ·show M.length<=M.length + 3 + n.ps.length;omega
  rcases mem_cons.mp hp with rfl | hp
  ·show M.length<=M.length + 4 + n.ps.length;omega
  ·obtain ⟨j,_,rfl⟩:=mem_map.mp hp
   show M.length<=M.length + 2 + j;omega
theorem zhP:∀ (xs:List FT.T) (o:Option FT.T) (M:Mem) (acc:List FT.T),acc.length + xs.length<=100000->qr (qi 0) yH (eTk (yK zd)) xs [o] M acc = .ok (acc ++ (List.range xs.length).map fun j=>.ref (M.length + j)) (M ++ List.replicate xs.length (.lst []))
 | [],o,M,acc,_=>by simp [qr]
 | x :: xs,o,M,acc,hl=>by
  rw [Qq] at hl
  have ih:=zhP xs (some x) (M ++ [.lst []]) (acc ++ [.ref M.length]) (by rw [Qo,Qw];omega)
  unfold qr
  show (if acc.length < sizeLine then qr (qi 0) yH (eTk (yK zd)) xs [some x] (M ++ [.lst []]) (acc ++ [.ref M.length]) else .bad) = _
  rw [if_pos (by rw [sizeLine_eq];omega),ih]
  congr 1
  ·rw [append_assoc,Qq,List.range_succ_eq_map,map_cons,map_map]
   congr 1
   show FT.T.ref M.length :: _ = FT.T.ref (M.length + 0) :: _
   congr 1
   refine List.map_congr_left fun j _=>?_
   simp
   omega
  ·rw [Qq,replicate_succ]
   simp
theorem zga (wn:WN n) (M:Mem):Ok (yY kE kR [.ref M.length,zg n] (M ++ [.ins kR []])) fun t M'=>t = .non/\M' = M ++ (.ins kR (zbD (zg n) (zcb n M.length) (Run.new n)) :: newX n M.length):=by
 refine yD rfl ?_
 unfold zfK
 have pl:=wn.pl
 have ap:∀ (X:Mem) (c d:Cell),M ++ c :: X ++ [d] = M ++ (c :: (X ++ [d])):=fun X c d=>by simp
 have ln:∀ (X:Mem) (c:Cell),(M ++ c :: X).length = M.length + 1 + X.length:=fun X c=>by simp;omega
 have s1:=setM (kR:=kR) (M:=M) (X:=[]) (fs:=[]) (f:="net") (y:=zg n) (fs':=[("net",zg n)]) rfl (by decide)
 have s2:=setM (kR:=kR) (M:=M) (X:=[]) (fs:=[("net",zg n)]) (f:="came") (y:=.int 0) (fs':=[("net",zg n),("came",.int 0)]) rfl (by simp)
 have s3:=setM (kR:=kR) (M:=M) (X:=[.lst []]) (fs:=[("net",zg n),("came",.int 0)]) (f:="errands") (y:=.ref (M.length + 1)) (fs':=[("net",zg n),("came",.int 0),("errands",.ref (M.length + 1))]) rfl (by simp)
 have it:zaT (eOp ixT (zb 1) (eC (.int 1))) [some (.ref M.length),some (zg n)] = fun M=>.ok (n.ps.map puT) M:=rfl
 have cp:∀ o,qr (qi 0) yH (eTk (yK zd)) (n.ps.map puT) [o] (M ++ (.ins kR [("net",zg n),("came",.int 0),("errands",.ref (M.length + 1))] :: [.lst []])) [] = .ok ((puA M.length n.ps.length).map .ref) (M ++ (.ins kR [("net",zg n),("came",.int 0),("errands",.ref (M.length + 1))] :: (.lst [] :: List.replicate n.ps.length (.lst [])))):=fun o=>by
  rw [zhP _ _ _ _ (by rw [length_nil,Qi];omega),Qi,nil_append]
  congr 1
  ·unfold puA
   rw [map_map]
   refine List.map_congr_left fun j _=>?_
   simp
  ·simp
 have s4:=setM (kR:=kR) (M:=M) (X:=(.lst [] :: List.replicate n.ps.length (.lst [])) ++ [.lst ((puA M.length n.ps.length).map .ref)]) (fs:=[("net",zg n),("came",.int 0),("errands",.ref (M.length + 1))]) (f:="puts") (y:=.ref (M.length + 2 + n.ps.length)) (fs':=[("net",zg n),("came",.int 0),("errands",.ref (M.length + 1)),("puts",.ref (M.length + 2 + n.ps.length))]) rfl (by simp)
 have s5:=setM (kR:=kR) (M:=M) (X:=(.lst [] :: List.replicate n.ps.length (.lst [])) ++ [.lst ((puA M.length n.ps.length).map .ref)] ++ [.lst []]) (fs:=[("net",zg n),("came",.int 0),("errands",.ref (M.length + 1)),("puts",.ref (M.length + 2 + n.ps.length))]) (f:="payments") (y:=.ref (M.length + 3 + n.ps.length)) (fs':=[("net",zg n),("came",.int 0),("errands",.ref (M.length + 1)),("puts",.ref (M.length + 2 + n.ps.length)),("payments",.ref (M.length + 3 + n.ps.length))]) rfl (by simp)
 have s6:=setM (kR:=kR) (M:=M) (X:=newX n M.length) (fs:=[("net",zg n),("came",.int 0),("errands",.ref (M.length + 1)),("puts",.ref (M.length + 2 + n.ps.length)),("payments",.ref (M.length + 3 + n.ps.length))]) (f:="taken") (y:=.ref (M.length + 4 + n.ps.length)) (fs':=zbD (zg n) (zcb n M.length) (Run.new n)) rfl (by simp)
 have ct:∀ o M',qr (qi 0) yH (eC (.int 0)) (n.ps.map puT) [o] M' [] = .ok ((n.ps.map fun _=>0).map nT) M':=fun o M'=>by
  rw [map_map]
  exact Ok.mapc (r:=puT) (fun σ=>∃ o,σ = [o]) _ ⟨_,rfl⟩ (by omega) (by
   rintro x σ hx ⟨o,rfl⟩
   exact ⟨[some (puT x)],rfl,⟨_,rfl⟩,rfl⟩)
 have l4:(M ++ Cell.ins kR [("net",zg n),("came",.int 0),("errands",.ref (M.length + 1))] :: (.lst [] :: List.replicate n.ps.length (Cell.lst []))).length = M.length + 2 + n.ps.length:=by simp;omega
 have l5:(M ++ Cell.ins kR [("net",zg n),("came",.int 0),("errands",.ref (M.length + 1)),("puts",.ref (M.length + 2 + n.ps.length))] :: ((.lst [] :: List.replicate n.ps.length (Cell.lst [])) ++ [.lst ((puA M.length n.ps.length).map .ref)])).length = M.length + 3 + n.ps.length:=by simp;omega
 have l6:(M ++ Cell.ins kR [("net",zg n),("came",.int 0),("errands",.ref (M.length + 1)),("puts",.ref (M.length + 2 + n.ps.length)),("payments",.ref (M.length + 3 + n.ps.length))] :: ((.lst [] :: List.replicate n.ps.length (Cell.lst [])) ++ [.lst ((puA M.length n.ps.length).map .ref)] ++ [.lst []])).length = M.length + 4 + n.ps.length:=by simp;omega
 have st:∀ (f:Str) (y:FT.T) (fv:Ev->Mem->Out FT.T) (M0 M1 M2:Mem),fv [some (.ref M.length),some (zg n)] M0 = .ok y M1->zav [kR] f (.ref M.length) y M1 = .ok () M2->yB [kR] f (zb 0) fv [some (.ref M.length),some (zg n)] M0 = .ok (.nx [some (.ref M.length),some (zg n)]) M2:=fun f y fv M0 M1 M2 h1 h2=>by
  unfold yB
  rw [h1]
  show (zav [kR] f (.ref M.length) y M1).bind _ = _
  rw [h2]
  rfl
 refine ⟨.non,_,?_,rfl,rfl⟩
 have t1:=st "net" (zg n) (zb 1) _ _ _ rfl s1
 have t2:=st "came" (.int 0) (eC (.int 0)) _ _ _ rfl s2
 have t3:=st "errands" (.ref (M.length + 1)) (eTk (yK zd)) (M ++ (.ins kR [("net",zg n),("came",.int 0)] :: [])) _ _ (by
  show Out.ok (FT.T.ref (M ++ [Cell.ins kR [("net",zg n),("came",.int 0)]]).length) (M ++ [Cell.ins kR [("net",zg n),("came",.int 0)]] ++ [.lst []]) = .ok (.ref (M.length + 1)) (M ++ (.ins kR [("net",zg n),("came",.int 0)] :: [.lst []]))
  simp) s3
 have t4:=st "puts" (.ref (M.length + 2 + n.ps.length)) (eTk (zI (zaT (eOp ixT (zb 1) (eC (.int 1)))) (qi 0) yH (eTk (yK zd)) ["purse"] [])) (M ++ (.ins kR [("net",zg n),("came",.int 0),("errands",.ref (M.length + 1))] :: [.lst []])) _ _ (by
  show ((qr (qi 0) yH (eTk (yK zd)) (n.ps.map puT) [none] (M ++ (.ins kR [("net",zg n),("came",.int 0),("errands",.ref (M.length + 1))] :: [.lst []])) []).bind fun ts M1=>Out.ok (FT.T.ref M1.length) (M1 ++ [Cell.lst ts])) = _
  rw [cp]
  show Out.ok (FT.T.ref (List.length _)) _ = _
  rw [l4,ap]) s4
 have t5:=st "payments" (.ref (M.length + 3 + n.ps.length)) (eTk (yK zd)) (M ++ (.ins kR [("net",zg n),("came",.int 0),("errands",.ref (M.length + 1)),("puts",.ref (M.length + 2 + n.ps.length))] :: ((.lst [] :: List.replicate n.ps.length (.lst [])) ++ [.lst ((puA M.length n.ps.length).map .ref)]))) _ _ (by
  show Out.ok (FT.T.ref (List.length _)) _ = _
  rw [l5,ap]) s5
 have t6:=st "taken" (.ref (M.length + 4 + n.ps.length)) (eTk (zI (zaT (eOp ixT (zb 1) (eC (.int 1)))) (qi 0) yH (eC (.int 0)) ["purse"] [])) (M ++ (.ins kR [("net",zg n),("came",.int 0),("errands",.ref (M.length + 1)),("puts",.ref (M.length + 2 + n.ps.length)),("payments",.ref (M.length + 3 + n.ps.length))] :: ((.lst [] :: List.replicate n.ps.length (.lst [])) ++ [.lst ((puA M.length n.ps.length).map .ref)] ++ [.lst []]))) _ _ (by
  show ((qr (qi 0) yH (eC (.int 0)) (n.ps.map puT) [none] _ []).bind fun ts M1=>Out.ok (FT.T.ref M1.length) (M1 ++ [Cell.lst ts])) = _
  rw [ct]
  show Out.ok (FT.T.ref (List.length _)) _ = _
  rw [l6,ap]
  rfl) s6
 rw [show startT 2 [.ref M.length,zg n] = [some (.ref M.length),some (zg n)] from rfl]
 unfold qg
 rw [t1]
 show ((((yB [kR] "came" (zb 0) (eC (.int 0)) [some (.ref M.length),some (zg n)] _).bind _)).bind zca) = _
 rw [t2]
 show ((((yB [kR] "errands" (zb 0) (eTk (yK zd)) [some (.ref M.length),some (zg n)] _).bind _)).bind zca) = _
 rw [t3]
 show ((((yB [kR] "puts" (zb 0) _ [some (.ref M.length),some (zg n)] _).bind _)).bind zca) = _
 rw [t4]
 show ((((yB [kR] "payments" (zb 0) _ [some (.ref M.length),some (zg n)] _).bind _)).bind zca) = _
 rw [t5]
 show (((yB [kR] "taken" (zb 0) _ [some (.ref M.length),some (zg n)] _)).bind zca) = _
 rw [t6]
 rfl
theorem zkh (wn:WN n) (M:Mem) {σ:Ev} (hσ:zb 0 σ = fun M=>.ok (zg n) M):∃ M',zcj kR (yY kE kR) (yb (zb 0) zd) σ M = .ok (.ref M.length) M'/\RunAt kE kR (zg n) M.length M.length (zcb n M.length) M' (Run.new n)/\Kp M.length M M':=by
 obtain ⟨t,M',e,rfl,rfl⟩:=zga (kE:=kE) (kR:=kR) wn M
 refine ⟨_,?_,zni M,?_⟩
 ·unfold zcj yb zd
  rw [hσ]
  show ((yY kE kR [.ref M.length,zg n] (M ++ [.ins kR []])).bind _) = _
  rw [e]
  rfl
 ·exact ⟨by simp,fun i hi=>Q7 hi⟩
def EvS (t:FT.T) (evs:List Evt):Prop:=t = .lst (evs.map evT)\/t = .tup (evs.map evT)
theorem zcQ {α β:Type} {f:β->α->β} {x:β} {xs:List α} {y:α} (h:xs[k]? = some y):(xs.take (k + 1)).foldl f x = f ((xs.take k).foldl f x) y:=by
 rw [take_succ,h,foldl_append]
 rfl
theorem VEv.at_ {n:Net}:∀ {evs:List Evt} {R:Run} {k:Nat} {ev:Evt},VEv n R evs->evs[k]? = some ev->Can n ((evs.take k).foldl (yq n) R) ev
 | [],_,_,_,_,h=>by simp at h
 | e0 :: evs,R,0,ev,v,h=>by
  simp at h
  subst h
  exact v.1
 | e0 :: evs,R,k + 1,ev,v,h=>by
  simp at h
  exact VEv.at_ (k:=k) v.2 h
theorem zaA (wn:WN n) {evs:List Evt} (v:VEv n (Run.new n) evs):∀ k,k<=evs.length->Good n (zA n (evs.take k)) (10 * k)
 | 0,_=>zlW n
 | k + 1,h=>by
  have hk:evs[k]? = some evs[k]:=Q0 (by omega)
  have g:=zaA wn v k (by omega)
  have c:=v.at_ hk
  unfold zA at g ⊢
  rw [zcQ hk]
  have:=zkw wn g c
  exact ⟨this.ri,this.wt,this.sb.mono (by omega),this.sd⟩
theorem zgw (wn:WN n) {b:Nat} (h:RunAt kE kR (zg n) b r l M R) (g:Good n R B) (hB:B + 10 < 90000) (hc:Can n R ev):qG kE kR [.ref r,evT ev] M = .ok .non M/\Ok (zY kE kR [.ref r,evT ev] M) (Lv kE kR n b r (yq n R ev) M):=by
 refine ⟨?_,zo5 h wn hB g.sb g.ri hc.c.ok⟩
 rcases hc with hf | ⟨⟨e,he⟩,hm⟩
 ·cases ev with
  | fresh=>exact zkO h
  | _=>cases hf
 ·have:=ziT he hm
  exact zpT h wn g.ri (by have:=g.sb.es;omega) this.1 he hm
theorem zon (wn:WN n) (ht:EvS t evs) (v:VEv n (Run.new n) evs) (hl:evs.length<=2000) (M:Mem):Ok (zdI kE kR [zg n,t] M) fun u M'=>u = .ref M.length/\Kp M.length M M'/\∃ l,RunAt kE kR (zg n) M.length M.length l M' (zA n evs):=by
 refine yD rfl ?_
 unfold zhF
 obtain ⟨M1,e1,h1,k1⟩:=zkh (kE:=kE) (kR:=kR) wn M (σ:=[some (zg n),some t,none,none]) rfl
 have loop:Ok (forL (qi 3) (zec kE kR) (evs.map evT) [some (zg n),some t,some (.ref M.length),none] M1) fun fl M'=>∃ σ,fl = .nx σ/\∃ o,σ = [some (zg n),some t,some (.ref M.length),o]/\Kp M.length M M'/\∃ l,RunAt kE kR (zg n) M.length M.length l M' (zA n evs):=by
  refine (Ok.for (r:=evT) (xs:=evs) (fun k σ M'=>∃ o,σ = [some (zg n),some t,some (.ref M.length),o]/\Kp M.length M M'/\∃ l,RunAt kE kR (zg n) M.length M.length l M' (zA n (evs.take k))) ⟨none,rfl,k1,_,h1⟩ ?_).mono ?_
  ·rintro k ev σ M2 hk ⟨o,rfl,k2,l2,h2⟩
   have hkl:=(List.getElem?_eq_some_iff.mp hk).1
   obtain ⟨c1,c2⟩:=zgw wn h2 (zaA wn v k (by omega)) (by omega) (v.at_ hk)
   unfold zec
   simp_arith [c1]
   refine Ok.bind c2 ?_
   rintro u M3 ⟨rfl,k3,l3,h3⟩
   try simp_arith [and_self]
   refine Ok.ret ⟨_,rfl,_,rfl,k2.trans k3,l3,?_⟩
   unfold zA at h3 ⊢
   rw [zcQ hk]
   exact h3
  ·rintro fl M' ⟨σ,rfl,o,rfl,k2,l2,h2⟩
   rw [take_length] at h2
   exact ⟨_,rfl,o,rfl,k2,l2,h2⟩
 simp_arith [e1]
 rcases ht with rfl | rfl
 ·simp_arith [and_self]
  refine Ok.bind loop ?_
  rintro fl M' ⟨σ,rfl,o,rfl,k2,l2,h2⟩
  simp_arith [and_self]
  exact Ok.ret ⟨rfl,k2,l2,h2⟩
 ·simp_arith [and_self]
  refine Ok.bind loop ?_
  rintro fl M' ⟨σ,rfl,o,rfl,k2,l2,h2⟩
  simp_arith [and_self]
  exact Ok.ret ⟨rfl,k2,l2,h2⟩
theorem zfV (h:Kp M.length M M'):M'.take M.length = M:=by
 refine List.ext_getElem? fun i=>?_
 by_cases z:i < M.length
 ·rw [List.getElem?_take_of_lt z];exact h.2 i z
 ·rw [getElem?_eq_none (by rw [length_take];omega),getElem?_eq_none (by omega)]
theorem zqu (e:Er):FT.T.lt 0 (erT e):=by
 refine .tup fun t ht=>?_
 simp only [mem_cons,not_mem_nil,or_false] at ht
 rcases ht with rfl | rfl | rfl
 ·exact .int _
 ·cases e.caller with
  | none=>exact .non
  | some c=>
   refine .tup fun u hu=>?_
   simp only [mem_cons,not_mem_nil,or_false] at hu
   rcases hu with rfl | rfl | rfl <;> exact .int _
 ·cases e.ph with
  | works=>
   refine .tup fun u hu=>?_
   simp only [mem_cons,not_mem_nil,or_false] at hu
   rcases hu with rfl
   exact .str _
  | waits a t=>
   refine .tup fun u hu=>?_
   simp only [mem_cons,not_mem_nil,or_false] at hu
   rcases hu with rfl | rfl | rfl
   ·exact .str _
   ·exact .int _
   ·exact .int _
  | stands a t=>
   refine .tup fun u hu=>?_
   simp only [mem_cons,not_mem_nil,or_false] at hu
   rcases hu with rfl | rfl | rfl
   ·exact .str _
   ·exact .int _
   ·exact .int _
  | ended w=>
   refine .tup fun u hu=>?_
   simp only [mem_cons,not_mem_nil,or_false] at hu
   rcases hu with rfl | rfl
   ·exact .str _
   ·exact .str _
theorem ziK (n:Net) (R:Run):FT.T.lt 0 (zcf n R):=by
 refine .tup fun t ht=>?_
 simp only [mem_cons,not_mem_nil,or_false] at ht
 rcases ht with rfl | rfl
 ·refine .lst fun u hu=>?_
  obtain ⟨e,_,rfl⟩:=mem_map.mp hu
  exact zqu e
 ·refine .lst fun u hu=>?_
  obtain ⟨k,_,rfl⟩:=mem_map.mp hu
  refine .tup fun v hv=>?_
  simp only [mem_cons,not_mem_nil,or_false] at hv
  rcases hv with rfl | rfl <;> exact .int _
theorem zj3 (wn:WN n) (ht:EvS t evs) (v:VEv n (Run.new n) evs) (hl:evs.length<=2000) (M:Mem):zft kE kR [zg n,t] M = .ok (zcf n (zA n evs)) M:=by
 have key:Ok (zjC kE kR [zg n,t] M) fun u M'=>u = zcf n (zA n evs)/\Kp M.length M M':=by
  refine yD rfl ?_
  unfold zmp
  simp_arith [and_self]
  refine Ok.bind (zon wn ht v hl M) ?_
  rintro u M1 ⟨rfl,k1,l1,h1⟩
  have g:=zaA wn v evs.length (Q4 _)
  rw [take_length] at g
  simp_arith [zfj h1 wn g.ri (B:=10 * evs.length) (by omega) g.sb]
  exact Ok.ret ⟨rfl,k1⟩
 obtain ⟨u,M',e,rfl,k⟩:=key
 unfold zft zbX
 rw [e]
 dsimp only
 rw [if_pos ⟨zfV k,ziK _ _⟩]
end
variable {st:List (Int × Int)}
section
noncomputable def prd (st:List (Int × Int)):Int:=(st.map (·.2)).foldl (· * ·) 1
noncomputable def pwT (p:Int × Int):FT.T:=.tup [.int p.1,.int p.2]
noncomputable def zM (st:List (Int × Int)):FT.T:=.tup (st.map pwT)
noncomputable def wtT (W:List (List (List (Int × Int)))):FT.T:=.tup (W.map fun row=>.tup (row.map zM))
def WS1 (st:List (Int × Int)):Prop:=st.length<=6/\∀ p ∈ st,(0<=p.1/\p.1<=1000001)/\1<=p.2/\p.2<=1000
theorem zj6 {st:List (Int × Int)} (h:∀ p ∈ st,1<=p.2/\p.2<=1000):∀ k,k<=st.length->1<=prd (st.take k)/\prd (st.take k)<=1000 ^ k
 | 0,_=>by simp [prd]
 | k + 1,hk=>by
  have ih:=zj6 h k (by omega)
  have hp:st[k]? = some st[k]:=Q0 (by omega)
  have hb:=h st[k] (getElem_mem _)
  have e:prd (st.take (k + 1)) = prd (st.take k) * st[k].2:=by
   unfold prd
   rw [take_succ,hp,Qs,foldl_append]
   rfl
  rw [e]
  constructor
  ·have:=Int.mul_le_mul ih.1 hb.1 (by omega) (by omega)
   omega
  ·rw [Int.pow_succ]
   exact Int.mul_le_mul ih.2 hb.2 (by omega) (Int.pow_nonneg (by omega))
theorem ze0 {p:Int × Int} (h:st[k]? = some p):prd (st.take (k + 1)) = prd (st.take k) * p.2:=by
 unfold prd
 rw [take_succ,h,Qs,foldl_append]
 rfl
theorem zdd (h:WS1 st) (hk:k<=st.length):1<=prd (st.take k)/\prd (st.take k)<=1000 ^ 6:=by
 have:=zj6 (fun p hp=>(h.2 p hp).2) k hk
 exact ⟨this.1,Int.le_trans this.2 (by
  have:k<=6:=Qk hk h.1
  exact_mod_cast Nat.pow_le_pow_right (show 0 < 1000 by decide) this)⟩
end
variable {e:Er} {pairs:List (Int × Evt)} {W:List (List (List (Int × Int)))}
section
theorem zd8 (xs:List FT.T) (n:Nat):zcG xs none (some (n:Int)) = xs.take n:=by
 unfold zcG
 rw [HT.zlm,HT.zmQ,List.drop_zero,Nat.sub_zero]
 by_cases h:n<=xs.length
 ·rw [Nat.min_eq_left h]
 ·rw [Nat.min_eq_right (by omega),List.take_of_length_le (Q4 _),List.take_of_length_le (by omega)]
theorem zgu (h:WS1 st) (hk:k<=st.length) (M:Mem):qZ kE kR [zM st,nT k] M = .ok (.int (prd (st.take k))) M:=by
 have key:Ok (qZ kE kR [zM st,nT k] M) fun t M'=>t = .int (prd (st.take k))/\M' = M:=by
  refine yD rfl ?_
  unfold zeH zM
  have k1:zcG (st.map pwT) none (some (k:Int)) = (st.take k).map pwT:=by rw [zd8,map_take]
  simp_arith [k1]
  refine Ok.bind (Ok.for (r:=pwT) (xs:=st.take k) (fun j σ M'=>∃ o3 o4,σ = [some (.tup (st.map pwT)),some (nT k),some (.int (prd ((st.take k).take j))),o3,o4]/\M' = M) ⟨none,none,by simp [prd],rfl⟩ ?_) ?_
  ·rintro j p σ M1 hj ⟨o3,o4,rfl,rfl⟩
   have hjl:=(List.getElem?_eq_some_iff.mp hj).1
   rw [length_take] at hjl
   have hp:=h.2 p (List.mem_of_mem_take (Qb hj))
   have b:=zdd h (k:=j) (by omega)
   have tt:(st.take k).take j = st.take j:=by rw [List.take_take,Nat.min_eq_left (by omega)]
   have mu:zhu (.int (prd (st.take j))) (.int p.2) M1 = .ok (.int (prd (st.take j) * p.2)) M1:=if_pos (.inr (.inr (show -(2 ^ 64) < p.2/\p.2 < 2 ^ 64 by omega)))
   unfold zeb
   rw [show pwT p = .tup [.int p.1,.int p.2] from rfl]
   rw [tt]
   simp_arith [zjk,mu]
   refine Ok.ret ⟨_,rfl,some (.int p.1),some (.int p.2),?_,rfl⟩
   rw [ze0 hj,tt]
  ·rintro fl M1 ⟨σ,rfl,o3,o4,rfl,rfl⟩
   rw [take_length]
   simp_arith [and_self]
   exact Ok.ret ⟨rfl,rfl⟩
 obtain ⟨t,M',e,rfl,rfl⟩:=key
 exact e
noncomputable def zhO (st:List (Int × Int)) (i k:Nat):Int:=(st.getD k (0,1)).1 + prd (st.take k) * ((i:Int) / prd (st.take k) % (st.getD k (0,1)).2)
theorem zlc (h:WS1 st) (hk:k < st.length) (M:Mem):zaY kE kR [zM st,nT i,.int ((k:Int) + 1)] M = .ok (.int (zhO st i k)) M:=by
 unfold zaY zeD
 have b:=zdd h (k:=k) (by omega)
 have hp:st[k]? = some st[k]:=Q0 hk
 have hb:=h.2 st[k] (getElem_mem _)
 have s1:=zgu (kE:=kE) (kR:=kR) h (k:=k) (by omega) M
 have a1:atI (st.map pwT) (k:Int) = some (.tup [.int st[k].1,.int st[k].2]):=yp (f:=pwT) hp
 unfold zM at s1 ⊢
 have sb:(k:Int) + 1 - 1 = (k:Int):=by omega
 have dv:∀ M,zc5 (nT i) (.int (prd (st.take k))) M = .ok (.int ((i:Int).fdiv (prd (st.take k)))) M:=fun M=>zes (zjF 100 (by decide) (by omega) (by
  refine Nat.lt_of_le_of_lt (show (prd (st.take k)).natAbs<=10 ^ 18 from ?_) (Nat.pow_lt_pow_right (by decide) (by decide))
  simp only [Nat.reducePow]
  simp only [Int.reducePow] at b
  omega))
 have md:∀ x M,zac (.int x) (.int st[k].2) M = .ok (.int (x.fmod st[k].2)) M:=fun x M=>zdg (by omega)
 have mu:∀ x M,zap (.int (prd (st.take k))) (.int x) M = .ok (.int (prd (st.take k) * x)) M:=fun x M=>zcC (by simp only [Int.reducePow] at b ⊢;omega)
 simp_arith [sb,s1,a1,dv,md,mu]
 unfold zhO
 rw [Q8,hp,Int.fdiv_eq_ediv_of_nonneg _ (by omega),Qa _ (by omega)]
 rfl
structure WW (n:Net) (W:List (List (List (Int × Int)))):Prop where
 hl:W.length = n.hs.length
 al:∀ (h:Nat) row,W[h]? = some row->row.length = (n.asks h).length
 ok:∀ row ∈ W,∀ st ∈ row,WS1 st
 ne:∀ (h k:Nat) row st a,W[h]? = some row->row[k]? = some st->(n.asks h)[k]? = some a->a.tries ≠ 1->0 < st.length
noncomputable def zaQ (W:List (List (List (Int × Int)))) (e:Er):List (Int × Int):=(W.getD e.house []).getD e.ph.at1 []
noncomputable def kOf (W:List (List (List (Int × Int)))) (e:Er):Nat:=min e.ph.at2 (zaQ W e).length - 1
noncomputable def yS (W:List (List (List (Int × Int)))) (ts:List Int) (e:Er) (i:Nat):Int:=ts.getD (e.stood.getD 0) 0 + zhO (zaQ W e) i (kOf W e)
noncomputable def prT (p:Int × Evt):FT.T:=.tup [.int p.1,evT p.2]
variable {b:Nat}
theorem zmj (ww:WW n W) (ri:RI n R) (he:R.es[i]? = some e) (hs:e.ph.isS = true):∃ row,W[e.house]? = some row/\row[e.ph.at1]? = some (zaQ W e):=by
 have hh:=ri.hs _ _ he
 have hl:=zcA hs (ri.ph _ _ he)
 have h1:W[e.house]? = some (W[e.house]'(by rw [ww.hl];exact hh)):=Q0 _
 have h2:=ww.al _ _ h1
 refine ⟨_,h1,?_⟩
 unfold zaQ
 rw [Q8 (l:=W),h1]
 rw [Q8]
 show (W[e.house]'(by rw [ww.hl];exact hh))[e.ph.at1]? = some (((W[e.house]'(by rw [ww.hl];exact hh))[e.ph.at1]?).getD [])
 rw [Q0 (by omega)]
 rfl
def PL (M:Mem) (t:FT.T) (pairs:List (Int × Evt)):Prop:=t = .lst (pairs.map prT)\/∃ a,t = .ref a/\M[a]? = some (.lst (pairs.map prT))
theorem zit (h:RunAt kE kR (zg n) b r l M R) (ww:WW n W) (ri:RI n R) {pt:FT.T} (pl:PL M pt pairs) (he:R.es[i]? = some e) (hs:e.ph.isS = true) (ht:1<=e.ph.at2) (hne:0 < (zaQ W e).length) (hk:e.stood = some k) (hkl:k < pairs.length):qP kE kR [.ref r,wtT W,pt,nT i] M = .ok (.int (yS W (pairs.map (·.1)) e i)) M:=by
 unfold qP zd3
 obtain ⟨x,hx,hc⟩:=h.at_e he
 have f1:=yE (f:="house") hc rfl
 have f3:=yE (f:="state") hc rfl
 have f4:=yE (f:="stood") hc rfl
 rw [phS hs] at f3
 rw [hk,show onT (some k) = nT k from rfl] at f4
 obtain ⟨row,r1,r2⟩:=zmj ww ri he hs
 have w1:atI (W.map fun row=>FT.T.tup (row.map zM)) (e.house:Int) = some (.tup (row.map zM)):=yp (f:=fun row=>FT.T.tup (row.map zM)) r1
 have w2:atI (row.map zM) (e.ph.at1:Int) = some (zM (zaQ W e)):=yp (f:=zM) r2
 have ws:=ww.ok _ (Qb r1) _ (Qb r2)
 have hp:pairs[k]? = some pairs[k]:=Q0 hkl
 have p1:atI (pairs.map prT) (k:Int) = some (.tup [.int pairs[k].1,evT pairs[k].2]):=yp (f:=prT) hp
 have mn:∀ i j M,zjs (.int i) (.int j) M = .ok (.int (if j < i then j else i)) M:=fun _ _ _=>rfl
 have ln:qF (zM (zaQ W e)) M = .ok (nT (zaQ W e).length) M:=by
  unfold zM
  rw [zlL,Qi]
 have kk:(if ((zaQ W e).length:Int) < (e.ph.at2:Int) then ((zaQ W e).length:Int) else (e.ph.at2:Int)) = ((kOf W e:Nat):Int) + 1:=by
  unfold kOf
  by_cases z:(zaQ W e).length < e.ph.at2
  ·rw [if_pos (by omega),Nat.min_eq_right (by omega)];omega
  ·rw [if_neg (by omega),Nat.min_eq_left (by omega)];omega
 have hkk:kOf W e < (zaQ W e).length:=by
  unfold kOf
  have:=Nat.min_le_right e.ph.at2 (zaQ W e).length
  omega
 have we:=zlc (kE:=kE) (kR:=kR) ws (i:=i) hkk M
 unfold wtT
 rcases pl with rfl | ⟨a,rfl,ha⟩
 ·simp_arith [yi,h.errands,h.er,yp (f:=FT.T.ref) hx,f1,w1,f3,w2,ln,mn,kk,f4,p1,we]
  unfold yS
  rw [hk,Q8,Option.getD_some,Qc,hp]
  rfl
 ·simp_arith [yi,ha,h.errands,h.er,yp (f:=FT.T.ref) hx,f1,w1,f3,w2,ln,mn,kk,f4,p1,we]
  unfold yS
  rw [hk,Q8,Option.getD_some,Qc,hp]
  rfl
end
section
variable {kN:Addr}
theorem zbP (wn:WN n) {evs:List Evt} (v:VEv n (Run.new n) evs):∀ k,k<=evs.length->(zA n (evs.take k)).came = k
 | 0,_=>rfl
 | k + 1,h=>by
  have hk:evs[k]? = some evs[k]:=Q0 (by omega)
  have g:=zaA wn v k (by omega)
  have ih:=zbP wn v k (by omega)
  have c:=v.at_ hk
  unfold zA at g ih ⊢
  rw [zcQ hk]
  have:=(zkI wn g.ri g.wt g.sb c.c).ca
  show (doR n _ _).came + 1 = _
  rw [this,ih]
structure TOk (n:Net) (W:List (List (List (Int × Int)))) (pairs:List (Int × Evt)):Prop where
 v:VEv n (Run.new n) (pairs.map (·.2))
 s:∀ (k:Nat) (p:Int × Evt) (i:Nat),pairs[k]? = some p->p.2 = .again i->yS W (pairs.map (·.1)) ((zA n ((pairs.take k).map (·.2))).er i) i<=p.1
theorem zmk (ww:WW n W) (ri:RI n R) (he:R.es[i]? = some e) (ht:qz n e = true):0 < (zaQ W e).length:=by
 have ht':=ht
 unfold qz at ht'
 rw [Qu,Bool.or_eq_true] at ht'
 obtain ⟨hs,h2⟩:=ht'
 obtain ⟨row,r1,r2⟩:=zmj ww ri he hs
 have hl:=zcA hs (ri.ph _ _ he)
 have ha:(n.asks e.house)[e.ph.at1]? = some (n.asks e.house)[e.ph.at1]:=Q0 hl
 refine ww.ne _ _ _ _ _ r1 r2 ha fun z=>?_
 rw [zdl ha,z] at h2
 have:=(zel hs (ri.ph _ _ he)).1
 rcases h2 with h2 | h2
 ·simp at h2
 ·have:=of_decide_eq_true h2
  omega
theorem zkk (h:PL M t pairs):∃ G,zdE t M = some (pairs.map prT,G)/\zaf G M/\∀ M',Kp M.length M M'->zaf G M':=by
 rcases h with rfl | ⟨a,rfl,h⟩
 ·exact ⟨[],rfl,zhE _,fun M' _=>zhE _⟩
 ·have g:∀ M':Mem,M'[a]? = some (.lst (pairs.map prT))->zaf [(a,pairs.map prT)] M':=fun M' e p hp=>by
   rw [mem_singleton.mp hp]
   exact e
  exact ⟨_,zcD h,g _ h,fun M' k=>g _ (by rw [k.2 a (zS h)];exact h)⟩
theorem OkX.forG {G:Gd} {bd:FT.T->FT.Ev->Mem->Out FT.Ev} {body:FT.Ev->Mem->Out Fl} {α:Type} {r:α->FT.T} (P:Nat->FT.Ev->Mem->Prop) {E:Addr->List (Str × FT.T)->Mem->Prop} (hG:∀ i σ M,P i σ M->zaf G M):∀ (xs:List α) (i:Nat) {σ:FT.Ev} {M:Mem},
  P i σ M->(∀ (k:Nat) x σ M,xs[k]? = some x->P (i + k) σ M->OkX ((bd (r x) σ M).bind fun σ1 M1=>body σ1 M1) (fun fl M'=>∃ σ',fl = .nx σ'/\P (i + k + 1) σ' M') E)->
  OkX (forG G bd body (xs.map r) σ M) (fun fl M'=>∃ σ',fl = .nx σ'/\P (i + xs.length) σ' M') E
 | [],i,σ,M,h,_=>by
  rw [map_nil]
  unfold FT.forG
  rw [zb2 (hG _ _ _ h)]
  exact ⟨σ,rfl,h⟩
 | x :: xs,i,σ,M,h,t=>by
  have h1:=t 0 x σ M rfl h
  rw [map_cons]
  unfold FT.forG
  rw [zb2 (hG _ _ _ h)]
  cases q:bd (r x) σ M with
  | bad=>rw [q] at h1;exact h1.elim
  | exn C fs M'=>rw [q] at h1;exact h1
  | ok σ3 M3=>
   rw [q] at h1
   replace h1:OkX (body σ3 M3) _ _:=h1
   show OkX ((body σ3 M3).bind (yM (FT.forG G bd body (xs.map r)))) _ _
   refine OkX.bind h1 ?_
   rintro fl M1 ⟨σ1,rfl,h2⟩
   have ih:=OkX.forG (E:=E) P hG xs (i + 1) (bd:=bd) (body:=body) h2 (fun k y σ M hk hp=>by
    have:=t (k + 1) y σ M (by simpa using hk) (by rw [show i + (k + 1) = i + 1 + k by omega];exact hp)
    rw [show i + (k + 1) + 1 = i + 1 + k + 1 by omega] at this
    exact this)
   rw [Qq,show i + (xs.length + 1) = i + 1 + xs.length by omega]
   exact ih
def zc7 (n:Net) (W:List (List (List (Int × Int)))) (pairs:List (Int × Evt)) (k:Nat):Prop:=∃ p i,pairs[k]? = some p/\p.2 = .again i/\p.1 < yS W (pairs.map (·.1)) ((zA n ((pairs.take k).map (·.2))).er i) i
theorem zgs (wn:WN n) (ww:WW n W) (v:VEv n (Run.new n) (pairs.map (·.2))) (hl:pairs.length<=2000) {pt:FT.T} (pl:PL M pt pairs):OkX (zT kE kR kN [zg n,wtT W,pt] M) (fun u M'=>(∀ k,¬ zc7 n W pairs k)/\u = .ref M.length/\Kp M.length M M'/\∃ l,RunAt kE kR (zg n) M.length M.length l M' (zA n (pairs.map (·.2)))) (fun C fs M'=>C = kN/\∃ k,fs = [(("at":Str),nT k)]/\zc7 n W pairs k/\Kp M.length M M'):=by
 refine zch rfl ?_
 unfold zeF
 obtain ⟨M1,e1,h1,k1⟩:=zkh (kE:=kE) (kR:=kR) wn M (σ:=[some (zg n),some (wtT W),some pt,none,none,none]) rfl
 have plk:∀ M',Kp M.length M M'->PL M' pt pairs:=fun M' k=>by
  rcases pl with rfl | ⟨a,rfl,h⟩
  ·exact .inl rfl
  ·exact .inr ⟨a,rfl,by rw [k.2 a (zS h)];exact h⟩
 obtain ⟨G,g1,g2,g3⟩:=zkk (plk M1 k1)
 have gk:∀ M',Kp M.length M M'->zaf G M':=fun M' k=>by
  obtain ⟨G',g1',_,g3'⟩:=zkk pl
  have:G' = G:=by
   rcases pl with rfl | ⟨a,rfl,h⟩
   ·cases g1;cases g1';rfl
   ·rw [zcD h] at g1'
    rw [zcD (by rw [k1.2 a (zS h)];exact h)] at g1
    cases g1;cases g1';rfl
  rw [← this]
  exact g3' M' k
 simp_arith [e1,zgT,zbT,g1]
 refine OkX.bind (OkX.forG (r:=prT) (fun k σ M'=>∃ o4 o5,σ = [some (zg n),some (wtT W),some pt,some (.ref M.length),o4,o5]/\(∀ j,j < k->¬ zc7 n W pairs j)/\Kp M.length M M'/\∃ l,RunAt kE kR (zg n) M.length M.length l M' (zA n ((pairs.take k).map (·.2)))) (fun i σ M' h=>by obtain ⟨_,_,_,_,k,_⟩:=h;exact gk M' k) pairs 0 ⟨none,none,rfl,fun j hj=>absurd hj (by omega),k1,_,h1⟩ ?_) ?_
 ·rintro k p σ M2 hk ⟨o4,o5,rfl,ns,k2,l2,h2⟩
  rw [Nat.zero_add] at ns h2 ⊢
  have hkl:=(List.getElem?_eq_some_iff.mp hk).1
  have hk':(pairs.map (·.2))[k]? = some p.2:=by rw [Qc,hk];rfl
  have g:=zaA wn v k (by rw [Qi];omega)
  have ca:=zbP wn v k (by rw [Qi];omega)
  have hc:=v.at_ hk'
  rw [← map_take] at g ca hc
  have hc':Can n (zA n ((pairs.take k).map (·.2))) p.2:=hc
  obtain ⟨c1,c2⟩:=zgw wn h2 g (by omega) hc'
  have st:zA n ((pairs.take (k + 1)).map (·.2)) = yq n (zA n ((pairs.take k).map (·.2))) p.2:=by
   unfold zA
   rw [map_take,map_take,zcQ hk']
  have fin:¬ zc7 n W pairs k->OkX ((zY kE kR [.ref M.length,evT p.2] M2).bind fun _ M'=>.ok (Fl.nx [some (zg n),some (wtT W),some pt,some (.ref M.length),some (.int p.1),some (evT p.2)]) M') (fun fl M'=>∃ σ',fl = Fl.nx σ'/\∃ o4 o5,σ' = [some (zg n),some (wtT W),some pt,some (.ref M.length),o4,o5]/\(∀ j,j < k + 1->¬ zc7 n W pairs j)/\Kp M.length M M'/\∃ l,RunAt kE kR (zg n) M.length M.length l M' (zA n ((pairs.take (k + 1)).map (·.2)))) (fun C fs M'=>C = kN/\∃ k,fs = [(("at":Str),nT k)]/\zc7 n W pairs k/\Kp M.length M M'):=by
   intro nk
   refine OkX.bindO c2 ?_
   rintro u M3 ⟨rfl,k3,l3,h3⟩
   exact ⟨_,rfl,_,_,rfl,fun j hj=>by
    by_cases z:j = k
    ·rw [z];exact nk
    ·exact ns j (by omega),k2.trans k3,l3,by rw [st];exact h3⟩
  unfold zea
  rw [show prT p = .tup [.int p.1,evT p.2] from rfl]
  obtain ⟨s,ts,hd,ha,_⟩:=ziS p.2
  cases q:p.2.isA with
  | false=>
   have nk:¬ zc7 n W pairs k:=by
    rintro ⟨p',i,e1,e2,_⟩
    rw [hk] at e1
    cases e1
    rw [e2] at q
    cases q
   rw [q] at ha
   rw [hd] at c1 fin ⊢
   simp_arith [c1,zms,ha]
   exact fin nk
  | true=>
   cases hp:p.2 with
   | again i=>
    rw [hp] at c1 fin hc'
    obtain ⟨e,he,hs,ht⟩:=hc'.c
    obtain ⟨a2,a3⟩:=zel hs (g.ri.ph _ _ he)
    obtain ⟨sk,hsk⟩:=Option.isSome_iff_exists.mp a3
    have hlt:=g.sd i e sk he hs hsk
    rw [ca] at hlt
    have se:=zit h2 ww g.ri (plk M2 k2) he hs a2 (zmk ww g.ri he ht) hsk (by omega)
    rw [show evT (.again i) = .tup [.str "again",nT i] from rfl] at c1 fin ⊢
    have ea:∀ M,eqA (.str "again") (.str "again") M = .ok (.bl true) M:=fun _=>rfl
    by_cases hz:p.1 < yS W (pairs.map (·.1)) e i
    ·have cm:=h2.came
     rw [ca] at cm
     simp_arith [c1,ea,se,Qx hz,zfq,zcx,yi,cm]
     exact ⟨rfl,k,rfl,⟨p,i,hk,hp,by rw [qC he];exact hz⟩,k2⟩
    ·simp_arith [c1,ea,se,Qy hz]
     refine fin ?_
     rintro ⟨p',i',e1,e2,e3⟩
     rw [hk] at e1
     cases e1
     rw [hp] at e2
     cases e2
     rw [qC he] at e3
     exact hz e3
   | _=>rw [hp] at q;cases q
 ·rintro fl M2 ⟨σ,rfl,o4,o5,rfl,ns,k2,l2,h2⟩
  rw [Nat.zero_add] at ns h2
  rw [take_length] at h2
  simp_arith [and_self]
  exact ⟨fun k hz=>ns k (by obtain ⟨p,i,e,_⟩:=hz;exact (List.getElem?_eq_some_iff.mp e).1) hz,rfl,k2,l2,h2⟩
theorem TOk.no (tv:TOk n W pairs) (k:Nat):¬ zc7 n W pairs k:=by
 rintro ⟨p,i,e1,e2,e3⟩
 have:=tv.s k p i e1 e2
 omega
theorem zg8 (wn:WN n) (ww:WW n W) (tv:TOk n W pairs) (hl:pairs.length<=2000) {pt:FT.T} (pl:PL M pt pairs):Ok (zT kE kR kN [zg n,wtT W,pt] M) fun u M'=>u = .ref M.length/\Kp M.length M M'/\∃ l,RunAt kE kR (zg n) M.length M.length l M' (zA n (pairs.map (·.2))):=
 ((zgs wn ww tv.v hl pl).mono (fun _ _ h=>h.2) (fun _ _ _ h=>by obtain ⟨_,k,_,z,_⟩:=h;exact tv.no k z)).toOk
theorem zd2 (wn:WN n) (tv:TOk n W pairs):Good n (zA n (pairs.map (·.2))) (10 * pairs.length):=by
 have g:=zaA wn tv.v (pairs.map (·.2)).length (Q4 _)
 rw [take_length,Qi] at g
 exact g
theorem zld (wn:WN n) (ww:WW n W) (tv:TOk n W pairs) (hl:pairs.length<=2000) {pt:FT.T} (pl:PL M pt pairs):zej kE kR kN [zg n,wtT W,pt] M = .ok (zcf n (zA n (pairs.map (·.2)))) M:=by
 have key:Ok (zcn kE kR kN [zg n,wtT W,pt] M) fun u M'=>u = zcf n (zA n (pairs.map (·.2)))/\Kp M.length M M':=by
  refine OkX.toOk (zch rfl (OkX.ok ?_))
  unfold zgg
  simp_arith [and_self]
  refine Ok.bind (zg8 wn ww tv hl pl) ?_
  rintro u M1 ⟨rfl,k1,l1,h1⟩
  have g:=zd2 wn tv
  simp_arith [zfj h1 wn g.ri (B:=10 * pairs.length) (by omega) g.sb]
  exact Ok.ret ⟨rfl,k1⟩
 obtain ⟨u,M',e,rfl,k⟩:=key
 unfold zej zbX
 rw [e]
 dsimp only
 rw [if_pos ⟨zfV k,ziK _ _⟩]
noncomputable def zfz (n:Net) (R:Run):List Nat:=(List.range R.es.length).filter fun i=>qz n (R.er i)
noncomputable def sdT (p:Nat × Int):FT.T:=.tup [nT p.1,.int p.2]
noncomputable def zL (n:Net) (W:List (List (List (Int × Int)))) (ts:List Int) (R:Run):List (Nat × Int):=(zfz n R).map fun i=>(i,yS W ts (R.er i) i)
theorem zqt (xs:List (Nat × Int)):FT.T.lt 0 (.lst (xs.map sdT)):=by
 refine .lst fun u hu=>?_
 obtain ⟨p,_,rfl⟩:=mem_map.mp hu
 refine .tup fun v hv=>?_
 simp only [mem_cons,not_mem_nil,or_false] at hv
 rcases hv with rfl | rfl <;> exact .int _
theorem zfk (wn:WN n) (ww:WW n W) (tv:TOk n W pairs) (hl:pairs.length<=2000) {pt:FT.T} (pl:PL M pt pairs):zb0 kE kR kN [zg n,wtT W,pt] M = .ok (.lst ((zL n W (pairs.map (·.1)) (zA n (pairs.map (·.2)))).map sdT)) M:=by
 have key:Ok (zd7 kE kR kN [zg n,wtT W,pt] M) fun u M'=>u = .lst ((zL n W (pairs.map (·.1)) (zA n (pairs.map (·.2)))).map sdT)/\Kp M.length M M':=by
  refine OkX.toOk (zch rfl (OkX.ok ?_))
  unfold zgC
  simp_arith [and_self]
  refine Ok.bind (zg8 wn ww tv hl pl) ?_
  rintro u M1 ⟨rfl,k1,l1,h1⟩
  have plk:∀ M',Kp M.length M M'->PL M' pt pairs:=fun M' k=>by
   rcases pl with rfl | ⟨a,rfl,h⟩
   ·exact .inl rfl
   ·exact .inr ⟨a,rfl,by rw [k.2 a (zS h)];exact h⟩
  have g:=zd2 wn tv
  have ca:=zbP wn tv.v (pairs.map (·.2)).length (Q4 _)
  rw [take_length,Qi] at ca
  generalize hR:zA n (pairs.map (·.2)) = R at h1 g ca ⊢
  have ln:qF (.ref l1.a) M1 = .ok (nT R.es.length) M1:=by
   unfold qF zat zy
   simp only [h1.er]
   simp [h1.el]
  have rg:=zdc (M:=M1) (j:=(R.es.length:Int)) (by have:=g.sb.es;omega)
  have rr:(rgI R.es.length).map FT.T.int = (List.range R.es.length).map nT:=by unfold rgI;rw [map_map];rfl
  have hlen:(List.range R.es.length).length<=1000000:=by rw [List.length_range];have:=g.sb.es;omega
  have c1:qr (qi 0) (zr (yf (zG kE kR) (yb (zb 1) (yb (zb 0) zd)))) (zb 0) ((List.range R.es.length).map nT) [none,some (.ref M.length)] M1 [] = .ok ((zfz n R).map nT) M1:=
   Ok.filt (r:=nT) (fun σ=>∃ o,σ = [o,some (.ref M.length)]) _ nT ⟨_,rfl⟩ hlen (by
    rintro i σ hi ⟨o,rfl⟩
    have hil:=mem_range.mp hi
    have he:R.es[i]? = some R.es[i]:=Q0 hil
    refine ⟨[some (nT i),some (.ref M.length)],rfl,⟨_,rfl⟩,?_,fun _=>rfl⟩
    simp_arith [zdL h1 g.ri he]
    rw [qC he])
  have c2:qr (qi 0) yH (yw (yb (zb 0) (yb (yf (qP kE kR) (yb (zb 1) (yb (zb 2) (yb (zb 3) (yb (zb 0) zd))))) zd))) ((zfz n R).map nT) [none,some (.ref M.length),some (wtT W),some pt] M1 [] = .ok ((zL n W (pairs.map (·.1)) R).map sdT) M1:=by
   unfold zL
   rw [map_map]
   exact Ok.mapc (r:=nT) (fun σ=>∃ o,σ = [o,some (.ref M.length),some (wtT W),some pt]) _ ⟨_,rfl⟩ (Qk (List.length_filter_le _ _) hlen) (by
    rintro i σ hi ⟨o,rfl⟩
    have hi:=mem_filter.mp hi
    have hil:=mem_range.mp hi.1
    have he:R.es[i]? = some R.es[i]:=Q0 hil
    refine ⟨[some (nT i),some (.ref M.length),some (wtT W),some pt],rfl,⟨_,rfl⟩,?_⟩
    have ht:qz n R.es[i] = true:=by rw [← qC he];exact hi.2
    have hs:(R.es[i]).ph.isS = true:=by
     have:=ht
     unfold qz at this
     rw [Qu] at this
     exact this.1
    obtain ⟨a2,a3⟩:=zel hs (g.ri.ph _ _ he)
    obtain ⟨sk,hsk⟩:=Option.isSome_iff_exists.mp a3
    have hlt:=g.sd i _ sk he hs hsk
    have se:=zit h1 ww g.ri (plk M1 k1) he hs a2 (zmk ww g.ri he ht) hsk (by omega)
    simp_arith [se]
    simp only [Function.comp,qC he]
    rfl)
  simp_arith [yi,h1.errands,ln,rg,Int.toNat_natCast,rr,c1,c2]
  exact Ok.ret ⟨rfl,k1⟩
 obtain ⟨u,M',e,rfl,k⟩:=key
 unfold zb0 zbX
 rw [e]
 dsimp only
 rw [if_pos ⟨zfV k,zqt _⟩]
end
noncomputable def n64 (nm:Str) (tr:Int) (sure:Bool):Net:=⟨[⟨nm,[⟨"mill",tr,none,"bad",false,sure⟩]⟩,⟨"mill",[]⟩],[]⟩
variable {sure:Bool} {j:Nat} {nm:Str}
section
variable {tr:Int}
theorem as0:(n64 nm tr sure).asks 0 = [⟨"mill",tr,none,"bad",false,sure⟩]:=rfl
theorem as1:(n64 nm tr sure).asks 1 = []:=rfl
theorem zlS (h:nm ≠ "mill"):(n64 nm tr sure).hix "mill" = 1/\zbI "mill" ((n64 nm tr sure).hs.map (·.name)) 0 = some 1:=by
 have:zbI "mill" ((n64 nm tr sure).hs.map (·.name)) 0 = some 1:=by
  show zbI "mill" [nm,"mill"] 0 = some 1
  unfold zbI
  rw [if_neg (by simpa using h)]
  rfl
 exact ⟨by unfold Net.hix;rw [this];rfl,this⟩
theorem zi5 (h:nm ≠ "mill") (ht:0<=tr):WN (n64 nm tr sure):=by
 refine ⟨by show 2<=4;decide,by show 0 < 2;decide,by show 0<=100;decide,fun x hx=>?_,fun i a ha=>?_,fun p hp=>by cases hp⟩
 ·rcases mem_cons.mp hx with rfl | hx
  ·show 1<=100;decide
  ·rw [mem_singleton.mp hx];show 0<=100;decide
 ·match i with
  | 0=>
   rw [as0] at ha
   rw [mem_singleton.mp ha]
   have:=zlS (tr:=tr) (sure:=sure) h
   exact ⟨by rw [this.1];exact this.2,by rw [this.1];decide,(fun s z=>by cases z),ht⟩
  | 1=>rw [as1] at ha;cases ha
  | i + 2=>exact absurd ha (by show a ∉ ([]:List Ask);exact not_mem_nil)
theorem zl4 (h:nm ≠ "mill") (R:Run):doR (n64 nm tr sure) R .fresh = { R with es:=R.es ++ [⟨0,none,.waits 0 1,false,some (R.es.length + 1),none⟩] ++ [zl 1 (some (R.es.length,0,1))] }:=by
 have hx:=(zlS (tr:=tr) (sure:=sure) h).1
 show yC _ 4 R 0 none = _
 unfold yC
 rw [if_neg (by rw [as0];simp),zeg (zbE R (zl 0 none)) (show ((n64 nm tr sure).asks 0)[0]? = some ⟨"mill",tr,none,"bad",false,sure⟩ from rfl)]
 show yC _ 3 (((R.push (zl 0 none)).setE R.es.length _).share _ _ _ _) ((n64 nm tr sure).hix "mill") _ = _
 rw [hx]
 unfold yC
 rw [if_pos as1]
 show ({ R with es:=_ }:Run) = _
 congr 1
 show (((R.es ++ [zl 0 none]).set R.es.length _) ++ _) = _
 congr 1
 rw [set_append_right _ _ (Q4 _),Nat.sub_self]
 show R.es ++ [_] = _
 congr 2
 simp [zl,Run.push]
theorem zmh (h:nm ≠ "mill") (he:R.es[i]? = some e) (hh:e.house = 0) (hp:e.ph = .stands 0 j):doR (n64 nm tr sure) R (.again i) = { R with es:=R.es.set i { e with ph:=.waits 0 (j + 1),asked:=some R.es.length } ++ [zl 1 (some (i,0,j + 1))] }:=by
 have hx:=(zlS (tr:=tr) (sure:=sure) h).1
 show zcL _ R i = _
 unfold zcL
 rw [qC he,hh,hp]
 show zV _ _ (takeO R none) i 0 (j + 1) = _
 show zV _ _ R i 0 (j + 1) = _
 rw [zeg he (show ((n64 nm tr sure).asks e.house)[0]? = some ⟨"mill",tr,none,"bad",false,sure⟩ by rw [hh];rfl)]
 show yC _ 4 ((R.setE i _).share _ _ _ _) ((n64 nm tr sure).hix "mill") _ = _
 rw [hx]
 unfold yC
 rw [if_pos as1,hh]
 rfl
def zg1 (sure:Bool) (c:Nat) (ev:Evt):Prop:=(ev = .lost c/\sure = false)\/ev = .ends c "bad"\/ev = .ends c "spent"
theorem ziP {g:Run->Nat->Str->Run} {w:Str} (he:R.es[i]? = some e) (hh:e.house = 0) (hw:w = "bad"\/w = "spent"):zae (n64 nm tr sure) g R (i,0,j) w = R.setE i { e with ph:=.stands 0 j,stood:=some R.came }:=by
 unfold zae
 simp only [he]
 have h1:(w == ("well":Str)) = false:=by rcases hw with rfl | rfl <;> decide
 rw [if_neg (by rw [h1];simp),if_neg]
 rw [h1,hh,as0]
 simp
theorem znX {c:Nat} (hc:R.es[c]? = some (zl 1 (some (i,0,j)))) (he:R.es[i]? = some e) (hh:e.house = 0) (hf:zg1 sure c ev):∃ e':Er,e'.house = 1/\e'.ph.isS = false/\doR (n64 nm tr sure) R ev = { R with es:=(R.es.set c e').set i { e with ph:=.stands 0 j,stood:=some R.came } }:=by
 have hne:i ≠ c:=fun z=>by
  rw [z,hc] at he
  cases he
  cases hh
 have he':∀ e',(R.setE c e').es[i]? = some e:=fun e'=>by rw [ze6 hne];exact he
 rcases hf with ⟨rfl,_⟩ | hf
 ·refine ⟨{ zl 1 (some (i,0,j)) with lost:=true },rfl,rfl,?_⟩
  show zci _ R c = _
  unfold zci
  rw [qC hc]
  show zae _ _ (R.setE c _) (i,0,j) "bad" = _
  rw [ziP (he' _) hh (.inl rfl)]
  rfl
 ·have key:∀ w:Str,w = "bad"\/w = "spent"->doR (n64 nm tr sure) R (.ends c w) = { R with es:=(R.es.set c { zl 1 (some (i,0,j)) with ph:=.ended w }).set i { e with ph:=.stands 0 j,stood:=some R.came } }:=fun w hw=>by
   show qV _ 4 R c w = _
   unfold qV
   simp only [hc]
   show zae _ _ (R.setE c _) (i,0,j) w = _
   rw [ziP (he' _) hh hw]
   rfl
  rcases hf with rfl | rfl
  ·exact ⟨_,rfl,rfl,key _ (.inl rfl)⟩
  ·exact ⟨_,rfl,rfl,key _ (.inr rfl)⟩
theorem zl6 {c:Nat} (hc:R.es[c]? = some (zl 1 (some (i,0,j)))) (he:R.es[i]? = some e) (hh:e.house = 0) (hf:zg1 sure c ev):Can (n64 nm tr sure) R ev:=by
 have hm:∀ ev ∈ qN (n64 nm tr sure) R c,ev.isA = false->ev ∈ ze9 (n64 nm tr sure) R c:=fun ev h1 h2=>mem_filter.mpr ⟨h1,by rw [h2];rfl⟩
 have hw:(R.er c).ph.isW = true:=by rw [qC hc];rfl
 rcases hf with ⟨rfl,hs⟩ | rfl | rfl
 ·refine .inr ⟨⟨_,hc⟩,hm _ ?_ rfl⟩
  have:zbG (n64 nm tr sure) R (R.er c) = true:=by
   rw [qC hc]
   show (!(false || false) && !((n64 nm tr sure).ask (R.er i).house 0).sure) = true
   rw [qC he,hh,show (n64 nm tr sure).ask 0 0 = ⟨"mill",tr,none,"bad",false,sure⟩ from rfl,hs]
   rfl
  unfold qN
  rw [this]
  simp
 ·refine .inr ⟨⟨_,hc⟩,hm _ ?_ rfl⟩
  unfold qN
  rw [hw]
  simp
 ·refine .inr ⟨⟨_,hc⟩,hm _ ?_ rfl⟩
  unfold qN
  rw [hw]
  simp
theorem zk4 (he:R.es[i]? = some e) (hh:e.house = 0) (hp:e.ph = .stands 0 j) (hj:(j:Int) < tr):Can (n64 nm tr sure) R (.again i):=by
 have hl:qz (n64 nm tr sure) (R.er i) = true:=by
  unfold qz
  rw [qC he,hp,hh,show (n64 nm tr sure).ask 0 (Ph.stands 0 j).at1 = ⟨"mill",tr,none,"bad",false,sure⟩ from rfl]
  show (true && (tr == 0 || decide ((j:Int) < tr))) = true
  rw [Qx hj]
  simp
 refine .inr ⟨⟨_,he⟩,mem_filter.mpr ⟨?_,?_⟩⟩
 ·unfold qN
  rw [show Evt.num (.again i) = i from rfl,hl]
  simp
 ·unfold zfO
  rw [show Evt.num (.again i) = i from rfl,qC he,hp,hh,show (n64 nm tr sure).ask 0 (Ph.stands 0 j).at1 = ⟨"mill",tr,none,"bad",false,sure⟩ from rfl]
  rfl
end
noncomputable def tkP (st:List (Int × Int)) (i j:Nat):Int:=((st.take j).map (·.1)).sum + (i:Int) % prd (st.take j)
theorem zma (i p w:Int) (hp:0 < p) (hw:0 < w):i % (p * w) = i % p + p * (i / p % w):=by
 have e1:=Int.mul_ediv_add_emod i p
 have e2:=Int.mul_ediv_add_emod (i / p) w
 have a1:=Int.emod_nonneg i (show p ≠ 0 by omega)
 have a2:=Int.emod_lt_of_pos i hp
 have b1:=Int.emod_nonneg (i / p) (show w ≠ 0 by omega)
 have b2:=Int.emod_lt_of_pos (i / p) hw
 have c1:0<=p * (i / p % w):=Int.mul_nonneg (by omega) b1
 have c2:p * (i / p % w)<=p * (w - 1):=Int.mul_le_mul_of_nonneg_left (by omega) (by omega)
 have c3:p * (w - 1) = p * w - p:=by rw [Int.mul_sub,Int.mul_one]
 have e3:i = (i % p + p * (i / p % w)) + p * w * (i / p / w):=by
  have:p * (i / p) = p * (w * (i / p / w)) + p * (i / p % w):=by rw [← Int.mul_add,e2]
  have h3:p * w * (i / p / w) = p * (w * (i / p / w)):=Int.mul_assoc ..
  omega
 have e4:(i % p + p * (i / p % w)) % (p * w) = i % p + p * (i / p % w):=Int.emod_eq_of_lt (by omega) (by omega)
 have e5:=Int.add_mul_emod_self_left (i % p + p * (i / p % w)) (p * w) (i / p / w)
 rw [← e3] at e5
 rw [e5,e4]
theorem zmF (st:List (Int × Int)) (i:Nat):tkP st i 0 = 0:=by simp [tkP,prd]
theorem zmG (h:WS1 st) (hk:k < st.length) (i:Nat):tkP st i (k + 1) = tkP st i k + zhO st i k:=by
 have hp:st[k]? = some st[k]:=Q0 hk
 have hb:=(h.2 st[k] (getElem_mem _)).2
 have b:=zdd h (k:=k) (by omega)
 unfold tkP zhO
 rw [ze0 hp,zma _ _ _ (by omega) (by omega),take_succ,hp,Q8,hp,Qs,sum_append]
 simp only [Option.toList_some,map_cons,map_nil,List.sum_cons,List.sum_nil,Option.getD_some]
 omega
noncomputable def W64 (st:List (Int × Int)):List (List (List (Int × Int))):=[[st],[]]
variable {ts:List Int} {s:Nat}
section
variable {tr:Int}
theorem zoa (ws:WS1 st) (h0:0 < st.length):WW (n64 nm tr sure) (W64 st):=by
 refine ⟨rfl,fun h row e=>?_,fun row hr x hx=>?_,fun h k row x a e1 e2 e3 _=>?_⟩
 ·match h with
  | 0=>cases e;rfl
  | 1=>cases e;rfl
  | h + 2=>simp [W64] at e
 ·rcases mem_cons.mp hr with rfl | hr
  ·rw [mem_singleton.mp hx];exact ws
  ·rw [mem_singleton.mp hr] at hx;cases hx
 ·match h with
  | 0=>
   cases e1
   match k with
   | 0=>cases e2;exact h0
   | k + 1=>simp at e2
  | 1=>cases e1;simp at e2
  | h + 2=>simp [W64] at e1
theorem zoj (ws:WS1 st) (hl:(st.length:Int) = tr - 1) (hh:e.house = 0) (hp:e.ph = .stands 0 j) (h1:1<=j) (hj:(j:Int) < tr) (hs:e.stood = some s) (ht:ts.getD s 0 = tkP st i (j - 1)):yS (W64 st) ts e i = tkP st i j:=by
 have so:zaQ (W64 st) e = st:=by unfold zaQ;rw [hh,hp];rfl
 have ko:kOf (W64 st) e = j - 1:=by
  unfold kOf
  rw [so,hp]
  show min j st.length - 1 = _
  rw [Nat.min_eq_left (by omega)]
 unfold yS
 rw [so,ko,hs,Option.getD_some,ht]
 have:=zmG ws (k:=j - 1) (by omega) i
 rw [show j - 1 + 1 = j by omega] at this
 omega
structure KI (st:List (Int × Int)) (tr:Int) (R:Run) (ts:List Int) (P:Nat->Nat->Nat->Prop):Prop where
 ca:R.came = ts.length
 al:∀ (i:Nat) (e:Er),R.es[i]? = some e->(e.house = 0/\∃ j s,e.ph = .stands 0 j/\1<=j/\(j:Int)<=tr/\e.stood = some s/\s < ts.length/\ts.getD s 0 = tkP st i (j - 1))\/(e.house = 1/\e.ph.isS = false)\/∃ c j,P i c j
 pe:∀ (i c j:Nat),P i c j->(∃ e,R.es[i]? = some e/\e.house = 0/\e.ph.at2 = j)/\R.es[c]? = some (zl 1 (some (i,0,j)))/\1<=j/\(j:Int)<=tr
noncomputable def lfE (tr:Int) (e:Er):Nat:=if e.house = 0 then (tr - e.ph.at2).toNat else 0
theorem lf0 (h:e.house = 0) (p:e.ph.at2 = j):lfE tr e = (tr - j).toNat:=by unfold lfE;rw [if_pos h,p]
theorem lf1 (h:e.house = 1):lfE tr e = 0:=by unfold lfE;rw [if_neg (by omega)]
noncomputable def lf (tr:Int) (R:Run):Nat:=(R.es.map (lfE tr)).sum
theorem sum_set {α:Type} (f:α->Nat):∀ {xs:List α} {i:Nat} {x:α} (y:α),xs[i]? = some x->((xs.set i y).map f).sum + f x = (xs.map f).sum + f y
 | [],i,x,y,h=>by simp at h
 | z :: xs,0,x,y,h=>by simp at h;subst h;simp;omega
 | z :: xs,i + 1,x,y,h=>by
  have:=sum_set f y (show xs[i]? = some x by simpa using h)
  simp only [List.set_cons_succ,map_cons,List.sum_cons]
  omega
variable {P:Nat->Nat->Nat->Prop} {t:Int}
theorem ze7 (h:s < ts.length):(ts ++ [t]).getD s 0 = ts.getD s 0:=by
 rw [Q8,Q8,Q7 h]
theorem KI.new (st:List (Int × Int)) (tr:Int):KI st tr (Run.new (n64 nm tr sure)) [] fun _ _ _=>False:=⟨rfl,fun i e h=>by simp [Run.new] at h,fun _ _ _ h=>h.elim⟩
theorem KI.fresh (h:nm ≠ "mill") (ht:2<=tr) (k:KI st tr R ts P) (t:Int):KI st tr (yq (n64 nm tr sure) R .fresh) (ts ++ [t]) (fun i c j=>P i c j\/(i = R.es.length/\c = R.es.length + 1/\j = 1))/\lf tr (yq (n64 nm tr sure) R .fresh) = lf tr R + (tr - 1).toNat/\(yq (n64 nm tr sure) R .fresh).es.length = R.es.length + 2:=by
 have fe:=zl4 (tr:=tr) (sure:=sure) h R
 have es:(yq (n64 nm tr sure) R .fresh).es = R.es ++ [⟨0,none,.waits 0 1,false,some (R.es.length + 1),none⟩] ++ [zl 1 (some (R.es.length,0,1))]:=by
  unfold yq
  rw [fe]
  rfl
 have ca:(yq (n64 nm tr sure) R .fresh).came = R.came + 1:=by
  unfold yq
  rw [fe]
  rfl
 have g1:(yq (n64 nm tr sure) R .fresh).es[R.es.length]? = some ⟨0,none,.waits 0 1,false,some (R.es.length + 1),none⟩:=by
  rw [es,Q7 (by simp)]
  exact List.getElem?_concat_length
 have g2:(yq (n64 nm tr sure) R .fresh).es[R.es.length + 1]? = some (zl 1 (some (R.es.length,0,1))):=by
  rw [es,Q9 (by simp)]
  simp
 have g3:∀ (i:Nat) e,R.es[i]? = some e->(yq (n64 nm tr sure) R .fresh).es[i]? = some e:=fun i e z=>by
  have:=(List.getElem?_eq_some_iff.mp z).1
  rw [es,append_assoc,Q7 this]
  exact z
 refine ⟨⟨by rw [ca,k.ca];simp,fun i e z=>?_,fun i c j z=>?_⟩,?_,by rw [es];simp⟩
 ·have hl:=(List.getElem?_eq_some_iff.mp z).1
  rw [es] at hl
  simp at hl
  by_cases h1:i < R.es.length
  ·have z':R.es[i]? = some R.es[i]:=Q0 h1
   have z2:=g3 _ _ z'
   rw [z] at z2
   cases z2
   rcases k.al i _ z' with ⟨a,j,s,b1,b2,b3,b4,b5,b6⟩ | b | ⟨c,j,b⟩
   ·exact .inl ⟨a,j,s,b1,b2,b3,b4,by simp;omega,by rw [ze7 b5];exact b6⟩
   ·exact .inr (.inl b)
   ·exact .inr (.inr ⟨c,j,.inl b⟩)
  ·by_cases h2:i = R.es.length
   ·exact .inr (.inr ⟨_,_,.inr ⟨h2,rfl,rfl⟩⟩)
   ·have h3:i = R.es.length + 1:=by omega
    subst h3
    rw [g2] at z
    cases z
    exact .inr (.inl ⟨rfl,rfl⟩)
 ·rcases z with z | ⟨rfl,rfl,rfl⟩
  ·obtain ⟨⟨e,z1,z2⟩,z3,z4⟩:=k.pe i c j z
   exact ⟨⟨e,g3 _ _ z1,z2⟩,g3 _ _ z3,z4⟩
  ·exact ⟨⟨_,g1,rfl,rfl⟩,g2,Q4 _,by omega⟩
 ·unfold lf
  rw [es,Qs,Qs,sum_append,sum_append]
  simp [lfE,zl,Ph.at2]
theorem KI.fail (k:KI st tr R ts P) {c:Nat} (p:P i c j) (hf:zg1 sure c ev) (ht:t = tkP st i (j - 1)):Can (n64 nm tr sure) R ev/\KI st tr (yq (n64 nm tr sure) R ev) (ts ++ [t]) (fun i' c' j'=>P i' c' j'/\i' ≠ i)/\lf tr (yq (n64 nm tr sure) R ev) = lf tr R/\(yq (n64 nm tr sure) R ev).es.length = R.es.length:=by
 obtain ⟨⟨e,he,hh,ha⟩,hc,hj1,hj2⟩:=k.pe i c j p
 obtain ⟨e',h1,h2,fe⟩:=znX (nm:=nm) (tr:=tr) (sure:=sure) hc he hh hf
 have es:(yq (n64 nm tr sure) R ev).es = (R.es.set c e').set i { e with ph:=.stands 0 j,stood:=some R.came }:=by
  unfold yq
  rw [fe]
  rfl
 have ca:(yq (n64 nm tr sure) R ev).came = R.came + 1:=by
  unfold yq
  rw [fe]
  rfl
 have hne:i ≠ c:=fun z=>by
  rw [z,hc] at he
  cases he
  cases hh
 have il:=(List.getElem?_eq_some_iff.mp he).1
 have cl:=(List.getElem?_eq_some_iff.mp hc).1
 have o:∀ x:Nat,x ≠ i->x ≠ c->(yq (n64 nm tr sure) R ev).es[x]? = R.es[x]?:=fun x z1 z2=>by rw [es,Qd,if_neg (by omega),Qd,if_neg (by omega)]
 have gi:(yq (n64 nm tr sure) R ev).es[i]? = some { e with ph:=.stands 0 j,stood:=some R.came }:=by rw [es,Qd,if_pos rfl,if_pos (by simpa using il)]
 have gc:(yq (n64 nm tr sure) R ev).es[c]? = some e':=by rw [es,Qd,if_neg hne,Qd,if_pos rfl,if_pos cl]
 refine ⟨zl6 hc he hh hf,⟨by rw [ca,k.ca];simp,fun x q z=>?_,fun i' c' j' z=>?_⟩,?_,by rw [es];simp⟩
 ·by_cases x1:x = i
  ·subst x1
   rw [gi] at z
   cases z
   refine .inl ⟨hh,j,R.came,rfl,hj1,hj2,rfl,by rw [k.ca];simp,?_⟩
   rw [k.ca,Q8,List.getElem?_concat_length]
   exact ht
  ·by_cases x2:x = c
   ·subst x2
    rw [gc] at z
    cases z
    exact .inr (.inl ⟨h1,h2⟩)
   ·rw [o x x1 x2] at z
    rcases k.al x q z with ⟨a,j,s,b1,b2,b3,b4,b5,b6⟩ | b | ⟨c,j,b⟩
    ·exact .inl ⟨a,j,s,b1,b2,b3,b4,by simp;omega,by rw [ze7 b5];exact b6⟩
    ·exact .inr (.inl b)
    ·exact .inr (.inr ⟨c,j,b,x1⟩)
 ·obtain ⟨⟨e2,z1,z2⟩,z3,z4⟩:=k.pe i' c' j' z.1
  have n1:i' ≠ c:=fun y=>by
   rw [y,hc] at z1
   cases z1
   cases z2.1
  have n2:c' ≠ i:=fun y=>by
   rw [y,he] at z3
   cases z3
   cases hh
  have n3:c' ≠ c:=fun y=>by
   rw [y,hc] at z3
   injection z3 with z3
   unfold zl at z3
   injection z3 with _ z3
   injection z3 with z3
   injection z3 with z3
   exact z.2 z3.symm
  exact ⟨⟨e2,by rw [o i' z.2 n1];exact z1,z2⟩,by rw [o c' n2 n3];exact z3,z4⟩
 ·unfold lf
  have s1:=sum_set (lfE tr) e' hc
  have s2:=sum_set (lfE tr) (xs:=R.es.set c e') { e with ph:=.stands 0 j,stood:=some R.came } (by rw [Qd,if_neg (Ne.symm hne)];exact he)
  rw [lf1 h1,lf1 (show (zl 1 (some (i,0,j))).house = 1 from rfl)] at s1
  rw [lf0 (e:=e) hh ha,lf0 (j:=j) (e:={ e with ph:=.stands 0 j,stood:=some R.came }) hh rfl] at s2
  rw [es]
  omega
theorem KI.again (h:nm ≠ "mill") (k:KI st tr R ts fun _ _ _=>False) (he:R.es[i]? = some e) (hh:e.house = 0) (hp:e.ph = .stands 0 j) (hj1:1<=j) (hj:(j:Int) < tr) (t:Int):Can (n64 nm tr sure) R (.again i)/\KI st tr (yq (n64 nm tr sure) R (.again i)) (ts ++ [t]) (fun i' c' j'=>i' = i/\c' = R.es.length/\j' = j + 1)/\lf tr (yq (n64 nm tr sure) R (.again i)) + 1 = lf tr R/\(yq (n64 nm tr sure) R (.again i)).es.length = R.es.length + 1:=by
 have fe:=zmh (tr:=tr) (sure:=sure) h he hh hp
 have es:(yq (n64 nm tr sure) R (.again i)).es = R.es.set i { e with ph:=.waits 0 (j + 1),asked:=some R.es.length } ++ [zl 1 (some (i,0,j + 1))]:=by
  unfold yq
  rw [fe]
  rfl
 have ca:(yq (n64 nm tr sure) R (.again i)).came = R.came + 1:=by
  unfold yq
  rw [fe]
  rfl
 have il:=(List.getElem?_eq_some_iff.mp he).1
 have gi:(yq (n64 nm tr sure) R (.again i)).es[i]? = some { e with ph:=.waits 0 (j + 1),asked:=some R.es.length }:=by rw [es,Q7 (by simpa using il),Qd,if_pos rfl,if_pos il]
 have gc:(yq (n64 nm tr sure) R (.again i)).es[R.es.length]? = some (zl 1 (some (i,0,j + 1))):=by
  rw [es,Q9 (by simp)]
  simp
 refine ⟨zk4 he hh hp hj,⟨by rw [ca,k.ca];simp,fun x q z=>?_,fun i' c' j' z=>?_⟩,?_,by rw [es];simp⟩
 ·by_cases x1:x = i
  ·exact .inr (.inr ⟨_,_,x1,rfl,rfl⟩)
  ·by_cases x2:x = R.es.length
   ·subst x2
    rw [gc] at z
    cases z
    exact .inr (.inl ⟨rfl,rfl⟩)
   ·have xl:=(List.getElem?_eq_some_iff.mp z).1
    rw [es] at xl
    simp at xl
    rw [es,Q7 (by simp;omega),Qd,if_neg (by omega)] at z
    rcases k.al x q z with ⟨a,j,s,b1,b2,b3,b4,b5,b6⟩ | b | ⟨c,j,b⟩
    ·exact .inl ⟨a,j,s,b1,b2,b3,b4,by simp;omega,by rw [ze7 b5];exact b6⟩
    ·exact .inr (.inl b)
    ·exact b.elim
 ·obtain ⟨rfl,rfl,rfl⟩:=z
  exact ⟨⟨_,gi,hh,rfl⟩,gc,by omega,by omega⟩
 ·unfold lf
  have s1:=sum_set (lfE tr) { e with ph:=.waits 0 (j + 1),asked:=some R.es.length } he
  rw [lf0 (e:=e) hh (show e.ph.at2 = j by rw [hp];rfl),lf0 (j:=j + 1) (e:={ e with ph:=.waits 0 (j + 1),asked:=some R.es.length }) hh rfl] at s1
  rw [es,Qs,sum_append,List.map_singleton,List.sum_singleton,lf1 (show (zl 1 (some (i,0,j + 1))).house = 1 from rfl)]
  omega
end
variable {d:Int} {xs:List Int}
section
theorem zgy (c:Int) (M:Mem):zbL kE kR [.int c] M = .ok (.ref M.length) (M ++ [(Po.new c).cell]):=by
 unfold zbL zhH
 simp_arith [and_self]
 rw [show Po.new c = ⟨if c - 10 ^ 18 > 0 then c - 10 ^ 18 else 0,c % 10 ^ 18,0⟩ from rfl,Qa _ (by decide)]
 rfl
theorem zko (p:Po) (a:Nat) (base:Int) (M:Mem) (e:M[a]? = some p.cell) (h:0 < base) (hb:base.natAbs < 10 ^ 100):zJ kE kR [.ref a,.int base] M = .ok (.int (p.dig base)) (M.set a (p.nxt base).cell):=by
 unfold zJ zhG
 have ha:a < M.length:=(List.getElem?_eq_some_iff.mp e).1
 have hd:∀ i M,zc5 (.int i) (.int base) M = .ok (.int (i.fdiv base)) M:=fun i M=>zes (zjF 100 (by decide) (by omega) hb)
 have hm:∀ i M,zac (.int i) (.int base) M = .ok (.int (i.fmod base)) M:=fun i M=>zdg (by omega)
 by_cases hp:0 < p.a
 ·simp_arith [e,Po.cell,hd,hm,Qx hp]
  unfold Po.dig Po.nxt
  rw [if_pos hp,if_pos hp,Qa _ (by omega),Int.fdiv_eq_ediv_of_nonneg _ (by omega)]
 ·have hs:∀ c:Cell,(M.set a c)[a]? = some c:=fun c=>by rw [Qd,if_pos rfl,if_pos ha]
  have h1:∀ j M,zap (.int 7919) (.int j) M = .ok (.int (7919 * j)) M:=fun j M=>zcC (by decide)
  have hx:∀ x:Int,0<=x.fmod 1000000007/\x.fmod 1000000007 < 1000000007:=fun x=>by rw [Qa _ (by decide)];omega
  have hy:∀ x:Int,0<=x.fmod 998244353/\x.fmod 998244353 < 998244353:=fun x=>by rw [Qa _ (by decide)];omega
  have h2:∀ (x y:Int) M,zap (.int (x.fmod 1000000007 + 11)) (.int y) M = .ok (.int ((x.fmod 1000000007 + 11) * y)) M:=fun x y M=>zcC (by have:=hx x;omega)
  have h3:∀ (x y:Int) M,zap (.int (x.fmod 998244353)) (.int y) M = .ok (.int (x.fmod 998244353 * y)) M:=fun x y M=>zcC (by have:=hy x;omega)
  simp_arith [e,Po.cell,hd,hm,Qy hp,hs,h1,h2,h3]
  unfold Po.dig Po.nxt
  rw [if_neg hp,if_neg hp]
  simp only [Qa _ (show (0:Int)<=1000000007 by decide),Qa _ (show (0:Int)<=998244353 by decide),Qa _ (show (0:Int)<=2147483647 by decide),Int.fdiv_eq_ediv_of_nonneg _ (show (0:Int)<=8 by decide),Qa _ (show (0:Int)<=base by omega)]
def PO (a:Nat) (M:Mem):Prop:=∃ p:Po,M[a]? = some p.cell
theorem PO.fr {a:Nat} (h:PO a M) {S:List Nat} (f:Fr S M M') (hs:a ∉ S):PO a M':=by
 obtain ⟨p,e⟩:=h
 exact ⟨p,f.get e hs⟩
theorem zao {a:Nat} {base:Int} (e:PO a M) (h:0 < base) (hb:base.natAbs < 10 ^ 100) :
  Ok (zJ kE kR [.ref a,.int base] M) fun t M'=>∃ d:Int,t = .int d/\0<=d/\d < base/\PO a M'/\Fr [a] M M':=by
 obtain ⟨p,e⟩:=e
 exact Ok.of (zko p a base M e h hb) ⟨_,rfl,p.dig_lo h,p.dig_hi h,⟨_,get_set e⟩,Fr.set _ _ _⟩
theorem PO.app {c:Int}:PO M.length (M ++ [(Po.new c).cell]):=⟨_,z9⟩
theorem ziX (ns:List Int) (n:Nat) (M:Mem):∃ c,zbM kE kR [.lst (ns.map .int),.int (n:Int)] M = .ok (.int c) M:=by
 unfold zbM zhI
 by_cases h:n < ns.length
 ·refine ⟨ns[n],?_⟩
  have a:atI (ns.map FT.T.int) (n:Int) = some (.int ns[n]):=by rw [FT.zbi];simp [h]
  have d:decide ((n:Int) < ((ns.map FT.T.int).length:Int)) = true:=Qx (by rw [Qi];omega)
  simp_arith [d,a]
 ·have d:decide ((n:Int) < ((ns.map FT.T.int).length:Int)) = false:=Qy (by rw [Qi];omega)
  exact ⟨0,by simp_arith [d]⟩
theorem pick (h0:0<=d) (h1:d < xs.length):∃ v ∈ xs,atI (xs.map FT.T.int) d = some (.int v):=by
 obtain ⟨x,h1,h2⟩:=zk3 (xs:=xs.map FT.T.int) h0 (by simpa using h1)
 obtain ⟨v,hv,rfl⟩:=mem_map.mp h2
 exact ⟨v,hv,h1⟩
theorem ziA (lo hi:Int) (h0:0<=d) (h1:d < xs.length) (h:xs.all (fun v=>decide (lo<=v/\v<=hi)) = true):∃ v:Int,atI (xs.map FT.T.int) d = some (.int v)/\lo<=v/\v<=hi:=by
 obtain ⟨v,hv,e⟩:=pick h0 h1
 have:=all_eq_true.mp h v hv
 exact ⟨v,e,of_decide_eq_true this⟩
theorem zmu {b:Int} (h0:0 < b) (h:b<=10 ^ 40):b.natAbs < 10 ^ 100:=by
 refine Nat.lt_of_le_of_lt (show b.natAbs<=10 ^ 40 from ?_) (Nat.pow_lt_pow_right (by decide) (by decide))
 simp only [Int.reducePow] at h
 simp only [Nat.reducePow]
 omega
theorem zql {xs:List Str} (h0:0<=d) (h1:d < xs.length):∃ v ∈ xs,atI (xs.map FT.T.str) d = some (.str v):=by
 obtain ⟨x,h1,h2⟩:=zk3 (xs:=xs.map FT.T.str) h0 (by simpa using h1)
 obtain ⟨v,hv,rfl⟩:=mem_map.mp h2
 exact ⟨v,hv,h1⟩
end
variable {ps:List (Int × Evt)}
section
theorem VEv.snoc {n:Net}:∀ {evs:List Evt} {R:Run} {ev:Evt},VEv n R evs->Can n (evs.foldl (yq n) R) ev->VEv n R (evs ++ [ev])
 | [],_,_,_,c=>⟨c,True.intro⟩
 | _ :: _,_,_,v,c=>⟨v.1,VEv.snoc v.2 c⟩
theorem zeT {us:List Int} (h:e.stood = some j) (hj:j < ts.length):yS W (ts ++ us) e i = yS W ts e i:=by
 unfold yS
 rw [h,Option.getD_some,Q8,Q8,Q7 hj]
theorem zfi (wn:WN n) (g:Good n R B) (c:Can n R (.again i)):∃ e j,R.es[i]? = some e/\e.ph.isS = true/\qz n e = true/\e.stood = some j/\j < R.came:=by
 obtain ⟨e,he,hs,ht⟩:=c.c
 obtain ⟨a2,a3⟩:=zel hs (g.ri.ph _ _ he)
 obtain ⟨sk,hsk⟩:=Option.isSome_iff_exists.mp a3
 exact ⟨e,sk,he,hs,ht,hsk,g.sd i e sk he hs hsk⟩
theorem TOk.snoc (wn:WN n) {t:Int} (tv:TOk n W ps) (c:Can n (zA n (ps.map (·.2))) ev) (h:∀ i,ev = .again i->yS W (ps.map (·.1)) ((zA n (ps.map (·.2))).er i) i<=t):TOk n W (ps ++ [(t,ev)]):=by
 have key:∀ (k:Nat),k<=ps.length->∀ i,Can n (zA n ((ps.take k).map (·.2))) (.again i)->yS W ((ps ++ [(t,ev)]).map (·.1)) ((zA n ((ps.take k).map (·.2))).er i) i = yS W (ps.map (·.1)) ((zA n ((ps.take k).map (·.2))).er i) i:=fun k hk i hc=>by
  have g:=zaA wn tv.v k (by rw [Qi];exact hk)
  have ca:=zbP wn tv.v k (by rw [Qi];exact hk)
  rw [← map_take] at g ca
  obtain ⟨e,j,he,_,_,hj,hl⟩:=zfi wn g hc
  rw [qC he,Qs]
  exact zeT hj (by rw [Qi];omega)
 refine ⟨?_,fun k p i hk hp=>?_⟩
 ·rw [Qs]
  exact tv.v.snoc c
 ·have hkl:=(List.getElem?_eq_some_iff.mp hk).1
  rw [Qo,Qw] at hkl
  by_cases z:k < ps.length
  ·rw [Q7 z] at hk
   rw [List.take_append_of_le_length (by omega)]
   have hk':(ps.map (·.2))[k]? = some p.2:=by rw [Qc,hk];rfl
   have hc:=tv.v.at_ hk'
   rw [hp,← map_take] at hc
   rw [key k (by omega) i hc]
   exact tv.s k p i hk hp
  ·have zk:k = ps.length:=by omega
   subst zk
   rw [Q9 (Q4 _),Nat.sub_self] at hk
   cases hk
   have kk:=key ps.length (Q4 _) i (by rw [take_length,← show ev = .again i from hp];exact c)
   rw [take_length] at kk
   rw [List.take_left,kk]
   exact h i hp
theorem zlj {a:Nat} (h:M[a]? = some (.lst (ps.map prT))) (hl:ps.length<=1000):qM [(a,ps.map prT)] (zar 2 (yy (qi 0) (yy (qi 1) zas))) yH (zb 1) (ps.map prT) [none,none] M [] = .ok ((ps.map (·.2)).map evT) M:=by
 have:=zlJ (G:=[(a,ps.map prT)]) (bd:=zar 2 (yy (qi 0) (yy (qi 1) zas))) (el:=zb 1) (M:=M) (r:=prT) (zhD h) (fun σ=>∃ o o',σ = [o,o']) (fun p=>evT p.2) (xs:=ps) (σ:=[none,none]) (acc:=[]) ⟨_,_,rfl⟩ (by rw [length_nil];omega) (by
  rintro p σ _ ⟨o,o',rfl⟩
  exact ⟨[some (.int p.1),some (evT p.2)],rfl,⟨_,_,rfl⟩,rfl⟩)
 rw [this,nil_append,map_map]
 rfl
theorem ziV {a:Nat} {s1 s2:Str} {σ:FT.Ev} (hσ:zb i σ M = .ok (.ref a) M) (h:M[a]? = some (.lst (ps.map prT))) (hl:ps.length<=1000):qX (zbT (zb i)) (zar 2 (yy (qi 0) (yy (qi 1) zas))) yH (zb 1) [s1,s2] [] σ M = .ok ((ps.map (·.2)).map evT) M:=by
 unfold qX zbT
 rw [hσ]
 show ((match zdE (.ref a) M with | some g=>Out.ok g M | none=>.bad).bind _) = _
 rw [zcD h]
 exact zlj h hl
end
end My
namespace FT
open PySem L2
variable {σ:Ev} {p q:Ev->Mem->Out Fl} {Q:Fl->Mem->Prop} {M:Mem}
theorem Ok.seqX (h:∀ X,X = zcg q->Ok ((p σ M).bind X) Q):Ok (qg p q σ M) Q:=h _ rfl
theorem Ok.seqR {Q:T->Mem->Prop} (h:∀ X,X = (fun fl M=>(zcg q fl M).bind zca)->Ok ((p σ M).bind X) Q):Ok ((qg p q σ M).bind zca) Q:=by
 have:=h _ rfl
 unfold qg
 rw [zmb]
 exact this
theorem Ok.seqP (P:Fl->Mem->Prop) (h:Ok (p σ M) P) (g:∀ fl M',P fl M'->Ok (zcg q fl M') Q):Ok (qg p q σ M) Q:=Ok.bind h g
end FT
namespace My
open PySem L2 FT
inductive RT:Nat->FT.T->Prop
 | int (d:Nat) (i:Int):RT d (.int i)
 | str (d:Nat) (s:Str):RT d (.str s)
 | non (d:Nat):RT d .non
 | tup {d:Nat} {xs:List FT.T} (h:∀ x ∈ xs,RT d x):RT (d + 1) (.tup xs)
 | lst {d:Nat} {xs:List FT.T} (h:∀ x ∈ xs,RT d x):RT (d + 1) (.lst xs)
theorem zfa {f:FT.T->FT.T->Option Bool}:∀ {xs:List FT.T},(∀ x ∈ xs,f x x = some true)->eqL f xs xs = some true
 | [],_=>rfl
 | x :: xs,h=>by
  unfold eqL
  rw [h x (.head _),zfa fun y hy=>h y (.tail _ hy)]
  rfl
variable {M:Mem} {d:Nat}
theorem zpS {xs:List FT.T} (h:∀ x ∈ xs,eqD M d x x = some true):eqD M (d + 1) (.lst xs) (.lst xs) = some true:=by
 rw [show eqD M (d + 1) (.lst xs) (.lst xs) = (if xs.length = xs.length then eqL (eqD M d) xs xs else some false) from rfl,if_pos rfl]
 exact zfa h
theorem RT.eq {t:FT.T} (h:RT d t) (M:Mem):eqD M d t t = some true:=by
 induction h with
 | int d i=>
  rw [show eqD M d (.int i) (.int i) = some (i == i) by cases d <;> rfl,Qz]
 | str d s=>
  rw [show eqD M d (.str s) (.str s) = some (s == s) by cases d <;> rfl,Qz]
 | non d=>cases d <;> rfl
 | tup h ih=>exact zfa ih
 | lst h ih=>exact zpS ih
variable {x y:FT.T}
theorem zen (h:eqD M 20 x y = some true):neA x y M = .ok (.bl false) M:=by unfold neA;rw [h];rfl
theorem zqN (h:eqD M 20 x y = some true):eqA x y M = .ok (.bl true) M:=by unfold eqA;rw [h]
theorem zqc (d:Nat) (p:Ph):RT (d + 1) (phT p):=by
 cases p with
 | works=>exact .tup fun x hx=>by rw [mem_singleton.mp hx];exact .str _ _
 | waits a t=>
  refine .tup fun x hx=>?_
  simp only [mem_cons,not_mem_nil,or_false] at hx
  rcases hx with rfl | rfl | rfl
  ·exact .str _ _
  ·exact .int _ _
  ·exact .int _ _
 | stands a t=>
  refine .tup fun x hx=>?_
  simp only [mem_cons,not_mem_nil,or_false] at hx
  rcases hx with rfl | rfl | rfl
  ·exact .str _ _
  ·exact .int _ _
  ·exact .int _ _
 | ended w=>
  refine .tup fun x hx=>?_
  simp only [mem_cons,not_mem_nil,or_false] at hx
  rcases hx with rfl | rfl
  ·exact .str _ _
  ·exact .str _ _
variable {kE kN kR:Addr} {ps:List (Int × Evt)} {st:List (Int × Int)} {i k:Nat} {n:Net}
section
theorem zhA:∀ xs:List Int,ze5 (xs.map FT.T.int) = some xs
 | []=>rfl
 | x :: xs=>by
  show (ze5 (xs.map FT.T.int)).map (x :: ·) = _
  rw [zhA xs];rfl
theorem zlf (xs:List Int) (M:Mem):sumK (.lst (xs.map FT.T.int)) M = .ok (.int xs.sum) M:=by
 unfold sumK zy
 simp only [zhA]
theorem zlh (h:WS1 st) (M:Mem):zbt kE kR [zM st,nT k] M = .ok (.int ((st.take k).map (·.1)).sum) M:=by
 unfold zbt zfD zM
 have k1:zcG (st.map pwT) none (some (k:Int)) = (st.take k).map pwT:=by rw [zd8,map_take]
 have c:qr (zar 2 (yy (qi 0) (yy (qi 1) zas))) yH (zb 0) ((st.take k).map pwT) [none,none] M [] = .ok (((st.take k).map (·.1)).map .int) M:=by
  rw [map_map]
  exact Ok.mapc (r:=pwT) (fun σ=>∃ o o',σ = [o,o']) _ ⟨_,_,rfl⟩ (by rw [length_take];have:=h.1;omega) (by
   rintro p σ _ ⟨o,o',rfl⟩
   exact ⟨[some (.int p.1),some (.int p.2)],rfl,⟨_,_,rfl⟩,rfl⟩)
 simp_arith [k1,c,zlf]
theorem zmH (h:WS1 st) (hk:k<=st.length) (M:Mem):zb3 kE kR [zM st,nT i,nT k] M = .ok (.int (tkP st i k)) M:=by
 unfold zb3 zgB
 have s1:=zgu (kE:=kE) (kR:=kR) h hk M
 have s2:=zlh (kE:=kE) (kR:=kR) h (k:=k) M
 have b:=zdd h hk
 have md:zac (nT i) (.int (prd (st.take k))) M = .ok (.int ((i:Int).fmod (prd (st.take k)))) M:=zdg (by omega)
 simp_arith [s1,s2,md]
 unfold tkP
 rw [Qa _ (by omega)]
theorem zgF (sure:Bool) {w:Int} (h0:0<=w) (h3:w < 3) (c:Nat) (t:Int) (M:Mem):∃ ev,zaM kE kR [.bl sure,.int w,nT c,.int t] M = .ok (prT (t,ev)) M/\zg1 sure c ev:=by
 have hw:w = 0\/w = 1\/w = 2:=by omega
 unfold zaM zfG
 cases sure with
 | false=>
  rcases hw with rfl | rfl | rfl
  ·exact ⟨.ends c "bad",by simp_arith [prT,evT];rfl,.inr (.inl rfl)⟩
  ·exact ⟨.ends c "spent",by simp_arith [prT,evT];rfl,.inr (.inr rfl)⟩
  ·exact ⟨.lost c,by simp_arith [prT,evT],.inl ⟨rfl,rfl⟩⟩
 | true=>
  rcases hw with rfl | rfl | rfl
  ·exact ⟨.ends c "bad",by simp_arith [prT,evT];rfl,.inr (.inl rfl)⟩
  ·exact ⟨.ends c "spent",by simp_arith [prT,evT];rfl,.inr (.inr rfl)⟩
  ·exact ⟨.ends c "bad",by simp_arith [prT,evT];rfl,.inr (.inl rfl)⟩
variable {W:List (List (List (Int × Int)))}
theorem zjl (wn:WN n) (ww:WW n W) (tv:TOk n W ps) (hl:ps.length<=1000) (c:Can n (zA n (ps.map (·.2))) (.again i)) {t:Int} (ht:t < yS W (ps.map (·.1)) ((zA n (ps.map (·.2))).er i) i) :Ok (zbW kE kR kN [zg n,wtT W,.lst ((ps ++ [(t,Evt.again i)]).map prT)] M) fun u M'=>u = .bl true/\Kp M.length M M':=by
 have v:VEv n (Run.new n) ((ps ++ [(t,Evt.again i)]).map (·.2)):=by rw [Qs];exact tv.v.snoc c
 have len:(ps ++ [(t,Evt.again i)]).length = ps.length + 1:=by rw [Qo,Qw]
 have only:∀ k,zc7 n W (ps ++ [(t,Evt.again i)]) k->k = ps.length:=by
  rintro k ⟨p,i',e1,e2,e3⟩
  have hkl:=(List.getElem?_eq_some_iff.mp e1).1
  rw [len] at hkl
  by_cases z:k < ps.length
  ·rw [Q7 z] at e1
   rw [List.take_append_of_le_length (by omega)] at e3
   have hk':(ps.map (·.2))[k]? = some p.2:=by rw [Qc,e1];rfl
   have hc:=tv.v.at_ hk'
   rw [e2,← map_take] at hc
   have g:=zaA wn tv.v k (by rw [Qi];omega)
   have ca:=zbP wn tv.v k (by rw [Qi];omega)
   rw [← map_take] at g ca
   obtain ⟨e,j,he,_,_,hj,hlt⟩:=zfi wn g hc
   have e4:=tv.s k p i' e1 e2
   rw [qC he] at e3 e4
   rw [Qs,zeT hj (by rw [Qi];omega)] at e3
   omega
  ·omega
 have some_:zc7 n W (ps ++ [(t,Evt.again i)]) ps.length:=by
  refine ⟨(t,Evt.again i),i,List.getElem?_concat_length,rfl,?_⟩
  have g:=zd2 wn tv
  have ca:=zbP wn tv.v (ps.map (·.2)).length (Q4 _)
  rw [take_length,Qi] at ca
  obtain ⟨e,j,he,_,_,hj,hlt⟩:=zfi wn g c
  rw [qC he] at ht
  rw [List.take_left,qC he,Qs,zeT hj (by rw [Qi];omega)]
  exact ht
 have tm:OkX (zcn kE kR kN [zg n,wtT W,.lst ((ps ++ [(t,Evt.again i)]).map prT)] M) (fun _ _=>False) (fun C fs M'=>C = kN/\fs = [(("at":Str),nT ps.length)]/\Kp M.length M M'):=by
  refine zch rfl ?_
  unfold zgg
  simp_arith [and_self]
  have tx:=zgs (kE:=kE) (kR:=kR) (kN:=kN) wn ww v (by rw [len];omega) (M:=M) (.inl rfl)
  have t2:OkX (zT kE kR kN [zg n,wtT W,.lst ((ps ++ [(t,Evt.again i)]).map prT)] M) (fun _ _=>False) (fun C fs M'=>C = kN/\fs = [(("at":Str),nT ps.length)]/\Kp M.length M M'):=tx.mono (fun _ _ h=>h.1 _ some_) (fun C fs M' h=>by
   obtain ⟨a,k,b,d,e⟩:=h
   rw [only k d] at b
   exact ⟨a,b,e⟩)
  exact OkX.bind t2 fun b M h=>h.elim
 refine yD rfl ?_
 unfold zeJ
 rw [show startT 5 [zg n,wtT W,.lst ((ps ++ [(t,Evt.again i)]).map prT)] = [some (zg n),some (wtT W),some (.lst ((ps ++ [(t,Evt.again i)]).map prT)),none,none] from rfl]
 refine Ok.seqR fun X hX=>?_
 simp_arith [and_self]
 rw [hX];clear hX;simp only [yu]
 refine Ok.seqR fun X hX=>?_
 refine Ok.bind (P:=fun fl M'=>∃ o,fl = .nx [some (zg n),some (wtT W),some (.lst ((ps ++ [(t,Evt.again i)]).map prT)),some (nT (ps.length + 1)),o]/\Kp M.length M M') (Ok.tryN ?_) ?_
 ·simp_arith [and_self]
  refine OkX.bind (P:=fun _ _=>False) (tm.mono (fun _ _ h=>h) (fun C fs M' h=>?_)) fun b M h=>h.elim
  obtain ⟨rfl,rfl,k⟩:=h
  refine ⟨by simp,?_⟩
  have xa:xat [C] (.exc C [(("at":Str),nT ps.length)]) M' = .ok (nT ps.length) M':=by
   unfold xat
   simp
  simp_arith [xa,clr]
  rw [show (1:Int) + (ps.length:Int) = ((ps.length + 1:Nat):Int) by omega]
  exact Ok.ret ⟨none,rfl,k⟩
 ·rintro fl M' ⟨o,rfl,k⟩
  rw [hX];clear hX;simp only [yu]
  have ln:(((ps ++ [(t,Evt.again i)]).map prT).length:Int) = ((ps.length + 1:Nat):Int):=by rw [Qi,len]
  simp_arith [ln]
  exact Ok.ret ⟨by simp,k⟩
end
variable {sure:Bool} {e:Er} {ts:List Int} {R:Run} {nm:Str}
section
variable {tr:Int}
theorem zc9 (h:k<=1000):k < sizeLine:=by rw [sizeLine_eq];omega
theorem zj7:∀ (L:List (Nat × Int)),ze1 (L.map fun p=>FT.T.tup [.int p.2,nT p.1]) = some (L.map fun p=>(p.2,(p.1:Int)))
 | []=>rfl
 | p :: L=>by
  show (ze1 (L.map fun p=>FT.T.tup [.int p.2,nT p.1])).map _ = _
  rw [zj7 L]
  rfl
theorem zo1 {L:List (Nat × Int)} (h:L ≠ []):∃ p ∈ L,∀ M,zhv (.lst (L.map fun p=>FT.T.tup [.int p.2,nT p.1])) M = .ok (.tup [.int p.2,nT p.1]) M:=by
 have hl:=List.length_pos_iff.mpr h
 have hb:=zgk (fun i j=>ltP ((L.map fun p=>(p.2,(p.1:Int))).getD i (0,0)) ((L.map fun p=>(p.2,(p.1:Int))).getD j (0,0))) ((L.map fun p=>(p.2,(p.1:Int))).length - 1)
 have hi:zbr (L.map fun p=>(p.2,(p.1:Int))) < L.length:=by
  unfold zbr
  rw [Qi] at hb ⊢
  omega
 refine ⟨L[zbr (L.map fun p=>(p.2,(p.1:Int)))],getElem_mem _,fun M=>?_⟩
 unfold zhv zy
 simp only [zj7]
 rw [if_neg (by simpa using h),Q8,Qc,Q0 hi]
 rfl
theorem znq (h:ps ≠ []):∃ q:Int × Evt,atI (ps.map prT) (-1) = some (.tup [.int q.1,evT q.2]):=by
 rcases List.eq_nil_or_concat ps with z | ⟨L,q,rfl⟩
 ·exact absurd z h
 ·refine ⟨q,?_⟩
  rw [List.concat_eq_append,Qs]
  exact L2.zmd _ _
noncomputable def snT (st:List (Int × Int)) (p:Nat × Nat):FT.T:=.tup [nT p.1,.int (tkP st p.2 p.1),nT p.2]
noncomputable abbrev rn (nm:Str) (tr:Int) (sure:Bool) (ps:List (Int × Evt)):Run:=zA (n64 nm tr sure) (ps.map (·.2))
theorem zdz (ps:List (Int × Evt)) (t:Int) (ev:Evt):zA n ((ps ++ [(t,ev)]).map (·.2)) = yq n (zA n (ps.map (·.2))) ev:=by
 unfold zA
 rw [Qs,foldl_append]
 rfl
theorem zdH (ps:List (Int × Evt)) (t:Int) (ev:Evt):(ps ++ [(t,ev)]).map (·.1) = ps.map (·.1) ++ [t]:=by rw [Qs];rfl
theorem zli (ht:2<=tr) (ws:WS1 st) (hl:(st.length:Int) = tr - 1) (k:KI st tr R ts fun _ _ _=>False) {p:Nat × Int} (h:p ∈ zL (n64 nm tr sure) (W64 st) ts R):∃ e j,R.es[p.1]? = some e/\e.house = 0/\e.ph = .stands 0 j/\1<=j/\(j:Int) < tr/\p.2 = tkP st p.1 j/\yS (W64 st) ts (R.er p.1) p.1 = tkP st p.1 j:=by
 obtain ⟨i,hi,rfl⟩:=mem_map.mp h
 obtain ⟨h1,h2⟩:=mem_filter.mp hi
 have he:R.es[i]? = some (R.es[i]'(mem_range.mp h1)):=Q0 _
 rw [qC he] at h2
 generalize R.es[i]'(mem_range.mp h1) = e at *
 rcases k.al i e he with ⟨a,j,s,b1,b2,b3,b4,b5,b6⟩ | ⟨_,b⟩ | ⟨_,_,b⟩
 ·have hj:(j:Int) < tr:=by
   unfold qz at h2
   rw [a,b1,show (n64 nm tr sure).ask 0 (Ph.stands 0 j).at1 = ⟨"mill",tr,none,"bad",false,sure⟩ from rfl] at h2
   have h3:(tr == 0) = false:=by simp;omega
   simp only [h3,Bool.false_or,Qu,decide_eq_true_eq] at h2
   exact h2.2
  have:=zoj (i:=i) ws hl a b1 b2 hj b4 b6
  exact ⟨e,j,he,a,b1,b2,hj,by show yS (W64 st) ts (R.er i) i = _;rw [qC he];exact this,by show yS (W64 st) ts (R.er i) i = _;rw [qC he];exact this⟩
 ·unfold qz at h2
  rw [b] at h2
  cases h2
 ·exact b.elim
theorem zkg (ht:2<=tr) (k:KI st tr R ts fun _ _ _=>False) (h:zL (n64 nm tr sure) (W64 st) ts R = []) (he:R.es[i]? = some e) (hh:e.house = 0):∃ j:Nat,e.ph = .stands 0 j/\(j:Int) = tr:=by
 rcases k.al i e he with ⟨a,j,s,b1,b2,b3,b4,b5,b6⟩ | ⟨b,_⟩ | ⟨_,_,b⟩
 ·refine ⟨j,b1,?_⟩
  by_cases hj:(j:Int) < tr
  ·have hm:i ∈ zfz (n64 nm tr sure) R:=by
    refine mem_filter.mpr ⟨mem_range.mpr (List.getElem?_eq_some_iff.mp he).1,?_⟩
    unfold qz
    rw [qC he,a,b1,show (n64 nm tr sure).ask 0 (Ph.stands 0 j).at1 = ⟨"mill",tr,none,"bad",false,sure⟩ from rfl]
    show (true && (tr == 0 || decide ((j:Int) < tr))) = true
    rw [Qx hj]
    simp
   unfold zL at h
   rw [List.map_eq_nil_iff] at h
   rw [h] at hm
   cases hm
  ·omega
 ·omega
 ·exact b.elim
structure LI (nm:Str) (tr:Int) (sure:Bool) (st:List (Int × Int)) (a b d:Nat) (M:Mem) (ps:List (Int × Evt)) (sn:List (Nat × Nat)):Prop where
 pc:M[a]? = some (.lst (ps.map prT))
 sc:M[b]? = some (.lst (sn.map (snT st)))
 po:PO d M
 tv:TOk (n64 nm tr sure) (W64 st) ps
 ki:KI st tr (rn nm tr sure ps) (ps.map (·.1)) fun _ _ _=>False
 ne:ps ≠ []
 ml:ps.length + 2 * lf tr (rn nm tr sure ps)<=96
 sl:sn.length<=ps.length
 sj:∀ p ∈ sn,p.1<=st.length
end
variable {sn:List (Nat × Nat)} {o13 o14 o15 o16 o17 o18 o19 o20 o21 o22 o23 o6 o7 s0 s1:Option FT.T}
section
variable {tr:Int}
theorem zmE {n:Net} {j:Nat} (he:R.es[i]? = some e) (hp:e.ph = .stands 0 j):atI (R.es.map erT) (i:Int) = some (.tup [nT e.house,clT e.caller,.tup [.str "stands",nT 0,nT j]]):=by
 rw [yp (f:=erT) he]
 unfold erT
 rw [hp]
 rfl
theorem zmD (hm:nm ≠ "mill") (ht:2<=tr) (ht4:tr<=4) (ws:WS1 st) (hl:(st.length:Int) = tr - 1) {a b:Nat} (hab:a ≠ b) (had:a ≠ d) (hbd:b ≠ d) (li:LI nm tr sure st a b d M ps sn) (hne:zL (n64 nm tr sure) (W64 st) (ps.map (·.1)) (rn nm tr sure ps) ≠ []) :
  Ok (zhY kE kR kN [s0,s1,some (.int tr),some (.bl sure),some (zg (n64 nm tr sure)),some (zM st),o6,o7,some (wtT (W64 st)),some (.ref d),some (.ref a),some (.ref b),some (.lst ((zL (n64 nm tr sure) (W64 st) (ps.map (·.1)) (rn nm tr sure ps)).map sdT)),o13,o14,o15,o16,o17,o18,o19,o20,o21,o22,o23] M) fun fl M'=>∃ σ,fl = .nx σ/\∃ (ps':List (Int × Evt)) (sn':List (Nat × Nat)) (o13 o14 o15 o16:Option FT.T),σ = [s0,s1,some (.int tr),some (.bl sure),some (zg (n64 nm tr sure)),some (zM st),o6,o7,some (wtT (W64 st)),some (.ref d),some (.ref a),some (.ref b),some (.lst ((zL (n64 nm tr sure) (W64 st) (ps'.map (·.1)) (rn nm tr sure ps')).map sdT)),o13,o14,o15,o16,o17,o18,o19,o20,o21,o22,o23]/\LI nm tr sure st a b d M' ps' sn'/\ps.length < ps'.length:=by
 have wn:=zi5 (sure:=sure) hm (show 0<=tr by omega)
 have ww:=zoa (nm:=nm) (tr:=tr) (sure:=sure) ws (by omega)
 have pl:=li.ml
 unfold zhY
 obtain ⟨⟨i,t⟩,hp,hmin⟩:=zo1 hne
 obtain ⟨e,j,he,hh,hph,hj1,hj,htk,hso⟩:=zli ht ws hl li.ki hp
 dsimp only at he htk hso hmin
 have c1:qr (zar 2 (yy (qi 0) (yy (qi 1) zas))) yH (yw (yb (zb 1) (yb (zb 0) zd))) ((zL (n64 nm tr sure) (W64 st) (ps.map (·.1)) (rn nm tr sure ps)).map sdT) [none,none] M [] = .ok ((zL (n64 nm tr sure) (W64 st) (ps.map (·.1)) (rn nm tr sure ps)).map fun p=>.tup [.int p.2,nT p.1]) M:=
  Ok.mapc (r:=sdT) (fun σ=>∃ o o',σ = [o,o']) _ ⟨_,_,rfl⟩ (by
   unfold zL zfz
   rw [Qi]
   refine Qk (List.length_filter_le _ _) ?_
   rw [List.length_range]
   have:(rn nm tr sure ps).es.length<=_:=(zd2 wn li.tv).sb.es
   omega) (by
   rintro p σ _ ⟨o,o',rfl⟩
   exact ⟨[some (nT p.1),some (.int p.2)],rfl,⟨_,_,rfl⟩,rfl⟩)
 refine Ok.seqX fun X hX=>?_
 simp_arith [c1,hmin]
 rw [hX];clear hX;simp only [yu]
 have rn1:=zj3 (kE:=kE) (kR:=kR) wn (.inl rfl) li.tv.v (by rw [Qi];omega) M
 refine Ok.seqX fun X hX=>?_
 simp_arith [and_self]
 rw [ziV ?hs li.pc (by omega)]
 case hs=>rfl
 rw [zew,rn1,zew]
 unfold zcf
 simp_arith [zmE (n:=n64 nm tr sure) he hph]
 rw [hX];clear hX;simp only [yu]
 have te:=zmH (kE:=kE) (kR:=kR) ws (i:=i) (k:=j) (by omega) M
 refine Ok.seqX fun X hX=>?_
 have hb:(tkP st i j == t) = true:=by rw [htk];exact Qz _
 simp_arith [zjr,te,hb]
 rw [hX];clear hX;simp only [yu]
 obtain ⟨q,hq⟩:=znq li.ne
 have ak:=li.ki.again (sure:=sure) hm he hh hph hj1 hj t
 refine Ok.seqP (fun fl M'=>fl = Fl.nx [s0,s1,some (.int tr),some (.bl sure),some (zg (n64 nm tr sure)),some (zM st),o6,o7,some (wtT (W64 st)),some (.ref d),some (.ref a),some (.ref b),some (.lst ((zL (n64 nm tr sure) (W64 st) (ps.map (·.1)) (rn nm tr sure ps)).map sdT)),some (.int t),some (nT i),some (.tup [.str "stands",nT 0,nT j]),o16,o17,o18,o19,o20,o21,o22,o23]/\Kp M.length M M') ?_ ?_
 ·have li_:zgj (.ref a) (.lst [.tup [.int (t - 1),.tup [.str "again",nT i]]]) M = .ok ((ps ++ [(t - 1,Evt.again i)]).map prT) M:=by
   unfold zgj zy
   simp only [li.pc]
   rw [if_pos (by rw [Qi];exact Nat.le_of_lt (zc9 (by simp;omega))),Qs]
   rfl
  by_cases z:t > q.1
  ·simp_arith [li.pc,hq,Qx z,li_]
   have rf:=zjl (kE:=kE) (kR:=kR) (kN:=kN) wn ww li.tv (by omega) ak.1 (t:=t - 1) (by rw [hso,← htk];omega) (M:=M)
   refine Ok.bind rf ?_
   rintro u M1 ⟨rfl,k1⟩
   simp_arith [and_self]
   exact Ok.ret ⟨rfl,k1⟩
  ·simp_arith [li.pc,hq,Qy z]
   exact Ok.ret ⟨rfl,Kp.refl _ _⟩
 ·rintro fl M1 ⟨rfl,k1⟩
  simp only [yu]
  have pc1:=k1.fr.get li.pc (by simp)
  have sc1:=k1.fr.get li.sc (by simp)
  have po1:=li.po.fr k1.fr (by simp)
  have sl:=li.sl
  have ap:=zai (t:=snT st (j,i)) sc1 (zc9 (by rw [Qi];omega))
  rw [show sn.map (snT st) ++ [snT st (j,i)] = (sn ++ [(j,i)]).map (snT st) from by rw [Qs];rfl,show snT st (j,i) = .tup [nT j,.int t,nT i] from by unfold snT;rw [htk]] at ap
  refine Ok.seqX fun X hX=>?_
  simp_arith [qS sc1,ap]
  rw [hX];clear hX;simp only [yu]
  have sc2:(M1.set b (.lst ((sn ++ [(j,i)]).map (snT st))))[b]? = some (Cell.lst ((sn ++ [(j,i)]).map (snT st))):=get_set sc1
  have f2:=Fr.set M1 b (.lst ((sn ++ [(j,i)]).map (snT st)))
  have pc2:=f2.get pc1 (by simp;omega)
  have po2:=po1.fr f2 (by simp;omega)
  generalize M1.set b (.lst ((sn ++ [(j,i)]).map (snT st))) = M2 at *
  have ap:=zai (t:=prT (t,Evt.again i)) pc2 (zc9 (by rw [Qi];omega))
  rw [show ps.map prT ++ [prT (t,Evt.again i)] = (ps ++ [(t,Evt.again i)]).map prT from by rw [Qs];rfl,show prT (t,Evt.again i) = .tup [.int t,.tup [.str "again",nT i]] from rfl] at ap
  refine Ok.seqX fun X hX=>?_
  simp_arith [qS pc2,ap]
  rw [hX];clear hX;simp only [yu]
  have pc3:(M2.set a (.lst ((ps ++ [(t,Evt.again i)]).map prT)))[a]? = some (Cell.lst ((ps ++ [(t,Evt.again i)]).map prT)):=get_set pc2
  have f3:=Fr.set M2 a (.lst ((ps ++ [(t,Evt.again i)]).map prT))
  have sc3:=f3.get sc2 (by simp;omega)
  have po3:=po2.fr f3 (by simp;omega)
  generalize M2.set a (.lst ((ps ++ [(t,Evt.again i)]).map prT)) = M3 at *
  have tv1:TOk (n64 nm tr sure) (W64 st) (ps ++ [(t,Evt.again i)]):=li.tv.snoc wn ak.1 (fun i' z=>by
   cases z
   rw [hso,htk]
   exact Int.le_refl _)
  have ki1:=ak.2.1
  have lf1_:=ak.2.2.1
  have es1:=ak.2.2.2
  have rs:=zdz (n:=n64 nm tr sure) ps t (.again i)
  rw [show yq (n64 nm tr sure) (rn nm tr sure ps) (.again i) = rn nm tr sure (ps ++ [(t,Evt.again i)]) from rs.symm,← zdH ps t (.again i)] at ki1
  rw [show yq (n64 nm tr sure) (rn nm tr sure ps) (.again i) = rn nm tr sure (ps ++ [(t,Evt.again i)]) from rs.symm] at lf1_ es1
  have len1:(ps ++ [(t,Evt.again i)]).length = ps.length + 1:=by rw [Qo,Qw]
  have ne1:ps ++ [(t,Evt.again i)] ≠ []:=by simp
  generalize ps ++ [(t,Evt.again i)] = ps1 at *
  have rn2:=zj3 (kE:=kE) (kR:=kR) wn (.inl rfl) tv1.v (by rw [Qi];omega) M3
  refine Ok.seqX fun X hX=>?_
  simp_arith [and_self]
  rw [ziV ?hs pc3 (by omega)]
  case hs=>rfl
  rw [zew,rn2,zew]
  unfold zcf
  simp_arith [Qi]
  rw [hX];clear hX;simp only [yu]
  have mn:(((zA (n64 nm tr sure) (ps1.map (·.2))).es.length:Nat):Int) - 1 = (((rn nm tr sure ps).es.length:Nat):Int):=by
   have:(zA (n64 nm tr sure) (ps1.map (·.2))).es.length = (rn nm tr sure ps).es.length + 1:=es1
   omega
  refine Ok.seqX fun X hX=>?_
  simp_arith [qS pc3]
  refine Ok.bind (zao po3 (by decide) (by decide)) ?_
  rintro u M4 ⟨w,rfl,w0,w3,po4,f4⟩
  have pc4:=f4.get pc3 (by simp;omega)
  have sc4:=f4.get sc3 (by simp;omega)
  obtain ⟨ev,fe,ff⟩:=zgF (kE:=kE) (kR:=kR) sure w0 w3 (rn nm tr sure ps).es.length t M4
  have kf:=ki1.fail (nm:=nm) (sure:=sure) (t:=t) ⟨rfl,rfl,rfl⟩ ff (by rw [htk];rfl)
  have ap:=zai (t:=prT (t,ev)) pc4 (zc9 (by rw [Qi];omega))
  rw [show ps1.map prT ++ [prT (t,ev)] = (ps1 ++ [(t,ev)]).map prT from by rw [Qs];rfl] at ap
  simp_arith [mn,fe,ap]
  rw [hX];clear hX;simp only [yu]
  have pc5:(M4.set a (.lst ((ps1 ++ [(t,ev)]).map prT)))[a]? = some (Cell.lst ((ps1 ++ [(t,ev)]).map prT)):=get_set pc4
  have f5:=Fr.set M4 a (.lst ((ps1 ++ [(t,ev)]).map prT))
  have sc5:=f5.get sc4 (by simp;omega)
  have po5:=po4.fr f5 (by simp;omega)
  generalize M4.set a (.lst ((ps1 ++ [(t,ev)]).map prT)) = M5 at *
  have nA:∀ i',ev = .again i'->False:=fun i' z=>by rcases ff with ⟨q,_⟩ | q | q <;> (rw [q] at z;cases z)
  have tv2:TOk (n64 nm tr sure) (W64 st) (ps1 ++ [(t,ev)]):=tv1.snoc wn kf.1 (fun i' z=>(nA i' z).elim)
  have ki2:=kf.2.1
  have lf2:=kf.2.2.1
  have rs2:=zdz (n:=n64 nm tr sure) ps1 t ev
  rw [show yq (n64 nm tr sure) (rn nm tr sure ps1) ev = rn nm tr sure (ps1 ++ [(t,ev)]) from rs2.symm,← zdH ps1 t ev] at ki2
  rw [show yq (n64 nm tr sure) (rn nm tr sure ps1) ev = rn nm tr sure (ps1 ++ [(t,ev)]) from rs2.symm] at lf2
  have len2:(ps1 ++ [(t,ev)]).length = ps.length + 2:=by rw [Qo,Qw];omega
  have ne2:ps1 ++ [(t,ev)] ≠ []:=by simp
  generalize ps1 ++ [(t,ev)] = ps2 at *
  have so:=zfk (kE:=kE) (kR:=kR) (kN:=kN) wn ww tv2 (by omega) (M:=M5) (.inr ⟨a,rfl,pc5⟩)
  simp_arith [so]
  refine Ok.ret ⟨_,rfl,ps2,sn ++ [(j,i)],_,_,_,_,rfl,⟨pc5,sc5,po5,tv2,⟨ki2.ca,fun x y z=>?_,fun _ _ _ z=>z.elim⟩,ne2,by omega,by rw [Qo,Qw];omega,fun p hp=>?_⟩,by omega⟩
  ·rcases ki2.al x y z with h | h | ⟨c,j',⟨h1,h2,h3⟩,h4⟩
   ·exact .inl h
   ·exact .inr (.inl h)
   ·exact absurd h1 h4
  ·rcases mem_append.mp hp with hp | hp
   ·exact li.sj p hp
   ·rw [mem_singleton.mp hp]
    show j<=_
    omega
end
variable {m:Nat} {s2 s3 s4 s8:Option FT.T}
section
variable {tr:Int}
theorem zmK (xs:List (Int × Int)) (p:Int × Int):xs.map pwT ++ [pwT p] = (xs ++ [p]).map pwT:=by simp
theorem zlg {a p:Nat} (hm:m<=3) (hap:a ≠ p) (e:PO p M) (ha:M[a]? = some (.lst [])) {rest:List (Option FT.T)} :
  Ok (forL (qi 6) (zh0 kE kR kN) ((rgI m).map .int) ([s0,some (.ref p),s2,s3,s4,some (.ref a),o6,o7] ++ rest) M) fun fl M'=>∃ σ,fl = .nx σ/\∃ (st:List (Int × Int)) (o6 o7:Option FT.T),σ = [s0,some (.ref p),s2,s3,s4,some (.ref a),o6,o7] ++ rest/\M'[a]? = some (.lst (st.map pwT))/\st.length = m/\WS1 st/\PO p M'/\Fr [p,a] M M':=by
 refine (Ok.for (r:=FT.T.int) (xs:=rgI m) (fun k σ M'=>∃ (st:List (Int × Int)) (o6 o7:Option FT.T),σ = [s0,some (.ref p),s2,s3,s4,some (.ref a),o6,o7] ++ rest/\M'[a]? = some (.lst (st.map pwT))/\st.length = k/\(∀ q ∈ st,(0<=q.1/\q.1<=1000001)/\1<=q.2/\q.2<=1000)/\PO p M'/\Fr [p,a] M M') ⟨[],o6,o7,rfl,ha,rfl,(fun q h=>by cases h),e,Fr.refl _ _⟩ ?_).mono ?_
 ·rintro k x σ M1 hx ⟨st,o6,o7,rfl,g1,hl,hb,p1,f1⟩
  obtain ⟨hk,rfl⟩:=ziw hx
  unfold zh0
  simp_arith [and_self]
  refine Ok.bind (zao p1 (by decide) (by decide)) ?_
  rintro t M2 ⟨d,rfl,d1,d2,p2,f2⟩
  obtain ⟨v,hv,v1,v2⟩:=ziA (xs:=[1,3,40]) 1 40 d1 d2 rfl
  simp only [map_cons,map_nil] at hv
  simp_arith [hv]
  refine Ok.bind (zao p2 (by omega) (zmu (by omega) (by omega))) ?_
  rintro t M3 ⟨w,rfl,w1,w2,p3,f3⟩
  have g3:M3[a]? = some (.lst (st.map pwT)):=f3.get (f2.get g1 (by simp;omega)) (by simp;omega)
  simp_arith [qS g3]
  refine Ok.bind (zao p3 (by decide) (by decide)) ?_
  rintro t M4 ⟨q,rfl,q1,q2,p4,f4⟩
  obtain ⟨u,hu,u1,u2⟩:=ziA (xs:=[1,3,9]) 1 9 q1 q2 rfl
  simp only [map_cons,map_nil] at hu
  simp_arith [hu]
  refine Ok.bind (zao p4 (by omega) (zmu (by omega) (by omega))) ?_
  rintro t M5 ⟨y,rfl,y1,y2,p5,f5⟩
  have g5:M5[a]? = some (.lst (st.map pwT)):=f5.get (f4.get g3 (by simp;omega)) (by simp;omega)
  have ap:=zai (t:=pwT (w,1 + y)) g5 (zc9 (by rw [Qi];omega))
  rw [zmK,show pwT (w,1 + y) = .tup [.int w,.int (1 + y)] from rfl] at ap
  simp_arith [ap]
  refine Ok.ret ⟨_,rfl,st ++ [(w,1 + y)],_,_,rfl,get_set g5,by simp;omega,fun r hr=>?_,p5.fr (Fr.set _ _ _) (by simp;omega),((((f1.tr f2 (by simp)).tr f3 (by simp)).tr f4 (by simp)).tr f5 (by simp)).tr (Fr.set _ _ _) (by simp)⟩
  rcases mem_append.mp hr with hr | hr
  ·exact hb r hr
  ·rw [mem_singleton.mp hr]
   show (0<=w/\w<=1000001)/\1<=1 + y/\1 + y<=1000
   omega
 ·rintro fl M1 ⟨σ,rfl,st,o6,o7,rfl,g1,hl,hb,p1,f1⟩
  rw [zei] at hl
  exact ⟨_,rfl,st,o6,o7,rfl,g1,hl,⟨by omega,hb⟩,p1,f1⟩
theorem KI.iff {P Q:Nat->Nat->Nat->Prop} (k:KI st tr R ts P) (h:∀ i c j,P i c j ↔ Q i c j):KI st tr R ts Q:=by
 have:P = Q:=by funext i c j;exact propext (h i c j)
 rw [← this]
 exact k
theorem zgE (hm:nm ≠ "mill") (ht:2<=tr):∀ q:Nat,KI st tr (rn nm tr sure (List.replicate q (0,Evt.fresh))) ((List.replicate q ((0:Int),Evt.fresh)).map (·.1)) (fun i c j=>∃ k,k < q/\i = 2 * k/\c = 2 * k + 1/\j = 1)/\TOk (n64 nm tr sure) (W64 st) (List.replicate q (0,Evt.fresh))/\lf tr (rn nm tr sure (List.replicate q (0,Evt.fresh))) = q * (tr - 1).toNat/\(rn nm tr sure (List.replicate q (0,Evt.fresh))).es.length = 2 * q
 | 0=>⟨(KI.new st tr).iff fun i c j=>⟨fun h=>h.elim,fun ⟨k,h,_⟩=>absurd h (by omega)⟩,⟨True.intro,fun k p i h=>by simp at h⟩,by rw [Nat.zero_mul];rfl,rfl⟩
 | q + 1=>by
  obtain ⟨k,tv,l,es⟩:=zgE hm ht q
  have rs:=zdz (n:=n64 nm tr sure) (List.replicate q (0,Evt.fresh)) 0 .fresh
  obtain ⟨k2,l2,es2⟩:=k.fresh (sure:=sure) hm ht 0
  rw [List.replicate_succ']
  rw [show yq (n64 nm tr sure) (rn nm tr sure (List.replicate q (0,Evt.fresh))) .fresh = rn nm tr sure (List.replicate q (0,Evt.fresh) ++ [(0,.fresh)]) from rs.symm] at k2 l2 es2
  rw [← zdH _ 0 .fresh] at k2
  refine ⟨k2.iff fun i c j=>?_,tv.snoc (zi5 hm (by omega)) (.inl rfl) (fun i z=>by cases z),by rw [l2,l,Nat.succ_mul],by omega⟩
  rw [es]
  constructor
  ·rintro (⟨k,h,rest⟩ | ⟨h1,h2,h3⟩)
   ·exact ⟨k,by omega,rest⟩
   ·exact ⟨q,by omega,by omega,by omega,h3⟩
  ·rintro ⟨k,h,h1,h2,h3⟩
   by_cases z:k < q
   ·exact .inl ⟨k,z,h1,h2,h3⟩
   ·exact .inr ⟨by omega,by omega,h3⟩
theorem zl5 (hm:nm ≠ "mill") (ht:2<=tr) {a:Nat} (had:a ≠ d) (hm12:m<=12) (po:PO d M) (pc:M[a]? = some (.lst ((List.replicate m ((0:Int),Evt.fresh)).map prT))) {s5 s7:Option FT.T} {rest:List (Option FT.T)} :
  Ok (forL (qi 6) (zhZ kE kR kN) ((rgI m).map .int) ([s0,s1,s2,some (.bl sure),s4,s5,o6,s7,s8,some (.ref d),some (.ref a)] ++ rest) M) fun fl M'=>∃ σ,fl = .nx σ/\∃ (ps:List (Int × Evt)) (o6:Option FT.T),σ = [s0,s1,s2,some (.bl sure),s4,s5,o6,s7,s8,some (.ref d),some (.ref a)] ++ rest/\M'[a]? = some (.lst (ps.map prT))/\PO d M'/\TOk (n64 nm tr sure) (W64 st) ps/\KI st tr (rn nm tr sure ps) (ps.map (·.1)) (fun _ _ _=>False)/\ps.length = 2 * m/\lf tr (rn nm tr sure ps) = m * (tr - 1).toNat/\Fr [a,d] M M':=by
 obtain ⟨k0,tv0,l0,_⟩:=zgE (st:=st) (sure:=sure) hm ht m
 refine (Ok.for (r:=FT.T.int) (xs:=rgI m) (fun q σ M'=>∃ (ps:List (Int × Evt)) (o6:Option FT.T),σ = [s0,s1,s2,some (.bl sure),s4,s5,o6,s7,s8,some (.ref d),some (.ref a)] ++ rest/\M'[a]? = some (.lst (ps.map prT))/\PO d M'/\TOk (n64 nm tr sure) (W64 st) ps/\KI st tr (rn nm tr sure ps) (ps.map (·.1)) (fun i c j=>∃ k,q<=k/\k < m/\i = 2 * k/\c = 2 * k + 1/\j = 1)/\ps.length = m + q/\lf tr (rn nm tr sure ps) = m * (tr - 1).toNat/\Fr [a,d] M M') ⟨_,o6,rfl,pc,po,tv0,k0.iff fun i c j=>?_,by simp,l0,Fr.refl _ _⟩ ?_).mono ?_
 ·constructor
  ·rintro ⟨k,h,r⟩
   exact ⟨k,by omega,h,r⟩
  ·rintro ⟨k,_,h,r⟩
   exact ⟨k,h,r⟩
 ·rintro q x σ M1 hx ⟨ps,o6,rfl,pc1,po1,tv,ki,pl,lf',f1⟩
  obtain ⟨hk,rfl⟩:=ziw hx
  have mu:zap (.int 2) (.int (q:Int)) M1 = .ok (.int (2 * (q:Int))) M1:=zcC (by decide)
  unfold zhZ
  simp_arith [qS pc1]
  refine Ok.bind (zao po1 (by decide) (by decide)) ?_
  rintro u M2 ⟨w,rfl,w0,w3,po2,f2⟩
  have mu:∀ M,zap (.int 2) (.int (q:Int)) M = .ok (.int (2 * (q:Int))) M:=fun M=>zcC (by decide)
  have pc2:=f2.get pc1 (by simp;omega)
  obtain ⟨ev,fe,ff⟩:=zgF (kE:=kE) (kR:=kR) sure w0 w3 (2 * q + 1) 0 M2
  obtain ⟨c,ki2,lf2,_⟩:=ki.fail (nm:=nm) (sure:=sure) (t:=0) ⟨q,Q4 _,hk,rfl,rfl,rfl⟩ ff (by rw [Nat.sub_self,zmF])
  have ap:=zai (t:=prT (0,ev)) pc2 (zc9 (by rw [Qi];omega))
  rw [show ps.map prT ++ [prT (0,ev)] = (ps ++ [(0,ev)]).map prT from by rw [Qs];rfl] at ap
  have cs:(2:Int) * (q:Int) + 1 = ((2 * q + 1:Nat):Int):=by omega
  simp_arith [mu,cs,fe,ap]
  have nA:∀ i',ev = .again i'->False:=fun i' z=>by rcases ff with ⟨q,_⟩ | q | q <;> (rw [q] at z;cases z)
  have rs:=zdz (n:=n64 nm tr sure) ps 0 ev
  rw [show yq (n64 nm tr sure) (rn nm tr sure ps) ev = rn nm tr sure (ps ++ [(0,ev)]) from rs.symm] at ki2 lf2
  rw [← zdH ps 0 ev] at ki2
  refine Ok.ret ⟨_,rfl,ps ++ [(0,ev)],_,rfl,get_set pc2,po2.fr (Fr.set _ _ _) (by simp;omega),tv.snoc (zi5 hm (by omega)) c (fun i' z=>(nA i' z).elim),ki2.iff fun i c j=>?_,by rw [Qo,Qw];omega,by rw [lf2,lf'],(f1.tr f2 (by simp)).tr (Fr.set _ _ _) (by simp)⟩
  constructor
  ·rintro ⟨⟨k,h1,h2,h3,h4,h5⟩,hne⟩
   exact ⟨k,by omega,h2,h3,h4,h5⟩
  ·rintro ⟨k,h1,h2,h3,h4,h5⟩
   exact ⟨⟨k,by omega,h2,h3,h4,h5⟩,by omega⟩
 ·rintro fl M1 ⟨σ,rfl,ps,o6,rfl,pc1,po1,tv,ki,pl,lf',f1⟩
  rw [zei] at ki pl
  exact ⟨_,rfl,ps,o6,rfl,pc1,po1,tv,ki.iff fun i c j=>⟨fun ⟨k,h1,h2,_⟩=>by omega,fun h=>h.elim⟩,by omega,lf',f1⟩
end
section
variable {tr:Int}
theorem zmP (ws:WS1 st) {b:Nat} (sc:M[b]? = some (.lst (sn.map (snT st)))) (sj:∀ p ∈ sn,p.1<=st.length) {s9 s10 s12:Option FT.T} :
  Ok (zdn (zar 3 (yy (qi 17) (yy (qi 13) (yy (qi 14) zas)))) (zhX kE kR kN) (.ref b) [s0,s1,s2,s3,s4,some (zM st),o6,o7,s8,s9,s10,some (.ref b),s12,o13,o14,o15,o16,o17,o18,o19,o20,o21,o22,o23] M) fun fl M'=>∃ σ,fl = .nx σ/\M' = M/\∃ (o7 o13 o14 o17 o18 o19 o20 o21 o22:Option FT.T),σ = [s0,s1,s2,s3,s4,some (zM st),o6,o7,s8,s9,s10,some (.ref b),s12,o13,o14,o15,o16,o17,o18,o19,o20,o21,o22,o23]:=by
 refine (Ok.forR (r:=snT st) (xs:=sn) (fun k σ M'=>M' = M/\∃ (o7 o13 o14 o17 o18 o19 o20 o21 o22:Option FT.T),σ = [s0,s1,s2,s3,s4,some (zM st),o6,o7,s8,s9,s10,some (.ref b),s12,o13,o14,o15,o16,o17,o18,o19,o20,o21,o22,o23]) (fun k σ M' h=>by rw [h.1];exact sc) ⟨rfl,_,_,_,_,_,_,_,_,_,rfl⟩ ?_).mono ?_
 ·rintro k ⟨j,i⟩ σ M1 hk ⟨rfl,o7,o13,o14,o17,o18,o19,o20,o21,o22,rfl⟩
  have hj:=sj _ (Qb hk)
  dsimp only at hj
  have bp:=zdd ws hj
  unfold zhX
  rw [show snT st (j,i) = .tup [nT j,.int (tkP st i j),nT i] from rfl]
  have k1:zcG (st.map pwT) none (some (j:Int)) = (st.take j).map pwT:=by rw [zd8,map_take]
  rw [show zM st = .tup (st.map pwT) from rfl]
  simp_arith [k1]
  refine Ok.bind (Ok.for (r:=pwT) (xs:=st.take j) (fun q σ M'=>M' = M1/\∃ o7 o19:Option FT.T,σ = [s0,s1,s2,s3,s4,some (.tup (st.map pwT)),o6,o7,s8,s9,s10,some (.ref b),s12,some (.int (tkP st i j)),some (nT i),o15,o16,some (nT j),some (.int (prd ((st.take j).take q))),o19,o20,o21,o22,o23]) ⟨rfl,_,_,rfl⟩ ?_) ?_
  ·rintro q p σ M2 hq ⟨rfl,o7,o19,rfl⟩
   have hql:=(List.getElem?_eq_some_iff.mp hq).1
   rw [length_take] at hql
   have hp:=(ws.2 p (List.mem_of_mem_take (Qb hq))).2
   have tt:(st.take j).take q = st.take q:=by rw [List.take_take,Nat.min_eq_left (by omega)]
   have b':=zdd ws (k:=q) (by omega)
   have mu:zap (.int (prd (st.take q))) (.int p.2) M2 = .ok (.int (prd (st.take q) * p.2)) M2:=zcC (by simp only [Int.reducePow] at b' ⊢;omega)
   unfold zk1
   rw [show pwT p = .tup [.int p.1,.int p.2] from rfl,ze0 hq,tt]
   simp_arith [mu]
   exact Ok.ret ⟨_,rfl,rfl,_,_,rfl⟩
  ·rintro fl M2 ⟨σ,rfl,rfl,o7,o19,rfl⟩
   rw [take_length]
   simp_arith [zeh]
   refine (Ok.forR (r:=snT st) (xs:=sn) (fun q σ M'=>M' = M2/\∃ (o20 o21 o22:Option FT.T),σ = [s0,s1,s2,s3,s4,some (.tup (st.map pwT)),o6,o7,s8,s9,s10,some (.ref b),s12,some (.int (tkP st i j)),some (nT i),o15,o16,some (nT j),some (.int (prd (st.take j))),o19,o20,o21,o22,o23]) (fun q σ M' h=>by rw [h.1];exact sc) ⟨rfl,_,_,_,rfl⟩ ?_).mono ?_
   ·rintro q ⟨j',i'⟩ σ M3 hq ⟨rfl,o20,o21,o22,rfl⟩
    unfold zk0
    rw [show snT st (j',i') = .tup [nT j',.int (tkP st i' j'),nT i'] from rfl]
    by_cases e1:j' = j
    ·subst e1
     have h1:((j':Int) == (j':Int)) = true:=Qz _
     by_cases e2:tkP st i' j' = tkP st i j'
     ·have h2:(tkP st i' j' == tkP st i j') = true:=by rw [e2];exact Qz _
      have md:∀ x:Nat,zac (nT x) (.int (prd (st.take j'))) M3 = .ok (.int ((x:Int).fmod (prd (st.take j')))) M3:=fun x=>zdg (by omega)
      have h3:((i:Int).fmod (prd (st.take j')) == (i':Int).fmod (prd (st.take j'))) = true:=by
       unfold tkP at e2
       rw [Qa _ (by omega),Qa _ (by omega)]
       rw [beq_iff_eq]
       omega
      simp_arith [h1,h2,md,h3]
      exact Ok.ret ⟨_,rfl,rfl,_,_,_,rfl⟩
     ·have h2:(tkP st i' j' == tkP st i j') = false:=by simpa using e2
      simp_arith [h1,h2]
      exact Ok.ret ⟨_,rfl,rfl,_,_,_,rfl⟩
    ·have h1:((j':Int) == (j:Int)) = false:=by simp;omega
     simp_arith [h1]
     exact Ok.ret ⟨_,rfl,rfl,_,_,_,rfl⟩
   ·rintro fl M3 ⟨σ,rfl,rfl,o20,o21,o22,rfl⟩
    exact ⟨_,rfl,rfl,_,_,_,_,_,_,_,_,_,rfl⟩
 ·rintro fl M1 ⟨σ,rfl,rfl,h⟩
  exact ⟨_,rfl,rfl,h⟩
theorem law_true (kE kR kN:Addr) (ns:List Int) (hn:ns.length<=63):∃ M,zgX kE kR kN [.lst (ns.map .int)] [] = .ok (.bl true) M:=by
 have:Ok (zgX kE kR kN [.lst (ns.map .int)] []) fun t _=>t = .bl true:=by
  refine yD rfl ?_
  unfold zmq
  rw [show startT 24 [.lst (ns.map .int)] = [some (.lst (ns.map .int)),none,none,none,none,none,none,none,none,none,none,none,none,none,none,none,none,none,none,none,none,none,none,none] from rfl]
  obtain ⟨c,hc⟩:=ziX (kE:=kE) (kR:=kR) ns 0 []
  rw [show ((0:Nat):Int) = 0 from rfl] at hc
  refine Ok.seqR fun X hX=>?_
  simp_arith [hc,zgy]
  rw [hX];clear hX;simp only [yu]
  have po:PO 0 ([] ++ [(Po.new c).cell]):=PO.app (M:=[]) (c:=c)
  rw [nil_append] at po
  generalize [(Po.new c).cell] = M0 at *
  refine Ok.seqR fun X hX=>?_
  simp_arith [and_self]
  refine Ok.bind (zao po (by decide) (by decide)) ?_
  rintro t M1 ⟨d,rfl,d1,d2,po1,f1⟩
  simp_arith [and_self]
  rw [hX];clear hX;simp only [yu]
  obtain ⟨tr,htr⟩:∃ tr:Int,tr = 2 + d:=⟨_,rfl⟩
  rw [← htr]
  have ht2:2<=tr:=by omega
  have ht4:tr<=4:=by omega
  refine Ok.seqR fun X hX=>?_
  simp_arith [and_self]
  refine Ok.bind (zao po1 (by decide) (by decide)) ?_
  rintro t M2 ⟨d',rfl,_,_,po2,f2⟩
  simp_arith [and_self]
  rw [hX];clear hX;simp only [yu]
  generalize (d' == 0) = sure
  refine Ok.seqR fun X hX=>?_
  simp_arith [and_self]
  refine Ok.bind (zao po2 (by decide) (by decide)) ?_
  rintro t M3 ⟨x,rfl,x0,x2,po3,f3⟩
  obtain ⟨nm,hnm,en⟩:=zql (xs:=["gate","b"]) x0 (by simpa using x2)
  have hm:nm ≠ "mill":=by
   simp only [mem_cons,not_mem_nil,or_false] at hnm
   rcases hnm with rfl | rfl <;> decide
  simp only [map_cons,map_nil] at en
  simp_arith [en]
  rw [hX];clear hX;simp only [yu]
  rw [show FT.T.tup [.tup [.tup [.str nm,.tup [.tup [.str "mill",.int tr,.non,.str "bad",.bl false,.bl sure]]],.tup [.str "mill",.tup []]],.tup []] = zg (n64 nm tr sure) from rfl]
  refine Ok.seqR fun X hX=>?_
  simp_arith [and_self]
  rw [hX];clear hX;simp only [yu]
  have g0:(M3 ++ [Cell.lst []])[M3.length]? = some (.lst []):=z9
  have l3:0 < M3.length:=by obtain ⟨p,e⟩:=po3;exact zS e
  have po4:=po3.fr (Fr.app M3 [Cell.lst []]) (by simp)
  have len4:(M3 ++ [Cell.lst []]).length = M3.length + 1:=by simp
  generalize ha0:M3.length = a0 at *
  generalize M3 ++ [Cell.lst []] = M4 at *
  refine Ok.seqR fun X hX=>?_
  simp_arith [zdc (M:=M4) (show -(2 ^ 62)<=tr - 1/\tr - 1 < 2 ^ 62 by omega)]
  refine Ok.bind (zlg (m:=(tr - 1).toNat) (by omega) (by omega) po4 g0 (rest:=[none,none,none,none,none,none,none,none,none,none,none,none,none,none,none,none])) ?_
  rintro fl M5 ⟨σ,rfl,st,o6,o7,rfl,g5,sl,ws,po5,f5⟩
  rw [hX];clear hX;simp only [yu]
  have hl:(st.length:Int) = tr - 1:=by omega
  refine Ok.seqR fun X hX=>?_
  simp_arith [zjc g5]
  rw [hX];clear hX;simp only [yu]
  rw [show FT.T.tup (st.map pwT) = zM st from rfl]
  refine Ok.seqR fun X hX=>?_
  simp_arith [and_self]
  rw [hX];clear hX;simp only [yu]
  rw [show FT.T.tup [.tup [zM st],.tup []] = wtT (W64 st) from rfl]
  obtain ⟨c',hc'⟩:=ziX (kE:=kE) (kR:=kR) ns 1 M5
  rw [show ((1:Nat):Int) = 1 from rfl] at hc'
  refine Ok.seqR fun X hX=>?_
  simp_arith [hc',zgy]
  rw [hX];clear hX;simp only [yu]
  have po6:PO M5.length (M5 ++ [(Po.new c').cell]):=PO.app
  have len6:(M5 ++ [(Po.new c').cell]).length = M5.length + 1:=by simp
  generalize M5.length = dd at *
  generalize M5 ++ [(Po.new c').cell] = M6 at *
  refine Ok.seqR fun X hX=>?_
  simp_arith [and_self]
  refine Ok.bind (zao po6 (by decide) (by decide)) ?_
  rintro t M7 ⟨y,rfl,y0,y12,po7,f7⟩
  have l7:dd < M7.length:=by obtain ⟨p,e⟩:=po7;exact zS e
  obtain ⟨m,hmm⟩:∃ m:Nat,(1 + y).toNat = m:=⟨_,rfl⟩
  have cp:qr (qi 0) yH (yw (yb (eC (.int 0)) (yb (yw (yb (eC (.str "fresh")) zd)) zd))) ((rgI (1 + y).toNat).map .int) [none] M7 [] = .ok ((List.replicate m ((0:Int),Evt.fresh)).map prT) M7:=by
   rw [Ok.mapc (r:=FT.T.int) (fun σ=>∃ o,σ = [o]) (fun _=>prT (0,.fresh)) ⟨_,rfl⟩ (by rw [zei];omega) (by
    rintro p σ _ ⟨o,rfl⟩
    exact ⟨[some (.int p)],rfl,⟨_,rfl⟩,rfl⟩),List.map_const',zei,hmm,List.map_replicate]
  simp_arith [zdc (M:=M7) (show -(2 ^ 62)<=1 + y/\1 + y < 2 ^ 62 by omega),cp]
  rw [hX];clear hX;simp only [yu]
  have pc8:(M7 ++ [Cell.lst ((List.replicate m ((0:Int),Evt.fresh)).map prT)])[M7.length]? = some (.lst ((List.replicate m ((0:Int),Evt.fresh)).map prT)):=z9
  have po8:=po7.fr (Fr.app M7 [Cell.lst ((List.replicate m ((0:Int),Evt.fresh)).map prT)]) (by simp)
  generalize ha:M7.length = a at *
  generalize M7 ++ [Cell.lst ((List.replicate m ((0:Int),Evt.fresh)).map prT)] = M8 at *
  have ln:qF (.ref a) M8 = .ok (nT m) M8:=by
   unfold qF zat zy
   simp only [pc8]
   simp
  refine Ok.seqR fun X hX=>?_
  simp_arith [ln,zdc (M:=M8) (show -(2 ^ 62)<=(m:Int)/\(m:Int) < 2 ^ 62 by omega),Int.toNat_natCast]
  refine Ok.bind (zl5 (st:=st) (m:=m) hm ht2 (by omega) (by omega) po8 pc8 (rest:=[none,none,none,none,none,none,none,none,none,none,none,none,none])) ?_
  rintro fl M9 ⟨σ,rfl,ps,o6',rfl,pc9,po9,tv,ki,pl,lf',f9⟩
  rw [hX];clear hX;simp only [yu]
  refine Ok.seqR fun X hX=>?_
  simp_arith [and_self]
  rw [hX];clear hX;simp only [yu]
  have la:a < M9.length:=zS pc9
  have ld:dd < M9.length:=by obtain ⟨p,e⟩:=po9;exact zS e
  have sc10:(M9 ++ [Cell.lst []])[M9.length]? = some (.lst ((([]:List (Nat × Nat))).map (snT st))):=z9
  have pc10:=(Fr.app M9 [Cell.lst []]).get pc9 (by simp)
  have po10:=po9.fr (Fr.app M9 [Cell.lst []]) (by simp)
  generalize hb:M9.length = b at *
  generalize M9 ++ [Cell.lst []] = M10 at *
  have wn:=zi5 (nm:=nm) (tr:=tr) (sure:=sure) hm (by omega)
  have ww:=zoa (nm:=nm) (tr:=tr) (sure:=sure) (st:=st) ws (by omega)
  have m12:m<=12:=by omega
  have lb:m * (tr - 1).toNat<=12 * 3:=Nat.mul_le_mul m12 (by omega)
  have so:=zfk (kE:=kE) (kR:=kR) (kN:=kN) wn ww tv (by omega) (M:=M10) (.inr ⟨a,rfl,pc10⟩)
  refine Ok.seqR fun X hX=>?_
  simp_arith [so]
  rw [hX];clear hX;simp only [yu]
  have li:LI nm tr sure st a b dd M10 ps []:=⟨pc10,sc10,po10,tv,ki,by
   intro z
   rw [z] at pl
   simp at pl
   omega,by rw [lf'];omega,by simp,fun p hp=>by cases hp⟩
  refine Ok.seqR fun X hX=>?_
  refine Ok.bind (Ok.while (P:=fun σ M'=>∃ (ps:List (Int × Evt)) (sn:List (Nat × Nat)) (o13 o14 o15 o16:Option FT.T),σ = [some (.lst (ns.map .int)),some (.ref 0),some (.int tr),some (.bl sure),some (zg (n64 nm tr sure)),some (zM st),o6',o7,some (wtT (W64 st)),some (.ref dd),some (.ref a),some (.ref b),some (.lst ((zL (n64 nm tr sure) (W64 st) (ps.map (·.1)) (rn nm tr sure ps)).map sdT)),o13,o14,o15,o16,none,none,none,none,none,none,none]/\LI nm tr sure st a b dd M' ps sn) (fun σ M=>match M[a]? with
   | some (.lst xs)=>96 - xs.length
   | _=>0) (Q:=fun σ M'=>∃ (ps:List (Int × Evt)) (sn:List (Nat × Nat)) (o13 o14 o15 o16:Option FT.T),σ = [some (.lst (ns.map .int)),some (.ref 0),some (.int tr),some (.bl sure),some (zg (n64 nm tr sure)),some (zM st),o6',o7,some (wtT (W64 st)),some (.ref dd),some (.ref a),some (.ref b),some (.lst ((zL (n64 nm tr sure) (W64 st) (ps.map (·.1)) (rn nm tr sure ps)).map sdT)),o13,o14,o15,o16,none,none,none,none,none,none,none]/\LI nm tr sure st a b dd M' ps sn/\zL (n64 nm tr sure) (W64 st) (ps.map (·.1)) (rn nm tr sure ps) = []) (R:=fun _ _=>False) ⟨ps,[],none,none,none,none,rfl,li⟩ ?_) ?_
  ·rintro σ M ⟨ps,sn,o13,o14,o15,o16,rfl,li⟩
   unfold zk2
   by_cases z:zL (n64 nm tr sure) (W64 st) (ps.map (·.1)) (rn nm tr sure ps) = []
   ·have q0:neA (.lst ((zL (n64 nm tr sure) (W64 st) (ps.map (·.1)) (rn nm tr sure ps)).map sdT)) (.lst []) M = .ok (.bl false) M:=by
     rw [z]
     rfl
    simp_arith [q0]
    exact Ok.ret (.inr ⟨rfl,ps,sn,_,_,_,_,rfl,li,z⟩)
   ·have q0:neA (.lst ((zL (n64 nm tr sure) (W64 st) (ps.map (·.1)) (rn nm tr sure ps)).map sdT)) (.lst []) M = .ok (.bl true) M:=by
     unfold neA
     rw [show eqD M 20 (.lst ((zL (n64 nm tr sure) (W64 st) (ps.map (·.1)) (rn nm tr sure ps)).map sdT)) (.lst []) = (if ((zL (n64 nm tr sure) (W64 st) (ps.map (·.1)) (rn nm tr sure ps)).map sdT).length = ([]:List FT.T).length then eqL (eqD M 19) ((zL (n64 nm tr sure) (W64 st) (ps.map (·.1)) (rn nm tr sure ps)).map sdT) [] else some false) from rfl,if_neg (by simpa using z)]
     rfl
    simp_arith [q0]
    refine Ok.ret (.inl ⟨rfl,?_⟩)
    refine (zmD (kE:=kE) (kR:=kR) (kN:=kN) hm ht2 ht4 ws hl (by omega) (by omega) (by omega) li z).mono ?_
    rintro fl M' ⟨σ,rfl,ps',sn',p13,p14,p15,p16,rfl,li',hlt⟩
    refine .inl ⟨_,.inl rfl,⟨ps',sn',_,_,_,_,rfl,li'⟩,?_⟩
    have:=li'.ml
    simp only [li.pc,li'.pc,Qi]
    omega
  ·rintro fl M11 (⟨σ,rfl,ps,sn,o13,o14,o15,o16,rfl,li,z⟩ | ⟨t,_,h⟩)
   ·rw [hX];clear hX;simp only [yu]
    refine Ok.seqR fun X hX=>?_
    simp_arith [zeh]
    refine Ok.bind (zmP ws li.sc li.sj) ?_
    rintro fl M12 ⟨σ,rfl,rfl,o7,o13,o14,o17,o18,o19,o20,o21,o22,rfl⟩
    rw [hX];clear hX;simp only [yu]
    have pl:=li.ml
    have tm:=zld (kE:=kE) (kR:=kR) (kN:=kN) wn ww li.tv (by omega) (M:=M12) (.inr ⟨a,rfl,li.pc⟩)
    refine Ok.seqR fun X hX=>?_
    simp_arith [tm]
    unfold zcf
    simp_arith [and_self]
    rw [hX];clear hX;simp only [yu]
    have cp:qr (qi 0) (zr (eOp eqA (eOp ixT (zb 0) (eC (.int 0))) (eC (.int 0)))) (eOp eqA (eOp ixT (zb 0) (eC (.int 2))) (yw (yb (eC (.str "stands")) (yb (eC (.int 0)) (yb (zb 1) zd))))) ((zA (n64 nm tr sure) (ps.map (·.2))).es.map erT) [none,some (.int tr)] M12 [] = .ok (((zA (n64 nm tr sure) (ps.map (·.2))).es.filter fun e=>(e.house:Int) == 0).map fun _=>.bl true) M12:=
     Ok.filt (r:=erT) (fun σ=>∃ o,σ = [o,some (.int tr)]) _ _ ⟨_,rfl⟩ (by
      have:(zA (n64 nm tr sure) (ps.map (·.2))).es.length<=_:=(zd2 wn li.tv).sb.es
      omega) (by
      rintro e σ he ⟨o,rfl⟩
      refine ⟨[some (erT e),some (.int tr)],rfl,⟨_,rfl⟩,?_,fun hc=>?_⟩
      ·rw [show erT e = .tup [nT e.house,clT e.caller,phT e.ph] from rfl]
       simp_arith [and_self]
      ·have hh:e.house = 0:=by simpa using hc
       obtain ⟨i,hi⟩:=mem_iff_getElem?.mp he
       obtain ⟨j,hj,hjt⟩:=zkg ht2 li.ki z hi hh
       rw [show erT e = .tup [nT e.house,clT e.caller,phT e.ph] from rfl,hj,← hjt]
       have q1:eqA (phT (.stands 0 j)) (.tup [.str "stands",.int 0,.int (j:Int)]) M12 = .ok (.bl true) M12:=zqN ((zqc 19 (.stands 0 j)).eq M12)
       simp_arith [q1])
    have al:=zmf (fun _:Er=>true) ((zA (n64 nm tr sure) (ps.map (·.2))).es.filter fun e=>(e.house:Int) == 0) M12
    rw [show ((zA (n64 nm tr sure) (ps.map (·.2))).es.filter fun e=>(e.house:Int) == 0).all (fun _=>true) = true by simp] at al
    simp_arith [cp,al]
    exact Ok.ret rfl
   ·exact h.elim
 obtain ⟨t,M,e,rfl⟩:=this
 exact ⟨M,e⟩
end
end My
theorem My.e1 {α:Type} {P:List α->Prop} (h:∀ a,P [a]):∀ us:List α,us.length = 1->P us
 | [a],_=>h a
theorem My.e2 {α:Type} {P:List α->Prop} (h:∀ a b,P [a,b]):∀ us:List α,us.length = 2->P us
 | [a,b],_=>h a b
theorem My.e3 {α:Type} {P:List α->Prop} (h:∀ a b c,P [a,b,c]):∀ us:List α,us.length = 3->P us
 | [a,b,c],_=>h a b c
theorem My.e4 {α:Type} {P:List α->Prop} (h:∀ a b c d,P [a,b,c,d]):∀ us:List α,us.length = 4->P us
 | [a,b,c,d],_=>h a b c d
local macro_rules | `(tactic| rfl') => do
 let K:=Lean.mkIdent `KX
 let G:=Lean.mkIdent `G
 `(tactic| (dsimp only [L2.KOf];refine' L2.zw $K $G ?a ?l ?c ?k ?b;(case a=>k_is);(case l=>k_is);(case c=>k_is);(case k=>k_is)))
local macro_rules | `(tactic| eq_refl) => `(tactic| (dsimp only [L2.KOf];refine' FT.za8 ?a ?n;(case a=>k_is);(case n=>k_is)))
open PySem PySem.W PyProof.Rows
set_option maxRecDepth 100000 in
set_option maxHeartbeats 0 in
theorem PySem.Challenge.cw_tryweir_k64_whole_failed_together_holds : PySem.Challenge.rw_tryweir_k64_whole_failed_together.Holds := by
 refine My.hdD.2 ?_
 dsimp only [My.hdD]
 k_fill
 refine L2.zlb (l:=PySem.Challenge.rw_tryweir_k64_whole_failed_together) (n:=63) (k:=34) (x:="script") (CX:=L2.CX0) (sp:=fun K=>FT.spT K (My.zgX (FT.yJ K "Errand") (FT.yJ K "Run") (FT.yJ K "NoEvent"))) rfl (by decide) rfl ⟨rfl,by decide,by decide⟩ (fun w h Y=>PySem.W.kIn_of Y) ?F ?S ?C
 case F=>
  intro w mg fa h KX G hmg
  have uW:L2.Df (L2.KOf KX) mg "_law_left" My.zeW ["cell"]:=by rfl';exact fun _ _ _ _ _ _=>My.e1 fun _=>rfl
  have vb:FT.Di (L2.KOf KX) mg "Run" "Run.__init__" (FT.yJ (L2.KOf KX) "Run") My.zdy ["self","net"]:=by
   dsimp only [L2.KOf]
   refine' FT.zmt KX G ?a2 ?e2 ?i2 ?l2 ?c2 ?k2 ?m2 ?q2 ?b2
   (case a2=>k_is);(case e2=>k_is);(case i2=>k_is);(case l2=>k_is);(case c2=>k_is);(case k2=>k_is);(case m2=>k_is);(case q2=>k_is)
   exact fun _ _ _ _ _ _=>My.e2 fun _ _=>rfl
  have u0:L2.Cls (L2.KOf KX) (FT.yJ (L2.KOf KX) "Run"):=by
   dsimp only [L2.KOf]
   refine' FT.zkK ?a3 ?p3 ?h3 ?o3 ?s3
   (case a3=>k_is);(case p3=>k_is);(case h3=>k_is);(case o3=>k_is);(case s3=>k_is)
  have ut:L2.NoAttr (L2.KOf KX) (FT.yJ (L2.KOf KX) "Run") "came":=by eq_refl
  have uj:L2.NoAttr (L2.KOf KX) (FT.yJ (L2.KOf KX) "Run") "errands":=by eq_refl
  have uH:L2.NoAttr (L2.KOf KX) (FT.yJ (L2.KOf KX) "Run") "net":=by eq_refl
  have uh:L2.NoAttr (L2.KOf KX) (FT.yJ (L2.KOf KX) "Run") "payments":=by eq_refl
  have uA:L2.NoAttr (L2.KOf KX) (FT.yJ (L2.KOf KX) "Run") "puts":=by eq_refl
  have uo:L2.NoAttr (L2.KOf KX) (FT.yJ (L2.KOf KX) "Run") "taken":=by eq_refl
  have uS:L2.Df (L2.KOf KX) mg "asks_of" My.zdW ["run","number"]:=by rfl';exact fun _ _ _ _ _ _=>My.e2 fun _ _=>rfl
  have ul:L2.Df (L2.KOf KX) mg "may_be_lost" My.zb7 ["run","number"]:=by rfl';exact fun _ _ _ _ _ _=>My.e2 fun _ _=>rfl
  have ud:L2.Df (L2.KOf KX) mg "has_tries_left" My.zbb ["run","number"]:=by rfl';exact fun _ _ _ _ _ _=>My.e2 fun _ _=>rfl
  have ua:L2.Df (L2.KOf KX) mg "events_by_tries" My.zaS ["run","number"]:=by rfl';exact fun _ _ _ _ _ _=>My.e2 fun _ _=>rfl
  have uC:L2.Df (L2.KOf KX) mg "number_of" My.zcZ ["named","name"]:=by rfl';exact fun _ _ _ _ _ _=>My.e2 fun _ _=>rfl
  have uN:L2.Df (L2.KOf KX) mg "purse_of" My.zdr ["run","ask"]:=by rfl';exact fun _ _ _ _ _ _=>My.e2 fun _ _=>rfl
  have us:L2.Df (L2.KOf KX) mg "coins_made" My.zcw ["run","purse"]:=by rfl';exact fun _ _ _ _ _ _=>My.e2 fun _ _=>rfl
  have uq:L2.Df (L2.KOf KX) mg "purse_told" My.zcv ["run","purse"]:=by rfl';exact fun _ _ _ _ _ _=>My.e2 fun _ _=>rfl
  have uI:L2.Df (L2.KOf KX) mg "has_coin" My.zdv ["run","number"]:=by rfl';exact fun _ _ _ _ _ _=>My.e2 fun _ _=>rfl
  have uE:L2.Df (L2.KOf KX) mg "events_at" My.zc2 ["run","number"]:=by rfl';exact fun _ _ _ _ _ _=>My.e2 fun _ _=>rfl
  have uF:L2.Df (L2.KOf KX) mg "is_whole" My.zdu ["thing"]:=by rfl';exact fun _ _ _ _ _ _=>My.e1 fun _=>rfl
  have uu:L2.Df (L2.KOf KX) mg "is_within" My.zc1 ["thing","low","high"]:=by rfl';exact fun _ _ _ _ _ _=>My.e3 fun _ _ _=>rfl
  have uG:L2.Df (L2.KOf KX) mg "can_come" My.zdw ["run","event"]:=by rfl';exact fun _ _ _ _ _ _=>My.e2 fun _ _=>rfl
  have um:L2.Df (L2.KOf KX) mg "check_event" My.zb8 ["run","event"]:=by rfl';exact fun _ _ _ _ _ _=>My.e2 fun _ _=>rfl
  have uL:L2.Df (L2.KOf KX) mg "asked_by" My.zdx ["net","ask"]:=by rfl';exact fun _ _ _ _ _ _=>My.e2 fun _ _=>rfl
  have uV:FT.Di (L2.KOf KX) mg "Errand" "Errand.__init__" (FT.yJ (L2.KOf KX) "Errand") My.zb9 ["self","house","caller"]:=by
   dsimp only [L2.KOf]
   refine' FT.zmt KX G ?a25 ?e25 ?i25 ?l25 ?c25 ?k25 ?m25 ?q25 ?b25
   (case a25=>k_is);(case e25=>k_is);(case i25=>k_is);(case l25=>k_is);(case c25=>k_is);(case k25=>k_is);(case m25=>k_is);(case q25=>k_is)
   exact fun _ _ _ _ _ _=>My.e3 fun _ _ _=>rfl
  have uM:L2.Cls (L2.KOf KX) (FT.yJ (L2.KOf KX) "Errand"):=by
   dsimp only [L2.KOf]
   refine' FT.zkK ?a26 ?p26 ?h26 ?o26 ?s26
   (case a26=>k_is);(case p26=>k_is);(case h26=>k_is);(case o26=>k_is);(case s26=>k_is)
  have uf:L2.NoAttr (L2.KOf KX) (FT.yJ (L2.KOf KX) "Errand") "asked":=by eq_refl
  have uc:L2.NoAttr (L2.KOf KX) (FT.yJ (L2.KOf KX) "Errand") "caller":=by eq_refl
  have ue:L2.NoAttr (L2.KOf KX) (FT.yJ (L2.KOf KX) "Errand") "house":=by eq_refl
  have ub:L2.NoAttr (L2.KOf KX) (FT.yJ (L2.KOf KX) "Errand") "is_lost":=by eq_refl
  have ug:L2.NoAttr (L2.KOf KX) (FT.yJ (L2.KOf KX) "Errand") "state":=by eq_refl
  have ui:L2.NoAttr (L2.KOf KX) (FT.yJ (L2.KOf KX) "Errand") "stood":=by eq_refl
  have uz:L2.Df (L2.KOf KX) mg "begin_try" My.zbS ["run","number","at","tried"]:=by rfl';exact fun _ _ _ _ _ _=>My.e4 fun _ _ _ _=>rfl
  have uk:L2.Df (L2.KOf KX) mg "begin_errand" My.zaI ["run","house","caller"]:=by rfl';exact fun _ _ _ _ _ _=>My.e3 fun _ _ _=>rfl
  have ur:L2.Df (L2.KOf KX) mg "end_errand" My.zbq ["run","number","word"]:=by rfl';exact fun _ _ _ _ _ _=>My.e3 fun _ _ _=>rfl
  have u9:L2.Df (L2.KOf KX) mg "hear" My.zfo ["run","caller","word"]:=by rfl';exact fun _ _ _ _ _ _=>My.e3 fun _ _ _=>rfl
  have u8:L2.Df (L2.KOf KX) mg "lose" My.zhi ["run","number"]:=by rfl';exact fun _ _ _ _ _ _=>My.e2 fun _ _=>rfl
  have uv:L2.Df (L2.KOf KX) mg "take_coin" My.zcX ["run","purse"]:=by rfl';exact fun _ _ _ _ _ _=>My.e2 fun _ _=>rfl
  have uB:L2.Df (L2.KOf KX) mg "try_again" My.zcV ["run","number"]:=by rfl';exact fun _ _ _ _ _ _=>My.e2 fun _ _=>rfl
  have u1:L2.Df (L2.KOf KX) mg "go_up" My.zf1 ["run","number"]:=by rfl';exact fun _ _ _ _ _ _=>My.e2 fun _ _=>rfl
  have uO:L2.Df (L2.KOf KX) mg "let_come" My.zds ["run","event"]:=by rfl';exact fun _ _ _ _ _ _=>My.e2 fun _ _=>rfl
  have uw:L2.Df (L2.KOf KX) mg "spread_of" My.zcY ["strewing","j"]:=by rfl';exact fun _ _ _ _ _ _=>My.e2 fun _ _=>rfl
  have uD:L2.Df (L2.KOf KX) mg "waits_for" My.zcU ["strewing","errand","j"]:=by rfl';exact fun _ _ _ _ _ _=>My.e3 fun _ _ _=>rfl
  have un:L2.Df (L2.KOf KX) mg "soonest_of" My.zcu ["run","waits","pairs","number"]:=by rfl';exact fun _ _ _ _ _ _=>My.e4 fun _ _ _ _=>rfl
  have ux:L2.Df (L2.KOf KX) mg "timed_run" My.zcW ["net","waits","pairs"]:=by rfl';exact fun _ _ _ _ _ _=>My.e3 fun _ _ _=>rfl
  have uQ:L2.Df (L2.KOf KX) mg "soonest" My.zdV ["net","waits","pairs"]:=by rfl';exact fun _ _ _ _ _ _=>My.e3 fun _ _ _=>rfl
  have uX:L2.Df (L2.KOf KX) mg "_law_cell" My.zeX ["script","k"]:=by rfl';exact fun _ _ _ _ _ _=>My.e2 fun _ _=>rfl
  have uY:L2.Df (L2.KOf KX) mg "_law_next" My.zeV ["pool","base"]:=by rfl';exact fun _ _ _ _ _ _=>My.e2 fun _ _=>rfl
  have uU:L2.Df (L2.KOf KX) mg "told_of" My.zdT ["run"]:=by rfl';exact fun _ _ _ _ _ _=>My.e1 fun _=>rfl
  have u2:L2.Df (L2.KOf KX) mg "timed" My.zf0 ["net","waits","pairs"]:=by rfl';exact fun _ _ _ _ _ _=>My.e3 fun _ _ _=>rfl
  have uJ:L2.Df (L2.KOf KX) mg "_law_failed" My.zdt ["sure","word","errand","tick"]:=by rfl';exact fun _ _ _ _ _ _=>My.e4 fun _ _ _ _=>rfl
  have uK:L2.Df (L2.KOf KX) mg "start_of" My.zdq ["strewing","j"]:=by rfl';exact fun _ _ _ _ _ _=>My.e2 fun _ _=>rfl
  have uP:L2.Df (L2.KOf KX) mg "tick_of" My.zdU ["strewing","errand","j"]:=by rfl';exact fun _ _ _ _ _ _=>My.e3 fun _ _ _=>rfl
  have uy:L2.Df (L2.KOf KX) mg "_law_refused" My.zc0 ["net","waits","pairs"]:=by rfl';exact fun _ _ _ _ _ _=>My.e3 fun _ _ _=>rfl
  have uZ:L2.Df (L2.KOf KX) mg "run_of" My.zeU ["net","events"]:=by rfl';exact fun _ _ _ _ _ _=>My.e2 fun _ _=>rfl
  have vd:L2.Df (L2.KOf KX) mg "ran" My.zji ["net","events"]:=by rfl';exact fun _ _ _ _ _ _=>My.e2 fun _ _=>rfl
  have vc:mg "max" = none:=by refine' PySem.W.mg_none_of KX G ?z57;k_is
  have va:mg "len" = none:=by refine' PySem.W.mg_none_of KX G ?z58;k_is
  have vf:mg "int" = none:=by refine' PySem.W.mg_none_of KX G ?z59;k_is
  have up:mg "isinstance" = none:=by refine' PySem.W.mg_none_of KX G ?z60;k_is
  have u7:mg "bool" = none:=by refine' PySem.W.mg_none_of KX G ?z61;k_is
  have u4:mg "tuple" = none:=by refine' PySem.W.mg_none_of KX G ?z62;k_is
  have ve:mg "min" = none:=by refine' PySem.W.mg_none_of KX G ?z63;k_is
  have u5:mg "range" = none:=by refine' PySem.W.mg_none_of KX G ?z64;k_is
  have vg:mg "sum" = none:=by refine' PySem.W.mg_none_of KX G ?z65;k_is
  have vh:mg "all" = none:=by refine' PySem.W.mg_none_of KX G ?z66;k_is
  have u3:∃ a,mg "FRESH" = some (.ref a)/\FT.KTu (L2.KOf KX) a [.str "fresh"]:=by
   dsimp only [L2.KOf]
   refine' ⟨_,PySem.W.mg_of KX G ?z67,FT.zpa ?y67⟩
   (case z67=>k_is);(case y67=>k_is)
  have L:=by
   refine' L2.zo8 (st:=My.zjj) KX G ?la ?ll ?lc ?lk ?lb
   (case la=>k_is);(case ll=>k_is);(case lc=>k_is);(case lk=>k_is)
   exact fun _ _ _ _ _ _ s u=>.of_eq rfl
  obtain ⟨f,fd,F,g,hb⟩:=L
  have e:=hmg.symm.trans g
  cases e
  have T:My.Txt (L2.KOf KX) mg (FT.yJ (L2.KOf KX) "Errand") (FT.yJ (L2.KOf KX) "Run"):=⟨uM,u0,uf,uc,ue,ub,ug,ui,ut,uj,uH,uh,uA,uo,vc,va,vf,up,u7,u4,ve,u5,vg,vh,u3⟩
  refine ⟨fd,hb,fun base _ _=>?_⟩
  have uT:FT.XcF My.pg w (L2.KOf KX) mg base "NoEvent" (FT.yJ (L2.KOf KX) "NoEvent"):=by
   dsimp only [L2.KOf]
   refine' FT.zpZ (st:=My.zf2) KX G ?a68 ?l68 ?ln68 ?sk68 ?q68 ?no68 ?lw68 ?lwn68 ?sl68 ?ni68 ?lf68 ?cc68 ?kk68 (by ac_rfl) rfl rfl rfl ?bd68
   (case a68=>k_is);(case l68=>k_is);(case ln68=>k_is);(case sk68=>exact rfl);(case q68=>k_is);(case no68=>(refine FT.yX ?_ ?_;k_is);(refine FT.yX ?_ ?_;k_is);(refine FT.yX ?_ ?_;k_is);(refine FT.yX ?_ ?_;k_is);exact FT.zhr);(case lw68=>k_is);(case lwn68=>k_is);(case sl68=>exact rfl);(case ni68=>(refine FT.yX ?_ ?_;k_is);(refine FT.yX ?_ ?_;k_is);(refine FT.yX ?_ ?_;k_is);(refine FT.yX ?_ ?_;k_is);(refine FT.yX ?_ ?_;k_is);exact FT.zhr);(case lf68=>k_is);(case cc68=>k_is);(case kk68=>k_is)
   exact fun _ _ _ _ _ _=>My.e2 fun _ _=>rfl
  have zbQ:=My.zbQ (P:=My.pg) (w:=w) (base:=base) uW T
  have zcO:=My.zcO (P:=My.pg) (w:=w) (base:=base) vb T
  have qk:=My.qk (P:=My.pg) (w:=w) (base:=base) uS T
  have zal:=My.zal ul T qk
  have yG:=My.yG ud T qk
  have qH:=My.qH ua T zal yG
  replace qH:=FT.CalT.refine qH (FT.znU _) (FT.znV _)
  have zU:=My.zU (P:=My.pg) (w:=w) (base:=base) uC T
  have yF:=My.yF uN T zU
  have zaF:=My.zaF (P:=My.pg) (w:=w) (base:=base) us T
  have zR:=My.zR uq T zaF
  have zbz:=My.zbz uI T yF qk zR
  have za6:=My.za6 uE T qH zbz
  have zby:=My.zby (P:=My.pg) (w:=w) (base:=base) uF T
  have za5:=My.za5 uu T zby
  have zbA:=My.zbA uG T za6 za5
  have qL:=My.qL um T zbA
  have zZ:=My.zZ uL T zU
  have zaz:=My.zaz (P:=My.pg) (w:=w) (base:=base) uV T
  have qE:=My.qE uz uk T yF qk zZ zaz 12
  have zD:=qE.1
  have yN:=qE.2
  have yQ:=My.yQ ur u9 T qk zD 12
  have qI:=yQ.1
  have zcK:=yQ.2
  have zd9:=My.zd9 u8 T zcK
  have za3:=My.za3 (P:=My.pg) (w:=w) (base:=base) uv T
  have za2:=My.za2 uB T yF zD za3 qk
  have zdk:=My.zdk u1 T qI qk
  have qY:=My.qY uO T yN qI zd9 za2 zdk
  have qT:=My.qT (P:=My.pg) (w:=w) (base:=base) uw T
  have za1:=My.za1 uD T qT
  have qQ:=My.qQ un T za1
  have yT:=My.yT ux T uT zcO qL qY qQ
  have zbh:=My.zbh uQ T yT yG qQ
  have uR:=FT.CalX.refine zbh (FT.zfb _) (FT.zfc _)
  have zbR:=My.zbR (P:=My.pg) (w:=w) (base:=base) uX T
  have yL:=My.yL (P:=My.pg) (w:=w) (base:=base) uY T
  have zaa:=My.zaa uU T zR
  have zbg:=My.zbg u2 T zaa yT
  have u6:=FT.CalX.refine zbg (FT.zfb _) (FT.zfc _)
  have zaP:=My.zaP (P:=My.pg) (w:=w) (base:=base) uJ T
  have zbx:=My.zbx (P:=My.pg) (w:=w) (base:=base) uK T
  have zb4:=My.zb4 uP T zbx qT
  have za4:=My.za4 uy T uT zbg
  have zcJ:=My.zcJ uZ T zcO qL qY
  have zcS:=My.zcS vd T zaa zcJ
  replace zcS:=FT.CalT.refine zcS (FT.zfb _) (FT.zfc _)
  exact My.zoY F T zbQ uR zbR yL u6 zaP zb4 za4 zcS
 case S=>
  intro K H a ns hl _ hS
  obtain ⟨M,h⟩:=My.law_true (FT.yJ K "Errand") (FT.yJ K "Run") (FT.yJ K "NoEvent") ns hl
  exact FT.znp hS h
 case C=>exact fun _ _ _ _ z=>z
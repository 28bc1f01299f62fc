import PyProof.Rows.All
import KE.KDictList
import KE.KDictOf
import KE.KFromBytes
import KE.KIsAll
import KE.KItem
import KE.KRevIter
import Lean
import PySem.Challenge.RW_tryweir_k60_timed_runs_told
open PySem.W (Frag)
open List (mem_filter mem_range mem_cons_self mem_cons_of_mem mem_cons mem_append mem_append_left mem_append_right length_cons map_cons length_map append_nil nodup_cons of_mem_zip length_take getElem?_append_right getElem?_append_left getElem?_map mem_of_getElem? length_append length_replicate size_toArray length_drop length_set all_cons any_cons replicate_succ flatten_cons length_singleton map_nil find?_cons length_nil lookup_cons nil_append mem_singleton getElem?_set getElem?_take getElem_of_mem getElem?_eq_getElem mem_map getElem?_range all_eq_true getElem_toArray getElem_mem map_append map_take map_drop getElem?_cons_succ map_map mem_iff_getElem? ext_getElem? set_append_right getD_eq_getElem?_getD getElem?_eq_none not_mem_nil length_range take_succ foldl_append take_length range_succ)
set_option Elab.async false
set_option linter.all false
set_option maxRecDepth 100000
local macro_rules | `(tactic| ac_rfl) => `(tactic| exact ⟨rfl, rfl, rfl, by decide +kernel, rfl, by decide +kernel, by decide +kernel⟩)
namespace My
open PySem
noncomputable def zq5:Stmt->Bool
 | .Assign [.Name x _] _ _=>!(x == "__name__")
 | _=>true
noncomputable abbrev pg:Program:=PySem.Challenge.rw_tryweir_k60_timed_runs_told.prog
noncomputable def vw:Program:={ pg with main:={ pg.main with body:=pg.main.body.filter zq5 } }
end My
section
open PySem PySem.W PyProof.Rows in
local macro_rules | `(tactic| o_head $H) => `(tactic| refine holds_open (q := My.vw) (loose := []) (Xt := fun s => xlAt My.vw [] s && recOk (RowW.records (OpenRow.toRowW (OpenLaw.row PySem.Challenge.rw_tryweir_k60_timed_runs_told))) s) (XP := XL My.vw []) (Yf := Hook.obs $H) (Ya := Hook.val $H) (YP := Hook.says $H) (N := 40000) (by intro w; kernel_rfl) (Hook.of $H) (Hook.keeps $H) (fun s e => xl_of s (Bool.and_eq_true_iff.mp e).1) XL.keeps (by rfl) (by rfl) (by rfl) (fun s e => recFacts_of (Bool.and_eq_true_iff.mp e).2) (by rfl) (by first | assumption | decide +kernel) (by decide +kernel) ⟨rfl, rfl, rfl, rfl, rfl, by decide +kernel⟩ ?hw ?hc)
open PySem PySem.W PyProof.Rows in
set_option maxHeartbeats 0 in
noncomputable def My.hdD:Σ' P:Prop,P->PySem.Challenge.rw_tryweir_k60_timed_runs_told.Holds:=by
 refine ⟨?P,fun hc=>?_⟩
 rotate_left
 ·w_on;o_law;k_head;(case hw=>w_witness2)
  exact hc
end
namespace L2
open PySem PySem.Spec PyProof.Rows
noncomputable abbrev Key:=Sum Int Str
noncomputable def zeL:Key->Value->Bool
 | .inl k,v=>Value.isInt k v
 | .inr x,v=>Value.isStrOf x v
noncomputable def zq3 (w:World):Key->Int
 | .inl k=>hashInt k
 | .inr x=>hashStr w x
theorem qQ:∀ {k:Key} {v:Value},zeL k v = true->(∃ i t,k = Sum.inl i/\v = Value.int i t)\/(∃ x t,k = Sum.inr x/\v = Value.str x t)
 | .inl i,v,h=>by
  obtain ⟨t,e⟩:=Value.isInt_shape (k:=i) (v:=v) h
  exact .inl ⟨i,t,rfl,e⟩
 | .inr x,v,h=>by
  obtain ⟨t,e⟩:=Value.isStrOf_shape (x:=x) (v:=v) h
  exact .inr ⟨x,t,rfl,e⟩
theorem zkP (i:Int) (t:Tok):zeL (.inl i) (.int i t) = true:=by simp [zeL,Value.isInt]
theorem zkO (x:Str) (t:Tok):zeL (.inr x) (.str x t) = true:=by simp [zeL,Value.isStrOf]
theorem zoT (a b:Int):decide ((Sum.inl a:Key) = Sum.inl b) = (a == b):=by
 by_cases e:a = b
 ·subst e;simp
 ·have h:¬ (Sum.inl a:Key) = Sum.inl b:=fun q=>e (Sum.inl.inj q)
  rw [decide_eq_false h]
  exact (beq_eq_false_iff_ne.mpr e).symm
theorem zoQ (a b:Str):decide ((Sum.inr a:Key) = Sum.inr b) = decide (a = b):=by
 by_cases e:a = b
 ·subst e;simp
 ·have h:¬ (Sum.inr a:Key) = Sum.inr b:=fun q=>e (Sum.inr.inj q)
  rw [decide_eq_false h,decide_eq_false e]
theorem zoS (a:Int) (b:Str):decide ((Sum.inl a:Key) = Sum.inr b) = false:=decide_eq_false (fun q=>nomatch q)
theorem zoR (a:Str) (b:Int):decide ((Sum.inr a:Key) = Sum.inl b) = false:=decide_eq_false (fun q=>nomatch q)
noncomputable def qY (prog:Program) (w:World):PySem.KeyKind prog w Key where
 is:=zeL
 hash:=zq3 w
 inj:=fun v a b ha hb=>by
  rcases qQ ha with ⟨i,t,rfl,rfl⟩ | ⟨x,t,rfl,rfl⟩
  ·rcases qQ hb with ⟨j,u,rfl,e⟩ | ⟨y,u,rfl,e⟩
   ·injection e with e1 _;rw [e1]
   ·exact nomatch e
  ·rcases qQ hb with ⟨j,u,rfl,e⟩ | ⟨y,u,rfl,e⟩
   ·exact nomatch e
   ·injection e with e1 _;rw [e1]
 byValue:=fun k v h=>by
  rcases qQ h with ⟨i,t,rfl,rfl⟩ | ⟨x,t,rfl,rfl⟩ <;> rfl
 pyHash:=fun hv h=>by
  rcases qQ hv with ⟨i,t,rfl,rfl⟩ | ⟨x,t,rfl,rfl⟩
  ·exact wpAny_pyHash_int h
  ·exact wpAny_pyHash_str h
 eqBool:=fun hu hv h=>by
  rcases qQ hu with ⟨i,t,rfl,rfl⟩ | ⟨x,t,rfl,rfl⟩
  ·rcases qQ hv with ⟨j,u,rfl,rfl⟩ | ⟨y,u,rfl,rfl⟩
   ·rw [zoT] at h;exact wpAny_eqBool_int h
   ·rw [zoS] at h;exact SeqAt.EqAt.int_str i t y u _ _ _ _ h
  ·rcases qQ hv with ⟨j,u,rfl,rfl⟩ | ⟨y,u,rfl,rfl⟩
   ·rw [zoR] at h;exact SeqAt.EqAt.str_int x t j u _ _ _ _ h
   ·rw [zoQ] at h;exact wpAny_eqBool_str h
 «strs»:=fun k x t v h=>by
  rcases qQ h with ⟨i,u,rfl,e⟩ | ⟨y,u,rfl,e⟩
  ·exact nomatch e
  ·injection e with e1 _
   subst e1
   cases v <;> rfl
theorem ziH (prog:Program) (w:World) (i:Int) (t:Tok):(qY prog w).is (.inl i) (.int i t) = true:=zkP i t
theorem ziG (prog:Program) (w:World) (x:Str) (t:Tok):(qY prog w).is (.inr x) (.str x t) = true:=zkO x t
inductive V where
 | non | bl (b:Bool) | int (i:Int) | str (x:Str) | byt (b:Array UInt8) | flt (b:UInt64) | ref (a:Addr) | ty (n:String)
 deriving DecidableEq
noncomputable def RelV:V->Value->Prop
 | .non,u=>u = Value.none
 | .bl b,u=>u = Value.bool b
 | .int i,u=>∃ t,u = Value.int i t
 | .str x,u=>∃ t,u = Value.str x t
 | .byt b,u=>∃ t,u = Value.bytes b t
 | .flt b,u=>∃ t,u = Value.float b t
 | .ref a,u=>u = Value.ref a
 | .ty n,u=>u = Value.type n
noncomputable abbrev Vals:List V->List Value->Prop:=Paired RelV
theorem Vals.length {xs:List V} {us:List Value} (r:Vals xs us):xs.length = us.length:=Paired.length r
theorem Vals.get:∀ {xs:List V} {us:List Value} {i:Nat} {x:V},Vals xs us->xs[i]? = some x->∃ u,us[i]? = some u/\RelV x u
 | _,_,_,_,.nil,e=>by simp at e
 | _,_,0,_,.cons r _,e=>by simp at e;subst e;exact ⟨_,rfl,r⟩
 | _,_,i + 1,x,.cons _ t,e=>by
  obtain ⟨u,h1,h2⟩:=Vals.get (i:=i) (x:=x) t (by simpa using e)
  exact ⟨u,by simpa using h1,h2⟩
theorem Vals.set {x:V} {u:Value} (r:RelV x u):∀ {xs:List V} {us:List Value} (i:Nat),Vals xs us->Vals (xs.set i x) (us.set i u)
 | _,_,_,.nil=>.nil
 | _,_,0,.cons _ t=>.cons r t
 | _,_,i + 1,.cons q t=>.cons q (Vals.set r i t)
theorem Vals.append:∀ {xs ys:List V} {us ws:List Value},Vals xs us->Vals ys ws->Vals (xs ++ ys) (us ++ ws)
 | _,_,_,_,.nil,s=>s
 | _,_,_,_,.cons r t,s=>.cons r (Vals.append t s)
theorem Vals.take:∀ {xs:List V} {us:List Value} (n:Nat),Vals xs us->Vals (xs.take n) (us.take n)
 | _,_,0,_=>.nil
 | _,_,_ + 1,.nil=>.nil
 | _,_,n + 1,.cons r t=>.cons r (Vals.take n t)
theorem Vals.drop:∀ {xs:List V} {us:List Value} (n:Nat),Vals xs us->Vals (xs.drop n) (us.drop n)
 | _,_,0,r=>r
 | _,_,_ + 1,.nil=>.nil
 | _,_,n + 1,.cons _ t=>Vals.drop n t
theorem Vals.none_of:∀ {xs:List V} {us:List Value} {i:Nat},Vals xs us->xs[i]? = none->us[i]? = none:=fun {xs us i} r e=>by
 have h1:=r.length
 have h2:xs.length<=i:=List.getElem?_eq_none_iff.mp e
 exact List.getElem?_eq_none_iff.mpr (by omega)
noncomputable def RelO:Option V->Option Value->Prop
 | some v,some u=>RelV v u
 | none,none=>True
 | _,_=>False
noncomputable def KV {κ:Type}:List (κ × V)->List (κ × Value)->Prop:=Paired fun (p:κ × V) (q:κ × Value)=>p.1 = q.1/\RelV p.2 q.2
noncomputable def kV:Key->V
 | .inl i=>.int i
 | .inr x=>.str x
inductive HO where
 | lst (xs:List V)
 | tup (xs:List V)
 | dK (kvs:List (Key × V)) | dT (kvs:List (List Key × V))
 | set (S:Int->Bool) (n:Nat)
 | ins (C dx:Addr) (fs:List (Str × V))
 | own (x:Addr)
 | xd (fs:List (Str × V))
 | met (f x:Addr)
 | rng (lo hi:Int)
 | frz (o:Obj) (u:HO)
 | tbl (ps:Array Value)
 | ext (φ:Heap->Prop)
noncomputable abbrev Hp:=Addr->Option HO
noncomputable def upd (H:Hp) (a:Addr) (o:HO):Hp:=fun b=>if b = a then some o else H b
theorem qA {H:Hp} {a:Addr} {o:HO}:upd H a o a = some o:=by unfold upd;rw [if_pos rfl]
theorem yk {H:Hp} {a b:Addr} {o:HO} (h:b ≠ a):upd H a o b = H b:=by unfold upd;rw [if_neg h]
theorem zbs {H:Hp} {a b:Addr} {o u:HO} (h:H a = some o) (h':H b = some u) (d:o ≠ u):a ≠ b:=by
 intro e;subst e;rw [h] at h';exact d (Option.some.inj h')
theorem qD {H:Hp} {a b:Addr} {o:HO} (h:H a = some o) (h':H b = none):a ≠ b:=by
 intro e;subst e;rw [h] at h';cases h'
def NoDict (h:Heap) (a:Addr):Prop:=∀ o,h.get? a = some o->o.dict = none
theorem NoDict.new {h:Heap} {its:Array Value} {n:Nat}:NoDict (h.push { cls:=.type "tuple",data:=.seq its n }) h.objs.size:=fun o e=>by
 rw [Heap.get?_push_size _ rfl] at e;cases e;rfl
section
variable (P:Program) (w:World)
noncomputable def ObjOk (H:Hp) (h:Heap) (a:Addr):HO->Prop
 | .lst xs=>xs.length<=sizeLine/\∃ (its:List Value) (n:Nat),Vals xs its/\h.get? a = some { cls:=.type "list",data:=.seq its.toArray n }
 | .tup xs=>xs.length<=sizeLine/\∃ its:List Value,Vals xs its/\IsTup h a its.toArray/\NoDict h a
 | .dK kvs=>kvs.length<=sizeLine/\(a == sysModules) = false/\∃ vs,KV kvs vs/\h.DictOf (qY P w) a vs
 | .dT kvs=>kvs.length<=sizeLine/\(a == sysModules) = false/\∃ xs:List (List Key × Addr × Value),
   Paired (fun (p:List Key × V) (q:List Key × Addr × Value)=>p.1 = q.1/\H q.2.1 = some (.tup (p.1.map kV))/\RelV p.2 q.2.2) kvs xs /\
   ∃ o es ep,h.get? a = some o/\o.ExactDict/\o.data = .dict es ep/\es.toList = xs.map (entryOfKey (tupleKind (qY P w)))/\(xs.map (·.1)).Nodup
 | .set S n=>h.SetOf (intKind P w) a S n
 | .ins C dx fs=>H dx = some (.own a)/\fs.length<=1000/\dx ≠ a/\h.get? a = some (PySem.W.instObj C dx) /\
   ∃ mA,h.Ns1 dx mA/\(∀ f,RelO (fs.lookup f) (mA f))/\PySem.Within mA (fs.map (·.1))
 | .own _=>∃ o,h.get? a = some o
 | .xd fs=>∃ mA,h.Ns1 a mA/\∀ f,RelO (fs.lookup f) (mA f)
 | .rng lo hi=>∃ t u v,h.get? a = some { cls:=.type "range",data:=.fields #[.int lo t,.int hi u,.int 1 v] }
 | .frz o u=>h.get? a = some o/\ObjOk H h a u
 | .tbl ps=>h.get? a = some { cls:=.none,data:=.fields ps }
 | .met f x=>h.get? a = some (PySem.W.methodObj (.ref f) (.ref x))
 | .ext φ=>φ h/\(∃ o,h.get? a = some o)/\∀ h1 h2:Heap,φ h1->(∀ o,h1.get? a = some o->h2.get? a = some o)->φ h2
def HOk (H:Hp) (h:Heap):Prop:=∀ a o,H a = some o->ObjOk P w H h a o
end
section
variable {P:Program} {w:World} {H H':Hp} {h h':Heap} {a:Addr} {o:HO}
theorem ObjOk.lt (x:ObjOk P w H h a o):a < h.objs.size:=by
 cases o with
 | lst xs=>obtain ⟨_,_,_,_,e⟩:=x;exact Heap.lt_size e
 | tup xs=>obtain ⟨_,_,_,p,_⟩:=x;exact p.lt
 | dK kvs=>obtain ⟨_,_,_,_,o,_,_,e,_⟩:=x;exact Heap.lt_size e
 | dT kvs=>obtain ⟨_,_,_,_,o,_,_,e,_⟩:=x;exact Heap.lt_size e
 | set S n=>obtain ⟨o,_,_,_,e,_⟩:=x;exact Heap.lt_size e
 | ins C dx fs=>obtain ⟨_,_,_,e,_⟩:=x;exact Heap.lt_size e
 | own y=>obtain ⟨_,e⟩:=x;exact Heap.lt_size e
 | xd fs=>obtain ⟨_,⟨_,_,_,e,_⟩,_⟩:=x;exact Heap.lt_size e
 | rng lo hi=>obtain ⟨_,_,_,e⟩:=x;exact Heap.lt_size e
 | frz ob u=>obtain ⟨e,_⟩:=x;exact Heap.lt_size e
 | tbl ps=>exact Heap.lt_size (show h.get? a = some _ from x)
 | met f y=>exact Heap.lt_size (show h.get? a = some _ from x)
 | ext φ=>obtain ⟨_,⟨_,e⟩,_⟩:=x;exact Heap.lt_size e
theorem Paired.mapP {α β:Type} {F G:α->β->Prop}:∀ {l₁:List α} {l₂:List β},Paired F l₁ l₂->(∀ a b,F a b->G a b)->Paired G l₁ l₂
 | _,_,.nil,_=>.nil
 | _,_,.cons r t,f=>.cons (f _ _ r) (Paired.mapP t f)
theorem ObjOk.stay (x:ObjOk P w H h a o) (k:∀ b u,(b = a\/H b = some (.own a))->h.get? b = some u->h'.get? b = some u)
  (ho:∀ b,H b = some (.own a)->H' b = some (.own a)) (ht:∀ b xs,H b = some (.tup xs)->H' b = some (.tup xs)):ObjOk P w H' h' a o:=by
 induction o with
 | lst xs=>obtain ⟨z,its,n,r,e⟩:=x;exact ⟨z,its,n,r,k _ _ (.inl rfl) e⟩
 | tup xs=>obtain ⟨z,its,r,⟨ob,e,c⟩,nd⟩:=x;exact ⟨z,its,r,⟨ob,k _ _ (.inl rfl) e,c⟩,fun o q=>nd o (by rw [k _ _ (.inl rfl) e] at q;rw [e];exact q)⟩
 | dK kvs=>obtain ⟨z,y,vs,r,ob,es,ep,e,c⟩:=x;exact ⟨z,y,vs,r,ob,es,ep,k _ _ (.inl rfl) e,c⟩
 | dT kvs=>
  obtain ⟨z,y,xs,r,ob,es,ep,e,c⟩:=x
  exact ⟨z,y,xs,Paired.mapP r fun p q z=>⟨z.1,ht _ _ z.2.1,z.2.2⟩,ob,es,ep,k _ _ (.inl rfl) e,c⟩
 | set S n=>obtain ⟨ob,es,ep,t,e,c⟩:=x;exact ⟨ob,es,ep,t,k _ _ (.inl rfl) e,c⟩
 | ins C dx fs=>
  obtain ⟨d,z,ne,e,mA,⟨od,es,ep,e2,c⟩,r⟩:=x
  exact ⟨ho _ d,z,ne,k _ _ (.inl rfl) e,mA,⟨od,es,ep,k _ _ (.inr d) e2,c⟩,r⟩
 | own y=>obtain ⟨ob,e⟩:=x;exact ⟨ob,k _ _ (.inl rfl) e⟩
 | xd fs=>obtain ⟨mA,⟨od,es,ep,e,c⟩,r⟩:=x;exact ⟨mA,⟨od,es,ep,k _ _ (.inl rfl) e,c⟩,r⟩
 | rng lo hi=>obtain ⟨t,u,v,e⟩:=x;exact ⟨t,u,v,k _ _ (.inl rfl) e⟩
 | frz ob u ih=>obtain ⟨e,q⟩:=x;exact ⟨k _ _ (.inl rfl) e,ih q⟩
 | tbl ps=>
  have e:h.get? a = some { cls:=.none,data:=.fields ps }:=x
  show h'.get? a = some { cls:=.none,data:=.fields ps }
  exact k a _ (.inl rfl) e
 | met f y=>
  have e:h.get? a = some (PySem.W.methodObj (.ref f) (.ref y)):=x
  show h'.get? a = some (PySem.W.methodObj (.ref f) (.ref y))
  exact k a _ (.inl rfl) e
 | ext φ=>obtain ⟨p,⟨o,e⟩,st⟩:=x;exact ⟨st _ _ p fun o q=>k _ _ (.inl rfl) q,⟨o,k _ _ (.inl rfl) e⟩,st⟩
theorem HOk.lt (x:HOk P w H h) (e:H a = some o):a < h.objs.size:=(x a o e).lt
theorem HOk.fresh (x:HOk P w H h) (e:h.objs.size<=a):H a = none:=by
 cases q:H a with
 | none=>rfl
 | some u=>exact absurd (Nat.lt_of_lt_of_le (x.lt q) e) (Nat.lt_irrefl _)
theorem HOk.kept (x:HOk P w H h) (k:∀ b u,h.get? b = some u->h'.get? b = some u):HOk P w H h':=fun a o e=>
 (x a o e).stay (fun b u _ q=>k b u q) (fun _ q=>q) fun _ _ q=>q
theorem HOk.laid (x:HOk P w H h) (k:∀ b u,h.get? b = some u->h'.get? b = some u) (hp:h.objs.size<=a) (new:ObjOk P w (upd H a o) h' a o):HOk P w (upd H a o) h':=fun b u e=>by
 have hn:=x.fresh hp
 by_cases hb:b = a
 ·subst hb;rw [qA] at e;cases e;exact new
 ·rw [yk hb] at e
  exact (x b u e).stay (fun c v _ q=>k c v q) (fun c q=>by rw [yk (qD q hn)];exact q) fun c xs q=>by rw [yk (qD q hn)];exact q
end
def Rd (H:Hp) (a:Addr) (u:HO):Prop:=H a = some u\/∃ o,H a = some (.frz o u)
theorem Rd.ok {P:Program} {w:World} {H:Hp} {h:Heap} {a:Addr} {u:HO} (r:Rd H a u) (x:HOk P w H h):ObjOk P w H h a u:=by
 rcases r with r | ⟨o,r⟩
 ·exact x a u r
 ·obtain ⟨_,q⟩:=x a _ r
  exact q
noncomputable def Mut:Option HO->Prop
 | some (.lst _)=>True
 | some (.dK _)=>True
 | some (.dT _)=>True
 | some (.set _ _)=>True
 | some (.ins _ _ _)=>True
 | some (.ext _)=>True
 | _=>False
section
variable {P:Program} {w:World} {H:Hp} {h h':Heap} {x e:Addr} {o':HO}
theorem HOk.write (ok:HOk P w H h) (mu:Mut (H x)) (he:e = x\/H e = some (.own x)) (k:∀ b u,b ≠ e->h.get? b = some u->h'.get? b = some u) (heo:∃ u,h'.get? e = some u)
  (new:ObjOk P w (upd H x o') h' x o'):HOk P w (upd H x o') h':=fun b u q=>by
 have nown:∀ c y,H c = some (.own y)->c ≠ x:=fun c y r z=>by subst z;rw [r] at mu;exact mu
 have ntup:∀ c xs,H c = some (.tup xs)->c ≠ x:=fun c xs r z=>by subst z;rw [r] at mu;exact mu
 by_cases hb:b = x
 ·subst hb;rw [qA] at q;cases q;exact new
 ·rw [yk hb] at q
  by_cases hbe:b = e
  ·have q':H b = some (.own x):=by
    rcases he with z | z
    ·exact absurd (hbe.trans z) hb
    ·rw [hbe];exact z
   rw [q] at q';cases q'
   obtain ⟨v,hv⟩:=heo
   exact ⟨v,by rw [hbe];exact hv⟩
  ·refine (ok b u q).stay (fun c v hc r=>k c v ?_ r) (fun c r=>by rw [yk (nown c b r)];exact r) fun c xs r=>by rw [yk (ntup c xs r)];exact r
   rcases hc with rfl | hc
   ·exact hbe
   ·rintro rfl
    rcases he with z | z
    ·exact nown c b hc z
    ·rw [hc] at z;cases z;exact hb rfl
end
structure Un (fs ex:List Addr) (H H':Hp) (h h':Heap):Prop where
 keep:∀ b o,h.get? b = some o->H b = none->b ∉ fs->b ∉ ex->h'.get? b = some o
 slot:∀ b o,h.get? b = some o->H b = none->b ∈ fs->b ∉ ex->∃ sl,h'.get? b = some { o with slots:=sl }
 free:∀ b o,h.get? b = some o->H b = none->b ∉ ex->H' b = none
 there:∀ b o,h.get? b = some o->b ∉ ex->∃ o',h'.get? b = some o'
 tups:∀ b xs,H b = some (.tup xs)->H' b = some (.tup xs)
 frzs:∀ b o u,H b = some (.frz o u)->H' b = some (.frz o u)
 tbls:∀ b ps,H b = some (.tbl ps)->∃ more,H' b = some (.tbl (ps ++ more))
section
variable {fs fs' ex ex':List Addr} {H H1 H2:Hp} {h h1 h2 h':Heap} {a x e:Addr} {o:HO}
theorem Un.any (u:Un fs ex H H1 h h1) {b:Addr} {ob:Obj} (q:h.get? b = some ob) (n:H b = none) (hx:b ∉ ex):∃ sl,h1.get? b = some { ob with slots:=sl }:=by
 by_cases hb:b ∈ fs
 ·exact u.slot b ob q n hb hx
 ·exact ⟨ob.slots,u.keep b ob q n hb hx⟩
theorem Un.kept (k:∀ b u,h.get? b = some u->h'.get? b = some u):Un fs ex H H h h':=
 ⟨fun b ob q _ _ _=>k b ob q,fun b ob q _ _ _=>⟨ob.slots,k b ob q⟩,fun _ _ _ n _=>n,fun b ob q _=>⟨ob,k b ob q⟩,fun _ _ q=>q,fun _ _ _ q=>q,fun _ ps q=>⟨#[],by rw [q];simp⟩⟩
theorem Un.refl:Un fs ex H H h h:=Un.kept fun _ _ q=>q
theorem Un.laid (k:∀ b u,h.get? b = some u->h'.get? b = some u) (hp:h.objs.size<=a) (hn:H a = none):Un fs ex H (upd H a o) h h' where
 keep:=fun b u q _ _ _=>k b u q
 slot:=fun b u q _ _ _=>⟨u.slots,k b u q⟩
 free:=fun b u q n _=>by rw [yk (Nat.ne_of_lt (Nat.lt_of_lt_of_le (Heap.lt_size q) hp))];exact n
 there:=fun b u q _=>⟨u,k b u q⟩
 tups:=fun b xs q=>by rw [yk (qD q hn)];exact q
 frzs:=fun b u xs q=>by rw [yk (qD q hn)];exact q
 tbls:=fun b ps q=>⟨#[],by rw [yk (qD q hn),q];simp⟩
theorem Un.write (mu:Mut (H x)) (he:e = x\/H e = some (.own x)) (k:∀ b u,b ≠ e->h.get? b = some u->h'.get? b = some u) (heo:∃ u,h'.get? e = some u):Un fs ex H (upd H x o) h h':=by
 have hx:∀ b,H b = none->b ≠ x:=fun b n z=>by subst z;rw [n] at mu;exact mu
 have hb:∀ b,H b = none->b ≠ e:=fun b n z=>by
  subst z
  rcases he with r | r
  ·exact hx b n r
  ·rw [n] at r;cases r
 have hm:∀ b u,H b = some u->¬ Mut (some u)->b ≠ x:=fun b u q nm z=>by subst z;rw [q] at mu;exact nm mu
 refine ⟨fun b u q n _ _=>k b u (hb b n) q,fun b u q n _ _=>⟨u.slots,k b u (hb b n) q⟩,fun b u q n _=>by rw [yk (hx b n)];exact n,fun b u q _=>?_,
  fun b xs q=>by rw [yk (hm b _ q fun z=>z)];exact q,fun b u xs q=>by rw [yk (hm b _ q fun z=>z)];exact q,fun b ps q=>⟨#[],by rw [yk (hm b _ q fun z=>z),q];simp⟩⟩
 by_cases hbe:b = e
 ·subst hbe;exact heo
 ·exact ⟨u,k b u hbe q⟩
end
noncomputable def trk (h:Heap) (H:Hp):List Addr:=(List.range h.objs.size).filter fun a=>(H a).isSome
noncomputable def zdW (h:Heap) (H:Hp):Heap:=PySem.W.hideAll h (trk h H)
theorem zkT (h:Heap) (H:Hp):(zdW h H).objs.size = h.objs.size:=PySem.W.hideAll_size _ _
theorem zlW {h:Heap} {H:Hp} {b:Addr} {o:Obj} (e:h.get? b = some o) (n:H b = none):(zdW h H).get? b = some o:=
 PySem.W.hideAll_get _ e fun hm=>by
  have q:(H b).isSome = true:=(mem_filter.mp hm).2
  rw [n] at q;simp at q
theorem zm6 {h:Heap} {H:Hp} {b:Addr} {o:Obj} (e:(zdW h H).get? b = some o):h.get? b = some o/\H b = none:=by
 have e':h.get? b = some o:=PySem.W.of_hideAll (trk h H) e
 refine ⟨e',?_⟩
 cases q:H b with
 | none=>rfl
 | some x=>
  have hm:b ∈ trk h H:=mem_filter.mpr ⟨mem_range.mpr (Heap.lt_size e'),by simp [q]⟩
  have z:(zdW h H).get? b = none:=PySem.W.hideAll_none (trk h H) hm
  rw [z] at e;cases e
noncomputable def znQ (g h:Heap) (L:Addr):List (Addr × Obj):=(List.range h.objs.size).filterMap fun a=>if a = L\/(g.get? a).isSome = true then none else (h.get? a).map fun o=>(a,o)
noncomputable def rest (g h:Heap) (L d:Addr):List (Addr × Obj):=(znQ g h L).filter fun p=>decide (p.1 ≠ d)
structure Mod (K:Frag) (mg:Str->Option Value) (base:Heap):Prop where
 kin:K.In base
 glob:base.Ns mainGlobals mg
 blt:∃ mb,base.Ns builtinsNs mb/\∀ x:Str,x ≠ "__name__"->mb x = bootBuiltins x
 nolimit:base.NoLimit
structure Cx where
 prog:Program
 w:World
 K:Frag
 mg:Str->Option Value
 base:Heap
 A:Around
 N:List Str
 s₀:Shared
 H₀:Hp
 env:Env
 outer:List Env
 stack:List Env
 ex:List Addr
 fn:Str->Bool
 calm:Bool
 pn:List (Addr × Obj)
 xe:Value->Shared->Prop
noncomputable def frs (l:List Env):List Addr:=l.filterMap (·.frame)
noncomputable abbrev Cx.fs (X:Cx):List Addr:=frs X.outer
def Vis (sc:Scope) (x:Str):Prop:=sc.names.lookup x = some .local\/sc.names.lookup x = some .cell\/sc.names.lookup x = some .free
def Loc (sc:Scope) (x:Str):Prop:=sc.names.lookup x = some .local\/sc.names.lookup x = some .cell
def Look (env:Env) (h:Heap) (m:Str->Option Value) (x:Str) (u:Value):Prop:=
 (env.kindOf x = some .local/\m x = some u)\/((env.kindOf x = some .cell\/env.kindOf x = some .free)/\∃ c,env.cells.lookup x = some c/\h.IsCell c (some u))
structure Cx.Ok (X:Cx):Prop where
 mod:Mod X.K X.mg X.base
 kind:X.env.scope.kind = .function
 glob:X.env.globals = mainGlobals
 blt:X.env.builtins = builtinsNs
 above:X.s₀.heap.objs.size<=X.env.locals
 inj:∀ x y c,X.env.cells.lookup x = some c->X.env.cells.lookup y = some c->x = y
 has:∀ x,(X.env.kindOf x = some .cell\/X.env.kindOf x = some .free)->∃ c,X.env.cells.lookup x = some c
 cab:∀ x c,X.fn x = true->X.env.cells.lookup x = some c->X.s₀.heap.objs.size<=c
 hd:X.calm = true->X.A.handled = none
 frames:X.A.frames = some X.stack
 stk:X.stack = X.outer\/(X.stack = X.env :: X.outer/\X.env.frame = some X.env.locals)
 exf:∀ b ∈ X.ex,b ≠ X.env.locals/\∀ x c,X.env.cells.lookup x = some c->c ≠ b
 bs:∀ b o,X.base.get? b = some o->X.s₀.heap.get? b = some o/\X.H₀ b = none
 bsz:X.base.objs.size<=X.s₀.heap.objs.size
 noex:∀ b o,X.base.get? b = some o->b ∉ X.ex
 exfs:∀ b ∈ X.ex,b ∉ X.fs
 funs:X.s₀.heap.FunFrames X.base X.outer
 frf:∀ b ∈ X.fs,X.H₀ b = none
structure Inv (X:Cx) (pins:List (Addr × Obj)) (σ:List (Option V)) (H:Hp) (s:Shared):Prop where
 ok:X.Ok
 os:s.os = X.s₀.os
 bare:AllBare s.gens
 base:Un X.fs X.ex X.H₀ H X.s₀.heap s.heap
 loc:∃ m,s.heap.Ns X.env.locals m/\∀ (i:Nat) (x:Str) (v:V),X.N[i]? = some x->σ[i]? = some (some v)->Vis X.env.scope x->∃ u,RelV v u/\Look X.env s.heap m x u
 cell:∀ x c,X.env.cells.lookup x = some c->∃ v,s.heap.IsCell c v
 free:H X.env.locals = none
 freeC:∀ x c,X.env.cells.lookup x = some c->H c = none
 pin:∀ p ∈ X.pn ++ pins,s.heap.get? p.1 = some p.2/\H p.1 = none/\p.1 ≠ X.env.locals/\p.1 ∉ X.fs/\∀ v,p.2.data ≠ .cell v
 hok:HOk X.prog X.w H s.heap
 len:σ.length = X.N.length
section
variable {X:Cx} {pins:List (Addr × Obj)} {σ:List (Option V)} {H H':Hp} {s:Shared} {h':Heap}
theorem Cx.Ok.nofr (ok:X.Ok) {b:Addr} {o:Obj} (e:X.base.get? b = some o):b ∉ X.fs:=fun hb=>by
 have:=(ok.funs.mem hb).1
 rw [e] at this;cases this
theorem Inv.bs (I:Inv X pins σ H s):∀ b o,X.base.get? b = some o->s.heap.get? b = some o/\H b = none:=fun b o e=>
 ⟨I.base.keep b o (I.ok.bs b o e).1 (I.ok.bs b o e).2 (I.ok.nofr e) (I.ok.noex b o e),I.base.free b o (I.ok.bs b o e).1 (I.ok.bs b o e).2 (I.ok.noex b o e)⟩
theorem Inv.bk (I:Inv X pins σ H s):∀ b o,X.base.get? b = some o->s.heap.get? b = some o:=fun b o e=>(I.bs b o e).1
theorem Inv.mod (I:Inv X pins σ H s):Mod X.K X.mg X.base:=I.ok.mod
theorem Inv.kIn (I:Inv X pins σ H s):X.K.In s.heap:=I.ok.mod.kin.keeps I.bk
theorem Inv.fr (I:Inv X pins σ H s):∃ m,Fr X.base X.env.locals s.heap m:=
 let ⟨m,hn,_⟩:=I.loc
 ⟨m,hn,I.bk,Nat.le_trans I.ok.bsz I.ok.above⟩
theorem Inv.lt (I:Inv X pins σ H s):X.env.locals < s.heap.objs.size:=let ⟨_,hn,_⟩:=I.loc;hn.lt
theorem Inv.sz (I:Inv X pins σ H s):X.s₀.heap.objs.size<=s.heap.objs.size:=Nat.le_trans I.ok.above (Nat.le_of_lt I.lt)
theorem Inv.nofs (I:Inv X pins σ H s) {a:Addr} (h:s.heap.objs.size<=a):a ∉ X.fs:=fun hb=>by
 obtain ⟨_,o,ho,_⟩:=I.ok.funs.mem hb
 exact absurd (Nat.lt_of_lt_of_le (Heap.lt_size ho) (Nat.le_trans I.sz h)) (Nat.lt_irrefl _)
theorem Inv.cne (I:Inv X pins σ H s):∀ x c,X.env.cells.lookup x = some c->c ≠ X.env.locals:=fun x c e z=>by
 obtain ⟨v,o,ho,hd⟩:=I.cell x c e
 obtain ⟨m,⟨o',es,ep,ho',hd',_⟩,_⟩:=I.loc
 rw [z,ho'] at ho;cases ho;rw [hd'] at hd;cases hd
theorem Inv.funs (I:Inv X pins σ H s):s.heap.FunFrames X.base X.outer:=by
 have all:∀ (l:List Env),(∀ b ∈ frs l,b ∈ X.fs)->X.s₀.heap.FunFrames X.base l->s.heap.FunFrames X.base l:=by
  intro l
  induction l with
  | nil=>intro _ _;trivial
  | cons env r ih=>
   intro hs hl
   obtain ⟨hk,⟨L,o,hf,hn,ho,hd⟩,hr⟩:=hl
   have hL:L ∈ X.fs:=hs L (by unfold frs;rw [List.filterMap_cons,hf];exact mem_cons_self)
   obtain ⟨sl,e⟩:=I.base.slot L o ho (I.ok.frf L hL) hL fun z=>I.ok.exfs L z hL
   exact ⟨hk,⟨L,_,hf,hn,e,hd⟩,ih (fun b hb=>hs b (by unfold frs;rw [List.filterMap_cons,hf];exact mem_cons_of_mem _ hb)) hr⟩
 exact all X.outer (fun _ hb=>hb) I.ok.funs
theorem Inv.stack (I:Inv X pins σ H s):s.heap.FunFrames X.base X.stack:=by
 rcases I.ok.stk with e | ⟨e,hf⟩
 ·rw [e];exact I.funs
 ·rw [e]
  obtain ⟨m,hn,_⟩:=I.loc
  refine .cons (by rw [I.ok.kind];decide) hf hn ?_ I.funs
  exact Heap.get?_none_of_le (Nat.le_trans I.ok.bsz I.ok.above)
theorem Inv.stkSub (I:Inv X pins σ H s):∀ b ∈ frs X.stack,b ∈ X.env.locals :: X.fs:=fun b hb=>by
 rcases I.ok.stk with e | ⟨e,hf⟩
 ·rw [e] at hb;exact mem_cons_of_mem _ hb
 ·rw [e] at hb
  unfold frs at hb
  rw [List.filterMap_cons,hf] at hb
  exact hb
theorem Inv.stkFree (I:Inv X pins σ H s):∀ b ∈ frs X.stack,H b = none:=fun b hb=>by
 rcases mem_cons.mp (I.stkSub b hb) with e | hb
 ·rw [e];exact I.free
 ·obtain ⟨_,o,ho,_⟩:=I.ok.funs.mem hb
  exact I.base.free b o ho (I.ok.frf b hb) fun z=>I.ok.exfs b z hb
theorem Inv.step {g':Array GenState} {t':Nat} {d':Drawn} {ch:List Addr} (I:Inv X pins σ H s)
  (hch:∀ b ∈ ch,(b ∈ X.ex\/X.s₀.heap.objs.size<=b)/\b ≠ X.env.locals/\(∀ x c,X.env.cells.lookup x = some c->c ≠ b)/\∀ p ∈ X.pn ++ pins,p.1 ≠ b)
  (keep:∀ b o,b ≠ X.env.locals->b ∉ X.fs->b ∉ ch->s.heap.get? b = some o->H b = none->h'.get? b = some o)
  (slot:∀ b o,b ≠ X.env.locals->b ∈ X.fs->b ∉ ch->s.heap.get? b = some o->H b = none->∃ sl,h'.get? b = some { o with slots:=sl }) (free:∀ b o,b ∉ ch->s.heap.get? b = some o->H b = none->H' b = none)
  (there:∀ b o,b ∉ ch->s.heap.get? b = some o->∃ o',h'.get? b = some o')
  (tups:∀ b xs,H b = some (.tup xs)->H' b = some (.tup xs)) (frzs:∀ b o u,H b = some (.frz o u)->H' b = some (.frz o u)) (tbls:∀ b ps,H b = some (.tbl ps)->∃ more,H' b = some (.tbl (ps ++ more)))
  (ns:∀ m,s.heap.Ns X.env.locals m->h'.Ns X.env.locals m) (hok:HOk X.prog X.w H' h') (hg:AllBare g') :
  Inv X pins σ H' { s with heap:=h',gens:=g',drawn:=d',toks:=t' }:=by
 have neL:∀ b o,X.s₀.heap.get? b = some o->b ≠ X.env.locals:=fun b o e=>Nat.ne_of_lt (Nat.lt_of_lt_of_le (Heap.lt_size e) I.ok.above)
 have neC:∀ b o,X.s₀.heap.get? b = some o->b ∉ X.ex->b ∉ ch:=fun b o e hx hb=>by
  rcases (hch b hb).1 with z | z
  ·exact hx z
  ·exact absurd (Nat.lt_of_lt_of_le (Heap.lt_size e) z) (Nat.lt_irrefl _)
 have cellK:∀ x c,X.env.cells.lookup x = some c->∀ v,s.heap.IsCell c v->h'.IsCell c v:=fun x c e v h9=>by
  obtain ⟨o,ho,hd⟩:=h9
  have nch:c ∉ ch:=fun z=>(hch c z).2.2.1 x c e rfl
  by_cases hc:c ∈ X.fs
  ·obtain ⟨sl,q⟩:=slot c o (I.cne x c e) hc nch ho (I.freeC x c e)
   exact ⟨_,q,hd⟩
  ·exact ⟨o,keep c o (I.cne x c e) hc nch ho (I.freeC x c e),hd⟩
 refine ⟨I.ok,I.os,hg,⟨fun b o e n hb hx=>?_,fun b o e n hb hx=>?_,fun b o e n hx=>?_,fun b o e hx=>?_,fun b xs e=>tups b xs (I.base.tups b xs e),fun b o xs e=>frzs b o xs (I.base.frzs b o xs e),fun b ps e=>?_⟩,?_,fun x c e=>?_,?_,fun x c e=>?_,fun p hp=>?_,hok,I.len⟩
 ·exact keep b o (neL b o e) hb (neC b o e hx) (I.base.keep b o e n hb hx) (I.base.free b o e n hx)
 ·obtain ⟨sl,e1⟩:=I.base.slot b o e n hb hx
  obtain ⟨sl',e2⟩:=slot b _ (neL b o e) hb (neC b o e hx) e1 (I.base.free b o e n hx)
  exact ⟨sl',e2⟩
 ·obtain ⟨o',e1⟩:=I.base.there b o e hx
  exact free b o' (neC b o e hx) e1 (I.base.free b o e n hx)
 ·obtain ⟨o',e1⟩:=I.base.there b o e hx
  exact there b o' (neC b o e hx) e1
 ·obtain ⟨m1,e1⟩:=I.base.tbls b ps e
  obtain ⟨m2,e2⟩:=tbls b _ e1
  exact ⟨m1 ++ m2,by rw [e2,Array.append_assoc]⟩
 ·obtain ⟨m,hn,hl⟩:=I.loc
  refine ⟨m,ns m hn,fun i x v e1 e2 e3=>?_⟩
  obtain ⟨u,r,l⟩:=hl i x v e1 e2 e3
  refine ⟨u,r,?_⟩
  rcases l with l | ⟨k,c,e,z⟩
  ·exact .inl l
  ·exact .inr ⟨k,c,e,cellK x c e _ z⟩
 ·obtain ⟨v,z⟩:=I.cell x c e
  exact ⟨v,cellK x c e v z⟩
 ·obtain ⟨m,⟨o,_,_,ho,_⟩,_⟩:=I.loc
  exact free _ o (fun z=>(hch _ z).2.1 rfl) ho I.free
 ·obtain ⟨v,o,ho,hd⟩:=I.cell x c e
  exact free c o (fun z=>(hch c z).2.2.1 x c e rfl) ho (I.freeC x c e)
 ·obtain ⟨e,n,ne,nf,d⟩:=I.pin p hp
  have nch:p.1 ∉ ch:=fun z=>(hch p.1 z).2.2.2 p hp rfl
  exact ⟨keep p.1 p.2 ne nf nch e n,free p.1 p.2 nch e n,ne,nf,d⟩
theorem Inv.un {t':Nat} (I:Inv X pins σ H s) (u:Un X.fs [] H H' s.heap h') (hok:HOk X.prog X.w H' h'):Inv X pins σ H' { s with heap:=h',toks:=t' }:=by
 obtain ⟨m,⟨o,es,ep,ho,r⟩,_⟩:=id I.loc
 obtain ⟨sl,hL⟩:=u.any ho I.free (by simp)
 exact I.step (g':=s.gens) (d':=s.drawn) (ch:=[]) (fun _ z=>nomatch z) (fun b o _ hb _ e n=>u.keep b o e n hb (by simp)) (fun b o _ hb _ e n=>u.slot b o e n hb (by simp)) (fun b o _ e n=>u.free b o e n (by simp)) (fun b o _ e=>u.there b o e (by simp)) u.tups u.frzs u.tbls (fun m' hm=>by
  obtain ⟨o',es',ep',ho',r'⟩:=hm
  rw [ho] at ho';cases ho'
  exact ⟨_,es',ep',hL,r'⟩) hok I.bare
theorem Inv.call {g':Array GenState} {t':Nat} {d':Drawn} {ch:List Addr} (I:Inv X pins σ H s) (u:Un (frs X.stack) ch H H' s.heap h') (hok:HOk X.prog X.w H' h') (hg:AllBare g')
  (hch:∀ b ∈ ch,(b ∈ X.ex\/X.s₀.heap.objs.size<=b)/\b ≠ X.env.locals/\(∀ x c,X.env.cells.lookup x = some c->c ≠ b)/\∀ p ∈ X.pn ++ pins,p.1 ≠ b) :
  Inv X pins σ H' { s with heap:=h',gens:=g',drawn:=d',toks:=t' }:=by
 obtain ⟨m,⟨o,es,ep,ho,r⟩,_⟩:=id I.loc
 obtain ⟨sl,hL⟩:=u.any ho I.free fun z=>(hch _ z).2.1 rfl
 exact I.step (ch:=ch) hch (fun b o hL hb hc e n=>u.keep b o e n (fun z=>(mem_cons.mp (I.stkSub b z)).elim hL hb) hc) (fun b o _ _ hc e n=>u.any e n hc) (fun b o hc e n=>u.free b o e n hc) (fun b o hc e=>u.there b o e hc) u.tups u.frzs u.tbls (fun m' hm=>by
  obtain ⟨o',es',ep',ho',r'⟩:=hm
  rw [ho] at ho';cases ho'
  exact ⟨_,es',ep',hL,r'⟩) hok hg
theorem Inv.turned {t':Nat} {it:Addr} (I:Inv X pins σ H s) (k:∀ b o,b ≠ it->s.heap.get? b = some o->h'.get? b = some o) (hn:H it = none) (hL:it ≠ X.env.locals)
  (h1:it ∈ X.ex\/X.s₀.heap.objs.size<=it) (h2:∀ x c,X.env.cells.lookup x = some c->c ≠ it) (h3:∀ p ∈ X.pn ++ pins,p.1 ≠ it):Inv X pins σ H { s with heap:=h',toks:=t' }:=by
 have nit:∀ b u,H b = some u->b ≠ it:=fun b u e z=>by rw [z,hn] at e;cases e
 refine I.step (g':=s.gens) (d':=s.drawn) (ch:=[it]) (fun b hb=>?_) (fun b o _ _ hc e _=>k b o (fun z=>hc (by simp [z])) e) (fun b o _ _ hc e _=>⟨o.slots,k b o (fun z=>hc (by simp [z])) e⟩) (fun _ _ _ _ n=>n)
  (fun b o hc e=>⟨o,k b o (fun z=>hc (by simp [z])) e⟩) (fun _ _ e=>e) (fun _ _ _ e=>e) (fun b ps e=>⟨#[],by rw [e];simp⟩) (fun m hm=>?_) (fun b u e=>?_) I.bare
 ·have e:b = it:=by simpa using hb
  subst e
  exact ⟨h1,hL,h2,h3⟩
 ·obtain ⟨o,es,ep,ho,r⟩:=hm
  exact ⟨o,es,ep,k _ o (Ne.symm hL) ho,r⟩
 ·refine (I.hok b u e).stay (fun c v hc q=>k c v ?_ q) (fun _ q=>q) fun _ _ q=>q
  rcases hc with z | z
  ·rw [z];exact nit b u e
  ·exact nit c _ z
theorem Inv.tok (I:Inv X pins σ H s) (t:Nat):Inv X pins σ H { s with toks:=t }:=I.un (h':=s.heap) (t':=t) Un.refl I.hok
theorem Inv.kept {t':Nat} (I:Inv X pins σ H s) (k:∀ b u,s.heap.get? b = some u->h'.get? b = some u):Inv X pins σ H { s with heap:=h',toks:=t' }:=I.un (Un.kept k) (I.hok.kept k)
theorem Inv.laid {a:Addr} {o:HO} {t':Nat} (I:Inv X pins σ H s) (k:∀ b u,s.heap.get? b = some u->h'.get? b = some u) (hp:s.heap.objs.size<=a) (new:ObjOk X.prog X.w (upd H a o) h' a o) :
  Inv X pins σ (upd H a o) { s with heap:=h',toks:=t' }:=I.un (Un.laid k hp (I.hok.fresh hp)) (I.hok.laid k hp new)
theorem Inv.write {x e:Addr} {o:HO} {t':Nat} (I:Inv X pins σ H s) (mu:Mut (H x)) (he:e = x\/H e = some (.own x)) (k:∀ b u,b ≠ e->s.heap.get? b = some u->h'.get? b = some u) (heo:∃ u,h'.get? e = some u)
  (new:ObjOk X.prog X.w (upd H x o) h' x o):Inv X pins σ (upd H x o) { s with heap:=h',toks:=t' }:=I.un (Un.write mu he k heo) (I.hok.write mu he k heo new)
theorem Inv.pins_of {pins':List (Addr × Obj)} (I:Inv X pins σ H s) (h:∀ p ∈ pins',s.heap.get? p.1 = some p.2/\H p.1 = none/\p.1 ≠ X.env.locals/\p.1 ∉ X.fs/\∀ v,p.2.data ≠ .cell v):Inv X pins' σ H s:=
 ⟨I.ok,I.os,I.bare,I.base,I.loc,I.cell,I.free,I.freeC,fun p hp=>(mem_append.mp hp).elim (fun z=>I.pin p (mem_append_left _ z)) (h p),I.hok,I.len⟩
theorem zhW {N:List Str} (hN:N.Nodup) {i j:Nat} {x:Str} (a:N[i]? = some x) (b:N[j]? = some x):i = j:=by
 obtain ⟨h1,e1⟩:=List.getElem?_eq_some_iff.mp a
 obtain ⟨h2,e2⟩:=List.getElem?_eq_some_iff.mp b
 exact (List.getElem_inj hN).mp (e1.trans e2.symm)
theorem zgQ {M:Model} {A:Around} {E:Value->Shared->Prop} {i:Nat} {x:Str} {v:V} {u:Value} {Q:Unit->Shared->Prop} (I:Inv X pins σ H s) (hN:X.N.Nodup) (hi:X.N[i]? = some x) (hx:Loc X.env.scope x) (r:RelV v u)
  (h:∀ s',Inv X pins (σ.set i (some v)) H s'->(∃ a,Heap.SameBut a s.heap s'.heap/\(a = X.env.locals\/X.env.cells.lookup x = some a))->Q () s') (hf:X.fn x = true\/X.env.scope.names.lookup x = some .local:=by first | exact .inl rfl | exact .inr rfl | assumption):wpAny M A (storeName X.env x u) Q E s:=by
 obtain ⟨m,hn,hl⟩:=id I.loc
 have hcls:(X.env.scope.kind == .class || (X.env.scope.kind == .module && X.env.locals != X.env.globals)) = false:=by rw [I.ok.kind];rfl
 have hiσ:i < σ.length:=by rw [I.len];exact (List.getElem?_eq_some_iff.mp hi).1
 have cne:=I.cne
 have tracked:∀ {a:Addr} {h':Heap},(∃ o,s.heap.get? a = some o/\H a = none)->Heap.SameBut a s.heap h'->HOk X.prog X.w H h':=fun {a h'} ha hs b ob e=>by
  obtain ⟨_,_,hfree⟩:=ha
  refine (I.hok b ob e).stay (fun c w' hc q=>(hs.2 c ?_).trans q) (fun _ q=>q) fun _ _ q=>q
  rintro rfl
  rcases hc with rfl | hc
  ·rw [hfree] at e;cases e
  ·rw [hfree] at hc;cases hc
 rcases hx with hk | hk
 ·refine wpAny_storeName_local hk hn (fun h' hn' hs=>?_) hcls
  obtain ⟨oL,_,_,hoL,_⟩:=id hn
  refine h _ ⟨I.ok,I.os,I.bare,⟨fun b o e n hb hx=>?_,fun b o e n hb hx=>?_,I.base.free,fun b o e hx=>?_,I.base.tups,I.base.frzs,I.base.tbls⟩,⟨_,hn',fun j y v' e1 e2 e3=>?_⟩,fun y c e=>?_,I.free,I.freeC,fun p hp=>?_,tracked ⟨oL,hoL,I.free⟩ hs,by simpa using I.len⟩ ⟨_,hs,.inl rfl⟩
  ·exact (hs.2 b (Nat.ne_of_lt (Nat.lt_of_lt_of_le (Heap.lt_size e) I.ok.above))).trans (I.base.keep b o e n hb hx)
  ·obtain ⟨sl,e1⟩:=I.base.slot b o e n hb hx
   exact ⟨sl,(hs.2 b (Nat.ne_of_lt (Nat.lt_of_lt_of_le (Heap.lt_size e) I.ok.above))).trans e1⟩
  ·obtain ⟨o',e1⟩:=I.base.there b o e hx
   exact ⟨o',(hs.2 b (Nat.ne_of_lt (Nat.lt_of_lt_of_le (Heap.lt_size e) I.ok.above))).trans e1⟩
  ·by_cases hj:j = i
   ·subst hj
    rw [hi] at e1;cases e1
    rw [List.getElem?_set_self hiσ] at e2
    cases e2
    exact ⟨u,r,.inl ⟨hk,by simp⟩⟩
   ·rw [List.getElem?_set_ne (Ne.symm hj)] at e2
    obtain ⟨u',r',q⟩:=hl j y v' e1 e2 e3
    refine ⟨u',r',?_⟩
    rcases q with ⟨k,e⟩ | ⟨k,c,e,z⟩
    ·refine .inl ⟨k,?_⟩
     have:y ≠ x:=fun e=>hj (zhW hN e1 (e ▸ hi))
     simp [this,e]
    ·exact .inr ⟨k,c,e,z.sameBut hs (cne y c e)⟩
  ·obtain ⟨w',z⟩:=I.cell y c e
   exact ⟨w',z.sameBut hs (cne y c e)⟩
  ·obtain ⟨e,n,ne,nf,d⟩:=I.pin p hp
   exact ⟨(hs.2 p.1 ne).trans e,n,ne,nf,d⟩
 ·have hfn:X.fn x = true:=by
   rcases hf with z | z
   ·exact z
   ·rw [z] at hk;cases hk
  obtain ⟨c,hc⟩:=I.ok.has x (.inl hk)
  obtain ⟨w',z⟩:=I.cell x c hc
  refine wpAny_storeName_cell I.ok.kind hk hc z (fun h' hc' hs=>?_)
  obtain ⟨oc,hoc,hocd⟩:=id z
  refine h { s with heap:=h' } ⟨I.ok,I.os,I.bare,⟨fun b o e n hb hx=>?_,fun b o e n hb hx=>?_,I.base.free,fun b o e hx=>?_,I.base.tups,I.base.frzs,I.base.tbls⟩,⟨m,hn.sameBut hs (Ne.symm (cne x c hc)),fun j y v' e1 e2 e3=>?_⟩,fun y c' e=>?_,I.free,I.freeC,fun p hp=>?_,tracked ⟨oc,hoc,I.freeC x c hc⟩ hs,by simpa using I.len⟩ ⟨c,hs,.inr hc⟩
  ·exact (hs.2 b (Nat.ne_of_lt (Nat.lt_of_lt_of_le (Heap.lt_size e) (I.ok.cab x c hfn hc)))).trans (I.base.keep b o e n hb hx)
  ·obtain ⟨sl,e1⟩:=I.base.slot b o e n hb hx
   exact ⟨sl,(hs.2 b (Nat.ne_of_lt (Nat.lt_of_lt_of_le (Heap.lt_size e) (I.ok.cab x c hfn hc)))).trans e1⟩
  ·obtain ⟨o',e1⟩:=I.base.there b o e hx
   exact ⟨o',(hs.2 b (Nat.ne_of_lt (Nat.lt_of_lt_of_le (Heap.lt_size e) (I.ok.cab x c hfn hc)))).trans e1⟩
  ·by_cases hj:j = i
   ·subst hj
    rw [hi] at e1;cases e1
    rw [List.getElem?_set_self hiσ] at e2
    cases e2
    exact ⟨u,r,.inr ⟨.inl hk,c,hc,hc'⟩⟩
   ·rw [List.getElem?_set_ne (Ne.symm hj)] at e2
    obtain ⟨u',r',q⟩:=hl j y v' e1 e2 e3
    refine ⟨u',r',?_⟩
    rcases q with q | ⟨k,c',e,z'⟩
    ·exact .inl q
    ·refine .inr ⟨k,c',e,z'.sameBut hs ?_⟩
     rintro rfl
     exact hj (zhW hN e1 (I.ok.inj _ _ _ e hc ▸ hi))
  ·by_cases hcc:c' = c
   ·subst hcc;exact ⟨_,hc'⟩
   ·obtain ⟨w2,z2⟩:=I.cell y c' e
    exact ⟨w2,z2.sameBut hs hcc⟩
  ·obtain ⟨e,n,ne,nf,d⟩:=I.pin p hp
   refine ⟨(hs.2 p.1 ?_).trans e,n,ne,nf,d⟩
   intro q
   rw [q,hoc] at e
   have q':oc = p.2:=Option.some.inj e
   exact d w' (by rw [← q'];exact hocd)
theorem zff {M:Model} {A:Around} {E:Value->Shared->Prop} {i:Nat} {x:Str} {v:V} {u:Value} {Q:Unit->Shared->Prop} (I:Inv X pins σ H s) (hN:X.N.Nodup) (hi:X.N[i]? = some x) (hx:Loc X.env.scope x) (r:RelV v u)
  (h:∀ s',Inv X pins (σ.set i (some v)) H s'->Q () s') (hf:X.fn x = true\/X.env.scope.names.lookup x = some .local:=by first | exact .inl rfl | exact .inr rfl | assumption):wpAny M A (storeName X.env x u) Q E s:=
 zgQ I hN hi hx r (fun s' I' _=>h s' I') hf
theorem Inv.call' {s':Shared} {ch:List Addr} (I:Inv X pins σ H s) (ho:s'.os = s.os) (u:Un (frs X.stack) ch H H' s.heap s'.heap) (hok:HOk X.prog X.w H' s'.heap) (hg:AllBare s'.gens)
  (hch:∀ b ∈ ch,(b ∈ X.ex\/X.s₀.heap.objs.size<=b)/\b ≠ X.env.locals/\(∀ x c,X.env.cells.lookup x = some c->c ≠ b)/\∀ p ∈ X.pn ++ pins,p.1 ≠ b):Inv X pins σ H' s':=by
 obtain ⟨h',g',d',t',o'⟩:=s'
 have e:o' = s.os:=ho
 subst e
 exact I.call (g':=g') (t':=t') (d':=d') u hok hg hch
end
noncomputable abbrev XK:=Value->Option Addr->Hp->Prop
noncomputable abbrev St:=List (Option V)
noncomputable abbrev VK:=V->Hp->Prop
noncomputable abbrev TE:=St->Hp->VK->Prop
noncomputable abbrev TT:=St->Hp->(Bool->Hp->Prop)->Prop
noncomputable abbrev TA:=St->Hp->(List V->Hp->Prop)->Prop
structure Ends where
 nx:St->Hp->Prop
 rt:VK
 bk:St->Hp->Prop:=fun _ _=>False
 ct:St->Hp->Prop:=fun _ _=>False
noncomputable abbrev TS:=Ends->St->Hp->Prop
def EP (X:Cx) (pins:List (Addr × Obj)) (σ:St) (Q:VK) (u:Value) (s':Shared):Prop:=∃ v H',Inv X pins σ H' s'/\RelV v u/\Q v H'
def TP (X:Cx) (pins:List (Addr × Obj)) (σ:St) (Q:Bool->Hp->Prop) (b:Bool) (s':Shared):Prop:=∃ H',Inv X pins σ H' s'/\Q b H'
def AP (X:Cx) (pins:List (Addr × Obj)) (σ:St) (Q:List V->Hp->Prop) (us:List Value) (s':Shared):Prop:=∃ vs H',Inv X pins σ H' s'/\Vals vs us/\Q vs H'
def SP (X:Cx) (pins:List (Addr × Obj)) (D:Ends) (f:Flow) (s':Shared):Prop:=
 match f with
 | .next=>∃ σ' H',Inv X pins σ' H' s'/\D.nx σ' H'
 | .brk=>∃ σ' H',Inv X pins σ' H' s'/\D.bk σ' H'
 | .cont=>∃ σ' H',Inv X pins σ' H' s'/\D.ct σ' H'
 | .ret u=>∃ v σ' H',Inv X pins σ' H' s'/\RelV v u/\D.rt v H'
def PE (X:Cx) (e:Expr) (t:TE):Prop:=
 ∀ (pins:List (Addr × Obj)) (s:Shared) (σ:St) (H:Hp) (Q:VK),Inv X pins σ H s->t σ H Q->wpAny (model X.prog X.w) X.A (eval e X.env) (EP X pins σ Q) X.xe s
def PT (X:Cx) (e:Expr) (t:TT):Prop:=
 ∀ (pins:List (Addr × Obj)) (s:Shared) (σ:St) (H:Hp) (Q:Bool->Hp->Prop),Inv X pins σ H s->t σ H Q->wpAny (model X.prog X.w) X.A (isTrue e X.env (eval e X.env)) (TP X pins σ Q) X.xe s
def PW (X:Cx) (e:Expr) (t:TT):Prop:=
 ∀ (whole:Sem Value) (pins:List (Addr × Obj)) (s:Shared) (σ:St) (H:Hp) (Q:Bool->Hp->Prop),Inv X pins σ H s->t σ H Q->wpAny (model X.prog X.w) X.A (isTrue e X.env whole) (TP X pins σ Q) X.xe s
theorem PW.pt {X:Cx} {e:Expr} {t:TT} (h:PW X e t):PT X e t:=h _
def PA (X:Cx) (es:List Expr) (t:TA):Prop:=
 ∀ (pos:Pos) (pins:List (Addr × Obj)) (s:Shared) (σ:St) (H:Hp) (Q:List V->Hp->Prop),Inv X pins σ H s->t σ H Q->wpAny (model X.prog X.w) X.A (spliced (backTo pos (starEach es X.env))) (AP X pins σ Q) X.xe s
def PS (X:Cx) (st:Stmt) (t:TS):Prop:=
 ∀ (pins:List (Addr × Obj)) (s:Shared) (σ:St) (H:Hp) (D:Ends),Inv X pins σ H s->t D σ H->wpAny (model X.prog X.w) X.A (exec st X.env) (SP X pins D) X.xe s
def PSs (X:Cx) (st:List Stmt) (t:TS):Prop:=
 ∀ (pins:List (Addr × Obj)) (s:Shared) (σ:St) (H:Hp) (D:Ends),Inv X pins σ H s->t D σ H->wpAny (model X.prog X.w) X.A (execs st X.env) (SP X pins D) X.xe s
theorem thn {α:Type} {t:Sem α} {Q Q':α->Shared->Prop} {M:Model} {A:Around} {E:Value->Shared->Prop} {s:Shared} (h:wpAny M A t Q E s) (hQ:∀ a s,Q a s->Q' a s):wpAny M A t Q' E s:=wpAny_mono h hQ fun _ _ x=>x
section
variable {X:Cx}
theorem bin {a b:Expr} {ta tb:TE} (ha:PE X a ta) (hb:PE X b tb) {pins:List (Addr × Obj)} {s:Shared} {σ:St} {H:Hp} {R:V->V->Hp->Prop} (I:Inv X pins σ H s) (h:ta σ H fun x H1=>tb σ H1 fun y H2=>R x y H2)
  {α:Type} {Q:α->Shared->Prop} {f:Value->Value->Sem α}
  (hf:∀ v u s2 x y H2,Inv X pins σ H2 s2->RelV x v->RelV y u->R x y H2->wpAny (model X.prog X.w) X.A (f v u) Q X.xe s2) :
  wpAny (model X.prog X.w) X.A (eval a X.env) (fun v s₁=>wpAny (model X.prog X.w) X.A (eval b X.env) (fun u s₂=>wpAny (model X.prog X.w) X.A (f v u) Q X.xe s₂) X.xe s₁) X.xe s:=by
 refine thn (ha pins s σ H _ I h) fun v s1 ⟨x,H1,I1,r1,q1⟩=>?_
 refine thn (hb pins s1 σ H1 _ I1 q1) fun u s2 ⟨y,H2,I2,r2,q2⟩=>?_
 exact hf v u s2 x y H2 I2 r1 r2 q2
noncomputable def zjG (i:Nat):TE:=fun σ H Q=>∃ v,σ[i]? = some (some v)/\Q v H
noncomputable def tC (v:V):TE:=fun _ H Q=>Q v H
theorem zhU {i:Nat} {x:Str} {pos:Pos} (hN:X.N[i]? = some x) (hv:Vis X.env.scope x) (hd:(x == ("__debug__":Str)) = false:=by decide) (hcd:(x == ("__classdict__":Str)) = false:=by decide):PE X (.Name x pos) (zjG i):=by
 intro pins s σ H Q I h
 obtain ⟨v,e,h⟩:=h
 obtain ⟨m,hn,hl⟩:=I.loc
 obtain ⟨u,r,l⟩:=hl i x v hN e hv
 have fin:EP X pins σ Q u s:=⟨v,H,I,r,h⟩
 rcases l with ⟨hk,hm⟩ | ⟨hk,c,hc,hcell⟩
 ·exact wpAny_Name (wpAny_loadName_local I.ok.kind hk hn hm fin) hd
 ·rcases hk with hk | hk
  ·exact wpAny_Name (wpAny_loadName_cell I.ok.kind hk hc hcell fin) hd
  ·exact wpAny_Name (wpAny_loadName_free I.ok.kind hk hc hcell fin hcd) hd
theorem zkD {i j pos}:PE X (.Constant (.int i) j pos) (tC (.int i)):=fun _ _ _ H _ I h=>wpAny_Constant_int ⟨.int i,H,I.tok _,⟨_,rfl⟩,h⟩
theorem zp6 {b j pos}:PE X (.Constant (.bool b) j pos) (tC (.bl b)):=fun _ _ _ H _ I h=>Constant_bool ⟨.bl b,H,I,rfl,h⟩
theorem zop {j pos}:PE X (.Constant .none j pos) (tC .non):=fun _ _ _ H _ I h=>Constant_none ⟨.non,H,I,rfl,h⟩
theorem zom {x j pos}:PE X (.Constant (.str x) j pos) (tC (.str x)):=fun _ _ _ H _ I h=>Calls.Constant_str ⟨.str x,H,I.tok _,⟨_,rfl⟩,h⟩
def Gl (X:Cx) (x:Str):Prop:=X.env.kindOf x = some .globalImplicit
theorem zgr {E:Value->Shared->Prop} {pins:List (Addr × Obj)} {s:Shared} {σ:St} {H:Hp} {x:Str} {u:Value} {pos:Pos} {Q:Value->Shared->Prop} (I:Inv X pins σ H s) (hg:Gl X x) (hm:X.mg x = some u) (h:Q u s)
  (hd:(x == ("__debug__":Str)) = false:=by decide):wpAny (model X.prog X.w) X.A (eval (.Name x pos) X.env) Q E s:=
 Calls.Name_function_global I.ok.kind hg (Calls.loadGlobal_global (by rw [I.ok.glob];exact I.mod.glob.keeps I.bk) hm h) hd
theorem zen {E:Value->Shared->Prop} {pins:List (Addr × Obj)} {s:Shared} {σ:St} {H:Hp} {x:Str} {u:Value} {pos:Pos} {Q:Value->Shared->Prop} (I:Inv X pins σ H s) (hg:Gl X x) (hm:X.mg x = none) (hv:bootBuiltins x = some u) (h:Q u s)
  (hn:x ≠ "__name__":=by decide) (hd:(x == ("__debug__":Str)) = false:=by decide):wpAny (model X.prog X.w) X.A (eval (.Name x pos) X.env) Q E s:=by
 obtain ⟨mb,h1,h2⟩:=I.mod.blt
 exact Calls.Name_function_global I.ok.kind hg (Calls.loadGlobal_builtin (by rw [I.ok.glob];exact I.mod.glob.keeps I.bk) hm (by rw [I.ok.blt];exact h1.keeps I.bk) ((h2 x hn).trans hv) h) hd
theorem zmU {x:Str} {v:V} {u:Value} {pos:Pos} (hg:Gl X x) (hm:X.mg x = some u) (r:RelV v u) (hd:(x == ("__debug__":Str)) = false:=by decide):PE X (.Name x pos) (tC v):=
 fun _ _ _ H _ I h=>zgr I hg hm ⟨v,H,I,r,h⟩ hd
theorem zmX {x:Str} {v:V} {u:Value} {pos:Pos} (hg:Gl X x) (hm:X.mg x = none) (hv:bootBuiltins x = some u) (r:RelV v u) (hn:x ≠ "__name__":=by decide) (hd:(x == ("__debug__":Str)) = false:=by decide):PE X (.Name x pos) (tC v):=
 fun _ _ _ H _ I h=>zen I hg hm hv ⟨v,H,I,r,h⟩ hn hd
variable {a b:Expr} {ta tb:TE} {pos:Pos}
def PC (X:Cx) (op:CmpOp) (a b:Expr) (t:TE):Prop:=
 ∀ (pins:List (Addr × Obj)) (s:Shared) (σ:St) (H:Hp) (Q:VK),Inv X pins σ H s->t σ H Q->
  wpAny (model X.prog X.w) X.A (eval a X.env) (fun v s₁=>wpAny (model X.prog X.w) X.A (eval b X.env) (fun u s₂=>wpAny (model X.prog X.w) X.A (compareOp op v u) (EP X pins σ Q) X.xe s₂) X.xe s₁) X.xe s
theorem zlK (b:Expr) {op:CmpOp} (h:op ≠ .In) (h2:op ≠ .NotIn):behindInMarks op b = false:=by
 have e1:(op == CmpOp.In) = false:=by cases op <;> first | rfl | exact absurd rfl h
 have e2:(op == CmpOp.NotIn) = false:=by cases op <;> first | rfl | exact absurd rfl h2
 cases b <;> simp [behindInMarks,e1,e2]
noncomputable def tB (t:TE):TT:=fun σ H Q=>t σ H fun x H1=>∃ c,x = .bl c/\Q c H1
theorem zrv {op:CmpOp} {t:TE} (h:PC X op a b t) (h1:behindInMarks op b = false:=by first | exact zlK _ (by decide) (by decide) | rfl):PT X (.Compare a [op] [b] pos) (tB t):=by
 intro pins s σ H Q I hw
 refine wpAny_isTrue_Compare1 (thn (h pins s σ H _ I hw) fun v s1 h1=>thn h1 fun u s2 h2=>thn h2 fun c s3 ⟨x,H1,I1,r1,q1⟩=>?_) h1
 obtain ⟨d,rfl,q⟩:=q1
 cases r1
 exact wpAny_truthy_bool ⟨H1,I1,q⟩
theorem zoa {e:Expr} {t:TE} (h:PE X e t) (he:∀ whole,isTrue e X.env whole = (do let v ← whole;standAt e.pos;holding [v] (truthy v)):=by intro _;rfl):PT X e (tB t):=by
 intro pins s σ H Q I hw
 refine isTrue_plain (thn (h pins s σ H _ I hw) fun v s1 ⟨x,H1,I1,r1,q1⟩=>?_) (he _)
 obtain ⟨d,rfl,q⟩:=q1
 cases r1
 exact wpAny_truthy_bool ⟨H1,I1,q⟩
variable {tA tB':TT} {rest:List Expr}
noncomputable def zqO (t u:TT):TT:=fun σ H Q=>t σ H fun c H1=>if c = true then u σ H1 Q else Q false H1
noncomputable def tOr (t u:TT):TT:=fun σ H Q=>t σ H fun c H1=>if c = true then Q true H1 else u σ H1 Q
noncomputable def zqH (t:TT):TT:=fun σ H Q=>t σ H fun c H1=>Q (!c) H1
theorem zmH (ha:PT X a tA):PW X (.BoolOp .And [a] pos) tA:=by
 intro wh pins s σ H Q I h
 refine isTrue_and (thn (ha pins s σ H Q I h) fun c s1 e=>?_)
 cases c with
 | true=>exact isTrue_and_nil e
 | false=>exact e
theorem zn8 (ha:PT X a tA):PW X (.BoolOp .Or [a] pos) tA:=by
 intro wh pins s σ H Q I h
 refine isTrue_or (thn (ha pins s σ H Q I h) fun c s1 e=>?_)
 cases c with
 | false=>exact isTrue_or_nil e
 | true=>exact e
theorem zn9 (ha:PT X a tA) (hb:PW X (.BoolOp .And (b :: rest) pos) tB'):PW X (.BoolOp .And (a :: b :: rest) pos) (zqO tA tB'):=by
 intro wh pins s σ H Q I h
 refine isTrue_and (thn (ha pins s σ H _ I h) fun c s1 ⟨H1,I1,q1⟩=>?_)
 cases c with
 | true=>exact hb wh pins s1 σ H1 Q I1 q1
 | false=>exact ⟨H1,I1,q1⟩
theorem zp1 (ha:PT X a tA) (hb:PW X (.BoolOp .Or (b :: rest) pos) tB'):PW X (.BoolOp .Or (a :: b :: rest) pos) (tOr tA tB'):=by
 intro wh pins s σ H Q I h
 refine isTrue_or (thn (ha pins s σ H _ I h) fun c s1 ⟨H1,I1,q1⟩=>?_)
 cases c with
 | true=>exact ⟨H1,I1,q1⟩
 | false=>exact hb wh pins s1 σ H1 Q I1 q1
theorem zob (ha:PT X a tA):PT X (.UnaryOp .Not a pos) (zqH tA):=by
 intro pins s σ H Q I h
 exact isTrue_not (ha pins s σ H (fun c H1=>Q (!c) H1) I h)
noncomputable def zpP (ta tb:TE):TE:=fun σ H Q=>ta σ H fun x H1=>∃ c,x = .bl c/\if c = true then tb σ H1 Q else Q (.bl false) H1
noncomputable def zqG (ta tb:TE):TE:=fun σ H Q=>ta σ H fun x H1=>∃ c,x = .bl c/\if c = true then Q (.bl true) H1 else tb σ H1 Q
noncomputable def zpJ (ta:TE):TE:=fun σ H Q=>ta σ H fun x H1=>∃ c,x = .bl c/\Q (.bl (!c)) H1
theorem zon {op} {t:TE} (h:PE X a t):PE X (.BoolOp op [a] pos) t:=fun pins s σ H Q I hw=>BoolOp_one (h pins s σ H Q I hw)
theorem zot (ha:PE X a ta) (hb:PE X (.BoolOp .And (b :: rest) pos) tb):PE X (.BoolOp .And (a :: b :: rest) pos) (zpP ta tb):=by
 intro pins s σ H Q I h
 refine BoolOp_and (thn (ha pins s σ H _ I h) fun v s1 ⟨x,H1,I1,r1,q1⟩=>?_)
 obtain ⟨c,rfl,q1⟩:=q1
 cases r1
 refine wpAny_truthy_bool ?_
 cases c with
 | true=>exact hb pins s1 σ H1 Q I1 q1
 | false=>exact ⟨.bl false,H1,I1,rfl,q1⟩
theorem zp3 (ha:PE X a ta) (hb:PE X (.BoolOp .Or (b :: rest) pos) tb):PE X (.BoolOp .Or (a :: b :: rest) pos) (zqG ta tb):=by
 intro pins s σ H Q I h
 refine BoolOp_or (thn (ha pins s σ H _ I h) fun v s1 ⟨x,H1,I1,r1,q1⟩=>?_)
 obtain ⟨c,rfl,q1⟩:=q1
 cases r1
 refine wpAny_truthy_bool ?_
 cases c with
 | false=>exact hb pins s1 σ H1 Q I1 q1
 | true=>exact ⟨.bl true,H1,I1,rfl,q1⟩
theorem zoo (ha:PE X a ta):PE X (.UnaryOp .Not a pos) (zpJ ta):=by
 intro pins s σ H Q I h
 refine UnaryOp_ (thn (ha pins s σ H _ I h) fun v s1 ⟨x,H1,I1,r1,q1⟩=>?_)
 obtain ⟨c,rfl,q1⟩:=q1
 cases r1
 exact not_of (wpAny_truthy_bool ⟨.bl (!c),H1,I1,rfl,q1⟩)
noncomputable def tIf (t:TT) (ta tb:TE):TE:=fun σ H Q=>t σ H fun c H1=>if c = true then ta σ H1 Q else tb σ H1 Q
theorem zlC {c:Expr} (hc:PT X c tA) (ha:PE X a ta) (hb:PE X b tb):PE X (.IfExp c a b pos) (tIf tA ta tb):=by
 intro pins s σ H Q I h
 refine wpAny_IfExp (thn (hc pins s σ H _ I h) fun d s1 ⟨H1,I1,q1⟩=>?_)
 cases d with
 | true=>exact ha pins s1 σ H1 Q I1 q1
 | false=>exact hb pins s1 σ H1 Q I1 q1
end
def SqL (K:Frag) (H:Hp) (a:Addr) (xs:List V):Prop:=
 Rd H a (.lst xs) \/
  ∃ (o:Obj) (its:Array Value) (n:Nat),K.lookup a = some o/\o.cls = .type "list"/\o.dict = none/\o.data = .seq its n/\its.size<=sizeLine/\Vals xs its.toList
def SqT (K:Frag) (H:Hp) (a:Addr) (xs:List V):Prop:=
 Rd H a (.tup xs) \/
  ∃ (o:Obj) (its:Array Value) (n:Nat),K.lookup a = some o/\o.cls = .type "tuple"/\o.dict = none/\o.data = .seq its n/\its.size<=sizeLine/\Vals xs its.toList
noncomputable def zrh:Value->Option V
 | .none=>some .non
 | .bool b=>some (.bl b)
 | .int i _=>some (.int i)
 | .str x _=>some (.str x)
 | .bytes b _=>some (.byt b)
 | .float b _=>some (.flt b)
 | .ref a=>some (.ref a)
 | .type n=>some (.ty n)
 | _=>none
theorem RelV.abs {x:V} {u:Value} (r:RelV x u):zrh u = some x:=by
 cases x with
 | non=>cases r;rfl
 | bl _=>cases r;rfl
 | int _=>obtain ⟨t,rfl⟩:=r;rfl
 | str _=>obtain ⟨t,rfl⟩:=r;rfl
 | byt _=>obtain ⟨t,rfl⟩:=r;rfl
 | flt _=>obtain ⟨t,rfl⟩:=r;rfl
 | ref _=>cases r;rfl
 | ty _=>cases r;rfl
theorem RelV.inj {x y:V} {u:Value} (r:RelV x u) (q:RelV y u):x = y:=Option.some.inj (r.abs.symm.trans q.abs)
theorem Vals.inj:∀ {xs ys:List V} {us:List Value},Vals xs us->Vals ys us->xs = ys
 | _,_,_,.nil,.nil=>rfl
 | _,_,_,.cons r t,.cons r' t'=>by rw [r.inj r',Vals.inj t t']
section
variable {X:Cx} {pins:List (Addr × Obj)} {σ:St} {H:Hp} {s:Shared} {a:Addr} {xs ys:List V}
theorem Inv.list (I:Inv X pins σ H s) (h:SqL X.K H a xs):∃ its:List Value,Vals xs its/\PlainL s.heap a its.toArray/\xs.length<=sizeLine:=by
 rcases h with h | ⟨o,its,n,hk,hc,hd,hs,hz,r⟩
 ·obtain ⟨z,its,n,r,e⟩:=h.ok I.hok
  exact ⟨its,r,⟨_,n,e,rfl,rfl,rfl⟩,z⟩
 ·refine ⟨its.toList,r,⟨o,n,I.kIn a o hk,hc,hd,by simpa using hs⟩,?_⟩
  have e:=r.length
  simp only [Array.length_toList] at e
  omega
theorem Inv.tuple (I:Inv X pins σ H s) (h:SqT X.K H a xs):∃ its:List Value,Vals xs its/\IsTup s.heap a its.toArray/\xs.length<=sizeLine:=by
 rcases h with h | ⟨o,its,n,hk,hc,_,hs,hz,r⟩
 ·obtain ⟨z,its,r,p,_⟩:=h.ok I.hok
  exact ⟨its,r,p,z⟩
 ·refine ⟨its.toList,r,⟨o,I.kIn a o hk,hc,n,by simpa using hs⟩,?_⟩
  have e:=r.length
  simp only [Array.length_toList] at e
  omega
theorem Inv.list_inj (I:Inv X pins σ H s) (h:SqL X.K H a xs) (h':SqL X.K H a ys):xs = ys:=by
 obtain ⟨its,r,⟨o,n,e,_,_,d⟩,_⟩:=I.list h
 obtain ⟨its',r',⟨o',n',e',_,_,d'⟩,_⟩:=I.list h'
 rw [e] at e';cases e'
 rw [d] at d'
 injection d' with d1 _
 have:its = its':=by simpa using congrArg Array.toList d1
 subst this
 exact r.inj r'
theorem Inv.tuple_inj (I:Inv X pins σ H s) (h:SqT X.K H a xs) (h':SqT X.K H a ys):xs = ys:=by
 obtain ⟨its,r,⟨o,e,_,n,d⟩,_⟩:=I.tuple h
 obtain ⟨its',r',⟨o',e',_,n',d'⟩,_⟩:=I.tuple h'
 rw [e] at e';cases e'
 rw [d] at d'
 injection d' with d1 _
 have:its = its':=by simpa using congrArg Array.toList d1
 subst this
 exact r.inj r'
end
noncomputable abbrev Cx.wish (X:Cx) (E:Value->Shared->Prop):Cx:={ X with xe:=E }
noncomputable abbrev Cx.nox (X:Cx):Cx:=X.wish fun _ _=>False
theorem Cx.Ok.wish {X:Cx} (ok:X.Ok) (E:Value->Shared->Prop):(X.wish E).Ok:=
 ⟨ok.mod,ok.kind,ok.glob,ok.blt,ok.above,ok.inj,ok.has,ok.cab,ok.hd,ok.frames,ok.stk,ok.exf,ok.bs,ok.bsz,ok.noex,ok.exfs,ok.funs,ok.frf⟩
theorem Cx.Ok.unwish {X:Cx} {E:Value->Shared->Prop} (ok:(X.wish E).Ok):X.Ok:=
 ⟨ok.mod,ok.kind,ok.glob,ok.blt,ok.above,ok.inj,ok.has,ok.cab,ok.hd,ok.frames,ok.stk,ok.exf,ok.bs,ok.bsz,ok.noex,ok.exfs,ok.funs,ok.frf⟩
section
variable {X:Cx} {pins:List (Addr × Obj)} {σ:St} {H:Hp} {s:Shared} {E:Value->Shared->Prop}
theorem Inv.wish (I:Inv X pins σ H s) (E:Value->Shared->Prop):Inv (X.wish E) pins σ H s:=⟨I.ok.wish E,I.os,I.bare,I.base,I.loc,I.cell,I.free,I.freeC,I.pin,I.hok,I.len⟩
theorem Inv.unwish (I:Inv (X.wish E) pins σ H s):Inv X pins σ H s:=⟨I.ok.unwish,I.os,I.bare,I.base,I.loc,I.cell,I.free,I.freeC,I.pin,I.hok,I.len⟩
theorem SP.unwish {D:Ends} {f:Flow} {s':Shared} (h:SP (X.wish E) pins D f s'):SP X pins D f s':=by
 cases f with
 | next=>obtain ⟨σ',H',I,q⟩:=h;exact ⟨σ',H',I.unwish,q⟩
 | brk=>obtain ⟨σ',H',I,q⟩:=h;exact ⟨σ',H',I.unwish,q⟩
 | cont=>obtain ⟨σ',H',I,q⟩:=h;exact ⟨σ',H',I.unwish,q⟩
 | ret u=>obtain ⟨v,σ',H',I,r,q⟩:=h;exact ⟨v,σ',H',I.unwish,r,q⟩
theorem PE.nox {e:Expr} {t:TE} (h:PE X.nox e t):PE X e t:=fun pins s σ H Q I hw=>
 wpAny_mono (h pins s σ H Q (I.wish _) hw) (fun _ _ ⟨v,H',I',r,q⟩=>⟨v,H',I'.unwish,r,q⟩) fun _ _ z=>False.elim z
theorem PT.nox {e:Expr} {t:TT} (h:PT X.nox e t):PT X e t:=fun pins s σ H Q I hw=>
 wpAny_mono (h pins s σ H Q (I.wish _) hw) (fun _ _ ⟨H',I',q⟩=>⟨H',I'.unwish,q⟩) fun _ _ z=>False.elim z
theorem PSs.nox {st:List Stmt} {t:TS} (h:PSs X.nox st t):PSs X st t:=fun pins s σ H D I hw=>
 wpAny_mono (h pins s σ H D (I.wish _) hw) (fun _ _ q=>q.unwish) fun _ _ z=>False.elim z
end
section
variable {X:Cx} {st:Stmt} {rest:List Stmt} {t u:TS} {e:Expr} {te:TE} {pos:Pos}
noncomputable def zpK:TS:=fun D σ H=>D.nx σ H
noncomputable def zqE (t u:TS):TS:=fun D σ H=>t { D with nx:=u D } σ H
theorem zmN:PSs X [] zpK:=fun _ _ σ H _ I h=>wpAny_execs_nil ⟨σ,H,I,h⟩
theorem zly (h1:PS X st t) (h2:PSs X rest u):PSs X (st :: rest) (zqE t u):=by
 intro pins s σ H D I h
 refine wpAny_execs_cons (thn (h1 pins s σ H { D with nx:=u D } I h) fun f s1 q=>?_)
 cases f with
 | next=>
  obtain ⟨σ',H',I',q⟩:=q
  exact h2 pins s1 σ' H' D I' q
 | ret v=>exact q
 | brk=>exact q
 | cont=>exact q
theorem zi4 (h1:PS X st t):PSs X [st] t:=by
 intro pins s σ H D I h
 refine wpAny_execs_cons (thn (h1 pins s σ H D I h) fun f s1 q=>?_)
 cases f with
 | next=>exact wpAny_execs_nil q
 | ret v=>exact q
 | brk=>exact q
 | cont=>exact q
theorem Inv.quiet {pins:List (Addr × Obj)} {σ:St} {H:Hp} {s:Shared} (I:Inv X pins σ H s):interactive X.env = false:=by simp [interactive,I.ok.kind]
noncomputable def zpM (te:TE):TS:=fun D σ H=>te σ H fun _ H1=>D.nx σ H1
theorem zmO (he:PE X e te) (hs:swapsWith e none pos.line X.env = pure false:=by rfl):PS X (.Expr e pos) (zpM te):=by
 intro pins s σ H D I h
 exact wpAny_Expr_any (thn (he pins s σ H _ I h) fun v s1 ⟨x,H1,I1,r1,q1⟩=>⟨σ,H1,I1,q1⟩) I.quiet hs
noncomputable def zqF (te:TE):TS:=fun D σ H=>te σ H D.rt
theorem zoe (he:PE X e te):PS X (.Return (some e) pos) (zqF te):=by
 intro pins s σ H D I h
 exact wpAny_Return_some (thn (he pins s σ H _ I h) fun v s1 ⟨x,H1,I1,r1,q1⟩=>⟨x,σ,H1,I1,r1,q1⟩)
noncomputable def zqK (c:TT) (t u:TS):TS:=fun D σ H=>c σ H fun b H1=>if b = true then t D σ H1 else u D σ H1
theorem zp2 {c:Expr} {a b:List Stmt} {tc:TT} (hc:PT X c tc) (ha:PSs X a t) (hb:PSs X b u):PS X (.If c a b pos) (zqK tc t u):=by
 intro pins s σ H D I h
 refine wpAny_If (thn (hc pins s σ H _ I h) fun d s1 ⟨H1,I1,q1⟩=>?_)
 cases d with
 | true=>exact ha pins s1 σ H1 D I1 q1
 | false=>exact hb pins s1 σ H1 D I1 q1
end
noncomputable abbrev TG:=V->St->Hp->(St->Hp->Prop)->Prop
noncomputable abbrev TGs:=List V->St->Hp->(St->Hp->Prop)->Prop
def PG (X:Cx) (target:Expr) (t:TG):Prop:=
 ∀ (pins:List (Addr × Obj)) (s:Shared) (σ:St) (H:Hp) (v:V) (u:Value) (Q:St->Hp->Prop),Inv X pins σ H s->RelV v u->t v σ H Q->
  wpAny (model X.prog X.w) X.A (assign target X.env u) (fun _ s'=>∃ σ' H',Inv X pins σ' H' s'/\Q σ' H') X.xe s
def PGs (X:Cx) (ts:List Expr) (t:TGs):Prop:=
 ∀ (pins:List (Addr × Obj)) (s:Shared) (σ:St) (H:Hp) (vs:List V) (us:List Value) (Q:St->Hp->Prop),Inv X pins σ H s->Vals vs us->t vs σ H Q->
  wpAny (model X.prog X.w) X.A (assignInOrder ((assignEach ts X.env).map (·.2)) us) (fun _ s'=>∃ σ' H',Inv X pins σ' H' s'/\Q σ' H') X.xe s
noncomputable abbrev zgK:=V->V->V->Hp->(Hp->Prop)->Prop
def zd2 (X:Cx) (t:zgK):Prop:=
 ∀ (pins:List (Addr × Obj)) (s:Shared) (σ:St) (H:Hp) (o i v:V) (ov iv u:Value) (Q:Hp->Prop),Inv X pins σ H s->RelV o ov->RelV i iv->RelV v u->t o i v H Q->
  wpAny (model X.prog X.w) X.A (setItem ov iv u) (fun _ s'=>∃ H',Inv X pins σ H' s'/\Q H') X.xe s
noncomputable abbrev TIp:=V->V->Hp->VK->Prop
def PIp (X:Cx) (op:Operator) (t:TIp):Prop:=
 ∀ (pins:List (Addr × Obj)) (s:Shared) (σ:St) (H:Hp) (x y:V) (v u:Value) (Q:VK),Inv X pins σ H s->RelV x v->RelV y u->t x y H Q->
  wpAny (model X.prog X.w) X.A (inplaceOp op v u) (EP X pins σ Q) X.xe s
section
variable {X:Cx} {pos:Pos}
noncomputable def zhq (i:Nat):TG:=fun v σ H Q=>Q (σ.set i (some v)) H
theorem zl {i:Nat} {x:Str} (hN:X.N.Nodup) (hi:X.N[i]? = some x) (hx:Loc X.env.scope x) (hf:X.fn x = true\/X.env.scope.names.lookup x = some .local:=by first | exact .inl rfl | exact .inr rfl | assumption):PG X (.Name x pos) (zhq i):=by
 intro pins s σ H v u Q I r h
 exact wpAny_assign_Name (zff I hN hi hx r (fun s' I'=>⟨_,H,I',h⟩) hf)
noncomputable def zra:TGs:=fun vs σ H Q=>vs = []/\Q σ H
noncomputable def zj6 (t:TG) (u:TGs):TGs:=fun vs σ H Q=>∃ v r,vs = v :: r/\t v σ H fun σ' H'=>u r σ' H' Q
theorem zmS:PGs X [] zra:=by
 intro pins s σ H vs us Q I r h
 obtain ⟨e,h⟩:=h
 subst e
 cases r
 exact assignInOrder_nil ⟨σ,H,I,h⟩
theorem zw {e:Expr} {es:List Expr} {t:TG} {u:TGs} (h1:PG X e t) (h2:PGs X es u)
  (hs:(assignEach (e :: es) X.env).map (·.2) = assign e X.env :: (assignEach es X.env).map (·.2):=by rfl):PGs X (e :: es) (zj6 t u):=by
 intro pins s σ H vs us Q I r h
 obtain ⟨v,vr,e1,h⟩:=h
 subst e1
 cases r with
 | cons r rr=>
  rw [hs]
  refine assignInOrder_cons (thn (h1 pins s σ H _ _ _ I r h) fun _ s1 ⟨σ1,H1,I1,q1⟩=>?_)
  exact h2 pins s1 σ1 H1 _ _ Q I1 rr q1
noncomputable def zl6 (K:Frag) (n:Nat) (t:TGs):TG:=fun v σ H Q=>∃ a xs,v = .ref a/\SqT K H a xs/\xs.length = n/\t xs σ H Q
theorem zax {es:List Expr} {k:Nat} {t:TGs} {n:Nat} (hc:X.calm = true) (h:PGs X es t)
  (hn:(assignEach es X.env).length = n:=by rfl) (hst:(assignEach es X.env).findIdx? (·.1) = none:=by rfl):PG X (.Tuple es k pos) (zl6 X.K n t):=by
 intro pins s σ H v u Q I r hw
 obtain ⟨a,xs,e1,hq,hl,hw⟩:=hw
 subst e1
 cases r
 obtain ⟨its,rv,ht,hz⟩:=I.tuple hq
 refine assign_Tuple_tuple (I.ok.hd hc) ht (by simp [hn,← hl,rv.length]) hst fun h' hx=>?_
 have I1:Inv X pins σ H { s with heap:=h' }:=I.kept (t':=s.toks) fun b o e=>hx b o (Nat.ne_of_lt (Heap.lt_size e)) e
 exact h pins _ σ H xs _ Q I1 (by simpa using rv) hw
noncomputable def zq9 (to ti:TE) (t:zgK):TG:=fun v σ H Q=>to σ H fun o H1=>ti σ H1 fun i H2=>t o i v H2 fun H3=>Q σ H3
theorem zok {o i:Expr} {to ti:TE} {t:zgK} (ho:PE X o to) (hi:PE X i ti) (hs:zd2 X t)
  (ha:∀ v,assign (.Subscript o i pos) X.env v = (do
   let ov ← holding [v] (eval o X.env)
   let iv ← holding [v,ov] (eval i X.env)
   standAt pos
   holding [v,ov,iv] (setItem ov iv v)
   release [v,ov,iv] []):=by intro _;rfl):PG X (.Subscript o i pos) (zq9 to ti t):=by
 intro pins s σ H v u Q I r h
 rw [ha]
 refine wpAny_bind (wpAny_holding (thn (ho pins s σ H _ I h) fun ov s1 ⟨x,H1,I1,r1,q1⟩=>?_))
 refine wpAny_bind (wpAny_holding (thn (hi pins s1 σ H1 _ I1 q1) fun iv s2 ⟨y,H2,I2,r2,q2⟩=>?_))
 refine wpAny_bind (wpAny_standAt (wpAny_bind (wpAny_holding (thn (hs pins s2 σ H2 x y v ov iv u _ I2 r1 r2 r q2) fun _ s3 ⟨H3,I3,q3⟩=>?_))))
 exact wpAny_release ⟨σ,H3,I3,q3⟩
noncomputable def znX (te:TE) (g:TG):TS:=fun D σ H=>te σ H fun x H1=>g x σ H1 D.nx
theorem zoi {tg e:Expr} {te:TE} {g:TG} (he:PE X e te) (hg:PG X tg g) (hs:swapsWithSole [tg] e pos.line X.env = pure false:=by rfl) (hw:swappedStores [tg] e X.env = pure none:=by rfl)
  (h1:(assignEach [tg] X.env).map (·.2) = [assign tg X.env]:=by rfl):PS X (.Assign [tg] e pos) (znX te g):=by
 intro pins s σ H D I h
 refine wpAny_Assign_stores (thn (he pins s σ H _ I h) fun v s1 ⟨x,H1,I1,r1,q1⟩=>?_) hs hw
 rw [h1]
 exact thn (hg pins s1 σ H1 x v _ I1 r1 q1) fun _ s2 q=>q
theorem zod {i:Nat} {x:Str} {e:Expr} {te:TE} {pos':Pos} (hN:X.N.Nodup) (hi:X.N[i]? = some x) (hx:Loc X.env.scope x) (he:PE X e te) (hs:swapsWith e (some (.Name x pos')) pos.line X.env = pure false:=by rfl) (hf:X.fn x = true\/X.env.scope.names.lookup x = some .local:=by first | exact .inl rfl | exact .inr rfl | assumption) :
  PS X (.Assign [.Name x pos'] e pos) (znX te (zhq i)):=by
 intro pins s σ H D I h
 refine wpAny_Assign_Name (thn (he pins s σ H _ I h) fun v s1 ⟨y,H1,I1,r1,q1⟩=>?_) hs
 exact zff I1 hN hi hx r1 (fun s2 I2=>⟨_,H1,I2,q1⟩) hf
noncomputable def zqN (i:Nat) (te:TE) (ti:TIp):TS:=fun D σ H=>∃ x,σ[i]? = some (some x)/\te σ H fun y H1=>ti x y H1 fun z H2=>D.nx (σ.set i (some z)) H2
theorem zoh {i:Nat} {x:Str} {e:Expr} {te:TE} {op:Operator} {ti:TIp} {pos':Pos} (hN:X.N.Nodup) (hi:X.N[i]? = some x) (hx:Loc X.env.scope x) (he:PE X e te) (ho:PIp X op ti) (hf:X.fn x = true\/X.env.scope.names.lookup x = some .local:=by first | exact .inl rfl | exact .inr rfl | assumption) :
  PS X (.AugAssign (.Name x pos') op e pos) (zqN i te ti):=by
 intro pins s σ H D I h
 obtain ⟨v,e1,h⟩:=h
 obtain ⟨m,hn,hl⟩:=I.loc
 have vis:Vis X.env.scope x:=by rcases hx with k | k;exact .inl k;exact .inr (.inl k)
 obtain ⟨u,r,l⟩:=hl i x v hi e1 vis
 refine wpAny_AugAssign_Name ?_
 have go:wpAny (model X.prog X.w) X.A (eval e X.env) (fun w s₂=>wpAny (model X.prog X.w) X.A (inplaceOp op u w) (fun r s₃=>wpAny (model X.prog X.w) X.A (storeName X.env x r) (fun _=>SP X pins D .next) X.xe s₃) X.xe s₂) X.xe s:=by
  refine thn (he pins s σ H _ I h) fun w s1 ⟨y,H1,I1,r1,q1⟩=>?_
  refine thn (ho pins s1 σ H1 v y u w _ I1 r r1 q1) fun z s2 ⟨zv,H2,I2,r2,q2⟩=>?_
  exact zff I2 hN hi hx r2 (fun s3 I3=>⟨_,H2,I3,q2⟩) hf
 rcases l with ⟨hk,hm⟩ | ⟨hk,c,hc,hcell⟩
 ·exact wpAny_loadName_local I.ok.kind hk hn hm go
 ·rcases hk with hk | hk
  ·exact wpAny_loadName_cell I.ok.kind hk hc hcell go
  ·rcases hx with k | k
   ·have:X.env.scope.names.lookup x = some .free:=hk
    rw [k] at this;cases this
   ·have:X.env.scope.names.lookup x = some .free:=hk
    rw [k] at this;cases this
noncomputable def zpO (to ti te:TE) (tget:V->V->Hp->VK->Prop) (tip:TIp) (tset:zgK):TS:=fun D σ H=>to σ H fun o H1=>ti σ H1 fun i H2=>tget o i H2 fun x H3=>te σ H3 fun y H4=>tip x y H4 fun z H5=>tset o i z H5 fun H6=>D.nx σ H6
def ziz (X:Cx) (t:V->V->Hp->VK->Prop):Prop:=
 ∀ (pins:List (Addr × Obj)) (s:Shared) (σ:St) (H:Hp) (o i:V) (ov iv:Value) (Q:VK),Inv X pins σ H s->RelV o ov->RelV i iv->t o i H Q->
  wpAny (model X.prog X.w) X.A (getItem ov iv) (EP X pins σ Q) X.xe s
theorem zmP {o i e:Expr} {to ti te:TE} {tget:V->V->Hp->VK->Prop} {tip:TIp} {tset:zgK} {op:Operator} {tpos:Pos} (ho:PE X o to) (hi:PE X i ti) (hg:ziz X tget) (he:PE X e te) (hp:PIp X op tip) (hs:zd2 X tset)
  (ha:∀ ov iv new,augStore i ov iv new = (do holding [new,ov,iv] (setItem ov iv new);release [new,ov,iv] [];pure .next):=by intros;rfl):PS X (.AugAssign (.Subscript o i tpos) op e pos) (zpO to ti te tget tip tset):=by
 intro pins s σ H D I h
 refine wpAny_AugAssign_SubscriptAny (thn (ho pins s σ H _ I h) fun ov s1 ⟨x1,H1,I1,r1,q1⟩=>?_) ha
 refine thn (hi pins s1 σ H1 _ I1 q1) fun iv s2 ⟨x2,H2,I2,r2,q2⟩=>?_
 refine thn (hg pins s2 σ H2 x1 x2 ov iv _ I2 r1 r2 q2) fun old s3 ⟨x3,H3,I3,r3,q3⟩=>?_
 refine thn (he pins s3 σ H3 _ I3 q3) fun v s4 ⟨x4,H4,I4,r4,q4⟩=>?_
 refine thn (hp pins s4 σ H4 x3 x4 old v _ I4 r3 r4 q4) fun new s5 ⟨x5,H5,I5,r5,q5⟩=>?_
 exact thn (hs pins s5 σ H5 x1 x2 x5 ov iv new _ I5 r1 r2 r5 q5) fun _ s6 ⟨H6,I6,q6⟩=>⟨σ,H6,I6,q6⟩
noncomputable def ipI (f:Int->Int->Int):TIp:=fun x y H Q=>∃ i j,x = .int i/\y = .int j/\Q (.int (f i j)) H
theorem zoY:PIp X .Add (ipI fun i j=>i + j):=by
 intro pins s σ H x y v u Q I r1 r2 h
 obtain ⟨i,j,e1,e2,q⟩:=h
 subst e1;subst e2
 obtain ⟨t,rfl⟩:=r1
 obtain ⟨t',rfl⟩:=r2
 exact iadd_int ⟨.int _,H,I.tok _,⟨_,rfl⟩,q⟩
end
structure It where
 go:Nat->Hp->Prop
 yld:Nat->Hp->V->Hp->Prop
 stop:Nat->Hp->Prop
def zdu (X:Cx) (pins:List (Addr × Obj)) (H:Hp) (b:Addr):Prop:=
 H b = none/\b ≠ X.env.locals/\b ∉ X.fs/\(b ∈ X.ex\/X.s₀.heap.objs.size<=b)/\(∀ x c,X.env.cells.lookup x = some c->c ≠ b)/\∀ p ∈ X.pn ++ pins,p.1 ≠ b
theorem Inv.fpOk {X:Cx} {pins:List (Addr × Obj)} {σ:St} {H H':Hp} {s:Shared} {b:Addr} (I:Inv X pins σ H s) (hb:s.heap.objs.size<=b) (hn:H' b = none):zdu X pins H' b:=by
 refine ⟨hn,Nat.ne_of_gt (Nat.lt_of_lt_of_le I.lt hb),I.nofs hb,.inr (Nat.le_trans I.sz hb),fun x c e z=>?_,fun p hp z=>?_⟩
 ·obtain ⟨v,q⟩:=I.cell x c e
  exact absurd (Nat.lt_of_lt_of_le q.lt (by rw [z];exact hb)) (Nat.lt_irrefl _)
 ·exact absurd (Nat.lt_of_lt_of_le (Heap.lt_size (I.pin p hp).1) (by rw [z];exact hb)) (Nat.lt_irrefl _)
structure Turn (P:Program) (w:World) (K:Frag) (tg:Expr) (J:It) (fp:List Addr) (it:Addr) (tn:Nat->Heap->Prop):Prop where
 mem:it ∈ fp
 obj:∀ i h,tn i h->∀ b ∈ fp,∃ o,h.get? b = some o/\∀ v,o.data ≠ .cell v
 keep:∀ i h h',tn i h->(∀ b ∈ fp,∀ o,h.get? b = some o->h'.get? b = some o)->tn i h'
 item:∀ (X:Cx),X.prog = P->X.w = w->X.K = K->X.calm = true->∀ (i:Nat) (pins:List (Addr × Obj)) (s:Shared) (σ:St) (H:Hp) (E:Value->Shared->Prop),Inv X pins σ H s->(∀ b ∈ fp,zdu X pins H b)->tn i s.heap->J.go i H->
  wpAny (model P w) X.A (pyNext (.ref it)) (fun r s1=>∃ u,r = some u /\
   wpAny (model P w) X.A (letOwnedTupleGo tg (.ref it) u) (fun _ s2=>∃ x H',Inv X pins σ H' s2/\RelV x u/\J.yld i H x H'/\tn (i + 1) s2.heap/\∀ b ∈ fp,H' b = none) E s1) E s
 done:∀ (X:Cx),X.prog = P->X.w = w->X.K = K->X.calm = true->∀ (i:Nat) (pins:List (Addr × Obj)) (s:Shared) (σ:St) (H:Hp) (E:Value->Shared->Prop),Inv X pins σ H s->(∀ b ∈ fp,zdu X pins H b)->tn i s.heap->J.stop i H->
  wpAny (model P w) X.A (pyNext (.ref it)) (fun r s1=>r = none/\Inv X pins σ H s1) E s
 self:∀ (A:Around) (i:Nat) (s:Shared) (Q:Value->Shared->Prop) (E:Value->Shared->Prop),tn i s.heap->Q (.ref it) s->wpAny (model P w) A (pyIter (.ref it)) Q E s
noncomputable abbrev TI:=St->Hp->(It->Hp->Prop)->Prop
def PIE (X:Cx) (pins:List (Addr × Obj)) (σ:St) (tg:Expr) (R:It->Hp->Prop) (itv:Value) (s2:Shared):Prop:=
 ∃ (it:Addr) (fp:List Addr) (tn:Nat->Heap->Prop) (J:It) (H':Hp),itv = .ref it/\Inv X pins σ H' s2/\Turn X.prog X.w X.K tg J fp it tn/\tn 0 s2.heap/\(∀ b ∈ fp,zdu X pins H' b)/\R J H'
def PI (X:Cx) (tg iter:Expr) (wi:TI):Prop:=
 ∀ (pins:List (Addr × Obj)) (s:Shared) (σ:St) (H:Hp) (R:It->Hp->Prop),Inv X pins σ H s->wi σ H R->
  wpAny (model X.prog X.w) X.A (eval iter X.env) (fun v s1=>wpAny (model X.prog X.w) X.A (pyIter v) (PIE X pins σ tg R) X.xe s1) X.xe s
theorem zj4 {M:Model} {A:Around} {E:Value->Shared->Prop} {s:Shared} {tg:Expr} {it:Addr} {u:Value} {o:Obj} {n:String} {vs:Array Value} {Q:Unit->Shared->Prop} (ho:s.heap.get? it = some o) (hc:o.cls = .type n) (hd:o.data = .fields vs)
  (hn:["enumerate","zip","dict_itemiterator","dict_reverseitemiterator","odict_iterator","itertools.zip_longest","itertools.pairwise"].contains n = false) (hQ:Q () s):wpAny M A (letOwnedTupleGo tg (.ref it) u) Q E s:=by
 unfold letOwnedTupleGo
 cases tg <;> first
  | exact wpAny_pure hQ
  | (cases u <;> first
    | exact wpAny_pure hQ
    | (refine wpAny_bind (wpAny_load ho ?_)
       rw [hc,hd]
       show wpAny M A (if (["enumerate","zip","dict_itemiterator","dict_reverseitemiterator","odict_iterator","itertools.zip_longest","itertools.pairwise"].contains n && vs[0]? == some (rawInt _)) = true then _ else _) Q E s
       rw [if_neg (by intro h;rw [hn,Bool.false_and] at h;cases h)]
       exact wpAny_pure hQ))
noncomputable def Itl (K:Frag) (a:Addr):It:=
 ⟨fun i H=>∃ xs x,SqL K H a xs/\xs[i]? = some x,fun i H x H'=>H' = H/\∀ xs,SqL K H a xs->xs[i]? = some x,fun i H=>∃ xs,SqL K H a xs/\xs.length<=i⟩
noncomputable def Itt (K:Frag) (a:Addr):It:=
 ⟨fun i H=>∃ xs x,SqT K H a xs/\xs[i]? = some x,fun i H x H'=>H' = H/\∀ xs,SqT K H a xs->xs[i]? = some x,fun i H=>∃ xs,SqT K H a xs/\xs.length<=i⟩
noncomputable def Itr (lo:Int) (n:Nat):It:=⟨fun i _=>i < n,fun i H x H'=>H' = H/\x = .int (lo + i),fun i _=>n<=i⟩
theorem zkm {P:Program} {w:World} {K:Frag} {tg:Expr} (a it:Addr):Turn P w K tg (Itl K a) [it] it (fun i h=>h.IsListIter it a i) where
 mem:=by simp
 obj:=fun i h st b hb=>by
  have e:b = it:=by simpa using hb
  subst e
  obtain ⟨o,e,c,d⟩:=st
  exact ⟨o,e,fun v z=>by rw [d] at z;cases z⟩
 keep:=fun i h h' st k=>st.at fun o e=>k it (by simp) o e
 item:=by
  intro X hP hw hK hc i pins s σ H E I hf st hg
  subst hP hw hK
  obtain ⟨xs,x,hq,hx⟩:=hg
  obtain ⟨its,rv,p,hz⟩:=I.list hq
  obtain ⟨u,hu,ru⟩:=rv.get hx
  obtain ⟨f0,f1,f2,f3,f4,f5⟩:=hf it (by simp)
  refine wpAny_pyNext_list_item st p.isList (x:=u) (by simpa using hu) fun h' st' sb=>?_
  have I1:Inv X pins σ H { s with heap:=h' }:=I.turned (t':=s.toks) (fun b o hb e=>(sb.2 b hb).trans e) f0 f1 f3 f4 f5
  obtain ⟨o,e,c,d⟩:=id st'
  exact ⟨u,rfl,zj4 (s:={ s with heap:=h' }) e c d (by decide) ⟨x,H,I1,ru,⟨rfl,fun ys hy=>by rw [I.list_inj hy hq];exact hx⟩,st',fun b hb=>(hf b hb).1⟩⟩
 done:=by
  intro X hP hw hK hc i pins s σ H E I hf st hg
  subst hP hw hK
  obtain ⟨xs,hq,hx⟩:=hg
  obtain ⟨its,rv,p,hz⟩:=I.list hq
  obtain ⟨f0,f1,f2,f3,f4,f5⟩:=hf it (by simp)
  have hl:=rv.length
  exact wpAny_pyNext_list_end (I.ok.hd hc) st p.isList (by simp;omega) fun h' eb=>⟨rfl,I.turned (t':=s.toks) (fun b o hb e=>eb b o hb e) f0 f1 f3 f4 f5⟩
 self:=fun _ _ _ _ _ st h=>wpAny_pyIter_listiter st h
theorem zjB {P:Program} {w:World} {K:Frag} {tg:Expr} (a it:Addr):Turn P w K tg (Itt K a) [it] it (fun i h=>h.IsTupleIter it a i) where
 mem:=by simp
 obj:=fun i h st b hb=>by
  have e:b = it:=by simpa using hb
  subst e
  obtain ⟨o,e,c,d⟩:=st
  exact ⟨o,e,fun v z=>by rw [d] at z;cases z⟩
 keep:=fun i h h' st k=>st.at fun o e=>k it (by simp) o e
 item:=by
  intro X hP hw hK hc i pins s σ H E I hf st hg
  subst hP hw hK
  obtain ⟨xs,x,hq,hx⟩:=hg
  obtain ⟨its,rv,p,hz⟩:=I.tuple hq
  obtain ⟨u,hu,ru⟩:=rv.get hx
  obtain ⟨f0,f1,f2,f3,f4,f5⟩:=hf it (by simp)
  refine wpAny_pyNext_tuple_item st (show s.heap.IsTuple a its.toArray from p) (x:=u) (by simpa using hu) fun h' st' sb=>?_
  have I1:Inv X pins σ H { s with heap:=h' }:=I.turned (t':=s.toks) (fun b o hb e=>(sb.2 b hb).trans e) f0 f1 f3 f4 f5
  obtain ⟨o,e,c,d⟩:=id st'
  exact ⟨u,rfl,zj4 (s:={ s with heap:=h' }) e c d (by decide) ⟨x,H,I1,ru,⟨rfl,fun ys hy=>by rw [I.tuple_inj hy hq];exact hx⟩,st',fun b hb=>(hf b hb).1⟩⟩
 done:=by
  intro X hP hw hK hc i pins s σ H E I hf st hg
  subst hP hw hK
  obtain ⟨xs,hq,hx⟩:=hg
  obtain ⟨its,rv,p,hz⟩:=I.tuple hq
  obtain ⟨f0,f1,f2,f3,f4,f5⟩:=hf it (by simp)
  have hl:=rv.length
  exact wpAny_pyNext_tuple_end (I.ok.hd hc) st (show s.heap.IsTuple a its.toArray from p) (by simp;omega) fun h' eb=>⟨rfl,I.turned (t':=s.toks) (fun b o hb e=>eb b o hb e) f0 f1 f3 f4 f5⟩
 self:=fun _ _ _ _ _ st h=>wpAny_pyIter_tupleiter st h
theorem zjC {P:Program} {w:World} {K:Frag} {tg:Expr} (it:Addr) (lo:Int) (n:Nat):Turn P w K tg (Itr lo n) [it] it (fun i h=>IsRangeIter h it (lo + (i:Nat) * 1) ((n:Int) - (i:Nat)) 1) where
 mem:=by simp
 obj:=fun i h st b hb=>by
  have e:b = it:=by simpa using hb
  subst e
  exact ⟨_,st,fun v z=>by
   have z':Data.fields _ = Data.cell v:=z
   cases z'⟩
 keep:=fun i h h' st k=>k it (by simp) _ st
 item:=by
  intro X hP hw hK hc i pins s σ H E I hf st hg
  subst hP hw hK
  obtain ⟨f0,f1,f2,f3,f4,f5⟩:=hf it (by simp)
  have W:=Walks.range (prog:=X.prog) (w:=X.w) (I.ok.hd hc) it lo 1 n
  refine W.item i s _ _ hg st fun v h' tk hv st' kk=>?_
  obtain ⟨t,rfl⟩:=hv
  have I1:Inv X pins σ H { s with heap:=h',toks:=tk }:=I.turned (fun b o hb e=>kk b o (by simpa using hb) e) f0 f1 f3 f4 f5
  refine ⟨_,rfl,zj4 (s:={ s with heap:=h',toks:=tk }) (n:="range_iterator") st' rfl rfl (by decide) ⟨.int (lo + i),H,I1,⟨t,?_⟩,⟨rfl,rfl⟩,st',fun b hb=>(hf b hb).1⟩⟩
  rw [Int.mul_one]
 done:=by
  intro X hP hw hK hc i pins s σ H E I hf st hg
  subst hP hw hK
  obtain ⟨f0,f1,f2,f3,f4,f5⟩:=hf it (by simp)
  exact wpAny_pyNext_range_end (I.ok.hd hc) st (by have:n<=i:=hg;omega) fun h' eb=>⟨rfl,I.turned (t':=s.toks) (fun b o hb e=>eb b o hb e) f0 f1 f3 f4 f5⟩
 self:=fun _ _ _ _ _ st h=>wpAny_pyIter_rangeiter st h
section
variable {X:Cx} {tg:Expr}
noncomputable def zqi (K:Frag) (tl:TE):TI:=fun σ H R=>tl σ H fun x H1=>∃ a,x = .ref a/\(∃ xs,SqL K H1 a xs)/\R (Itl K a) H1
noncomputable def zq7 (K:Frag) (tl:TE):TI:=fun σ H R=>tl σ H fun x H1=>∃ a,x = .ref a/\(∃ xs,SqT K H1 a xs)/\R (Itt K a) H1
theorem zi5 {l:Expr} {tl:TE} (hl:PE X l tl):PI X tg l (zqi X.K tl):=by
 intro pins s σ H R I h
 refine thn (hl pins s σ H _ I h) fun v s1 ⟨x,H1,I1,r1,q1⟩=>?_
 obtain ⟨a,e,⟨xs,hq⟩,q⟩:=q1
 subst e
 cases r1
 obtain ⟨its,rv,p,hz⟩:=I1.list hq
 refine wpAny_pyIter_list p.isList ?_
 refine ⟨s1.heap.objs.size,[s1.heap.objs.size],_,_,H1,rfl,I1.kept (t':=s1.toks) fun b o e=>Heap.get?_push_of_some _ e,zkm a _,⟨_,Heap.get?_push_size _ rfl,rfl,rfl⟩,fun b hb=>?_,q⟩
 have e:b = s1.heap.objs.size:=by simpa using hb
 subst e
 exact I1.fpOk (Nat.le_refl _) (I1.hok.fresh (Nat.le_refl _))
theorem zoj {l:Expr} {tl:TE} (hl:PE X l tl):PI X tg l (zq7 X.K tl):=by
 intro pins s σ H R I h
 refine thn (hl pins s σ H _ I h) fun v s1 ⟨x,H1,I1,r1,q1⟩=>?_
 obtain ⟨a,e,⟨xs,hq⟩,q⟩:=q1
 subst e
 cases r1
 obtain ⟨its,rv,p,hz⟩:=I1.tuple hq
 refine wpAny_pyIter_tuple (show s1.heap.IsTuple a its.toArray from p) ?_
 refine ⟨s1.heap.objs.size,[s1.heap.objs.size],_,_,H1,rfl,I1.kept (t':=s1.toks) fun b o e=>Heap.get?_push_of_some _ e,zjB a _,⟨_,Heap.get?_push_size _ rfl,rfl,rfl⟩,fun b hb=>?_,q⟩
 have e:b = s1.heap.objs.size:=by simpa using hb
 subst e
 exact I1.fpOk (Nat.le_refl _) (I1.hok.fresh (Nat.le_refl _))
theorem zlw {pins:List (Addr × Obj)} {σ:St} {H:Hp} {s:Shared} {R:It->Hp->Prop} {E:Value->Shared->Prop} {lo hi:Int} {t u v:Tok} {tk:Nat} (I:Inv X pins σ H s) (h1:-(2 ^ 62)<=lo) (h2:lo < 2 ^ 62) (h3:-(2 ^ 62)<=hi) (h4:hi < 2 ^ 62)
  (q:R (Itr lo (hi - lo).toNat) H):wpAny (model X.prog X.w) X.A (pyIter (.ref s.heap.objs.size)) (PIE X pins σ tg R) E { s with heap:=s.heap.push { cls:=.type "range",data:=.fields #[.int lo t,.int hi u,.int 1 v] },toks:=tk }:=by
 refine wpAny_pyIter_range (IsRange.new ..) (small_one h1 h2 h3 h4) ?_
 have I1:Inv X pins σ H { s with heap:=s.heap.push { cls:=.type "range",data:=.fields #[.int lo t,.int hi u,.int 1 v] },toks:=tk }:=I.kept fun b o e=>Heap.get?_push_of_some _ e
 refine ⟨(s.heap.push { cls:=.type "range",data:=.fields #[.int lo t,.int hi u,.int 1 v] }).objs.size,[(s.heap.push { cls:=.type "range",data:=.fields #[.int lo t,.int hi u,.int 1 v] }).objs.size],_,_,H,rfl,
  I1.kept (t':=tk) fun b o e=>Heap.get?_push_of_some _ e,zjC _ lo (hi - lo).toNat,?_,fun b hb=>?_,q⟩
 ·have e1:lo + ((0:Nat):Int) * 1 = lo:=by simp
  have e2:(((hi - lo).toNat:Nat):Int) - ((0:Nat):Int) = Builtin.Range.rangeSize lo hi 1:=by rw [rangeSize_one];split <;> omega
  show IsRangeIter _ _ (lo + ((0:Nat):Int) * 1) ((((hi - lo).toNat:Nat):Int) - ((0:Nat):Int)) 1
  rw [e1,e2]
  exact Heap.get?_push_size _ rfl
 ·have e:b = (s.heap.push { cls:=.type "range",data:=.fields #[.int lo t,.int hi u,.int 1 v] }).objs.size:=by simpa using hb
  subst e
  exact I1.fpOk (Nat.le_refl _) (I1.hok.fresh (Nat.le_refl _))
noncomputable def zqh (ta:TA):TI:=fun σ H R=>ta σ H fun vs H1=>∃ j:Int,vs = [.int j]/\-(2 ^ 62)<=j/\j < 2 ^ 62/\R (Itr 0 j.toNat) H1
theorem zkC {a:Expr} {ta:TA} {p pos:Pos} (hg:Gl X "range") (hm:X.mg "range" = none) (ha:PA X [a] ta) (hs:starEach [a] X.env = [(false,eval a X.env)]:=by rfl):PI X tg (.Call (.Name "range" p) [a] [] pos) (zqh ta):=by
 intro pins s σ H R I h
 refine Call_ (zen I hg hm boot_range (PyProof.Rows.callWith_type1 (thn (ha pos pins s σ H _ I h) fun us s1 ⟨vs,H1,I1,r1,q1⟩=>?_) hs rfl))
 obtain ⟨j,e,q1,q2,q⟩:=q1
 subst e
 cases r1 with
 | cons r rr=>
  cases rr
  obtain ⟨t,rfl⟩:=r
  exact call_range_1 (zlw I1 (by omega) (by omega) q1 q2 (by simpa using q))
noncomputable def zqL (wi:TI) (g:TG) (tb:TS):TS:=fun D σ H=>wi σ H fun J H1=>∃ W:Nat->Nat->St->Hp->Prop,(∃ m,W 0 m σ H1)/\∀ i m σ H,W i m σ H->
 (J.stop i H/\D.nx σ H)\/(J.go i H/\∃ N:St->Hp->Prop,(∀ σ' H',N σ' H'->∃ m',m' < m/\W (i + 1) m' σ' H')/\∀ x H',J.yld i H x H'->g x σ H' fun σ2 H2=>tb { D with nx:=N,ct:=N,bk:=D.nx } σ2 H2)
noncomputable def zdz (fp:List Addr) (h:Heap):List (Addr × Obj):=fp.filterMap fun b=>(h.get? b).map fun o=>(b,o)
theorem za5 {fp:List Addr} {h:Heap} {b:Addr} {o:Obj} (hb:b ∈ fp) (e:h.get? b = some o):(b,o) ∈ zdz fp h:=List.mem_filterMap.mpr ⟨b,hb,by rw [e];rfl⟩
theorem zkG {fp:List Addr} {h:Heap} {p:Addr × Obj} (hp:p ∈ zdz fp h):p.1 ∈ fp/\h.get? p.1 = some p.2:=by
 obtain ⟨b,hb,e⟩:=List.mem_filterMap.mp hp
 cases q:h.get? b with
 | none=>rw [q] at e;cases e
 | some o=>
  rw [q] at e
  have e':(b,o) = p:=Option.some.inj e
  subst e'
  exact ⟨hb,q⟩
theorem Inv.pinned {pins:List (Addr × Obj)} {σ:St} {H:Hp} {s:Shared} {fp:List Addr} (I:Inv X pins σ H s) (hf:∀ b ∈ fp,zdu X pins H b) (ho:∀ b ∈ fp,∃ o,s.heap.get? b = some o/\∀ v,o.data ≠ .cell v):Inv X (pins ++ zdz fp s.heap) σ H s:=
 I.pins_of fun p hp=>(mem_append.mp hp).elim (fun z=>I.pin p (mem_append_right _ z)) fun z=>by
  obtain ⟨hb,e⟩:=zkG z
  obtain ⟨f0,f1,f2,_⟩:=hf p.1 hb
  obtain ⟨o,e',d⟩:=ho p.1 hb
  rw [e] at e';cases e'
  exact ⟨e,f0,f1,f2,d⟩
theorem Inv.unpinned {pins pl:List (Addr × Obj)} {σ:St} {H:Hp} {s:Shared} (I:Inv X (pins ++ pl) σ H s):Inv X pins σ H s:=I.pins_of fun p hp=>I.pin p (mem_append_right _ (mem_append_left _ hp))
theorem zof {iter:Expr} {body:List Stmt} {wi:TI} {g:TG} {tb:TS} {pos:Pos} (hp:PassesOwn (model X.prog X.w) X.A X.env X.xe) (hc:X.calm = true) (hi:PI X tg iter wi) (hg:PG X tg g) (hb:PSs X body tb)
  (hs:∀ x,foldedSetIterable iter X.env x = pure x:=by intro _;rfl):PS X (.For tg iter body [] pos) (zqL wi g tb):=by
 intro pins s σ H D I h
 refine wpAny_For (thn (hi pins s σ H _ I h) fun v s1 h1=>thn h1 fun itv s2 h2=>?_) hs
 obtain ⟨it,fp,tn,J,H2,e,I2,T,st2,f2,W,⟨m0,w0⟩,turn⟩:=h2
 subst e
 -- what stays true of the iterator's objects through the loop
 have stat:∀ {H':Hp},(∀ b ∈ fp,H' b = none)->∀ b ∈ fp,zdu X pins H' b:=fun hn b hb=>⟨hn b hb,(f2 b hb).2⟩
 refine codeAny_forLoop_any (fun n s'=>∃ i σ' H',Inv X pins σ' H' s'/\tn i s'.heap/\(∀ b ∈ fp,H' b = none)/\W i n σ' H') ?_ m0 ⟨0,σ,H2,I2,st2,fun b hb=>(f2 b hb).1,w0⟩
 rintro n s3 ⟨i,σ3,H3,I3,st3,fr3,w3⟩
 rcases turn i n σ3 H3 w3 with ⟨stop,qn⟩ | ⟨go,N,hN,step⟩
 ·refine wpAny_passesOwn hp (thn (T.done X rfl rfl rfl hc i pins s3 σ3 H3 X.xe I3 (stat fr3) st3 stop) fun r s4 ⟨hr,I4⟩=>?_)
  subst hr
  exact wpAny_execs_nil ⟨σ3,H3,I4,qn⟩
 ·refine wpAny_passesOwn hp (thn (T.item X rfl rfl rfl hc i pins s3 σ3 H3 X.xe I3 (stat fr3) st3 go) fun r s4 ⟨u,hr,h4⟩=>?_)
  subst hr
  refine wpAny_passesOwn hp (thn h4 fun _ s5 ⟨x,H5,I5,r5,y5,st5,fr5⟩=>?_)
  have I5':=I5.pinned (stat fr5) (T.obj _ _ st5)
  refine wpAny_passesOwn hp (thn (hg _ s5 σ3 H5 x u _ I5' r5 (step x H5 y5)) fun _ s6 ⟨σ6,H6,I6,q6⟩=>?_)
  refine wpAny_passesOwn hp (thn (hb _ s6 σ6 H6 _ I6 q6) fun f s7 q7=>?_)
  have again:∀ {σ7:St} {H7:Hp},Inv X (pins ++ zdz fp s5.heap) σ7 H7 s7->N σ7 H7->∃ m,m < n/\∃ i σ' H',Inv X pins σ' H' s7/\tn i s7.heap/\(∀ b ∈ fp,H' b = none)/\W i m σ' H':=fun {σ7 H7} I7 n7=>by
   obtain ⟨m',hm,w7⟩:=hN σ7 H7 n7
   refine ⟨m',hm,i + 1,σ7,H7,I7.unpinned,T.keep _ _ _ st5 fun b hb o e=>(I7.pin (b,o) (mem_append_right _ (mem_append_right _ (za5 hb e)))).1,fun b hb=>?_,w7⟩
   obtain ⟨o,e,d⟩:=T.obj _ _ st5 b hb
   exact (I7.pin (b,o) (mem_append_right _ (mem_append_right _ (za5 hb e)))).2.1
  cases f with
  | next=>obtain ⟨σ7,H7,I7,n7⟩:=q7;exact again I7 n7
  | cont=>obtain ⟨σ7,H7,I7,n7⟩:=q7;exact again I7 n7
  | brk=>obtain ⟨σ7,H7,I7,q7⟩:=q7;exact ⟨σ7,H7,I7.unpinned,q7⟩
  | ret v=>obtain ⟨x7,σ7,H7,I7,r7,q7⟩:=q7;exact ⟨x7,σ7,H7,I7.unpinned,r7,q7⟩
end
noncomputable abbrev R2:=V->V->Hp->VK->Prop
def OpR (X:Cx) (f:Value->Value->Sem Value) (r:R2):Prop:=
 ∀ (pins:List (Addr × Obj)) (s:Shared) (σ:St) (H:Hp) (x y:V) (v u:Value) (Q:VK),Inv X pins σ H s->RelV x v->RelV y u->r x y H Q->
  wpAny (model X.prog X.w) X.A (f v u) (EP X pins σ Q) X.xe s
def UnR (X:Cx) (f:Value->Sem Value) (r:V->Hp->VK->Prop):Prop:=
 ∀ (pins:List (Addr × Obj)) (s:Shared) (σ:St) (H:Hp) (x:V) (v:Value) (Q:VK),Inv X pins σ H s->RelV x v->r x H Q->
  wpAny (model X.prog X.w) X.A (f v) (EP X pins σ Q) X.xe s
def CallR (X:Cx) (f:Value) (r:List V->Hp->VK->Prop):Prop:=
 ∀ (pins:List (Addr × Obj)) (s:Shared) (σ:St) (H:Hp) (xs:List V) (us:List Value) (Q:VK),Inv X pins σ H s->Vals xs us->r xs H Q->
  wpAny (model X.prog X.w) X.A (call f us) (EP X pins σ Q) X.xe s
noncomputable def tOp (r:R2) (ta tb:TE):TE:=fun σ H Q=>ta σ H fun x H1=>tb σ H1 fun y H2=>r x y H2 Q
noncomputable def rI (C:Int->Int->Prop) (g:Int->Int->V):R2:=fun x y H Q=>∃ i j,x = .int i/\y = .int j/\C i j/\Q (g i j) H
noncomputable def rI0 (g:Int->Int->V):R2:=fun x y H Q=>∃ i j,x = .int i/\y = .int j/\Q (g i j) H
section
variable {X:Cx} {a b c:Expr} {ta tb tc:TE} {pos:Pos}
theorem zmf (ha:PE X a ta) (hb:PE X b tb) {pins:List (Addr × Obj)} {s:Shared} {σ:St} {H:Hp} {R:V->V->Hp->Prop} (I:Inv X pins σ H s)
  (h:ta σ H fun x H1=>tb σ H1 fun y H2=>R x y H2) {Q:Value->Shared->Prop} {f:Value->Value->Sem Value}
  (hf:∀ v u s2 x y H2,Inv X pins σ H2 s2->RelV x v->RelV y u->R x y H2->wpAny (model X.prog X.w) X.A (f v u) Q X.xe s2) :
  wpAny (model X.prog X.w) X.A (eval a X.env) (fun v s₁=>wpAny (model X.prog X.w) X.A (eval b X.env) (fun u s₂=>wpAny (model X.prog X.w) X.A (f v u) Q X.xe s₂) X.xe s₁) X.xe s:=by
 refine thn (ha pins s σ H _ I h) fun v s1 ⟨x,H1,I1,r1,q1⟩=>?_
 refine thn (hb pins s1 σ H1 _ I1 q1) fun u s2 ⟨y,H2,I2,r2,q2⟩=>?_
 exact hf v u s2 x y H2 I2 r1 r2 q2
theorem zp4 {op:Operator} {r:R2} (ho:OpR X (binaryOp op) r) (ha:PE X a ta) (hb:PE X b tb):PE X (.BinOp a op b pos) (tOp r ta tb):=by
 intro pins s σ H Q I h
 exact wpAny_BinOp (zmf ha hb I h fun v u s2 x y H2 I2 rx ry q=>ho pins s2 σ H2 x y v u Q I2 rx ry q)
theorem opI {f:Value->Value->Sem Value} {C:Int->Int->Prop} {g:Int->Int->Int}
  (rule:∀ (i j:Int) (t u:Tok) (s:Shared) (Q:Value->Shared->Prop) (E:Value->Shared->Prop),C i j->Q (.int (g i j) s.toks) { s with toks:=s.toks + 1 }->wpAny (model X.prog X.w) X.A (f (.int i t) (.int j u)) Q E s) :
  OpR X f (rI C fun i j=>.int (g i j)):=by
 intro pins s σ H x y v u Q I rx ry h
 obtain ⟨i,j,rfl,rfl,hc,q⟩:=h
 obtain ⟨t,rfl⟩:=rx
 obtain ⟨t',rfl⟩:=ry
 exact rule i j t t' s _ _ hc ⟨.int (g i j),H,I.tok _,⟨_,rfl⟩,q⟩
theorem zoC {f:Value->Value->Sem Value} {g:Int->Int->Int}
  (rule:∀ (i j:Int) (t u:Tok) (s:Shared) (Q:Value->Shared->Prop) (E:Value->Shared->Prop),Q (.int (g i j) s.toks) { s with toks:=s.toks + 1 }->wpAny (model X.prog X.w) X.A (f (.int i t) (.int j u)) Q E s) :
  OpR X f (rI0 fun i j=>.int (g i j)):=by
 intro pins s σ H x y v u Q I rx ry h
 obtain ⟨i,j,rfl,rfl,q⟩:=h
 obtain ⟨t,rfl⟩:=rx
 obtain ⟨t',rfl⟩:=ry
 exact rule i j t t' s _ _ ⟨.int (g i j),H,I.tok _,⟨_,rfl⟩,q⟩
theorem zjV {f:Value->Value->Sem Value} {g:Int->Int->Bool}
  (rule:∀ (i j:Int) (t u:Tok) (s:Shared) (Q:Value->Shared->Prop) (E:Value->Shared->Prop),Q (.bool (g i j)) s->wpAny (model X.prog X.w) X.A (f (.int i t) (.int j u)) Q E s) :
  OpR X f (rI0 fun i j=>.bl (g i j)):=by
 intro pins s σ H x y v u Q I rx ry h
 obtain ⟨i,j,rfl,rfl,q⟩:=h
 obtain ⟨t,rfl⟩:=rx
 obtain ⟨t',rfl⟩:=ry
 exact rule i j t t' s _ _ ⟨.bl (g i j),H,I,rfl,q⟩
def zri (i j:Int):Prop:=0<=j/\j<=1000000/\i.natAbs < 2 ^ 64
def CMul (i j:Int):Prop:=(-(2 ^ 64) < i/\i < 2 ^ 64)\/(-(2 ^ 64) < j/\j < 2 ^ 64)
theorem CMul.ok {i j:Int} (h:CMul i j):IntMulOk i j:=by
 rcases h with ⟨h1,h2⟩ | ⟨h1,h2⟩
 ·exact .of_left (intBits_le_64 h1 h2)
 ·exact .of_right (intBits_le_64 h1 h2)
theorem zoB:OpR X (binaryOp .Add) (rI0 fun i j=>.int (i + j)):=zoC fun _ _ _ _ _ _ _ q=>add_int q
theorem zov:OpR X (binaryOp .Sub) (rI0 fun i j=>.int (i - j)):=zoC fun _ _ _ _ _ _ _ q=>sub_int q
theorem zm2:OpR X (binaryOp .Mod) (rI (fun _ j=>j ≠ 0) fun i j=>.int (i.fmod j)):=opI fun _ _ _ _ _ _ _ hc q=>mod_int' hc q
theorem zow:OpR X (binaryOp .Pow) (rI zri fun i j=>.int (i ^ j.toNat)):=opI fun _ _ _ _ _ _ _ hc q=>pow_int_small hc.1 hc.2.1 hc.2.2 q
end
section
variable {X:Cx} {a b c:Expr} {ta tb tc:TE} {pos:Pos}
theorem zk1 {pins:List (Addr × Obj)} {σ:St} {H:Hp} {s:Shared} {Q:VK} {k k':Bool} (I:Inv X pins σ H s) (q:Q (.bl k) H) (e:k = k'):EP X pins σ Q (.bool k') s:=by
 subst e
 exact ⟨.bl k,H,I,rfl,q⟩
theorem zp7:OpR X (compareOp .Lt) (rI0 fun i j=>.bl (decide (i < j))):=zjV fun _ _ _ _ _ _ _ q=>lt_int q
theorem zp8:OpR X (compareOp .LtE) (rI0 fun i j=>.bl (decide (i<=j))):=zjV fun _ _ _ _ _ _ _ q=>le_int q
theorem zp9:OpR X (compareOp .Gt) (rI0 fun i j=>.bl (decide (j < i))):=zjV fun _ _ _ _ _ _ _ q=>gt_int q
theorem zqa:OpR X (compareOp .GtE) (rI0 fun i j=>.bl (decide (j<=i))):=zjV fun _ _ _ _ _ _ _ q=>ge_int q
theorem zox:OpR X (compareOp .Is) (fun x y H Q=>y = .non/\Q (.bl (decide (x = .non))) H):=by
 intro pins s σ H x y v u Q I rx ry h
 obtain ⟨rfl,q⟩:=h
 cases ry
 refine is_none_gen (zk1 I q ?_)
 cases x <;> first
  | (cases rx;rfl)
  | (obtain ⟨t,rfl⟩:=rx;rfl)
theorem zm0:OpR X (compareOp .IsNot) (fun x y H Q=>y = .non/\Q (.bl (!decide (x = .non))) H):=by
 intro pins s σ H x y v u Q I rx ry h
 obtain ⟨rfl,q⟩:=h
 cases ry
 refine isnot_none_gen (zk1 I q ?_)
 cases x <;> first
  | (cases rx;rfl)
  | (obtain ⟨t,rfl⟩:=rx;rfl)
theorem yn (b:Expr) {op:CmpOp} (h:op ≠ .In:=by decide) (h2:op ≠ .NotIn:=by decide):behindInMarks op b = false:=by
 have e1:(op == CmpOp.In) = false:=by cases op <;> first | rfl | exact absurd rfl h
 have e2:(op == CmpOp.NotIn) = false:=by cases op <;> first | rfl | exact absurd rfl h2
 cases b <;> simp [behindInMarks,e1,e2]
theorem zmV {op:CmpOp} {r:R2} (ho:OpR X (compareOp op) r) (ha:PE X a ta) (hb:PE X b tb) (hm:behindInMarks op b = false):PE X (.Compare a [op] [b] pos) (tOp r ta tb):=by
 intro pins s σ H Q I h
 exact wpAny_Compare1 (zmf ha hb I h fun v u s2 x y H2 I2 rx ry q=>ho pins s2 σ H2 x y v u Q I2 rx ry q) hm
noncomputable def zpH (t:TE):TT:=fun σ H Q=>t σ H fun x H'=>∃ k,x = .bl k/\Q k H'
theorem zmM {op:CmpOp} {r:R2} (ho:OpR X (compareOp op) r) (ha:PE X a ta) (hb:PE X b tb) (hm:behindInMarks op b = false):PT X (.Compare a [op] [b] pos) (zpH (tOp r ta tb)):=by
 intro pins s σ H Q I h
 refine wpAny_isTrue_Compare1 (thn (ha pins s σ H _ I h) fun v s1 ⟨x,H1,I1,r1,q1⟩=>thn (hb pins s1 σ H1 _ I1 q1) fun u s2 ⟨y,H2,I2,r2,q2⟩=>
  thn (ho pins s2 σ H2 x y v u _ I2 r1 r2 q2) fun c s3 ⟨z,H3,I3,r3,k,e,q3⟩=>?_) hm
 subst e
 cases r3
 exact wpAny_truthy_bool ⟨H3,I3,q3⟩
noncomputable def zkp (r r':R2) (ta tb tc:TE):TE:=fun σ H Q=>ta σ H fun x H1=>tb σ H1 fun y H2=>r x y H2 fun z H3=>∃ k,z = .bl k /\
 (if k = true then tc σ H3 fun w' H4=>r' y w' H4 Q else Q (.bl false) H3)
theorem zlE {op op':CmpOp} {r r':R2} (ho:OpR X (compareOp op) r) (ho':OpR X (compareOp op') r') (ha:PE X a ta) (hb:PE X b tb) (hc:PE X c tc)
  (hm:lastMarks [op,op'] [b,c] = false:=by with_unfolding_all rfl):PE X (.Compare a [op,op'] [b,c] pos) (zkp r r' ta tb tc):=by
 intro pins s σ H Q I h
 refine Compare_chain (thn (ha pins s σ H _ I h) fun v s1 ⟨x,H1,I1,r1,q1⟩=>chain_link (thn (hb pins s1 σ H1 _ I1 q1) fun u s2 ⟨y,H2,I2,r2,q2⟩=>
  thn (ho pins s2 σ H2 x y v u _ I2 r1 r2 q2) fun d s3 ⟨z,H3,I3,r3,k,e,q3⟩=>?_)) hm
 subst e
 cases r3
 refine wpAny_truthy_bool ?_
 cases k with
 | false=>exact ite_ff ⟨.bl false,H3,I3,rfl,q3⟩
 | true=>exact ite_tt (chain_last (thn (hc pins s3 σ H3 _ I3 q3) fun w' s4 ⟨z',H4,I4,r4,q4⟩=>ho' pins s4 σ H4 y z' u w' Q I4 r2 r4 q4))
theorem zcg:(sizeLine:Nat) < 2 ^ 63:=by rw [sizeLine_eq];decide
theorem zjU:OpR X (binaryOp .Add) (fun x y H Q=>∃ i j,x = .str i/\y = .str j/\i.length + j.length<=sizeLine/\Q (.str (i ++ j)) H):=by
 intro pins s σ H x y v u Q I rx ry h
 obtain ⟨i,j,rfl,rfl,hz,q⟩:=h
 obtain ⟨t,rfl⟩:=rx
 obtain ⟨t',rfl⟩:=ry
 exact add_str (fun t' tk=>⟨.str (i ++ j),H,I.tok _,⟨_,rfl⟩,q⟩) hz
theorem vals1 {x:V} {us:List Value} (r:Vals [x] us):∃ u,us = [u]/\RelV x u:=by
 cases r with
 | cons r1 r2=>cases r2;exact ⟨_,rfl,r1⟩
theorem vals2 {x y:V} {us:List Value} (r:Vals [x,y] us):∃ u w',us = [u,w']/\RelV x u/\RelV y w':=by
 cases r with
 | cons r1 r2=>
  cases r2 with
  | cons r3 r4=>cases r4;exact ⟨_,_,rfl,r1,r3⟩
theorem zle (hc:X.calm = true):CallR X (.builtin "max") (fun xs H Q=>∃ i j,xs = [.int i,.int j]/\Q (.int (if j > i then j else i)) H):=by
 intro pins s σ H xs us Q I r h
 obtain ⟨i,j,rfl,q⟩:=h
 obtain ⟨u,w',rfl,⟨t,rfl⟩,⟨t',rfl⟩⟩:=vals2 r
 refine max_two_ints (I.ok.hd hc) fun h' tk k=>⟨_,H,I.kept k,?_,q⟩
 by_cases hj:j > i
 ·rw [if_pos hj,if_pos hj];exact ⟨_,rfl⟩
 ·rw [if_neg hj,if_neg hj];exact ⟨_,rfl⟩
theorem zld (hc:X.calm = true):CallR X (.builtin "min") (fun xs H Q=>∃ i j,xs = [.int i,.int j]/\Q (.int (if j < i then j else i)) H):=by
 intro pins s σ H xs us Q I r h
 obtain ⟨i,j,rfl,q⟩:=h
 obtain ⟨u,w',rfl,⟨t,rfl⟩,⟨t',rfl⟩⟩:=vals2 r
 refine min_two_ints (I.ok.hd hc) fun h' tk k=>⟨_,H,I.kept k,?_,q⟩
 by_cases hj:j < i
 ·rw [if_pos hj,if_pos hj];exact ⟨_,rfl⟩
 ·rw [if_neg hj,if_neg hj];exact ⟨_,rfl⟩
end
structure ObjM (h:Heap) (x dx C:Addr) (mA:Str->Option Value):Prop where
 obj:h.get? x = some (PySem.W.instObj C dx)
 ns:h.Ns1 dx mA
 ne:dx ≠ x
theorem zkK {h:Heap} {dx:Addr} {mA:Str->Option Value} (n:h.Ns1 dx mA):∃ od,h.get? dx = some od/\∀ name,PySem.W.lookIn name od = some (mA name):=by
 obtain ⟨o,es,ep,ho,hd,hk,_,hm⟩:=n
 refine ⟨o,ho,fun name=>?_⟩
 have e:=hm name
 unfold nsFind findBy at e
 rw [← Array.find?_toList] at e
 unfold PySem.W.lookIn
 rw [hd]
 dsimp only
 split
 ·rename_i y q
  rw [q] at e
  exact congrArg some e
 ·rename_i q
  rw [q] at e
  have a:es.toList.any (·.refKey) = false:=by
   rw [List.any_eq_false]
   intro y hy
   obtain ⟨z,t,hkey⟩:=hk y (Array.mem_toList_iff.mp hy)
   simp [DictEntry.refKey,hkey]
  have a':¬ es.toList.any (·.refKey) = true:=by rw [a];exact Bool.false_ne_true
  rw [if_neg a']
  exact congrArg some e
theorem ObjM.look {h:Heap} {x dx C:Addr} {mA:Str->Option Value} (I:ObjM h x dx C mA):∃ od,PySem.W.InstAt h x (PySem.W.instObj C dx) C (some od)/\∀ name,PySem.W.lookIn name od = some (mA name):=
 let ⟨od,ho,hl⟩:=zkK I.ns
 ⟨od,⟨I.obj,rfl,rfl,ho⟩,hl⟩
section
variable {prog:Program} {w:World} {A:Around} {E:Value->Shared->Prop} {s:Shared} {K:Frag} {x dx C f:Addr} {mA:Str->Option Value} {name:Str} {v:Value}
theorem get_map {expr:Bool} {Q:Value->Shared->Prop} (X:K.In s.heap) (I:ObjM s.heap x dx C mA) (hg:PySem.W.plainGet K C name = true) (hh:PySem.W.hasDictIn K C = true)
  (ha:PySem.W.findIn K (.ref C) name = some none) (hv:mA name = some v) (hv':PySem.W.handedIn v = true) (h:Q v { s with toks:=s.toks + 1 }) :
  wpAny (model prog w) A (getAttr (.ref x) name expr) Q E s:=by
 obtain ⟨od,J,hl⟩:=I.look
 exact PySem.W.get_value X J (PySem.W.plainGet_of hg).1 (PySem.W.findObj_own hh ha rfl (by rw [hl,hv])) hv' h
theorem zmD {ns:List Str} {Q:Unit->Shared->Prop} (X:K.In s.heap) (I:ObjM s.heap x dx C mA)
  (hs:PySem.W.findIn K (.ref C) "__setattr__" = some (some (.builtin "object.__setattr__"))) (hp:PySem.W.plainOver K C = true) (ht:PySem.W.takerIn K C name = some none) (hh:PySem.W.hasDictIn K C = true)
  (hw:PySem.Within mA ns) (hsz:ns.length<=sizeLine)
  (h:∀ h',ObjM h' x dx C (fun y=>if y = name then some v else mA y)->Heap.SameBut dx s.heap h'->Q () { s with heap:=h',toks:=s.toks + 2 }) :
  wpAny (model prog w) A (setAttr (.ref x) name v) Q E s:=by
 obtain ⟨od,J,hl⟩:=I.look
 refine PySem.W.set_plain X J hs (PySem.W.osa_open (s:={ s with toks:=s.toks + 1 }) (r:=none) X J hp ht fun b=>?_)
 obtain ⟨cd,hc,hd'⟩:=PySem.W.any_some hh
 have hx:s.heap.get? x = some ⟨.ref C,some dx,.plain,#[]⟩:=I.obj
 refine wpAny_bind (wpAny_pure (wpAny_bind (wpAny_bind (wpAny_loadPart hx (wpAny_bind (PySem.W.Looks.here (s:={ s with toks:=s.toks + 1 }) (PySem.W.looks_clsIn X hc) ?_))))))
 rw [hd']
 refine wpAny_pure (a:=some dx) (wpAny_bind (wpAny_pure (wpAny_bind ?_)))
 refine wpAny_nsSet1 (s:={ s with toks:=s.toks + 1 }) I.ns fun h' hn2 hs2=>?_
 obtain ⟨oD,esD,epD,hoD,hdD,hcD⟩:=hn2.count (PySem.Within.cons name v hw)
 refine wpAny_bind (wpAny_lookBehind hoD (by rw [hdD];exact pastItsLine_dict (Nat.le_trans hcD (by rw [length_cons];omega))) ?_)
 exact wpAny_pure (h _ ⟨(hs2.2 _ (Ne.symm I.ne)).trans I.obj,hn2,I.ne⟩ hs2)
theorem zlN {R:Result->Shared->Prop} {vs:List Value} {kw:List (Str × Value)} (X:K.In s.heap) (hm:PySem.W.makesIn K C = true)
  (hi:PySem.W.findIn K (.ref C) "__init__" = some (some (.ref f))) (hf:PySem.W.typeIn K (.ref f) = some (.type "function"))
  (h:codeAny (model prog w) (A.under (.builtin "type.__call__" ⟨.ref C :: vs,kw⟩)) (.call (.ref f) ⟨.ref (s.heap.objs.size + 1) :: vs,kw⟩) (PySem.W.InitBack (s.heap.objs.size + 1) R)
   { s with heap:=(s.heap.push PySem.W.emptyDict).push (PySem.W.instObj C s.heap.objs.size) }) :
  codeAny (model prog w) A (.call (.ref C) ⟨vs,kw⟩) R s:=by
 obtain ⟨hh,g,d,t,os⟩:=s
 exact PySem.W.make_core (PySem.W.makes_of X hm) (PySem.W.looks_findIn X hi) (fun self=>PySem.W.bind_fn X self hf) (.inl rfl) h
end
noncomputable def yZ (f:Str) (v:V):List (Str × V)->List (Str × V)
 | []=>[(f,v)]
 | (g,x) :: r=>if g = f then (g,v) :: r else (g,x) :: yZ f v r
theorem zeW (f g:Str) (v:V):∀ fs:List (Str × V),(yZ f v fs).lookup g = if g = f then some v else fs.lookup g
 | []=>by
  show List.lookup g [(f,v)] = _
  by_cases h:g = f
  ·have hb:(g == f) = true:=beq_iff_eq.mpr h
   simp only [List.lookup,hb,if_pos h]
  ·have hb:(g == f) = false:=beq_eq_false_iff_ne.mpr h
   simp only [List.lookup,hb,if_neg h]
 | (k,x) :: r=>by
  have ih:=zeW f g v r
  rw [show yZ f v ((k,x) :: r) = (if k = f then (k,v) :: r else (k,x) :: yZ f v r) from rfl]
  by_cases hk:k = f
  ·rw [if_pos hk]
   by_cases h:g = k
   ·have hb:(g == k) = true:=beq_iff_eq.mpr h
    simp only [List.lookup,hb,if_pos (h.trans hk)]
   ·have hb:(g == k) = false:=beq_eq_false_iff_ne.mpr h
    simp only [List.lookup,hb,if_neg (fun e:g = f=>h (e.trans hk.symm))]
  ·rw [if_neg hk]
   by_cases h:g = k
   ·have hb:(g == k) = true:=beq_iff_eq.mpr h
    simp only [List.lookup,hb,if_neg (fun e:g = f=>hk (h.symm.trans e))]
   ·have hb:(g == k) = false:=beq_eq_false_iff_ne.mpr h
    simp only [List.lookup,hb]
    exact ih
theorem zeo (f:Str) (v:V):∀ fs:List (Str × V),f ∈ (yZ f v fs).map (·.1)/\∀ g,g ∈ fs.map (·.1)->g ∈ (yZ f v fs).map (·.1)
 | []=>⟨by simp [yZ],fun g h=>by simp at h⟩
 | (k,x) :: r=>by
  obtain ⟨i1,i2⟩:=zeo f v r
  rw [show yZ f v ((k,x) :: r) = (if k = f then (k,v) :: r else (k,x) :: yZ f v r) from rfl]
  by_cases hk:k = f
  ·rw [if_pos hk]
   subst hk
   exact ⟨by simp,fun g h=>by simpa using h⟩
  ·rw [if_neg hk]
   refine ⟨?_,fun g h=>?_⟩
   ·rw [map_cons]
    exact mem_cons_of_mem _ i1
   ·rw [map_cons] at h ⊢
    rcases mem_cons.mp h with e | e
    ·exact mem_cons.mpr (.inl e)
    ·exact mem_cons_of_mem _ (i2 g e)
theorem zeY (f:Str) (v:V):∀ fs:List (Str × V),(yZ f v fs).length<=fs.length + 1
 | []=>by simp [yZ]
 | (k,x) :: r=>by
  have ih:=zeY f v r
  rw [show yZ f v ((k,x) :: r) = (if k = f then (k,v) :: r else (k,x) :: yZ f v r) from rfl]
  by_cases hk:k = f
  ·rw [if_pos hk,length_cons,length_cons];omega
  ·rw [if_neg hk,length_cons,length_cons];omega
theorem RelO.some_of {v:V} {o:Option Value} (r:RelO (some v) o):∃ u,o = some u/\RelV v u:=by
 cases o with
 | none=>exact (show False from r).elim
 | some u=>exact ⟨u,rfl,r⟩
theorem zkU {v:V} {u:Value} (r:RelV v u):PySem.W.handedIn u = true:=by
 cases v with
 | non=>cases (show u = Value.none from r);rfl
 | bl b=>cases (show u = Value.bool b from r);rfl
 | int i=>obtain ⟨t,e⟩:=(show ∃ t,u = Value.int i t from r);cases e;rfl
 | str x=>obtain ⟨t,e⟩:=(show ∃ t,u = Value.str x t from r);cases e;rfl
 | byt b=>obtain ⟨t,e⟩:=(show ∃ t,u = Value.bytes b t from r);cases e;rfl
 | flt b=>obtain ⟨t,e⟩:=(show ∃ t,u = Value.float b t from r);cases e;rfl
 | ref a=>cases (show u = Value.ref a from r);rfl
 | ty n=>cases (show u = Value.type n from r);rfl
section
variable {P:Program} {w:World} {H H':Hp} {h h':Heap} {a C dx:Addr} {fs fs':List (Str × V)}
theorem zjg (hok:HOk P w H h) (e:H a = some (.ins C dx fs)):∃ mA,ObjM h a dx C mA/\(∀ f,RelO (fs.lookup f) (mA f))/\PySem.Within mA (fs.map (·.1))/\fs.length<=1000/\H dx = some (.own a):=by
 obtain ⟨d,z,ne,ob,mA,n,r,q⟩:=(show ObjOk P w H h a (.ins C dx fs) from hok a _ e)
 exact ⟨mA,⟨ob,n,ne⟩,r,q,z,d⟩
end
structure Cls (K:Frag) (C:Addr):Prop where
 pg:PySem.W.plainGet K C Str.empty = true
 hd:PySem.W.hasDictIn K C = true
 po:PySem.W.plainOver K C = true
 sa:PySem.W.findIn K (.ref C) "__setattr__" = some (some (.builtin "object.__setattr__"))
theorem Cls.get {K:Frag} {C:Addr} (c:Cls K C) (f:Str):PySem.W.plainGet K C f = true:=c.pg
def NoAttr (K:Frag) (C:Addr) (f:Str):Prop:=PySem.W.findIn K (.ref C) f = some none
theorem NoAttr.taker {K:Frag} {C:Addr} {f:Str} (n:NoAttr K C f):PySem.W.takerIn K C f = some none:=by
 unfold PySem.W.takerIn
 rw [show PySem.W.findIn K (.ref C) f = some none from n]
 rfl
structure Con (K:Frag) (C:Addr) (f:Str) (v:V) (u:Value):Prop where
 at_:PySem.W.findIn K (.ref C) f = some (some u)
 rel:RelV v u
 get:PySem.W.specialIn K u "__get__" = some none
 cp:PySem.W.copiedNames.contains f = false
structure Meth (K:Frag) (C:Addr) (m:Str) (f:Addr):Prop where
 at_:PySem.W.findIn K (.ref C) m = some (some (.ref f))
 fn:PySem.W.isFn K (.ref f) = true
 kp:PySem.W.keepIn K (.ref f) = true
section
variable {X:Cx} {pins:List (Addr × Obj)} {σ:St} {H:Hp} {s:Shared} {a C dx:Addr} {fs:List (Str × V)} {f:Str} {v:V} {A:Around} {E:Value->Shared->Prop}
theorem zfO {b:Bool} {Q:Value->Shared->Prop} (I:Inv X pins σ H s) (e:H a = some (.ins C dx fs)) (c:Cls X.K C) (n:NoAttr X.K C f) (l:fs.lookup f = some v)
  (h:∀ u s',Inv X pins σ H s'->RelV v u->Q u s'):wpAny (model X.prog X.w) A (getAttr (.ref a) f b) Q E s:=by
 obtain ⟨mA,O,r,_,_,_⟩:=zjg I.hok e
 obtain ⟨u,hu,ru⟩:=RelO.some_of (v:=v) (o:=mA f) (by rw [← l];exact r f)
 exact get_map I.kIn O (c.get f) c.hd n hu (zkU ru) (h u _ (I.tok _) ru)
theorem zfE {y:V} {u:Value} {Q:Unit->Shared->Prop} (I:Inv X pins σ H s) (e:H a = some (.ins C dx fs)) (c:Cls X.K C) (n:NoAttr X.K C f) (hl:fs.length < 1000) (ry:RelV y u)
  (h:∀ s',Inv X pins σ (upd H a (.ins C dx (yZ f y fs))) s'->Q () s'):wpAny (model X.prog X.w) A (setAttr (.ref a) f u) Q E s:=by
 obtain ⟨mA,O,r,wi,_,ho⟩:=zjg I.hok e
 have hz:(fs.map (·.1)).length<=sizeLine:=by rw [length_map,sizeLine_eq];omega
 refine zmD I.kIn O c.sa c.po n.taker c.hd wi hz fun h' O' sb=>h _ ?_
 have hd:∃ o,h'.get? dx = some o:=let ⟨o,_,_,e',_⟩:=O'.ns;⟨o,e'⟩
 refine I.write (x:=a) (e:=dx) (by rw [e];exact True.intro) (.inr ho) (fun b q hb z=>(sb.2 b hb).trans z) hd ?_
 refine ⟨by rw [yk O.ne];exact ho,?_,O.ne,O'.obj,_,O'.ns,fun g=>?_,fun g hg=>?_⟩
 ·have:=zeY f y fs;omega
 ·show RelO ((yZ f y fs).lookup g) (if g = f then some u else mA g)
  rw [zeW]
  by_cases q:g = f
  ·rw [if_pos q,if_pos q];exact ry
  ·rw [if_neg q,if_neg q];exact r g
 ·by_cases q:g = f
  ·rw [q];exact (zeo f y fs).1
  ·refine (zeo f y fs).2 g (wi g fun z=>hg ?_)
   show (if g = f then some u else mA g) = none
   rw [if_neg q];exact z
theorem Inv.made (I:Inv X pins σ H s):Inv X pins σ (upd (upd H s.heap.objs.size (.own (s.heap.objs.size + 1))) (s.heap.objs.size + 1) (.ins C s.heap.objs.size []))
  { s with heap:=(s.heap.push PySem.W.emptyDict).push (PySem.W.instObj C s.heap.objs.size) }:=by
 have e1:(s.heap.push PySem.W.emptyDict).get? s.heap.objs.size = some PySem.W.emptyDict:=Heap.get?_push_size s.heap rfl
 have e2:((s.heap.push PySem.W.emptyDict).push (PySem.W.instObj C s.heap.objs.size)).get? (s.heap.objs.size + 1) = some (PySem.W.instObj C s.heap.objs.size):=by
  have:=Heap.get?_push_size (s.heap.push PySem.W.emptyDict) (o:=PySem.W.instObj C s.heap.objs.size) rfl
  rwa [Heap.size_push] at this
 have e3:(s.heap.push PySem.W.emptyDict).Ns s.heap.objs.size (fun _=>none):=⟨PySem.W.emptyDict,#[],_,e1,rfl,(fun e he=>absurd he (by simp)),fun _=>rfl⟩
 have I1:=I.laid (a:=s.heap.objs.size) (o:=.own (s.heap.objs.size + 1)) (h':=s.heap.push PySem.W.emptyDict) (t':=s.toks) (fun b u q=>Heap.get?_push_of_some _ q) (Nat.le_refl _) ⟨_,e1⟩
 refine I1.laid (a:=s.heap.objs.size + 1) (o:=.ins C s.heap.objs.size []) (t':=s.toks) (fun b u q=>Heap.get?_push_of_some _ q) (Nat.le_of_eq (Heap.size_push _ _)) ?_
 have ne:s.heap.objs.size ≠ s.heap.objs.size + 1:=Nat.ne_of_lt (Nat.lt_succ_self _)
 refine ⟨by rw [yk ne,qA],Nat.zero_le _,ne,e2,fun _=>none,(Heap.Ns1.of_empty e3).at fun o q=>Heap.get?_push_of_some _ q,fun _=>True.intro,fun y hy=>absurd rfl hy⟩
theorem znP {prog:Program} {w:World} {env:Env} {e:Expr} {f:Str} {pos:Pos} {s:Shared} {Q:Value->Shared->Prop} (hb:attributeBase e f env (eval e env) = eval e env)
  (h:wpAny (model prog w) A (eval e env) (fun o s₁=>wpAny (model prog w) A (getAttr o f true) Q E s₁) E s):wpAny (model prog w) A (eval (.Attribute e f pos) env) Q E s:=
 Attribute_any_ h (by rw [arm_eval_Attribute,hb])
end
noncomputable def zqM (K:Frag) (ta:TE) (f:Str):TE:=fun σ H Q=>ta σ H fun x H1=>∃ a C dx fs v,x = .ref a/\H1 a = some (.ins C dx fs)/\Cls K C/\NoAttr K C f/\fs.lookup f = some v/\Q v H1
noncomputable def zqQ (K:Frag) (ta tv:TE) (f:Str):TS:=fun D σ H=>tv σ H fun y H1=>ta σ H1 fun x H2=>∃ a C dx fs,x = .ref a/\H2 a = some (.ins C dx fs)/\Cls K C/\NoAttr K C f/\fs.length < 1000 /\
 D.nx σ (upd H2 a (.ins C dx (yZ f y fs)))
def zpD (X:Cx) (op:Operator) (rd:V->V->Hp->VK->Prop):Prop:=
 ∀ (pins:List (Addr × Obj)) (s:Shared) (σ:St) (H:Hp) (x y:V) (u v:Value) (Q:VK),Inv X pins σ H s->RelV x u->RelV y v->rd x y H Q->wpAny (model X.prog X.w) X.A (inplaceOp op u v) (EP X pins σ Q) X.xe s
noncomputable def zmF (K:Frag) (ta tv:TE) (rd:V->V->Hp->VK->Prop) (f:Str):TS:=fun D σ H=>ta σ H fun x H1=>∃ a C dx fs v,x = .ref a/\H1 a = some (.ins C dx fs)/\Cls K C/\NoAttr K C f/\fs.lookup f = some v /\
 tv σ H1 fun y H2=>rd v y H2 fun z H3=>∃ dx' fs',H3 a = some (.ins C dx' fs')/\fs'.length < 1000/\D.nx σ (upd H3 a (.ins C dx' (yZ f z fs')))
section
variable {X:Cx} {o e value:Expr} {f:Str} {pos pos' tpos:Pos} {ta tv:TE}
theorem zor (he:PE X e ta) (hb:attributeBase e f X.env (eval e X.env) = eval e X.env):PE X (.Attribute e f pos) (zqM X.K ta f):=by
 intro pins s σ H Q I h
 refine znP hb (thn (he pins s σ H _ I h) fun u s1 ⟨x,H1,I1,rx,a,C,dx,fs,v,ex,ea,c,n,l,q⟩=>?_)
 subst ex
 obtain rfl:u = Value.ref a:=rx
 exact zfO I1 ea c n l fun u' s2 I2 ru=>⟨v,H1,I2,ru,q⟩
theorem zog (ha:PE X o ta) (hv:PE X value tv) (hs:swapsWith value (some (.Attribute o f pos')) pos.line X.env = pure false):PS X (.Assign [.Attribute o f pos'] value pos) (zqQ X.K ta tv f):=by
 intro pins s σ H D I h
 refine plainObj_wpAny_Assign_Attribute (thn (hv pins s σ H _ I h) fun u s1 ⟨y,H1,I1,ry,q⟩=>thn (ha pins s1 σ H1 _ I1 q) fun ov s2 ⟨x,H2,I2,rx,a,C,dx,fs,ex,ea,c,n,l,q2⟩=>?_) hs
 subst ex
 obtain rfl:ov = Value.ref a:=rx
 exact zfE I2 ea c n l ry fun s3 I3=>⟨σ,_,I3,q2⟩
theorem zkz {op:Operator} {rd:V->V->Hp->VK->Prop} (ha:PE X o ta) (hv:PE X value tv) (hop:zpD X op rd):PS X (.AugAssign (.Attribute o f tpos) op value pos) (zmF X.K ta tv rd f):=by
 intro pins s σ H D I h
 refine wpAny_AugAssign_AttributeAny (thn (ha pins s σ H _ I h) fun ov s1 ⟨x,H1,I1,rx,a,C,dx,fs,v,ex,ea,c,n,l,q⟩=>?_)
 subst ex
 obtain rfl:ov = Value.ref a:=rx
 refine zfO I1 ea c n l fun u s2 I2 ru=>thn (hv pins s2 σ H1 _ I2 q) fun w3 s3 ⟨y,H2,I3,ry,q3⟩=>thn (hop pins s3 σ H2 v y u w3 _ I3 ru ry q3) fun w4 s4 ⟨z,H3,I4,rz,dx',fs',ea',l',q4⟩=>?_
 exact zfE I4 ea' c n l' rz fun s5 I5=>⟨σ,_,I5,q4⟩
noncomputable def zqV:V->V->Hp->VK->Prop:=fun x y H Q=>∃ i j,x = .int i/\y = .int j/\Q (.int (i + j)) H
theorem zo0:zpD X .Add zqV:=by
 rintro pins s σ H x y u v Q I rx ry ⟨i,j,rfl,rfl,q⟩
 obtain ⟨t,rfl⟩:=(show ∃ t,u = Value.int i t from rx)
 obtain ⟨t',rfl⟩:=(show ∃ t',v = Value.int j t' from ry)
 exact PyProof.Rows.iadd_int ⟨.int (i + j),H,I.tok _,⟨_,rfl⟩,q⟩
end
section
variable {X:Cx} {pins:List (Addr × Obj)} {σ:St} {H:Hp} {s:Shared} {A:Around} {E:Value->Shared->Prop} {Q:Value->Shared->Prop} {c:Value} {b:Bool}
inductive TyOf (K:Frag) (H:Hp):V->Value->Prop where
 | non:TyOf K H .non (.type "NoneType")
 | bl (x:Bool):TyOf K H (.bl x) (.type "bool")
 | int (i:Int):TyOf K H (.int i) (.type "int")
 | str (x:Str):TyOf K H (.str x) (.type "str")
 | flt (x:UInt64):TyOf K H (.flt x) (.type "float")
 | lst {a:Addr} {xs:List V} (e:H a = some (.lst xs)):TyOf K H (.ref a) (.type "list")
 | frz {a:Addr} {o:Obj} {xs:List V} (e:H a = some (.frz o (.lst xs))):TyOf K H (.ref a) (.type "list")
 | tup {a:Addr} {xs:List V} (e:H a = some (.tup xs)):TyOf K H (.ref a) (.type "tuple")
 | dK {a:Addr} {kvs:List (Key × V)} (e:H a = some (.dK kvs)):TyOf K H (.ref a) (.type "dict")
 | dT {a:Addr} {kvs:List (List Key × V)} (e:H a = some (.dT kvs)):TyOf K H (.ref a) (.type "dict")
 | ins {a C dx:Addr} {fs:List (Str × V)} (e:H a = some (.ins C dx fs)) (cl:Cls K C) (ha:PySem.W.findIn K (.ref C) "__class__" = some (some (.builtin "object.__class__")))
   (hn:PySem.W.specialIn K (.builtin "object.__class__") "__get__" = some (some (.builtin "getset_descriptor.__get__"))) (htk:PySem.W.takesIn K (.builtin "object.__class__") = some true)
   (hm:PySem.W.mroIn K C (.type "object") = some true):TyOf K H (.ref a) (.ref C)
end
structure Room (k:Nat) (A:Around):Prop where
 hd:A.handled = none
 dp:A.depth + 3 * k + 5 < recursionLimit
 un:A.units + 16 * k + 200 < cLine
theorem Room.mono {j k:Nat} {A:Around} (r:Room k A) (h:j<=k):Room j A:=⟨r.hd,by have:=r.dp;omega,by have:=r.un;omega⟩
theorem Room.deeper {k:Nat} {A:Around} (r:Room (k + 1) A) (env:Env):Room k (A.deeper env):=
 ⟨r.hd,by have:=r.dp;show A.depth + 1 + 3 * k + 5 < _;omega,by have:=r.un;show A.units + 3 + 16 * k + 200 < _;omega⟩
theorem Room.in1 {k:Nat} {A:Around} (r:Room (k + 1) A):Room k A.in1:=
 ⟨r.hd,by have:=r.dp;show A.depth + 3 * k + 5 < _;omega,by have:=r.un;show A.units + 1 + 16 * k + 200 < _;omega⟩
theorem zjZ {A:Around} {C:Addr} {us:List Value} {kw:List (Str × Value)}:(A.under (.builtin "type.__call__" ⟨.ref C :: us,kw⟩)).depth = A.depth + 1:=by
 first | rfl | simp [Around.under,Code.weight,Code.isCreation,Code.isGuard,Code.isCaller,Code.frames,Code.isFrame,guardIds]
theorem zjY {A:Around} {C:Addr} {us:List Value} {kw:List (Str × Value)}:(A.under (.builtin "type.__call__" ⟨.ref C :: us,kw⟩)).units = A.units + 1:=by
 first | rfl | simp [Around.under,Code.cUnits,Code.frames,Code.isFrame]
theorem Room.make {k:Nat} {A:Around} (r:Room (k + 1) A) (C:Addr) (us:List Value) (kw:List (Str × Value)):Room k (A.under (.builtin "type.__call__" ⟨.ref C :: us,kw⟩)):=
 ⟨r.hd,by have:=r.dp;rw [zjZ];omega,by have:=r.un;rw [zjY];omega⟩
theorem Room.depth {k:Nat} {A:Around} (r:Room k A):A.depth < recursionLimit:=by have:=r.dp;omega
theorem Room.units {k:Nat} {A:Around} (r:Room k A):A.units + 64 < cLine:=by have:=r.un;omega
theorem Room.units0 {k:Nat} {A:Around} (r:Room k A):A.units < cLine:=by have:=r.un;omega
noncomputable def zqI:TA:=fun _ H Q=>Q [] H
noncomputable def zpN (ta:TE) (tr:TA):TA:=fun σ H Q=>ta σ H fun x H1=>tr σ H1 fun xs H2=>Q (x :: xs) H2
section
variable {X:Cx} {e:Expr} {es:List Expr} {te:TE} {t:TA} {pos:Pos}
theorem zou:PA X [] zqI:=fun _ _ _ _ H Q I h=>Calls.spliced_nil ⟨[],H,I,.nil,h⟩
theorem zmY (ha:PE X e te) (hr:PA X es t) (hs:starEach (e :: es) X.env = (false,eval e X.env) :: starEach es X.env:=by rfl):PA X (e :: es) (zpN te t):=by
 intro pos pins s σ H Q I h
 rw [hs]
 show wpAny _ _ (spliced ((false,eval e X.env) :: backTo pos (starEach es X.env))) _ _ s
 refine Calls.spliced_cons (thn (ha pins s σ H _ I h) fun u s1 ⟨x,H1,I1,r1,q1⟩=>?_)
 exact thn (hr pos pins s1 σ H1 _ I1 q1) fun us s2 ⟨xs,H2,I2,r2,q2⟩=>⟨x :: xs,H2,I2,.cons r1 r2,q2⟩
noncomputable def zqD (t:TA):TE:=fun σ H Q=>t σ H fun xs H1=>xs.length<=sizeLine/\∀ p,H1 p = none->Q (.ref p) (upd H1 p (.tup xs))
noncomputable def zqJ (t:TA):TE:=fun σ H Q=>t σ H fun xs H1=>xs.length<=sizeLine/\∀ p,H1 p = none->Q (.ref p) (upd H1 p (.lst xs))
theorem zol {x1} (h:PA X es t):PE X (.Tuple es x1 pos) (zqD t):=by
 intro pins s σ H Q I hq
 refine wpAny_Tuple_spliced (thn (h pos pins s σ H _ I hq) fun us s1 ⟨xs,H1,I1,r,z,q⟩=>⟨by rw [← r.length];exact z,?_⟩)
 have hf:H1 s1.heap.objs.size = none:=I1.hok.fresh (Nat.le_refl _)
 refine ⟨.ref s1.heap.objs.size,upd H1 s1.heap.objs.size (.tup xs),I1.laid (t':=s1.toks) (fun b u e=>Heap.get?_push_of_some _ e) (Nat.le_refl _) ?_,rfl,q _ hf⟩
 exact ⟨z,us,r,⟨_,Heap.get?_push_size _ rfl,rfl,_,rfl⟩,NoDict.new⟩
theorem zoq (h:PA X es t):PE X (.List es pos) (zqJ t):=by
 intro pins s σ H Q I hq
 refine wpAny_List_spliced (thn (h pos pins s σ H _ I hq) fun us s1 ⟨xs,H1,I1,r,z,q⟩=>⟨by rw [← r.length];exact z,?_⟩)
 have hf:H1 s1.heap.objs.size = none:=I1.hok.fresh (Nat.le_refl _)
 refine ⟨.ref s1.heap.objs.size,upd H1 s1.heap.objs.size (.lst xs),I1.laid (t':=s1.toks) (fun b u e=>Heap.get?_push_of_some _ e) (Nat.le_refl _) ?_,rfl,q _ hf⟩
 exact ⟨z,us,0,r,Heap.get?_push_size _ rfl⟩
end
noncomputable abbrev Sp:=List V->Hp->VK->XK->Prop
noncomputable abbrev CXT:=List Env->Hp->Shared->XK->Value->Shared->Prop
structure Env0 (P:Program) (w:World) (K:Frag) (mg:Str->Option Value) (base:Heap) (A:Around) (outer:List Env) (s:Shared) (H:Hp):Prop where
 frames:A.frames = some outer
 mod:Mod K mg base
 bs:∀ b o,base.get? b = some o->s.heap.get? b = some o/\H b = none
 bsz:base.objs.size<=s.heap.objs.size
 funs:s.heap.FunFrames base outer
 frf:∀ b ∈ frs outer,H b = none
 hok:HOk P w H s.heap
 bare:AllBare s.gens
def CE (outer:List Env) (P:Program) (w:World) (H:Hp) (s:Shared) (Q:VK) (u:Value) (s':Shared):Prop:=
 ∃ v H',s'.os = s.os/\AllBare s'.gens/\Un (frs outer) [] H H' s.heap s'.heap/\HOk P w H' s'.heap/\RelV v u/\Q v H'
def CR (CX:CXT) (outer:List Env) (P:Program) (w:World) (H:Hp) (s:Shared) (Q:VK) (E:XK) (r:Result) (s':Shared):Prop:=
 match r with
 | .ok (.ret u)=>CE outer P w H s Q u s'
 | .ok _=>False
 | .error e=>CX outer H s E e s'
structure FnOk (P:Program) (w:World) (K:Frag) (mg:Str->Option Value) (base:Heap) (CX:CXT) (k:Nat) (f:Addr) (fd:FuncData) (ps:List Str) (sp:Sp):Prop where
 len:∀ vs H Q E,sp vs H Q E->vs.length = ps.length
 run:∀ (A:Around) (outer:List Env) (s:Shared) (H:Hp) (args:Args) (us:List Value) (vs:List V) (Q:VK) (E:XK),Room k A->Env0 P w K mg base A outer s H->BindsTo s fd args (ps.zip us)->Vals vs us->sp vs H Q E->
  codeAny (model P w) A (.call (.ref f) args) (CR CX outer P w H s Q E) s
theorem FnOk.mono {P:Program} {w:World} {K:Frag} {mg:Str->Option Value} {base:Heap} {CX:CXT} {j k:Nat} {f:Addr} {fd:FuncData} {ps:List Str} {sp:Sp} (F:FnOk P w K mg base CX j f fd ps sp) (h:j<=k) :
  FnOk P w K mg base CX k f fd ps sp:=⟨F.len,fun A outer s H args us vs Q E hr=>F.run A outer s H args us vs Q E (hr.mono h)⟩
theorem Env0.make {P:Program} {w:World} {K:Frag} {mg:Str->Option Value} {base:Heap} {A:Around} {outer:List Env} {s:Shared} {H:Hp} (e:Env0 P w K mg base A outer s H) (C:Addr) (us:List Value) (kw:List (Str × Value)) :
  Env0 P w K mg base (A.under (.builtin "type.__call__" ⟨.ref C :: us,kw⟩)) outer s H:=⟨by first | exact e.frames | (simpa [Around.under,Code.envs,Code.isFrame,pushEnvs] using e.frames),e.mod,e.bs,e.bsz,e.funs,e.frf,e.hok,e.bare⟩
section
variable {X:Cx} {pins:List (Addr × Obj)} {σ:St} {H:Hp} {s s':Shared}
theorem Inv.env0 (I:Inv X pins σ H s):Env0 X.prog X.w X.K X.mg X.base X.A X.stack s H:=
 ⟨I.ok.frames,I.ok.mod,I.bs,Nat.le_trans I.ok.bsz I.sz,I.stack,I.stkFree,I.hok,I.bare⟩
theorem Inv.after {Q:VK} {u:Value} (I:Inv X pins σ H s) (h:CE X.stack X.prog X.w H s Q u s'):EP X pins σ Q u s':=by
 obtain ⟨v,H',os,bare,un,hok,r,q⟩:=h
 obtain ⟨hh,g,d,t,os'⟩:=s'
 obtain rfl:os' = s.os:=os
 exact ⟨v,H',I.call (h':=hh) (g':=g) (d':=d) (t':=t) (ch:=[]) un hok bare (fun b z=>absurd z (by simp)),r,q⟩
end
noncomputable def zmi (sp:Sp) (dvs:List V) (E:XK) (t:TA):TE:=fun σ H Q=>t σ H fun vs H1=>sp (vs ++ dvs) H1 Q E
noncomputable def zpL (C:Addr) (sp:Sp) (dvs:List V) (E:XK) (t:TA):TE:=fun σ H Q=>t σ H fun vs H1=>∀ x dx,H1 x = none->H1 dx = none->dx ≠ x->
 sp (.ref x :: (vs ++ dvs)) (upd (upd H1 dx (.own x)) x (.ins C dx [])) (fun v H2=>v = .non/\Q (.ref x) H2) E
def Binds (K:Frag) (fd:FuncData) (ps:List Str) (ds:List Value):Prop:=
 ∀ (s:Shared) (us:List Value),K.In s.heap->(us ++ ds).length = ps.length->BindsTo s fd ⟨us,[]⟩ (ps.zip (us ++ ds))
theorem Binds.all {K:Frag} {fd:FuncData} {ps:List Str} (h:∀ us:List Value,us.length = ps.length->bindArgs fd ⟨us,[]⟩ = pure (ps.zip us)):Binds K fd ps []:=fun s us _ hl=>by
 rw [append_nil] at hl ⊢
 exact .of_eq (h us hl)
def Passes (CX:CXT) (X:Cx) (E:XK):Prop:=∀ (pins:List (Addr × Obj)) (σ:St) (H:Hp) (s:Shared) (e:Value) (s':Shared),Inv X pins σ H s->CX X.stack H s E e s'->X.xe e s'
section
variable {X:Cx} {CX:CXT} {k:Nat} {f C:Addr} {fd:FuncData} {ps:List Str} {sp:Sp} {dvs:List V} {ds:List Value} {E:XK} {x m:Str} {p pos apos:Pos} {e o:Expr} {es:List Expr} {ta:TE} {t:TA}
theorem zn2 {pins:List (Addr × Obj)} {σ:St} {H:Hp} {s:Shared} {Q:VK} {us:List Value} {vs:List V} (F:FnOk X.prog X.w X.K X.mg X.base CX k f fd ps sp) (hr:Room k X.A) (hb:Binds X.K fd ps ds) (hd:Vals dvs ds) (hx:Passes CX X E)
  (I:Inv X pins σ H s) (r:Vals vs us) (h:sp (vs ++ dvs) H Q E):wpAny (model X.prog X.w) X.A (call (.ref f) us) (EP X pins σ Q) X.xe s:=by
 have r2:Vals (vs ++ dvs) (us ++ ds):=r.append hd
 have hl:(us ++ ds).length = ps.length:=by rw [← r2.length];exact F.len _ _ _ _ h
 refine wpAny_call (codeAny_mono (F.run X.A X.stack s H ⟨us,[]⟩ (us ++ ds) (vs ++ dvs) Q E hr I.env0 (hb s us I.kIn hl) r2 h) fun r s' hq=>?_)
 cases r with
 | error e=>exact hx pins σ H s e s' I hq
 | ok fl=>
  cases fl with
  | ret u=>exact I.after hq
  | next=>exact False.elim hq
  | brk=>exact False.elim hq
  | cont=>exact False.elim hq
theorem zmW (F:FnOk X.prog X.w X.K X.mg X.base CX k f fd ps sp) (hr:Room k X.A) (hg:Gl X x) (hm:X.mg x = some (.ref f)) (hk:PySem.W.keepIn X.K (.ref f) = true) (hb:Binds X.K fd ps ds) (hd:Vals dvs ds) (hx:Passes CX X E)
  (ha:PA X (e :: es) t) (hdb:(x == ("__debug__":Str)) = false:=by decide) (he:starEach (e :: es) X.env = (false,eval e X.env) :: starEach es X.env:=by rfl) (hpl:(backTo pos (starEach es X.env)).any (·.1) = false:=by rfl) :
  PE X (.Call (.Name x p) (e :: es) [] pos) (zmi sp dvs E t):=by
 intro pins s σ H Q I h
 refine wpAny_Call_Name_kw (zgr I hg hm ?_ hdb)
 refine PySem.W.callWith_K (h₀:=X.base) I.ok.mod.kin hk (thn (ha pos pins s σ H _ I h) fun us s1 ⟨vs,H1,I1,r,q⟩=>⟨I1.kIn,?_⟩) he hpl
 exact zn2 F hr hb hd hx I1 r q
structure Mk (K:Frag) (C f:Addr):Prop where
 makes:PySem.W.makesIn K C = true
 init:PySem.W.findIn K (.ref C) "__init__" = some (some (.ref f))
 fn:PySem.W.isFn K (.ref f) = true
 kp:PySem.W.keepIn K (.ref C) = true
theorem zls {pins:List (Addr × Obj)} {σ:St} {H:Hp} {s:Shared} {Q:VK} {us:List Value} {vs:List V} (M:Mk X.K C f) (F:FnOk X.prog X.w X.K X.mg X.base CX k f fd ps sp) (hr:Room (k + 1) X.A) (hb:Binds X.K fd ps ds) (hd:Vals dvs ds)
  (hx:Passes CX X E) (I:Inv X pins σ H s) (r:Vals vs us)
  (h:∀ x dx,H x = none->H dx = none->dx ≠ x->sp (.ref x :: (vs ++ dvs)) (upd (upd H dx (.own x)) x (.ins C dx [])) (fun v H2=>v = .non/\Q (.ref x) H2) E) :
  wpAny (model X.prog X.w) X.A (call (.ref C) us) (EP X pins σ Q) X.xe s:=by
 have hq:=h (s.heap.objs.size + 1) s.heap.objs.size (I.hok.fresh (Nat.le_succ _)) (I.hok.fresh (Nat.le_refl _)) (Nat.ne_of_lt (Nat.lt_succ_self _))
 have I2:=Inv.made (C:=C) I
 have r2:Vals (V.ref (s.heap.objs.size + 1) :: (vs ++ dvs)) (Value.ref (s.heap.objs.size + 1) :: (us ++ ds)):=.cons rfl (r.append hd)
 have hl:(Value.ref (s.heap.objs.size + 1) :: us ++ ds).length = ps.length:=by
  have e:=r2.length
  rw [F.len _ _ _ _ hq] at e
  exact e.symm
 refine wpAny_call (zlN (f:=f) I.kIn M.makes M.init (beq_iff_eq.mp M.fn) (codeAny_mono (F.run _ X.stack _ _ ⟨Value.ref (s.heap.objs.size + 1) :: us,[]⟩ (Value.ref (s.heap.objs.size + 1) :: (us ++ ds)) _ _ E (hr.make C us [])
  (I2.env0.make C us []) (hb _ (Value.ref (s.heap.objs.size + 1) :: us) I2.kIn hl) r2 hq) fun r s' hq'=>?_))
 cases r with
 | error e=>exact hx pins σ _ _ e s' I2 hq'
 | ok fl=>
  cases fl with
  | ret u=>
   obtain ⟨v,H',I3,rv,ev,q3⟩:=I2.after hq'
   subst ev
   exact ⟨rv,⟨V.ref (s.heap.objs.size + 1),H',I3,rfl,q3⟩⟩
  | next=>exact False.elim hq'
  | brk=>exact False.elim hq'
  | cont=>exact False.elim hq'
theorem zmT (M:Mk X.K C f) (F:FnOk X.prog X.w X.K X.mg X.base CX k f fd ps sp) (hr:Room (k + 1) X.A) (hg:Gl X x) (hm:X.mg x = some (.ref C)) (hb:Binds X.K fd ps ds) (hd:Vals dvs ds) (hx:Passes CX X E)
  (ha:PA X (e :: es) t) (hdb:(x == ("__debug__":Str)) = false:=by decide) (he:starEach (e :: es) X.env = (false,eval e X.env) :: starEach es X.env:=by rfl) (hpl:(backTo pos (starEach es X.env)).any (·.1) = false:=by rfl) :
  PE X (.Call (.Name x p) (e :: es) [] pos) (zpL C sp dvs E t):=by
 intro pins s σ H Q I h
 refine wpAny_Call_Name_kw (zgr I hg hm ?_ hdb)
 refine PySem.W.callWith_K (h₀:=X.base) I.ok.mod.kin M.kp (thn (ha pos pins s σ H _ I h) fun us s1 ⟨vs,H1,I1,r,q⟩=>⟨I1.kIn,?_⟩) he hpl
 exact zls M F hr hb hd hx I1 r q
end
section
variable {X:Cx} {CX:CXT} {k:Nat} {f C:Addr} {fd:FuncData} {ps ks:List Str} {sp:Sp} {E:XK} {x m:Str} {p pos apos kpos:Pos} {e o:Expr} {es:List Expr} {kws:List Keyword} {te ta:TE} {t tk:TA} {nm:Option Str}
structure KBinds (K:Frag) (fd:FuncData) (ps ks:List Str) (g:List Value->List Value->List Value) (gV:List V->List V->List V):Prop where
 to:∀ (s:Shared) (us ws:List Value),K.In s.heap->(g us ws).length = ps.length->BindsTo s fd ⟨us,ks.zip ws⟩ (ps.zip (g us ws))
 rel:∀ {vs:List V} {us:List Value} {zs:List V} {ws:List Value},Vals vs us->Vals zs ws->Vals (gV vs zs) (g us ws)
end
structure FnScope (N P:List Str) (sc:Scope):Prop where
 kind:sc.kind = .function
 co:sc.isCoroutine = false
 gen:sc.isGenerator = false
 nd:N.Nodup
 pre:N.take P.length = P
 par:∀ x ∈ P,sc.names.lookup x = some .local\/sc.names.lookup x = some .cell
 nofree:∀ y ∈ sc.names,y.2 ≠ .free
theorem zha {kindOf:Str->Option NameKind} {x:Str}:∀ {binds:List (Str × Value)} {m:Str->Option Value},(∀ v,(x,v) ∉ binds)->bindL kindOf binds m x = m x
 | [],_,_=>rfl
 | (n,v) :: r,m,h=>by
  unfold bindL
  rw [zha fun w hw=>h w (mem_cons_of_mem _ hw)]
  split
  ·have:x ≠ n:=by rintro rfl;exact h v mem_cons_self
   simp [this]
  ·rfl
theorem zhc {kindOf:Str->Option NameKind} {x:Str}:∀ {binds:List (Str × Value)} {m:Str->Option Value},(∀ v,(x,v) ∉ binds)->bindC kindOf binds m x = m x
 | [],_,_=>rfl
 | (n,v) :: r,m,h=>by
  unfold bindC
  rw [zhc fun w hw=>h w (mem_cons_of_mem _ hw)]
  split
  ·rfl
  ·have:x ≠ n:=by rintro rfl;exact h v mem_cons_self
   simp [this]
theorem zhb {kindOf:Str->Option NameKind} {x:Str} {v:Value}:∀ {P:List Str} {vs:List Value} {i:Nat} {m:Str->Option Value},P.Nodup->P[i]? = some x->vs[i]? = some v->kindOf x = some .local->
  bindL kindOf (P.zip vs) m x = some v
 | [],_,_,_,_,h,_,_=>by simp at h
 | _ :: _,[],_,_,_,_,h,_=>by simp at h
 | p :: P,w :: vs,0,m,nd,h1,h2,hk=>by
  simp at h1 h2;subst h1;subst h2
  show bindL kindOf ((p,w) :: P.zip vs) m p = _
  unfold bindL
  rw [zha fun v hv=>(nodup_cons.mp nd).1 (of_mem_zip hv).1,if_pos hk]
  simp
 | p :: P,w :: vs,i + 1,m,nd,h1,h2,hk=>by
  show bindL kindOf ((p,w) :: P.zip vs) m x = _
  unfold bindL
  exact zhb (i:=i) (nodup_cons.mp nd).2 (by simpa using h1) (by simpa using h2) hk
theorem zhd {kindOf:Str->Option NameKind} {x:Str} {v:Value}:∀ {P:List Str} {vs:List Value} {i:Nat} {m:Str->Option Value},P.Nodup->P[i]? = some x->vs[i]? = some v->kindOf x ≠ some .local->
  bindC kindOf (P.zip vs) m x = some v
 | [],_,_,_,_,h,_,_=>by simp at h
 | _ :: _,[],_,_,_,_,h,_=>by simp at h
 | p :: P,w :: vs,0,m,nd,h1,h2,hk=>by
  simp at h1 h2;subst h1;subst h2
  show bindC kindOf ((p,w) :: P.zip vs) m p = _
  unfold bindC
  rw [zhc fun v hv=>(nodup_cons.mp nd).1 (of_mem_zip hv).1,if_neg hk]
  simp
 | p :: P,w :: vs,i + 1,m,nd,h1,h2,hk=>by
  show bindC kindOf ((p,w) :: P.zip vs) m x = _
  unfold bindC
  exact zhd (i:=i) (nodup_cons.mp nd).2 (by simpa using h1) (by simpa using h2) hk
noncomputable def start (N:List Str) (vs:List V):St:=vs.map some ++ List.replicate (N.length - vs.length) none
noncomputable def zb1 (CX:CXT) (P:Program) (w:World) (K:Frag) (mg:Str->Option Value) (base:Heap) (N:List Str) (qual:Str) (scope:Scope) (f:Addr) (cd:Value) (A:Around) (outer:List Env) (s:Shared) (H:Hp) (E:XK):Cx where
 prog:=P
 w:=w
 K:=K
 mg:=mg
 base:=base
 A:=A.deeper (envOfC qual scope s.heap.objs.size f cd)
 N:=N
 s₀:=s
 H₀:=H
 env:=envOfC qual scope s.heap.objs.size f cd
 outer:=outer
 stack:=envOfC qual scope s.heap.objs.size f cd :: outer
 ex:=[]
 calm:=true
 fn:=fun _=>true
 pn:=[]
 xe:=fun e s'=>wpAny (model P w) (A.deeper (envOfC qual scope s.heap.objs.size f cd)) (leaving (envOfC qual scope s.heap.objs.size f cd) e) (fun _ s''=>CX outer H s E e s'') (fun e' s''=>CX outer H s E e' s'') s'
theorem zin {sc:Scope} {n:Nat} {x:Str} (h:sc.names.lookup x = some .cell):∃ c,(cellsFrom n sc.names []).lookup x = some c:=by
 have q:=PySem.W.cellsFrom_some sc.names n [] (.inl h)
 exact Option.isSome_iff_exists.mp q
theorem zkR {CX:CXT} {P:Program} {w:World} {K:Frag} {mg:Str->Option Value} {base:Heap} {N ps:List Str} {qual:Str} {scope:Scope} {f:Addr} {cd:Value} {A:Around} {outer:List Env} {s s1:Shared} {H:Hp} {E:XK} {us:List Value} {vs:List V}
  (S:FnScope N ps scope) (hd:A.handled = none) (e0:Env0 P w K mg base A outer s H) (hl:vs.length = ps.length) (r:Vals vs us)
  (x:InCallC s s.heap.objs.size (bindL (envOfC qual scope s.heap.objs.size f cd).kindOf (ps.zip us) fun _=>none) (cellsFrom (s.heap.objs.size + 1) scope.names []) (bindC (envOfC qual scope s.heap.objs.size f cd).kindOf (ps.zip us) fun _=>none) s1) :
  Inv (zb1 CX P w K mg base N qual scope f cd A outer s H E) [] (start N vs) H s1:=by
 have hpl:ps.length<=N.length:=by have:=congrArg List.length S.pre;rw [length_take] at this;omega
 obtain ⟨h1,tk,rfl,hk⟩:=x.done
 have noA:∀ b:Addr,b ∉ (zb1 CX P w K mg base N qual scope f cd A outer s H E).ex:=fun b z=>absurd (show b ∈ ([]:List Addr) from z) (by simp)
 refine ⟨⟨e0.mod,S.kind,rfl,rfl,Nat.le_refl _,fun y z c h1 h2=>?_,fun y hy=>?_,fun y c _ h=>?_,fun _=>hd,Around.frames_deeper e0.frames,.inr ⟨rfl,rfl⟩,fun b z=>absurd z (noA b),e0.bs,e0.bsz,fun b _ _=>noA b,fun b z=>absurd z (noA b),e0.funs,e0.frf⟩,
  rfl,e0.bare,Un.kept hk,⟨_,x.toInCall.ns,fun i y v h1 h2 h3=>?_⟩,fun y c h=>⟨_,x.cell y c h⟩,e0.hok.fresh (Nat.le_refl _),fun y c h=>?_,fun p hp=>absurd (show p ∈ ([]:List (Addr × Obj)) from hp) (by simp),e0.hok.kept hk,?_⟩
 ·exact name_of_addr x.apart (PySem.mem_of_lookup h1) (PySem.mem_of_lookup h2)
 ·have hy:scope.names.lookup y = some .cell\/scope.names.lookup y = some .free:=hy
  rcases hy with hy | hy
  ·exact zin hy
  ·exact absurd rfl (S.nofree _ (PySem.mem_of_lookup hy))
 ·exact Nat.le_of_lt (x.above y c (PySem.mem_of_lookup h))
 ·have hi:i < vs.length:=by
   unfold start at h2
   by_cases hi:i < vs.length
   ·exact hi
   ·rw [getElem?_append_right (by simpa using hi)] at h2
    rw [List.getElem?_replicate] at h2
    split at h2 <;> cases h2
  have ha:vs[i]? = some v:=by
   unfold start at h2
   rw [getElem?_append_left (by simpa using hi),getElem?_map] at h2
   cases e:vs[i]? with
   | none=>rw [e] at h2;cases h2
   | some a=>rw [e] at h2;cases h2;rfl
  obtain ⟨u,hu,rv⟩:=r.get ha
  have hp:ps[i]? = some y:=by
   rw [← S.pre,List.getElem?_take_of_lt (by omega)];exact h1
  have ndP:ps.Nodup:=by rw [← S.pre];exact S.nd.sublist (List.take_sublist _ _)
  refine ⟨u,rv,?_⟩
  rcases S.par y (mem_of_getElem? hp) with k | k
  ·exact .inl ⟨k,zhb ndP hp hu k⟩
  ·obtain ⟨c,e⟩:=zin (n:=s.heap.objs.size + 1) k
   refine .inr ⟨.inl k,c,e,?_⟩
   have q:=x.cell y c e
   rw [zhd ndP hp hu (by show scope.names.lookup y ≠ _;rw [k];decide)] at q
   exact q
 ·exact e0.hok.fresh (Nat.le_of_lt (x.above y c (PySem.mem_of_lookup h)))
 ·unfold start
  show _ = N.length
  rw [length_append,length_map,length_replicate]
  omega
theorem zqu {CX:CXT} {P:Program} {w:World} {K:Frag} {mg:Str->Option Value} {base:Heap} {k:Nat} {f:Addr} {name qual:Str} {params:Arguments} {body:List Stmt} {scope:Scope} {dV kV doc pm cdv ct oc:Value} {an od:Option Addr}
  {osl:Array (Option Value)} {N ps:List Str} {sp:Sp} (lk:K.lookup f = some ⟨oc,od,.func (PySem.W.fnOf name qual params body scope dV kV doc pm an cdv ct),osl⟩) (hcd:PySem.W.codeIn K cdv qual = true) (S:FnScope N ps scope)
  (len:∀ vs H Q E,sp vs H Q E->vs.length = ps.length)
  (hbody:∀ (A:Around) (outer:List Env) (s:Shared) (H:Hp) (vs:List V) (Q:VK) (E:XK),Room k (A.deeper (envOfC qual scope s.heap.objs.size f cdv))->sp vs H Q E->
   ∃ t,PSs (zb1 CX P w K mg base N qual scope f cdv A outer s H E) body t/\t { nx:=fun _ H'=>Q .non H',rt:=Q } (start N vs) H) :
  FnOk P w K mg base CX (k + 1) f (PySem.W.fnOf name qual params body scope dV kV doc pm an cdv ct) ps sp:=by
 refine ⟨len,fun A outer s H args us vs Q E hr e0 hb r hsp=>?_⟩
 have hl:=len _ _ _ _ hsp
 have KX:K.In s.heap:=e0.mod.kin.keeps fun b o e=>(e0.bs b o e).1
 have lim:s.heap.NoLimit:=e0.mod.nolimit.keeps fun b o e=>(e0.bs b o e).1
 have hkind:∀ y ∈ ps.zip us,scope.names.lookup y.1 = some .local\/(scope.names.lookup y.1 = some .cell/\((cellsFrom (s.heap.objs.size + 1) scope.names []).lookup y.1).isSome = true):=fun ⟨n,v⟩ hy=>by
  rcases S.par n (of_mem_zip hy).1 with q | q
  ·exact .inl q
  ·exact .inr ⟨q,PySem.W.cellsFrom_some _ _ _ (.inl q)⟩
 refine codeAny_call_function hr.depth (KX _ _ lk) rfl S.co S.gen rfl (PySem.W.codeRec_of KX hcd) (hb _ _ _ _ ?_)
 refine wpAny_newFunctionEnv_cells S.kind hkind fun env he s1 x=>?_
 subst he
 refine ⟨lim.keeps x.toInCall.keep,codeAny_func ?_⟩
 obtain ⟨t,ht,hq⟩:=hbody A outer s H vs Q E (hr.deeper _) hsp
 have I:Inv (zb1 CX P w K mg base N qual scope f cdv A outer s H E) [] (start N vs) H s1:=zkR S hr.hd e0 hl r x
 refine wpAny_mono (ht [] s1 (start N vs) H _ I hq) (fun fl s' hs=>?_) fun e s' hs=>hs
 have fin:∀ {σ':St} {H':Hp} {v:V} {u:Value},Inv (zb1 CX P w K mg base N qual scope f cdv A outer s H E) [] σ' H' s'->RelV v u->Q v H'->CE outer P w H s Q u s':=
  fun {σ' H' v u} J rv q=>⟨v,H',J.os,J.bare,J.base,J.hok,rv,q⟩
 cases fl with
 | ret u=>
  obtain ⟨v,σ',H',J,rv,q⟩:=hs
  exact fin J rv q
 | next=>
  obtain ⟨σ',H',J,q⟩:=hs
  exact fin (v:=V.non) (u:=Value.none) J rfl q
 | brk=>
  obtain ⟨_,_,_,q⟩:=hs
  exact False.elim q
 | cont=>
  obtain ⟨_,_,_,q⟩:=hs
  exact False.elim q
section
variable {X:Cx} {x:Str} {p pos:Pos} {e:Expr} {es:List Expr} {t:TA} {id T:String} {r:List V->Hp->VK->Prop}
noncomputable def tCB (r:List V->Hp->VK->Prop) (t:TA):TE:=fun σ H Q=>t σ H fun vs H1=>r vs H1 Q
theorem zlF (hc:CallR X (.builtin id) r) (hg:Gl X x) (hm:X.mg x = none) (hv:bootBuiltins x = some (.builtin id)) (ha:PA X (e :: es) t) (hn:x ≠ "__name__":=by decide) (hdb:(x == ("__debug__":Str)) = false:=by decide)
  (he:starEach (e :: es) X.env = (false,eval e X.env) :: starEach es X.env:=by rfl) (hpl:(backTo pos (starEach es X.env)).any (·.1) = false:=by rfl):PE X (.Call (.Name x p) (e :: es) [] pos) (tCB r t):=by
 intro pins s σ H Q I h
 refine wpAny_Call_Name_kw (zen I hg hm hv ?_ hn hdb)
 exact PyProof.Rows.callWith_builtin1 (thn (ha pos pins s σ H _ I h) fun us s1 ⟨vs,H1,I1,r1,q1⟩=>hc pins s1 σ H1 vs us Q I1 r1 q1) he hpl
theorem zgS (hc:CallR X (.type T) r) (hg:Gl X x) (hm:X.mg x = none) (hv:bootBuiltins x = some (.type T)) (ha:PA X (e :: es) t) (hn:x ≠ "__name__":=by decide) (hdb:(x == ("__debug__":Str)) = false:=by decide)
  (he:starEach (e :: es) X.env = (false,eval e X.env) :: starEach es X.env:=by rfl) (hpl:(backTo pos (starEach es X.env)).any (·.1) = false:=by rfl):PE X (.Call (.Name x p) (e :: es) [] pos) (tCB r t):=by
 intro pins s σ H Q I h
 refine wpAny_Call_Name_kw (zen I hg hm hv ?_ hn hdb)
 exact PyProof.Rows.callWith_type1 (thn (ha pos pins s σ H _ I h) fun us s1 ⟨vs,H1,I1,r1,q1⟩=>hc pins s1 σ H1 vs us Q I1 r1 q1) he hpl
end
end L2
namespace HT
open PySem PyProof.Rows
section
variable {prog:Program} {w:World} {A:Around} {E:Value->Shared->Prop} {s:Shared}
theorem znN {t b:Addr} {vs ws:List Value} {Q:Value->Shared->Prop} (ht:IsTup s.heap t vs.toArray) (hb:IsTup s.heap b ws.toArray) (hv:vs ≠ [])
  (h1:ws = []->Q (.ref t) s) (h2:ws ≠ []->Q (.ref s.heap.objs.size) { s with heap:=s.heap.push { cls:=.type "tuple",data:=.seq (vs ++ ws).toArray } })
  (hsz:vs.length + ws.length<=sizeLine):wpAny (model prog w) A (binaryOp .Add (.ref t) (.ref b)) Q E s:=by
 obtain ⟨⟨cls,dd,data,sl⟩,ho,hc,n,hd⟩:=id ht
 obtain ⟨⟨cls2,dd2,data2,sl2⟩,ho2,hc2,n2,hd2⟩:=id hb
 simp only at hc hd hc2 hd2
 subst hc hd hc2 hd2
 have e:vs.toArray ++ ws.toArray = (vs ++ ws).toArray:=by simp
 by_cases hw:ws = []
 ·exact concat_meets ⟨_,ho,rfl⟩ ⟨_,ho2,rfl⟩ noFill_tuple_add seq_tuple_add PySem.F.slot_tuple_add PySem.F.entry_tuple_add (PySem.F.args_tuple_add_2 _ _)
   (tuple_addW1 t b vs.toArray ws.toArray n n2 dd dd2 sl sl2 (by simpa using hv) (by simp [hw])) ⟨ho,ho2,h1 hw⟩
 ·refine concat_meets ⟨_,ho,rfl⟩ ⟨_,ho2,rfl⟩ noFill_tuple_add seq_tuple_add PySem.F.slot_tuple_add PySem.F.entry_tuple_add (PySem.F.args_tuple_add_2 _ _)
   (tuple_addW2 t b vs.toArray ws.toArray n n2 dd dd2 sl sl2 (by simpa using hv) (by simpa using hw) (by rw [size_toArray,size_toArray];exact hsz)) ⟨ho,ho2,?_⟩
  rw [e]
  exact h2 hw
noncomputable def sIx (n d:Nat):Option Int->Nat
 | none=>d
 | some v=>if v < 0 then (v + (n:Int)).toNat else min v.toNat n
theorem zlr (n d:Nat):sIx n d none = d:=rfl
theorem zgf (n d k:Nat):sIx n d (some (k:Int)) = min k n:=by
 show (if (k:Int) < 0 then ((k:Int) + (n:Int)).toNat else min (k:Int).toNat n) = min k n
 rw [if_neg (by omega),Int.toNat_natCast]
theorem zn1 (n d:Nat) (hd:d<=n) (o:Option Int):sIx n d o<=n:=by
 cases o with
 | none=>exact hd
 | some v=>
  show (if v < 0 then (v + (n:Int)).toNat else min v.toNat n)<=n
  by_cases hv:v < 0
  ·rw [if_pos hv];omega
  ·rw [if_neg hv];exact Nat.min_le_right _ _
theorem zju (v:Int) (n d:Nat):(if v < 0 then max (v + (n:Int)) 0 else min v (n:Int)) = ((sIx n d (some v):Nat):Int):=by
 show (if v < 0 then max (v + (n:Int)) 0 else min v (n:Int)) = (((if v < 0 then (v + (n:Int)).toNat else min v.toNat n):Nat):Int)
 by_cases hv:v < 0
 ·simp only [if_pos hv];omega
 ·simp only [if_neg hv];omega
theorem zkf (lo hi:Option Int) (n:Nat):Builtin.Slice.sliceAdjust lo hi 1 (n:Int) = (((sIx n 0 lo:Nat):Int),((sIx n n hi:Nat):Int)):=by
 have h1:¬ ((1:Int) < 0):=by omega
 unfold Builtin.Slice.sliceAdjust
 simp only [h1,if_false]
 refine Prod.ext ?_ ?_
 ·cases lo with
  | none=>rfl
  | some v=>exact zju v n 0
 ·cases hi with
  | none=>rfl
  | some v=>exact zju v n n
theorem zjT (i j:Nat):Builtin.Slice.slicePlaces (i:Int) (j:Int) 1 = j - i:=by
 unfold Builtin.Slice.slicePlaces
 have h1:(1:Int) > 0:=by omega
 simp only [h1,if_true,Int.ediv_one]
 split <;> omega
theorem zfD {v:Value} {o:Option Int} {Q:Option Int->Shared->Prop} (p:IsPart v o) (h:Q o s):wpAny (model prog w) A (Builtin.Slice.slicePartIndex v) Q E s:=by
 cases p with
 | none=>exact slicePart_none h
 | int i t=>exact slicePart_int h
theorem zcN {sl:Addr} {vl vu:Value} {lo hi:Option Int} {n:Nat} {Q:Int × Int × Nat->Shared->Prop} (hs:s.heap.IsSliceOf sl vl vu .none) (pl:IsPart vl lo) (pu:IsPart vu hi)
  (h:Q (((sIx n 0 lo:Nat):Int),1,sIx n n hi - sIx n 0 lo) s):wpAny (model prog w) A (Builtin.Slice.sliceApplied (.ref sl) (pure (n:Int))) Q E s:=by
 obtain ⟨os,hos,hcs,hds⟩:=id hs
 unfold Builtin.Slice.sliceApplied Builtin.Slice.sliceFields
 refine wpAny_bind (wpAny_bind (wpAny_field hos hds (x:=vl) rfl (wpAny_bind (wpAny_field hos hds (x:=vu) rfl (wpAny_bind (wpAny_field hos hds (x:=.none) rfl (wpAny_pure ?_)))))))
 refine wpAny_bind (slicePart_none ?_)
 show wpAny _ _ (if ((1:Int) == 0) = true then _ else _) _ _ s
 rw [if_neg (by decide)]
 refine wpAny_bind (zfD pl (wpAny_bind (zfD pu (wpAny_bind (wpAny_pure ?_)))))
 show wpAny _ _ (match Builtin.Slice.sliceAdjust lo hi 1 (n:Int) with | (lo,hi)=>pure (lo,(1:Int),Builtin.Slice.slicePlaces lo hi 1)) _ _ s
 rw [zkf lo hi n]
 show wpAny _ _ (pure (((sIx n 0 lo:Nat):Int),(1:Int),Builtin.Slice.slicePlaces ((sIx n 0 lo:Nat):Int) ((sIx n n hi:Nat):Int) 1)) _ _ s
 rw [zjT]
 exact wpAny_pure h
theorem zlz (xs:Array Value) (i k:Nat):((List.range k).filterMap fun (m:Nat)=>xs[((i:Int) + (m:Int) * 1).toNat]?).toArray = ((xs.toList.drop i).take k).toArray:=by
 have e:(fun (m:Nat)=>xs[((i:Int) + (m:Int) * 1).toNat]?) = fun m=>xs[i + m]?:=by
  funext m
  have:((i:Int) + (m:Int) * 1).toNat = i + m:=by omega
  rw [this]
 rw [e]
 have:=pick_run xs i k
 rw [List.filterMap_map] at this
 have e2:((fun x=>xs[x]?) ∘ fun x=>i + x) = fun m=>xs[i + m]?:=rfl
 rw [e2] at this
 rw [this]
theorem zeU {t sl:Addr} {items:Array Value} {vl vu:Value} {lo hi:Option Int} {Q:Value->Shared->Prop} (ht:IsTup s.heap t items) (hs:s.heap.IsSliceOf sl vl vu .none) (pl:IsPart vl lo) (pu:IsPart vu hi)
  (hw:¬ (sIx items.size 0 lo = 0/\sIx items.size items.size hi = items.size))
  (h:Q (.ref s.heap.objs.size) { s with heap:=s.heap.push { cls:=.type "tuple",data:=.seq ((items.toList.drop (sIx items.size 0 lo)).take (sIx items.size items.size hi - sIx items.size 0 lo)).toArray } })
  (hsz:items.size<=sizeLine):wpAny (model prog w) A (getItem (.ref t) (.ref sl)) Q E s:=by
 have htake:sizeOk (.seq ((items.toList.drop (sIx items.size 0 lo)).take (sIx items.size items.size hi - sIx items.size 0 lo)).toArray):=by
  show ((items.toList.drop (sIx items.size 0 lo)).take (sIx items.size items.size hi - sIx items.size 0 lo)).toArray.size<=sizeLine
  rw [size_toArray,length_take,length_drop,Array.length_toList]
  omega
 have hj:sIx items.size items.size hi<=items.size:=zn1 _ _ (Nat.le_refl _) hi
 obtain ⟨os,hos,hcs,hds⟩:=id hs
 have hTs:s.TypeIs (.ref sl) "slice":=⟨os,hos,hcs⟩
 unfold getItem
 try with_reducible refine wpAny_holding ?_
 first | refine wpAny_bind (wpAny_pure ?_) | skip
 refine wpAny_bind (wpAny_sequenceKey ht.typeIs (by decide) ?_)
 refine wpAny_bind (wpAny_callSpecial?_slot (name:=Str.ofString "__getitem__") ht.typeIs PyProof.Rows.slot_tuple_getitem
  (wpAny_call_entry PyProof.Rows.slot_tuple_getitem ht.typeIs entry_tuple_getitem ?_ (args_tuple_getitem _ _)))
 show wpAny _ _ (Builtin.Tuple.tupleItemsOf (.ref t) >>= _) _ _ s
 refine wpAny_bind (tupleItemsOf_ ht ?_)
 refine wpAny_bind (wpAny_typeOf hTs ?_)
 rw [if_pos (by decide)]
 refine wpAny_bind (zcN hs pl pu ?_)
 have hno:¬ ((((sIx items.size 0 lo:Nat):Int) == 0 && (1:Int) == 1 && (sIx items.size items.size hi - sIx items.size 0 lo) == items.size) = true):=by
  intro q
  rw [Bool.and_eq_true,Bool.and_eq_true] at q
  have q1:((sIx items.size 0 lo:Nat):Int) = 0:=eq_of_beq q.1.1
  have q2:sIx items.size items.size hi - sIx items.size 0 lo = items.size:=eq_of_beq q.2
  exact hw ⟨by omega,by omega⟩
 show wpAny _ _ (if (((sIx items.size 0 lo:Nat):Int) == 0 && (1:Int) == 1 && (sIx items.size items.size hi - sIx items.size 0 lo) == items.size) = true then _ else _) _ _ s
 rw [if_neg hno,zlz]
 first
  | exact wpAny_bind (m:=Builtin.Tuple.tupleExact _) (wpAny_newObj_type (wpAny_pure ⟨_,rfl,wpAny_pure h⟩) htake)
  | exact wpAny_bind (m:=Builtin.Tuple.tupleExact _) (wpAny_newObj_type (wpAny_bind (wpAny_pure (wpAny_pure ⟨_,rfl,wpAny_pure h⟩))) htake)
  | exact wpAny_bind (wpAny_bind (m:=Builtin.Tuple.tupleExact _) (wpAny_newObj_type (wpAny_pure (wpAny_pure ⟨_,rfl,wpAny_pure h⟩)) htake))
  | exact wpAny_bind (wpAny_bind (m:=Builtin.Tuple.tupleExact _) (wpAny_newObj_type (wpAny_pure ⟨_,rfl,wpAny_pure h⟩) htake))
end
end HT
namespace L2
open PySem PySem.Spec PyProof.Rows
noncomputable abbrev TO:=St->Hp->(Option Int->Hp->Prop)->Prop
def PO (X:Cx) (e:Option Expr) (t:TO):Prop:=
 ∀ (pins:List (Addr × Obj)) (s:Shared) (σ:St) (H:Hp) (Q:Option Int->Hp->Prop),Inv X pins σ H s->t σ H Q->
  wpAny (model X.prog X.w) X.A (evalPart e X.env) (fun u s'=>∃ o H',Inv X pins σ H' s'/\IsPart u o/\Q o H') X.xe s
noncomputable def zmz:TO:=fun _ H Q=>Q none H
noncomputable def zpI (t:TE):TO:=fun σ H Q=>t σ H fun x H1=>∃ i,x = .int i/\Q (some i) H1
section
variable {X:Cx} {e:Expr} {te:TE} {lo hi:Option Expr} {tl th:TO} {pos p2:Pos}
theorem zmR:PO X none zmz:=by
 intro pins s σ H Q I h
 rw [evalPart_none]
 exact wpAny_pure ⟨none,H,I,.none,h⟩
theorem zmQ (h:PE X e te):PO X (some e) (zpI te):=by
 intro pins s σ H Q I hw
 rw [evalPart_some]
 refine thn (h pins s σ H _ I hw) fun u s1 ⟨x,H1,I1,r1,q1⟩=>?_
 obtain ⟨i,rfl,q⟩:=q1
 obtain ⟨t,rfl⟩:=r1
 exact ⟨some i,H1,I1,.int i t,q⟩
def SlR (X:Cx) (r:V->Option Int->Option Int->Hp->VK->Prop):Prop:=
 ∀ (pins:List (Addr × Obj)) (s:Shared) (σ:St) (H:Hp) (x:V) (v vl vu:Value) (lo hi:Option Int) (sl:Addr) (Q:VK),Inv X pins σ H s->RelV x v->s.heap.IsSliceOf sl vl vu .none->IsPart vl lo->IsPart vu hi->r x lo hi H Q->
  ∃ T id,typeLookup (.type T) "__getitem__" = pure (some (.builtin id))/\s.TypeIs v T/\wpAny (model X.prog X.w) X.A (getItem v (.ref sl)) (EP X pins σ Q) X.xe s
noncomputable def tSl (r:V->Option Int->Option Int->Hp->VK->Prop) (te:TE) (tl th:TO):TE:=fun σ H Q=>te σ H fun x H1=>tl σ H1 fun l H2=>th σ H2 fun u H3=>r x l u H3 Q
theorem zlB {r:V->Option Int->Option Int->Hp->VK->Prop} (hr:SlR X r) (he:PE X e te) (hl:PO X lo tl) (hu:PO X hi th):PE X (.Subscript e (.Slice lo hi none p2) pos) (tSl r te tl th):=by
 intro pins s σ H Q I h
 refine Subscript_ (thn (he pins s σ H _ I h) fun v s1 ⟨x,H1,I1,r1,q1⟩=>?_)
 refine wpAny_Slice (thn (hl pins s1 σ H1 _ I1 q1) fun vl s2 ⟨l,H2,I2,pl,q2⟩=>thn (hu pins s2 σ H2 _ I2 q2) fun vu s3 ⟨u,H3,I3,pu,q3⟩=>?_)
 rw [evalPart_none]
 refine wpAny_pure ?_
 have I4:Inv X pins σ H3 { s3 with heap:=s3.heap.push { cls:=.type "slice",data:=.fields #[vl,vu,.none] } }:=I3.kept (t':=s3.toks) fun b ob q=>Heap.get?_push_of_some _ q
 obtain ⟨T,id,hT,ht,hg⟩:=hr pins { s3 with heap:=s3.heap.push { cls:=.type "slice",data:=.fields #[vl,vu,.none] } } σ H3 x v vl vu l u s3.heap.objs.size Q I4 r1 (Heap.IsSliceOf.new ..) pl pu q3
 show wpAny (model X.prog X.w) X.A (subscriptTail e (.Slice lo hi none p2) v (.ref s3.heap.objs.size)) (EP X pins σ Q) X.xe { s3 with heap:=s3.heap.push { cls:=.type "slice",data:=.fields #[vl,vu,.none] } }
 exact tail_any (ops:=[.ref s3.heap.objs.size,v]) ht hT hg (by with_unfolding_all rfl)
noncomputable def cutV (xs:List V) (lo hi:Option Int):List V:=(xs.drop (HT.sIx xs.length 0 lo)).take (HT.sIx xs.length xs.length hi - HT.sIx xs.length 0 lo)
theorem ze8 (xs:List V) (lo hi:Option Int):(cutV xs lo hi).length<=xs.length:=by
 unfold cutV
 rw [length_take,length_drop]
 omega
noncomputable def zqS (K:Frag):V->Option Int->Option Int->Hp->VK->Prop:=fun x lo hi H Q=>∃ a xs,x = .ref a/\SqT K H a xs /\
 ¬ (HT.sIx xs.length 0 lo = 0/\HT.sIx xs.length xs.length hi = xs.length)/\∀ p,H p = none->Q (.ref p) (upd H p (.tup (cutV xs lo hi)))
theorem znZ:SlR X (zqS X.K):=by
 intro pins s σ H x v vl vu lo hi sl Q I rx hs pl pu h
 obtain ⟨a,xs,rfl,hx,hw,q⟩:=h
 cases rx
 obtain ⟨its,r,ht,hz⟩:=I.tuple hx
 have hlen:its.toArray.size = xs.length:=by rw [size_toArray];exact r.length.symm
 refine ⟨"tuple",_,PyProof.Rows.slot_tuple_getitem.lookup,ht.typeIs,?_⟩
 refine HT.zeU ht hs pl pu (by rw [hlen];exact hw) ?_ (by rw [hlen];exact hz)
 rw [hlen]
 refine ⟨.ref s.heap.objs.size,_,I.laid (t':=s.toks) (o:=.tup (cutV xs lo hi)) (fun b ob q=>Heap.get?_push_of_some _ q) (Nat.le_refl _) ?_,rfl,q _ (I.hok.fresh (Nat.le_refl _))⟩
 exact ⟨Nat.le_trans (ze8 xs lo hi) hz,_,(r.drop (HT.sIx xs.length 0 lo)).take (HT.sIx xs.length xs.length hi - HT.sIx xs.length 0 lo),IsTup.new _ _,NoDict.new⟩
noncomputable def zpY (K:Frag):R2:=fun x y H Q=>∃ a b xs ys,x = .ref a/\y = .ref b/\SqT K H a xs/\SqT K H b ys/\xs ≠ []/\xs.length + ys.length<=sizeLine /\
 (ys = []->Q (.ref a) H)/\(ys ≠ []->∀ p,H p = none->Q (.ref p) (upd H p (.tup (xs ++ ys))))
theorem Vals.nil_iff {xs:List V} {us:List Value} (r:Vals xs us):us = [] ↔ xs = []:=by
 cases r with
 | nil=>simp
 | cons _ _=>simp
theorem zm3:OpR X (binaryOp .Add) (zpY X.K):=by
 intro pins s σ H x y v u Q I rx ry h
 obtain ⟨a,b,xs,ys,rfl,rfl,ha,hb,hx,hz,q1,q2⟩:=h
 cases rx
 cases ry
 obtain ⟨its,r1,p1,_⟩:=I.tuple ha
 obtain ⟨its2,r2,p2,_⟩:=I.tuple hb
 refine HT.znN p1 p2 (fun z=>hx (r1.nil_iff.mp z)) (fun z=>⟨.ref a,H,I,rfl,q1 (r2.nil_iff.mp z)⟩) (fun z=>?_) (by rw [← r1.length,← r2.length];exact hz)
 refine ⟨.ref s.heap.objs.size,_,I.laid (t':=s.toks) (o:=.tup (xs ++ ys)) (fun b ob q=>Heap.get?_push_of_some _ q) (Nat.le_refl _) ?_,rfl,q2 (fun w=>z (r2.nil_iff.mpr w)) _ (I.hok.fresh (Nat.le_refl _))⟩
 exact ⟨by rw [length_append];exact hz,_,r1.append r2,IsTup.new _ _,NoDict.new⟩
end
noncomputable def ixN (n:Nat) (i:Int):Option Nat:=if 0<=i then (if i < n then some i.toNat else none) else if -(n:Int)<=i then some (i + n).toNat else none
noncomputable def atI {α:Type} (xs:List α) (i:Int):Option α:=(ixN xs.length i).bind fun j=>xs[j]?
theorem zjf {n:Nat} {i:Int} {j:Nat} (h:ixN n i = some j):seqIndex? i n = some j/\j < n/\-(n:Int)<=i/\i < n:=by
 unfold ixN at h
 by_cases h0:0<=i
 ·rw [if_pos h0] at h
  by_cases h1:i < n
  ·rw [if_pos h1] at h
   have e:i.toNat = j:=Option.some.inj h
   exact ⟨by rw [seqIndex_of h0 h1,e],by omega,by omega,h1⟩
  ·rw [if_neg h1] at h;cases h
 ·rw [if_neg h0] at h
  by_cases h1:-(n:Int)<=i
  ·rw [if_pos h1] at h
   have e:(i + n).toNat = j:=Option.some.inj h
   exact ⟨by rw [seqIndex_neg (by omega) h1,e],by omega,h1,by omega⟩
  ·rw [if_neg h1] at h;cases h
theorem zeT {α:Type} {xs:List α} {i:Int} {v:α} (h:atI xs i = some v):∃ j,seqIndex? i xs.length = some j/\xs[j]? = some v/\j < xs.length/\-(xs.length:Int)<=i/\i < xs.length:=by
 unfold atI at h
 cases e:ixN xs.length i with
 | none=>rw [e] at h;cases h
 | some j=>
  rw [e] at h
  obtain ⟨h1,h2,h3,h4⟩:=zjf e
  exact ⟨j,h1,h,h2,h3,h4⟩
theorem za9 {α:Type} {xs:List α} {j:Nat} {v:α} (h:xs[j]? = some v):atI xs (j:Int) = some v:=by
 have hj:j < xs.length:=(List.getElem?_eq_some_iff.mp h).1
 have e:ixN xs.length (j:Int) = some j:=by
  unfold ixN
  rw [if_pos (by omega),if_pos (by omega)];simp
 unfold atI;rw [e];exact h
def zgL (b:Expr):Prop:=∀ o i,subscripted b false o i = operate [o,i] (getItem o i)
def IxR (X:Cx) (r:R2):Prop:=
 ∀ (value slice:Expr) (pins:List (Addr × Obj)) (s:Shared) (σ:St) (H:Hp) (x y:V) (v u:Value) (Q:VK),Inv X pins σ H s->RelV x v->RelV y u->r x y H Q->
  subscripted slice false v u = operate [v,u] (getItem v u)->wpAny (model X.prog X.w) X.A (subscriptTail value slice v u) (EP X pins σ Q) X.xe s
def MtR (X:Cx) (id:String) (r:V->List V->Hp->VK->Prop):Prop:=
 ∀ (pins:List (Addr × Obj)) (s:Shared) (σ:St) (H:Hp) (x:V) (xs:List V) (v:Value) (us:List Value) (Q:VK),Inv X pins σ H s->RelV x v->Vals xs us->r x xs H Q->
  wpAny (model X.prog X.w) X.A (call (.builtin id) (v :: us)) (EP X pins σ Q) X.xe s
section
variable {X:Cx} {a b:Expr} {ta tb:TE} {pos:Pos}
theorem IxR.or {r r':R2} (h:IxR X r) (h':IxR X r'):IxR X (fun x y H Q=>r x y H Q\/r' x y H Q):=by
 intro value slice pins s σ H x y v u Q I rx ry q hs
 rcases q with q | q
 ·exact h value slice pins s σ H x y v u Q I rx ry q hs
 ·exact h' value slice pins s σ H x y v u Q I rx ry q hs
theorem zp5 {r:R2} (hr:IxR X r) (ha:PE X a ta) (hb:PE X b tb) (hs:zgL b):PE X (.Subscript a b pos) (tOp r ta tb):=by
 intro pins s σ H Q I h
 exact Subscript_ (zmf ha hb I h fun v u s2 x y H2 I2 rx ry q=>hr a b pins s2 σ H2 x y v u Q I2 rx ry q (hs _ _))
noncomputable def zlx (K:Frag):R2:=fun x y H Q=>∃ p xs i v,x = .ref p/\y = .int i/\SqL K H p xs/\atI xs i = some v/\Q v H
noncomputable def zn5 (K:Frag):R2:=fun x y H Q=>∃ p xs i v,x = .ref p/\y = .int i/\SqT K H p xs/\atI xs i = some v/\Q v H
noncomputable def zn6:R2:=fun x y H Q=>∃ z i c,x = .str z/\y = .int i/\z.length<=sizeLine/\atI z.cps.toList i = some c/\Q (.str ⟨#[c]⟩) H
theorem znp:IxR X (zlx X.K):=by
 intro value slice pins s σ H x y v u Q I rx ry h hs
 obtain ⟨p,xs,i,z,rfl,rfl,hq,he,q⟩:=h
 cases rx
 obtain ⟨t,rfl⟩:=ry
 obtain ⟨its,r,pl,hz⟩:=I.list hq
 obtain ⟨j,h1,h2,h3,h4,h5⟩:=zeT he
 obtain ⟨w,ew,rw'⟩:=r.get h2
 have hl:=r.length
 have hn:=zcg
 have fin:EP X pins σ Q w s:=⟨z,H,I,rw',q⟩
 by_cases h0:0<=i
 ·have hj:i.toNat = j:=by
   rw [seqIndex_of h0 h5] at h1
   exact Option.some.inj h1
  exact item_listR pl.isList h0 (by omega) (by rw [hj];simpa using ew) fin hs
 ·have hj:(i + (its.toArray.size:Int)).toNat = j:=by
   rw [seqIndex_neg (by omega) h4] at h1
   rw [size_toArray,← hl]
   exact Option.some.inj h1
  exact subscriptTail_builtinR (x:=w) pl.isList.typeIs slot_list_getitem.lookup
   (wpAny_getItem_list_neg (Q:=fun r s'=>r = w/\EP X pins σ Q r s') pl.isList (by omega) (by rw [size_toArray] <;> omega) (by omega) (by rw [hj];simpa using ew) ⟨rfl,fin⟩) hs
theorem zoU:IxR X (zn5 X.K):=by
 intro value slice pins s σ H x y v u Q I rx ry h hs
 obtain ⟨p,xs,i,z,rfl,rfl,hq,he,q⟩:=h
 cases rx
 obtain ⟨t,rfl⟩:=ry
 obtain ⟨its,r,pl,hz⟩:=I.tuple hq
 obtain ⟨j,h1,h2,h3,h4,h5⟩:=zeT he
 obtain ⟨w,ew,rw'⟩:=r.get h2
 have hl:=r.length
 have hn:=zcg
 have fin:EP X pins σ Q w s:=⟨z,H,I,rw',q⟩
 exact subscriptTail_builtinR (x:=w) pl.typeIs slot_tuple_getitem.lookup
  (getItem_tuple (j:=j) (Q:=fun r s'=>r = w/\EP X pins σ Q r s') pl (by omega) (by omega) (by rw [size_toArray,← hl];exact h1) (by simpa using ew) ⟨rfl,fin⟩) hs
theorem zoV:IxR X zn6:=by
 intro value slice pins s σ H x y v u Q I rx ry h hs
 obtain ⟨z,i,c,rfl,rfl,hz,he,q⟩:=h
 obtain ⟨t,rfl⟩:=rx
 obtain ⟨t',rfl⟩:=ry
 obtain ⟨j,h1,h2,h3,h4,h5⟩:=zeT he
 have hl:z.cps.toList.length = z.length:=by simp [Str.length]
 rw [hl] at h1 h4 h5
 have hn:=zcg
 exact tail_any (typeIs_str s z t) slot_str_getitem.lookup (getItem_str (c:=c) (by
  have e1:decide (i < -(2 ^ 63:Int)) = false:=decide_eq_false (by omega)
  have e2:decide (i ≥ 2 ^ 63) = false:=decide_eq_false (by omega)
  rw [e1,e2,Bool.or_false]) (by rw [h1];simpa using h2) ⟨.str ⟨#[c]⟩,H,I.tok _,⟨_,rfl⟩,q⟩) hs
noncomputable def rIx (K:Frag):R2:=fun x y H Q=>zlx K x y H Q\/zn5 K x y H Q\/zn6 x y H Q
theorem zoW:IxR X (rIx X.K):=znp.or (zoU.or zoV)
theorem zjW (its:List Value) (n j:Nat) (u:Value):Obj.mapSeq (·.setIfInBounds j u) { cls:=.type "list",data:=.seq its.toArray n } = { cls:=.type "list",data:=.seq (its.set j u).toArray n }:=by
 simp [Obj.mapSeq]
theorem Inv.lst {pins:List (Addr × Obj)} {σ:St} {H:Hp} {s:Shared} {p:Addr} {xs:List V} (I:Inv X pins σ H s) (h:H p = some (.lst xs)) :
  ∃ (its:List Value) (n:Nat),Vals xs its/\s.heap.get? p = some { cls:=.type "list",data:=.seq its.toArray n }/\xs.length<=sizeLine:=by
 obtain ⟨z,its,n,r,e⟩:=I.hok p _ h
 exact ⟨its,n,r,e,z⟩
theorem Inv.lstUpd {pins:List (Addr × Obj)} {σ:St} {H:Hp} {s:Shared} {p:Addr} {xs ys:List V} {its its':List Value} {n n':Nat} {f:Obj->Obj} (I:Inv X pins σ H s) (h:H p = some (.lst xs))
  (ho:s.heap.get? p = some { cls:=.type "list",data:=.seq its.toArray n }) (hf:f { cls:=.type "list",data:=.seq its.toArray n } = { cls:=.type "list",data:=.seq its'.toArray n' }) (r:Vals ys its') (hz:ys.length<=sizeLine) (t:Nat) :
  Inv X pins σ (upd H p (.lst ys)) { s with heap:=s.heap.update p f,toks:=t }:=by
 have e:(s.heap.update p f).get? p = some { cls:=.type "list",data:=.seq its'.toArray n' }:=by
  rw [Heap.get?_update_self f ho (by rw [hf] <;> rfl),hf]
 refine I.write (x:=p) (e:=p) (by rw [h];trivial) (.inl rfl) (fun b u hb q=>(Heap.get?_update_other _ _ (Ne.symm hb)).trans q) ⟨_,e⟩ ?_
 exact ⟨hz,its',n',r,e⟩
noncomputable def zpV:V->V->V->Hp->(Hp->Prop)->Prop:=fun o i v H Q=>∃ p xs k j,o = .ref p/\i = .int k/\H p = some (.lst xs)/\ixN xs.length k = some j/\Q (upd H p (.lst (xs.set j v)))
theorem set_list:zd2 X zpV:=by
 intro pins s σ H o i v ov iv u Q I ro ri rv h
 obtain ⟨p,xs,k,j,rfl,rfl,hp,hj,q⟩:=h
 cases ro
 obtain ⟨t,rfl⟩:=ri
 obtain ⟨its,n,r,ho,hz⟩:=I.lst hp
 obtain ⟨h1,h2,h3,h4⟩:=zjf hj
 have hl:=r.length
 have hn:=zcg
 have I':Inv X pins σ (upd H p (.lst (xs.set j v))) { s with heap:=s.heap.update p (Obj.mapSeq (·.setIfInBounds j u)) }:=
  I.lstUpd hp ho (zjW its n j u) (r.set rv j) (by rw [length_set];exact hz) s.toks
 by_cases h0:0<=k
 ·have hk:k.toNat = j:=by
   rw [seqIndex_of h0 h4] at h1
   exact Option.some.inj h1
  exact PySem.W.ki_setAt ho h0 (by omega) (by rw [size_toArray,← hl];exact h4) (by rw [hk];exact ⟨_,I',q⟩)
 ·have hk:(k + (its.toArray.size:Int)).toNat = j:=by
   rw [seqIndex_neg (by omega) h3] at h1
   rw [size_toArray,← hl]
   exact Option.some.inj h1
  exact PySem.W.ki_setBack ho (by omega) (by rw [size_toArray,← hl];exact h3) (by omega) (by rw [hk];exact ⟨_,I',q⟩)
theorem zhH (lo hi:Option Int) (n:Nat):(sliceBounds lo hi none n).1 = ((HT.sIx n 0 lo:Nat):Int)/\(sliceBounds lo hi none n).2.1 = ((HT.sIx n n hi:Nat):Int)/\(sliceBounds lo hi none n).2.2 = 1:=by
 refine ⟨?_,?_,rfl⟩
 ·cases lo with
  | none=>simp [sliceBounds,HT.sIx]
  | some i=>
   simp only [sliceBounds,HT.sIx,Option.getD_none,show (1:Int) > 0 by decide,if_true]
   by_cases h:i < 0
   ·simp only [h,if_true] <;> omega
   ·simp only [h,if_false] <;> omega
 ·cases hi with
  | none=>simp [sliceBounds,HT.sIx]
  | some i=>
   simp only [sliceBounds,HT.sIx,Option.getD_none,show (1:Int) > 0 by decide,if_true]
   by_cases h:i < 0
   ·simp only [h,if_true] <;> omega
   ·simp only [h,if_false] <;> omega
theorem zhg (its:List Value) (lo hi:Option Int):slicePick its.toArray lo hi none = ((its.drop (HT.sIx its.length 0 lo)).take (HT.sIx its.length its.length hi - HT.sIx its.length 0 lo)).toArray:=by
 obtain ⟨h1,h2,h3⟩:=zhH lo hi its.toArray.size
 unfold slicePick
 rw [h1,h2,h3]
 simp only [sliceRange_one,pick_run,size_toArray] <;> rfl
noncomputable def zqT (K:Frag):V->Option Int->Option Int->Hp->VK->Prop:=fun x lo hi H Q=>∃ a xs,x = .ref a/\SqL K H a xs/\∀ p,H p = none->Q (.ref p) (upd H p (.lst (cutV xs lo hi)))
theorem zmC:SlR X (zqT X.K):=by
 intro pins s σ H x v vl vu lo hi sl Q I rx hs pl pu h
 obtain ⟨a,xs,rfl,hx,q⟩:=h
 cases rx
 obtain ⟨its,r,ht,hz⟩:=I.list hx
 have hlen:=r.length
 refine ⟨"list",_,slot_list_getitem.lookup,ht.isList.typeIs,?_⟩
 refine wpAny_getItem_list_slice ht.isList hs pl pu .none (by simp) ?_ (by rw [size_toArray] <;> omega)
 rw [zhg,← hlen]
 refine ⟨.ref s.heap.objs.size,_,I.laid (t':=s.toks) (o:=.lst (cutV xs lo hi)) (fun b ob q=>Heap.get?_push_of_some _ q) (Nat.le_refl _) ?_,rfl,q _ (I.hok.fresh (Nat.le_refl _))⟩
 exact ⟨Nat.le_trans (ze8 xs lo hi) hz,_,0,(r.drop (HT.sIx xs.length 0 lo)).take (HT.sIx xs.length xs.length hi - HT.sIx xs.length 0 lo),Heap.get?_push_size _ rfl⟩
noncomputable def zap:V->Bool
 | .non=>true
 | .bl _=>true
 | .int _=>true
 | .str _=>true
 | _=>false
noncomputable def eqV:V->V->Bool
 | .non,.non=>true
 | .bl a,.bl b=>a == b
 | .bl a,.int b=>(if a then 1 else 0) == b
 | .int a,.bl b=>a == (if b then 1 else 0)
 | .int a,.int b=>a == b
 | .str a,.str b=>a == b
 | _,_=>false
theorem zie {A:Around} {s:Shared} {y x:V} {u v:Value} (ry:RelV y u) (rx:RelV x v) (fy:zap y = true) (fx:zap x = true):SeqAt.EqAt A s u v (eqV y x):=by
 cases y with
 | non=>
  cases ry
  cases x with
  | non=>cases rx;exact SeqAt.EqAt.same _
  | bl b=>cases rx;exact SeqAt.EqAt.none_bool b
  | int b=>obtain ⟨t,rfl⟩:=rx;exact SeqAt.EqAt.none_int b t
  | str b=>obtain ⟨t,rfl⟩:=rx;exact SeqAt.EqAt.none_str b t
  | _=>exact absurd (show false = true from fx) Bool.false_ne_true
 | bl a=>
  cases ry
  cases x with
  | non=>cases rx;exact SeqAt.EqAt.bool_none a
  | bl b=>cases rx;exact SeqAt.EqAt.bool_bool a b
  | int b=>obtain ⟨t,rfl⟩:=rx;exact SeqAt.EqAt.bool_int a b t
  | str b=>obtain ⟨t,rfl⟩:=rx;exact SeqAt.EqAt.bool_str a b t
  | _=>exact absurd (show false = true from fx) Bool.false_ne_true
 | int a=>
  obtain ⟨t',rfl⟩:=ry
  cases x with
  | non=>cases rx;exact SeqAt.EqAt.int_none a t'
  | bl b=>cases rx;exact SeqAt.EqAt.int_bool a t' b
  | int b=>obtain ⟨t,rfl⟩:=rx;exact SeqAt.EqAt.int_int a t' b t
  | str b=>obtain ⟨t,rfl⟩:=rx;exact SeqAt.EqAt.int_str a t' b t
  | _=>exact absurd (show false = true from fx) Bool.false_ne_true
 | str a=>
  obtain ⟨t',rfl⟩:=ry
  cases x with
  | non=>cases rx;exact SeqAt.EqAt.str_none a t'
  | bl b=>cases rx;exact SeqAt.EqAt.str_bool a t' b
  | int b=>obtain ⟨t,rfl⟩:=rx;exact SeqAt.EqAt.str_int a t' b t
  | str b=>obtain ⟨t,rfl⟩:=rx;exact SeqAt.EqAt.str_str a t' b t
  | _=>exact absurd (show false = true from fx) Bool.false_ne_true
 | _=>exact absurd (show false = true from fy) Bool.false_ne_true
noncomputable def eqU (x:V) (u:Value):Bool:=match u with
 | .none=>eqV .non x
 | .bool b=>eqV (.bl b) x
 | .int i _=>eqV (.int i) x
 | .str z _=>eqV (.str z) x
 | _=>false
theorem zid {x y:V} {u:Value} (r:RelV y u) (f:zap y = true):eqU x u = eqV y x:=by
 cases y with
 | non=>cases r;rfl
 | bl b=>cases r;rfl
 | int i=>obtain ⟨t,rfl⟩:=r;rfl
 | str z=>obtain ⟨t,rfl⟩:=r;rfl
 | _=>exact absurd (show false = true from f) Bool.false_ne_true
theorem zgJ {x:V}:∀ {xs:List V} {us:List Value},Vals xs us->xs.all zap = true->us.any (eqU x) = xs.any fun y=>eqV y x
 | _,_,.nil,_=>rfl
 | y :: xs,u :: us,.cons r t,f=>by
  rw [all_cons,Bool.and_eq_true] at f
  rw [any_cons,any_cons,zid r f.1,zgJ t f.2]
theorem zdT {A:Around} {s:Shared} {x:V} {v:Value} (rx:RelV x v) (fx:zap x = true):∀ {xs:List V} {us:List Value},Vals xs us->xs.all zap = true->∀ u ∈ us,SeqAt.EqAt A s u v (eqU x u)
 | _,_,.nil,_=>fun u hu=>by cases hu
 | y :: xs,u :: us,.cons r t,f=>fun u' hu=>by
  rw [all_cons,Bool.and_eq_true] at f
  rcases mem_cons.mp hu with rfl | hu
  ·rw [zid r f.1];exact zie r rx f.1 fx
  ·exact zdT rx fx t f.2 u' hu
noncomputable def inV (x:V) (xs:List V):Bool:=xs.any fun y=>eqV y x
noncomputable def rIn (K:Frag) (neg:Bool):R2:=fun x y H Q=>∃ p xs,y = .ref p/\(SqL K H p xs\/SqT K H p xs)/\zap x = true/\xs.all zap = true/\Q (.bl (if neg then !inV x xs else inV x xs)) H
theorem zkF:OpR X (compareOp .In) (rIn X.K false):=by
 intro pins s σ H x y v u Q I rx ry h
 obtain ⟨p,xs,rfl,hq,fx,fs,q⟩:=h
 cases ry
 rcases hq with hq | hq
 ·obtain ⟨its,r,pl,hz⟩:=I.list hq
  refine SeqAt.in_listAt (eqU x) pl.isList (fun w hw=>zdT rx fx r fs w (by simpa using hw)) ⟨.bl _,H,I,rfl,?_⟩
  rw [show its.toArray.any (eqU x) = its.any (eqU x) by simp,zgJ r fs]
  exact q
 ·obtain ⟨its,r,pl,hz⟩:=I.tuple hq
  refine SeqAt.in_tupleAt (eqU x) pl (fun w hw=>zdT rx fx r fs w (by simpa using hw)) ⟨.bl _,H,I,rfl,?_⟩
  rw [show its.toArray.any (eqU x) = its.any (eqU x) by simp,zgJ r fs]
  exact q
theorem zir:CallR X (.builtin "len") (fun xs H Q=>∃ p ys,xs = [.ref p]/\(SqL X.K H p ys\/SqT X.K H p ys)/\Q (.int ys.length) H):=by
 intro pins s σ H xs us Q I r h
 obtain ⟨p,ys,rfl,hq,q⟩:=h
 obtain ⟨u,rfl,rx⟩:=vals1 r
 cases rx
 have hn:=zcg
 rcases hq with hq | hq
 ·obtain ⟨its,r',pl,hz⟩:=I.list hq
  have hlen:=r'.length
  exact Calls.call_len_list pl.isList (by simp only [size_toArray] <;> omega) ⟨.int ys.length,H,I.tok _,⟨s.toks + 1,by rw [size_toArray,hlen]⟩,q⟩
 ·obtain ⟨its,r',pl,hz⟩:=I.tuple hq
  have hlen:=r'.length
  exact len_tuple pl (by simp only [size_toArray] <;> omega) ⟨.int ys.length,H,I.tok _,⟨s.toks + 1,by rw [size_toArray,hlen]⟩,q⟩
theorem ziq:CallR X (.builtin "len") (fun xs H Q=>∃ z,xs = [.str z]/\z.length<=sizeLine/\Q (.int z.length) H):=by
 intro pins s σ H xs us Q I r h
 obtain ⟨z,rfl,hz,q⟩:=h
 obtain ⟨u,rfl,t,rfl⟩:=vals1 r
 have hn:=zcg
 exact len_str (by omega) ⟨.int z.length,H,I.tok _,⟨_,rfl⟩,q⟩
theorem zio:CallR X (.type "list") (fun xs H Q=>∃ p ys,xs = [.ref p]/\(SqL X.K H p ys\/SqT X.K H p ys)/\∀ l,H l = none->Q (.ref l) (upd H l (.lst ys))):=by
 intro pins s σ H xs us Q I r h
 obtain ⟨p,ys,rfl,hq,q⟩:=h
 obtain ⟨u,rfl,rx⟩:=vals1 r
 cases rx
 have fin:∀ (its:List Value),Vals ys its->ys.length<=sizeLine->∀ (h':Heap) (c':Nat),(∀ b o',s.heap.get? b = some o'->h'.get? b = some o')->
   h'.get? s.heap.objs.size = some { cls:=.type "list",dict:=none,data:=.seq its.toArray c',slots:=#[] }->EP X pins σ Q (.ref s.heap.objs.size) { s with heap:=h' }:=fun its r' hz h' c' kp e=>
  ⟨.ref s.heap.objs.size,_,I.laid (t':=s.toks) kp (Nat.le_refl _) (show ObjOk X.prog X.w _ h' _ (.lst ys) from ⟨hz,its,c',r',e⟩),rfl,q _ (I.hok.fresh (Nat.le_refl _))⟩
 rcases hq with hq | hq
 ·obtain ⟨its,r',pl,hz⟩:=I.list hq
  have hlen:=r'.length
  obtain ⟨o,ho,hc,n,hd⟩:=pl.isList
  exact call_list_seq p (.inl rfl) ho hc hd (fun h' c' kp e=>fin its r' hz h' c' kp e) (by simp only [size_toArray] <;> omega)
 ·obtain ⟨its,r',pl,hz⟩:=I.tuple hq
  have hlen:=r'.length
  obtain ⟨o,ho,hc,n,hd⟩:=pl
  exact call_list_seq p (.inr rfl) ho hc hd (fun h' c' kp e=>fin its r' hz h' c' kp e) (by simp only [size_toArray] <;> omega)
theorem zhj:CallR X (.type "tuple") (fun xs H Q=>∃ p ys,xs = [.ref p]/\((SqL X.K H p ys/\∀ l,H l = none->Q (.ref l) (upd H l (.tup ys)))\/(SqT X.K H p ys/\Q (.ref p) H))):=by
 intro pins s σ H xs us Q I r h
 obtain ⟨p,ys,rfl,h⟩:=h
 obtain ⟨u,rfl,rx⟩:=vals1 r
 cases rx
 rcases h with ⟨hq,q⟩ | ⟨hq,q⟩
 ·obtain ⟨its,r',pl,hz⟩:=I.list hq
  have hlen:=r'.length
  refine call_tuple_list pl.isList (fun h' kp=>?_) (by simp only [size_toArray] <;> omega)
  have I1:Inv X pins σ H { s with heap:=h' }:=I.kept (t':=s.toks) kp
  have I2:Inv X pins σ (upd H h'.objs.size (.tup ys)) { s with heap:=h'.push { cls:=.type "tuple",data:=.seq its.toArray } }:=
   I1.laid (t':=s.toks) (fun b o e=>Heap.get?_push_of_some _ e) (Nat.le_refl _) (show ObjOk X.prog X.w _ _ _ (.tup ys) from ⟨hz,its,r',IsTup.new _ _,NoDict.new⟩)
  exact ⟨.ref h'.objs.size,_,I2,rfl,q _ (I1.hok.fresh (Nat.le_refl _))⟩
 ·obtain ⟨its,r',pl,hz⟩:=I.tuple hq
  exact call_tuple_same pl ⟨.ref p,H,I,rfl,q⟩
def tyV (K:Frag) (T:String) (x:V) (H:Hp):Prop:=match x with
 | .str _=>T = "str"
 | .int _=>T = "int"
 | .ref p=>(T = "list"/\∃ xs,SqL K H p xs)\/(T = "tuple"/\∃ o,K.lookup p = some o/\o.cls = .type "tuple"/\o.dict = none) \/
   (T = "dict"/\((∃ kvs,Rd H p (.dK kvs))\/∃ kvs,H p = some (.dT kvs)))\/(T = "set"/\∃ S n,H p = some (.set S n))
 | _=>False
theorem znU {pins:List (Addr × Obj)} {σ:St} {H:Hp} {s:Shared} {T:String} {x:V} {v:Value} (I:Inv X pins σ H s) (r:RelV x v) (ty:tyV X.K T x H) :
  s.TypeIs v T/\∀ a,v = .ref a->∃ ob,s.heap.get? a = some ob/\ob.dict = none:=by
 cases x with
 | str z=>
  obtain ⟨t,rfl⟩:=r
  cases (show T = "str" from ty)
  exact ⟨typeIs_str s z t,fun _ e=>nomatch e⟩
 | int i=>
  obtain ⟨t,rfl⟩:=r
  cases (show T = "int" from ty)
  exact ⟨typeIs_int s i t,fun _ e=>nomatch e⟩
 | ref p=>
  cases r
  rcases ty with ⟨rfl,xs,hq⟩ | ⟨rfl,o,hk,hc,hd⟩ | ⟨rfl,hk⟩ | ⟨rfl,S,n,hk⟩
  ·obtain ⟨its,_,pl,_⟩:=I.list hq
   refine ⟨pl.isList.typeIs,fun a e=>?_⟩
   cases e
   obtain ⟨o,n,e,c,hd,_⟩:=pl
   exact ⟨o,e,hd⟩
  ·refine ⟨⟨o,I.kIn p o hk,hc⟩,fun a e=>?_⟩
   cases e
   exact ⟨o,I.kIn _ o hk,hd⟩
  ·have z:∃ o,s.heap.get? p = some o/\o.ExactDict:=by
    rcases hk with ⟨kvs,hk⟩ | ⟨kvs,hk⟩
    ·obtain ⟨_,_,_,_,o,_,_,e,ex,_⟩:=(show ObjOk X.prog X.w H s.heap p (.dK kvs) from hk.ok I.hok)
     exact ⟨o,e,ex⟩
    ·obtain ⟨_,_,_,_,o,_,_,e,ex,_⟩:=I.hok p _ hk
     exact ⟨o,e,ex⟩
   obtain ⟨o,e,ex⟩:=z
   refine ⟨⟨o,e,ex.1⟩,fun a e2=>?_⟩
   cases e2
   exact ⟨o,e,ex.2.1⟩
  ·obtain ⟨o,_,_,_,e,ex,_⟩:=I.hok p _ hk
   refine ⟨⟨o,e,ex.1⟩,fun a e2=>?_⟩
   cases e2
   exact ⟨o,e,ex.2.1⟩
 | _=>exact False.elim ty
noncomputable def tBM (K:Frag) (T:String) (r:V->List V->Hp->VK->Prop) (to:TE) (t:TA):TE:=fun σ H Q=>to σ H fun x H1=>tyV K T x H1/\t σ H1 fun xs H2=>r x xs H2 Q
variable {o e:Expr} {es:List Expr} {to:TE} {t:TA} {name:Str} {apos cpos:Pos} {T id:String} {r:V->List V->Hp->VK->Prop}
theorem z5 (pa:PlainAttrs T) (slot:Slot T name id) (hty:typeOf (.builtin id) = pure (.type "method_descriptor")) (hm:MtR X id r) (ho:PE X o to) (ha:PA X (e :: es) t)
  (hbase:attributeBase o name X.env (eval o X.env) = eval o X.env:=by rfl)
  (hfew:((backTo cpos (starEach (e :: es) X.env)).all (fun x=>!x.1) && (backToKw cpos (keywordEach [] X.env)).all (fun x=>x.1.isSome)
   && decide ((e :: es).length + ([]:List Keyword).length + (if ([]:List Keyword).isEmpty then 0 else 1) < 30)) = true:=by rfl)
  (hline:(apos.endLine == cpos.line) = true:=by rfl) (hs:starEach (e :: es) X.env = (false,eval e X.env) :: starEach es X.env:=by rfl) (hplain:(backTo cpos (starEach es X.env)).any (·.1) = false:=by rfl) :
  PE X (.Call (.Attribute o name apos) (e :: es) [] cpos) (tBM X.K T r to t):=by
 intro pins s σ H Q I h
 refine wpAny_Call_method_late hbase hfew hline rfl (thn (ho pins s σ H _ I h) fun v s1 ⟨x,H1,I1,r1,ty,q1⟩=>?_)
 obtain ⟨h1,h2⟩:=znU I1 r1 ty
 refine ⟨T,id,pa,slot,hty,h1,h2,?_⟩
 have hA:=ha cpos pins s1 σ H1 _ I1 q1
 rw [hs] at hA ⊢
 refine Calls.callWith_builtin (by show (false || (backTo cpos (starEach es X.env)).any (·.1)) = false;rw [hplain] <;> rfl) (Calls.evalArgs_plain ?_)
 exact thn hA fun us s2 ⟨vs,H2,I2,r2,q2⟩=>hm pins s2 σ H2 x vs v us Q I2 r1 r2 q2
end
def MtM (X:Cx) (id:String) (r:V->List V->Hp->VK->Prop):Prop:=
 ∀ (pins:List (Addr × Obj)) (s:Shared) (σ:St) (H:Hp) (x:V) (xs:List V) (v:Value) (us:List Value) (Q:VK),Inv X pins σ H s->RelV x v->Vals xs us->r x xs H Q->
  wpAny (model X.prog X.w) X.A (call (.builtin id) (v :: us)) (EP X pins σ Q) X.xe s
theorem Vals.one:∀ {x:V} {us:List Value},Vals [x] us->∃ u,us = [u]/\RelV x u
 | _,_,.cons r .nil=>⟨_,rfl,r⟩
theorem Vals.two:∀ {x y:V} {us:List Value},Vals [x,y] us->∃ u v,us = [u,v]/\RelV x u/\RelV y v
 | _,_,_,.cons r (.cons q .nil)=>⟨_,_,rfl,r,q⟩
theorem Vals.zero:∀ {us:List Value},Vals [] us->us = []
 | _,.nil=>rfl
theorem Vals.eraseIdx:∀ {xs:List V} {us:List Value} (i:Nat),Vals xs us->Vals (xs.eraseIdx i) (us.eraseIdx i)
 | _,_,_,.nil=>.nil
 | _,_,0,.cons _ t=>t
 | _,_,i + 1,.cons r t=>.cons r (Vals.eraseIdx i t)
theorem Vals.rep {xs:List V} {us:List Value} (h:Vals xs us):∀ k:Nat,Vals (List.replicate k xs).flatten (List.replicate k us).flatten
 | 0=>.nil
 | k + 1=>by
  rw [replicate_succ,replicate_succ,flatten_cons,flatten_cons]
  exact Vals.append h (Vals.rep h k)
theorem foldl_rep (its:List Value):∀ (k:Nat) (acc:List Value),
  List.foldl (fun x1 x2=>x1 ++ x2) acc.toArray (List.replicate k its.toArray) = (acc ++ (List.replicate k its).flatten).toArray
 | 0,acc=>by simp
 | k + 1,acc=>by
  have e:acc.toArray ++ its.toArray = (acc ++ its).toArray:=by simp
  have e2:(acc ++ its) ++ (List.replicate k its).flatten = acc ++ (List.replicate (k + 1) its).flatten:=by
   rw [replicate_succ,flatten_cons,List.append_assoc]
  rw [← e2,← foldl_rep its k (acc ++ its),← e,replicate_succ,List.foldl_cons]
section
variable {X:Cx} {pins:List (Addr × Obj)} {σ:St} {H:Hp} {s:Shared} {l b:Addr} {xs ys zs:List V}
theorem Inv.lset {its its':List Value} {n:Nat} {f:Array Value->Array Value} {t':Nat} (I:Inv X pins σ H s) (hH:H l = some (.lst xs))
  (e:s.heap.get? l = some { cls:=.type "list",data:=.seq its.toArray n }) (hf:f its.toArray = its'.toArray) (hv:Vals ys its') (hz:ys.length<=sizeLine) :
  Inv X pins σ (upd H l (.lst ys)) { s with heap:=s.heap.update l (Obj.mapSeq f),toks:=t' }:=by
 have q:=PySem.IsL.update e f
 rw [hf] at q
 refine I.write (x:=l) (e:=l) (by rw [hH];exact trivial) (.inl rfl) (fun b' u hb hu=>(Heap.get?_update_other s.heap (Obj.mapSeq f) (Ne.symm hb)).trans hu) ⟨_,q⟩ ?_
 exact ⟨hz,its',_,hv,q⟩
theorem Inv.lnew {its:List Value} {t':Nat} (I:Inv X pins σ H s) (hv:Vals ys its) (hz:ys.length<=sizeLine) :
  Inv X pins σ (upd H s.heap.objs.size (.lst ys)) { s with heap:=s.heap.push { cls:=.type "list",data:=.seq its.toArray },toks:=t' }:=
 I.laid (fun _ _ q=>Heap.get?_push_of_some _ q) (Nat.le_refl _) ⟨hz,its,0,hv,Heap.get?_push_size _ rfl⟩
theorem Inv.fresh (I:Inv X pins σ H s):H s.heap.objs.size = none:=I.hok.fresh (Nat.le_refl _)
theorem Inv.lstM (I:Inv X pins σ H s) (hH:H l = some (.lst xs)):xs.length<=sizeLine/\∃ (its:List Value) (n:Nat),Vals xs its/\xs.length = its.length/\s.heap.get? l = some { cls:=.type "list",data:=.seq its.toArray n }:=by
 obtain ⟨z,its,n,r,e⟩:=I.hok l _ hH
 exact ⟨z,its,n,r,r.length,e⟩
theorem zlH {n:Nat} (h:n<=sizeLine):Builtin.List.listTooLong n = false:=by
 unfold Builtin.List.listTooLong
 exact decide_eq_false (by omega)
end
section
variable {X:Cx}
noncomputable def zgi:V->List V->Hp->VK->Prop:=fun x vs H Q=>∃ l xs y,x = .ref l/\vs = [y]/\H l = some (.lst xs)/\xs.length < sizeLine/\Q .non (upd H l (.lst (xs ++ [y])))
theorem qF:MtM X "list.append" zgi:=by
 intro pins s σ H x vs v us Q I rx rv h
 obtain ⟨l,xs,y,rfl,rfl,hH,hz,q⟩:=h
 cases rx
 obtain ⟨u,rfl,ru⟩:=rv.one
 obtain ⟨z,its,n,r,hl,e⟩:=I.lstM hH
 refine call_meets F.slot_list_append ⟨_,e,rfl⟩ F.entry_list_append (F.args_list_append_2 _ _) (PySem.list_append l its.toArray n u (by rw [size_toArray];omega)) ⟨e,?_⟩
 refine ⟨.non,_,I.lset (its':=its ++ [u]) hH e (by simp) (r.append (.cons ru .nil)) ?_,rfl,q⟩
 rw [length_append,length_singleton]
 omega
theorem len_rep {α:Type} (xs:List α) (k:Nat):(List.replicate k xs).flatten.length = k * xs.length:=by
 induction k with
 | zero=>simp
 | succ k ih=>rw [replicate_succ,flatten_cons,length_append,ih,Nat.succ_mul,Nat.add_comm]
end
end L2
namespace Att
open PySem PySem.W PySem.Calls PyProof.Rows
theorem zfN {P:Params} {h:Heap}:∀ (ns:List Int) (vs:List Value),WellAll P h vs (ns.map WData.int)->IntsAre vs ns:=by
 intro ns
 induction ns with
 | nil=>
  intro vs w
  rw [map_nil] at w
  cases w
  exact .nil
 | cons n ns ih=>
  intro vs w
  rw [map_cons] at w
  cases w with
  | cons a b=>
   cases a
   exact .cons _ _ (ih _ b)
theorem zkr {l:OpenLaw} {n:Nat} (hn:l.most = some n) {P:Params} {h:Heap} {args:List WData} {vals:List Value}
  (hpre:l.row.toRowW.claim.pre args = true) (hwl:WellAll P h vals args) :
  ∃ a vs ns,vals = [Value.ref a]/\args = [WData.list (ns.map WData.int)]/\h.get? a = some { cls:=.type "list",data:=.seq vs.toArray }/\IntsAre vs ns/\ns.length<=n:=by
 have hsh:WShape.hasAll [] args [.list .int] = true:=(pre_splitW hpre).1
 have hc:l.pre.holds [] { args:=args } = true:=(pre_splitW hpre).2
 obtain ⟨d,r,rfl,h1,h2⟩:=hasAllW_cons hsh
 obtain rfl:=hasAllW_nil h2
 obtain ⟨xs,rfl,h3⟩:=hasW_list h1
 obtain ⟨ns,rfl⟩:=items_int h3
 have hlen:ns.length<=n:=by
  unfold OpenLaw.pre at hc
  have h4:(WTm.not (.lt (.lit (.int (n:Int))) (.len (.arg 0)))).holds [] { args:=[.list (ns.map .int)] } = true:=by
   have h4:=(holds_andW hc).1
   rw [hn] at h4
   exact h4
  have h5:=condW_of h4 (w_not (w_lt w_lit (w_len_list (w_arg rfl))))
  rw [length_map] at h5
  refine Nat.le_of_not_lt fun q=>?_
  have q':(n:Int) < ((ns.length:Nat):Int):=by omega
  first
   | (rw [decide_eq_true q'] at h5;exact absurd h5 (by decide))
   | (simp at h5;omega)
 cases hwl with
 | cons w1 w2=>
  cases w2
  cases w1 with
  | list ho hall=>exact ⟨_,_,ns,rfl,rfl,ho,zfN ns _ hall,hlen⟩
theorem zkB (l:OpenLaw) (args:List WData):l.row.toRowW.claim.post args (.bool true) args = true:=
 postW_of (r:=l.row.toRowW) (X:=(true == true))
  (show WShape.has [] (.bool true) .bool = true by first | rfl | decide | simp [WShape.has,WShape.arms,WShape.armsAll])
  (show (WTm.eq .res (.lit (.bool true))).value [] { args:=args,res:=some (.bool true),after:=args } = some (.bool (true == true)) from w_eq_bool (w_res rfl) w_lit) rfl
theorem ziQ {l:OpenLaw} {n:Nat} {q:Program} {loose:List Str} {XP:(Str->Option Value)->Heap->Prop} {YP:World->Heap->Prop} {d:DefRec}
  (hn:l.most = some n) (hdf:d.params.defaults = [])
  (call:∀ (w:World) (s₀ s₁:Shared) (mg mb:Str->Option Value) (fa:Addr) (o:Obj) (pm cd doc:Value) (a:Addr) (vs:List Value) (ns:List Int),
   Ground q loose [] XP w s₀ mg mb s₁.heap->YP w s₁.heap->
   s₁.heap.get? fa = some o->o.data = .func (docDef d.name d.params d.body d.scope pm cd doc)->s₁.heap.CodeRec cd d.name->mg d.name = some (.ref fa)->
   s₁.heap.get? a = some { cls:=.type "list",data:=.seq vs.toArray }->IntsAre vs ns->ns.length<=n->s₁.gens = #[]->
   codeAny (model l.prog w) callerA (.call (.ref fa) ⟨[.ref a],[]⟩) (fun r s'=>r = .ok (.ret (.bool true))/\OldK s₁.heap s'.heap/\s'.os = s₁.os/\AllBare s'.gens) s₁) :
  WalkO q loose XP YP l.row.toRowW d [] (fun f vs=>PySem.call f vs):=by
 intro w s₀ s₁ mg mb G Y fa o pm cd doc dV kV ho hd hcd hD hmg hg args vals as hpre hlay hrd hwl hlo
 obtain rfl:dV = .none:=Dflts.none hD hdf
 obtain rfl:kV = .none:=Dflts.noKw hD
 obtain ⟨a,vs,ns,rfl,rfl,hobj,hints,hlen⟩:=zkr hn hpre hwl
 refine enter_call (codeAny_mono (call w s₀ s₁ mg mb fa o pm cd doc a vs ns G Y ho (fd_plain hd) hcd hmg hobj hints hlen hg) fun r s' hq=>?_)
 obtain ⟨rfl,h2,h3,h4⟩:=hq
 exact ⟨.inl ⟨.bool true,.bool true,[],rfl,fun _=>rfl,.bool true,zkB l _,fun _=>⟨List.Pairwise.nil,fun _ hm=>(nomatch hm)⟩⟩,h2,h3,h4⟩
end Att
namespace L2
open PySem PySem.Spec PyProof.Rows
theorem zgP:∀ {vs:List Value} {ns:List Int},IntsAre vs ns->Vals (ns.map V.int) vs
 | _,_,.nil=>.nil
 | _,_,.cons n t h=>.cons ⟨t,rfl⟩ (zgP h)
def zkg (H:Hp):Prop:=∀ b,H b = none\/∃ o xs,H b = some (.frz o (.lst xs))
theorem zlQ {P:Program} {w:World} {K:Frag} {mg mb:Str->Option Value} {CX:CXT} {k:Nat} {fa a:Addr} {fd:FuncData} {x:Str} {sp:Sp} {s₁:Shared} {vs:List Value} {ns:List Int}
  (KX:K.In s₁.heap) (hns:s₁.heap.Ns mainGlobals mg) (hb:s₁.heap.Ns builtinsNs mb) (hbb:∀ x:Str,x ≠ "__name__"->mb x = bootBuiltins x) (hlim:s₁.heap.NoLimit) (hg:s₁.gens = #[])
  (ha:s₁.heap.get? a = some { cls:=.type "list",data:=.seq vs.toArray }) (hi:IntsAre vs ns) (hl:ns.length<=sizeLine) (hr:Room k callerA)
  (F:∀ base:Heap,K.In base->base.Ns mainGlobals mg->FnOk P w K mg base CX k fa fd [x] sp) (hbind:∀ (s:Shared) (u:Value),BindsTo s fd ⟨[u],[]⟩ [(x,u)])
  (hsp:∀ H:Hp,zkg H->SqL K H a (ns.map V.int)->sp [.ref a] H (fun v _=>v = .bl true) fun _ _ _=>False)
  (hCX:∀ H e s',CX [] H s₁ (fun _ _ _=>False) e s'->False) :
  codeAny (model P w) callerA (.call (.ref fa) ⟨[.ref a],[]⟩) (fun r s'=>r = .ok (.ret (.bool true))/\OldK s₁.heap s'.heap/\s'.os = s₁.os/\AllBare s'.gens) s₁:=by
 have rv:=zgP hi
 have lenV:=hi.length
 -- from an abstract heap in which nothing but the script may be tracked
 have core:∀ H:Hp,zkg H->SqL K H a (ns.map V.int)->HOk P w H s₁.heap->(∀ b,H b ≠ none->b = a)->(H a ≠ none->K.lookup a = none)->
   codeAny (model P w) callerA (.call (.ref fa) ⟨[.ref a],[]⟩) (fun r s'=>r = .ok (.ret (.bool true))/\OldK s₁.heap s'.heap/\s'.os = s₁.os/\AllBare s'.gens) s₁:=by
  intro H hO hS hok hA hK
  have base_of:∀ {b:Addr} {o:Obj},s₁.heap.get? b = some o->H b = none->(zdW s₁.heap H).get? b = some o:=fun e n=>zlW e n
  have noA:∀ {b:Addr} {o:Obj} {es:Array DictEntry} {ep:Nat},s₁.heap.get? b = some o->o.data = .dict es ep->H b = none:=fun {b o es ep} e d=>by
   cases q:H b with
   | none=>rfl
   | some u=>
    have e':b = a:=hA b (by rw [q];simp)
    subst e'
    rw [ha] at e;cases e
    have d':Data.seq vs.toArray _ = Data.dict es ep:=d
    cases d'
  have nsK:∀ {b:Addr} {m:Str->Option Value},s₁.heap.Ns b m->(zdW s₁.heap H).Ns b m:=fun {b m} ⟨o,es,ep,e,d,r⟩=>⟨o,es,ep,base_of e (noA e d),d,r⟩
  have hKb:K.In (zdW s₁.heap H):=fun b o e=>base_of (KX b o e) (by
   cases q:H b with
   | none=>rfl
   | some u=>
    have e':b = a:=hA b (by rw [q];simp)
    subst e'
    rw [hK (by rw [q];simp)] at e;cases e)
  have hM:Mod K mg (zdW s₁.heap H):=⟨hKb,nsK hns,⟨mb,nsK hb,hbb⟩,let ⟨mc,h1,h2⟩:=hlim;⟨mc,nsK h1,h2⟩⟩
  have e0:Env0 P w K mg (zdW s₁.heap H) callerA [] s₁ H:=⟨rfl,hM,fun b o e=>zm6 e,Nat.le_of_eq (zkT _ _),trivial,fun b hb=>absurd (show b ∈ ([]:List Addr) from hb) (by simp),hok,.of_eq hg⟩
  refine codeAny_mono ((F _ hKb (nsK hns)).run callerA [] s₁ H ⟨[.ref a],[]⟩ [.ref a] [.ref a] _ _ hr e0 (hbind s₁ (.ref a)) (.cons rfl .nil) (hsp H hO hS)) fun r s' h=>?_
  cases r with
  | error e=>exact (hCX H e s' h).elim
  | ok fl=>
   cases fl with
   | next=>exact False.elim h
   | brk=>exact False.elim h
   | cont=>exact False.elim h
   | ret u=>
    obtain ⟨v,H',os,bare,un,hok',r',q⟩:=h
    have q':v = .bl true:=q
    subst q'
    obtain rfl:u = Value.bool true:=r'
    refine ⟨rfl,OldK.of_keep fun b o e=>?_,os,bare⟩
    cases q:H b with
    | none=>exact un.keep b o e q (by intro z;exact absurd (show b ∈ ([]:List Addr) from z) (by simp)) (by simp)
    | some u=>
     rcases hO b with z | ⟨ob,xs,z⟩
     ·rw [q] at z;cases z
     ·have z2:=un.frzs b ob _ z
      obtain ⟨e1,_⟩:=hok b _ z
      obtain ⟨e2,_⟩:=hok' b _ z2
      rw [e] at e1;cases e1
      exact e2
 cases hk:K.lookup a with
 | some o=>
  -- the script is one of the module's own objects
  have e:=KX a o hk
  rw [ha] at e
  cases e
  refine core (fun _=>none) (fun _=>.inl rfl) (.inr ⟨_,vs.toArray,_,hk,rfl,rfl,rfl,by rw [size_toArray,lenV];exact hl,by simpa using rv⟩) (fun b u z=>by have z':(none:Option HO) = some u:=z;cases z') (fun b z=>absurd rfl z) fun z=>absurd rfl z
 | none=>
  refine core (fun b=>if b = a then some (.frz { cls:=.type "list",data:=.seq vs.toArray } (.lst (ns.map V.int))) else none) (fun b=>?_) (.inl (.inr ⟨{ cls:=.type "list",data:=.seq vs.toArray },if_pos rfl⟩)) (fun b u z=>?_) (fun b z=>?_) fun _=>hk
  ·by_cases hb:b = a
   ·exact .inr ⟨_,_,if_pos hb⟩
   ·exact .inl (if_neg hb)
  ·by_cases hb:b = a
   ·have z':=(if_pos hb).symm.trans z
    cases z'
    subst hb
    exact ⟨ha,by rw [length_map];exact hl,vs,_,rv,ha⟩
   ·have z':=(if_neg hb).symm.trans z
    cases z'
  ·by_cases hb:b = a
   ·exact hb
   ·exact absurd (if_neg hb) z
noncomputable abbrev KOf {K:Frag} {h:Heap} (_:K.In h):Frag:=K
theorem zmv {l:PySem.W.OpenLaw} {n k:Nat} {q:Program} {loose:List Str} {XP:(Str->Option Value)->Heap->Prop} {YP:World->Heap->Prop} {d:DefRec} {K:Params->Frag} {CX:World->CXT} {sp:World->Sp} {x:Str}
  (hn:l.most = some n) (hn2:n<=sizeLine) (hdf:d.params.defaults = []) (hr:Room k callerA)
  (hY:∀ (w:World) (h:Heap),YP w h->(K w.params).In h)
  (F:∀ (w:World) (mg:Str->Option Value) (fa:Addr) (h:Heap),(K w.params).In h->h.Ns mainGlobals mg->mg d.name = some (.ref fa)->
   ∃ fd:FuncData,(∀ (s:Shared) (u:Value),BindsTo s fd ⟨[u],[]⟩ [(x,u)]) /\
    ∀ base:Heap,(K w.params).In base->base.Ns mainGlobals mg->FnOk l.prog w (K w.params) mg base (CX w) k fa fd [x] (sp w))
  (hsp:∀ (w:World) (H:Hp) (a:Addr) (ns:List Int),ns.length<=n->zkg H->SqL (K w.params) H a (ns.map V.int)->sp w [.ref a] H (fun v _=>v = .bl true) fun _ _ _=>False)
  (hCX:∀ (w:World) (H:Hp) (s:Shared) (e:Value) (s':Shared),CX w [] H s (fun _ _ _=>False) e s'->False) :
  PySem.W.WalkO q loose XP YP l.row.toRowW d [] (fun f vs=>PySem.call f vs):=by
 refine Att.ziQ hn hdf fun w s₀ s₁ mg mb fa o pm cd doc a vs ns G Y ho hd hcd hmg hobj hints hlen hg=>?_
 have KX:=hY w _ Y
 obtain ⟨fd,hb,hF⟩:=F w mg fa _ KX G.T.g hmg
 exact zlQ KX G.T.g G.T.b G.T.builtins G.T.nolimit hg hobj hints (Nat.le_trans hlen hn2) hr hF hb (fun H hO hS=>hsp w H a ns hlen hO hS) fun H e s'=>hCX w H s₁ e s'
theorem zli {l:PySem.W.OpenLaw} {n k:Nat} {q:Program} {loose:List Str} {XP:(Str->Option Value)->Heap->Prop} {YP:World->Heap->Prop} {d:DefRec} {K:Params->Frag} {CX:CXT} {sp:Frag->Sp} {x:Str}
  (hn:l.most = some n) (hn2:n<=sizeLine) (hdf:d.params.defaults = []) (hr:Room k callerA)
  (hY:∀ (w:World) (h:Heap),YP w h->(K w.params).In h)
  (F:∀ (w:World) (mg:Str->Option Value) (fa:Addr) (h:Heap),(K w.params).In h->h.Ns mainGlobals mg->mg d.name = some (.ref fa)->
   ∃ fd:FuncData,(∀ (s:Shared) (u:Value),BindsTo s fd ⟨[u],[]⟩ [(x,u)]) /\
    ∀ base:Heap,(K w.params).In base->base.Ns mainGlobals mg->FnOk l.prog w (K w.params) mg base CX k fa fd [x] (sp (K w.params)))
  (hsp:∀ (K:Frag) (H:Hp) (a:Addr) (ns:List Int),ns.length<=n->zkg H->SqL K H a (ns.map V.int)->sp K [.ref a] H (fun v _=>v = .bl true) fun _ _ _=>False)
  (hCX:∀ (H:Hp) (s:Shared) (e:Value) (s':Shared),CX [] H s (fun _ _ _=>False) e s'->False) :
  PySem.W.WalkO q loose XP YP l.row.toRowW d [] (fun f vs=>PySem.call f vs):=
 zmv (K:=K) (CX:=fun _=>CX) (sp:=fun w=>sp (K w.params)) hn hn2 hdf hr hY F (fun w H a ns h1 h2 h3=>hsp (K w.params) H a ns h1 h2 h3) fun _ H s e s'=>hCX H s e s'
noncomputable def inClass (s:Stmt) (j:Nat):Stmt:=match s with
 | .ClassDef _ _ _ body _ _ _ _ _ _ _=>body.getD j (.Pass ⟨0,0,0,0⟩)
 | _=>.Pass ⟨0,0,0,0⟩
noncomputable def zaD (s:Stmt):Arguments:=match s with
 | .FunctionDef _ a _ _ _ _ _ _ _ _=>a
 | _=>{ posonlyargs:=[],args:=[],vararg:=none,kwonlyargs:=[],kw_defaults:=[],kwarg:=none,defaults:=[] }
noncomputable def yK (s:Stmt):List Stmt:=match s with
 | .FunctionDef _ _ b _ _ _ _ _ _ _=>b
 | _=>[]
noncomputable def zf (s:Stmt):Scope:=match s with
 | .FunctionDef _ _ _ _ _ _ sc _ _ _=>sc
 | _=>{ kind:=.function,names:=[],isGenerator:=false,isCoroutine:=false }
noncomputable abbrev CX0:CXT:=fun _ _ _ _ _ _=>False
noncomputable abbrev E0:XK:=fun _ _ _=>False
theorem zml {X:Cx}:Passes CX0 X E0:=fun _ _ _ _ _ _ _ h=>h.elim
structure Fun (K:Frag) (x qual:Str) (st:Stmt) (f:Addr) (fd:FuncData):Prop where
 ex:∃ (oc:Value) (od:Option Addr) (kV doc pm:Value) (an:Option Addr) (cdv ct:Value) (osl:Array (Option Value)),
  fd = PySem.W.fnOf x qual (zaD st) (yK st) (zf st) .none kV doc pm an cdv ct/\K.lookup f = some ⟨oc,od,.func fd,osl⟩/\PySem.W.codeIn K cdv qual = true
 kp:PySem.W.keepIn K (.ref f) = true
section
variable {P:Program} {w:World} {K:Frag} {mg:Str->Option Value} {base:Heap}
theorem Fun.ok {x qual:Str} {st:Stmt} {f:Addr} {fd:FuncData} {N ps:List Str} {k:Nat} {sp:Sp} (F:Fun K x qual st f fd) (S:FnScope N ps (zf st)) (len:∀ vs H Q E,sp vs H Q E->vs.length = ps.length)
  (hbody:∀ (cdv:Value) (A:Around) (outer:List Env) (s:Shared) (H:Hp) (vs:List V) (Q:VK) (E:XK),Room k (A.deeper (envOfC qual (zf st) s.heap.objs.size f cdv))->sp vs H Q E->
   ∃ t,PSs (zb1 CX0 P w K mg base N qual (zf st) f cdv A outer s H E).nox (yK st) t/\t { nx:=fun _ H'=>Q .non H',rt:=Q } (start N vs) H):FnOk P w K mg base CX0 (k + 1) f fd ps sp:=by
 obtain ⟨oc,od,kV,doc,pm,an,cdv,ct,osl,rfl,lk,hcd⟩:=F.ex
 refine zqu lk hcd S len fun A outer s H vs Q E hr hsp=>?_
 obtain ⟨t,h,q⟩:=hbody cdv A outer s H vs Q E hr hsp
 exact ⟨t,h.nox,q⟩
theorem Fun.binds {x qual:Str} {st:Stmt} {f:Addr} {fd:FuncData} {ps:List Str} (F:Fun K x qual st f fd)
  (h:∀ (kV doc pm:Value) (an:Option Addr) (cdv ct:Value) (us:List Value),us.length = ps.length->bindArgs (PySem.W.fnOf x qual (zaD st) (yK st) (zf st) .none kV doc pm an cdv ct) ⟨us,[]⟩ = pure (ps.zip us)):Binds K fd ps []:=by
 obtain ⟨oc,od,kV,doc,pm,an,cdv,ct,osl,rfl,lk,hcd⟩:=F.ex
 exact .all (h kV doc pm an cdv ct)
theorem zh9 {x qual:Str} {st:Stmt} {f:Addr} {oc:Value} {od an:Option Addr} {osl:Array (Option Value)} {kV doc pm cdv ct:Value} (l:K.lookup f = some ⟨oc,od,.func (PySem.W.fnOf x qual (zaD st) (yK st) (zf st) .none kV doc pm an cdv ct),osl⟩)
  (c:PySem.W.codeIn K cdv qual = true) (k:PySem.W.keepIn K (.ref f) = true):Fun K x qual st f (PySem.W.fnOf x qual (zaD st) (yK st) (zf st) .none kV doc pm an cdv ct):=⟨⟨oc,od,kV,doc,pm,an,cdv,ct,osl,rfl,l,c⟩,k⟩
end
theorem zak {n:Nat} (h:n<=1000):n < sizeLine:=Nat.lt_of_le_of_lt h (by decide)
section
variable {X:Cx}
theorem pv (i:Nat) {x:Str} {pos:Pos} (hN:X.N[i]? = some x:=by rfl) (hv:Vis X.env.scope x:=by first | exact Or.inl rfl | exact Or.inr (Or.inl rfl) | exact Or.inr (Or.inr rfl)) (hd:(x == ("__debug__":Str)) = false:=by decide)
  (hcd:(x == ("__classdict__":Str)) = false:=by decide):PE X (.Name x pos) (zjG i):=zhU hN hv hd hcd
end
end L2
set_option maxHeartbeats 4000000
namespace L2
open PySem PySem.Spec PyProof.Rows
section
variable {κ:Type} [DecidableEq κ]
noncomputable def zaG (kvs:List (κ × V)) (k:κ):Option V:=(kvs.find? fun kv=>decide (kv.1 = k)).map (·.2)
noncomputable def putK (kvs:List (κ × V)) (k:κ) (v:V):List (κ × V):=
 if (kvs.any fun kv=>decide (kv.1 = k)) = true then kvs.map (fun kv=>if kv.1 = k then (kv.1,v) else kv) else kvs ++ [(k,v)]
noncomputable def zrM (kvs:List (κ × V)) (k:κ):List (κ × V):=kvs.filter fun kv=>decide (kv.1 ≠ k)
theorem zfd {p:κ × V} {r:List (κ × V)} {k:κ} (e:p.1 = k):zaG (p :: r) k = some p.2:=by simp [zaG,find?_cons,e]
theorem zfe {p:κ × V} {r:List (κ × V)} {k:κ} (e:¬ p.1 = k):zaG (p :: r) k = zaG r k:=by simp [zaG,find?_cons,e]
theorem zhz (k:κ):∀ kvs:List (κ × V),(kvs.any fun kv=>decide (kv.1 = k)) = (zaG kvs k).isSome
 | []=>rfl
 | p :: r=>by
  rw [any_cons]
  by_cases e:p.1 = k
  ·simp only [zfd e,decide_eq_true e,Bool.true_or,Option.isSome_some]
  ·rw [zfe e,decide_eq_false e,Bool.false_or];exact zhz k r
theorem zeX (kvs:List (κ × V)) (k:κ) (v:V):(putK kvs k v).length<=kvs.length + 1:=by
 unfold putK
 split
 ·rw [length_map];omega
 ·rw [length_append,length_cons,length_nil];omega
theorem RelO.isSome_eq {o:Option V} {u:Option Value} (r:RelO o u):o.isSome = u.isSome:=by
 cases o with
 | none=>cases u with
  | none=>rfl
  | some _=>exact (show False from r).elim
 | some _=>cases u with
  | none=>exact (show False from r).elim
  | some _=>rfl
theorem KV.val {kvs:List (κ × V)} {vs:List (κ × Value)} (r:KV kvs vs) (k:κ):RelO (zaG kvs k) (valueAt vs k):=by
 unfold KV at r
 induction r with
 | nil=>exact True.intro
 | @cons p q ps qs h t ih=>
  obtain ⟨h1,h2⟩:=h
  by_cases e:p.1 = k
  ·have e':q.1 = k:=h1.symm.trans e
   have b:valueAt (q :: qs) k = some q.2:=by simp [valueAt,find?_cons,e']
   rw [zfd e,b];exact h2
  ·have e':¬ q.1 = k:=fun z=>e (h1.trans z)
   have b:valueAt (q :: qs) k = valueAt qs k:=by simp [valueAt,find?_cons,e']
   rw [zfe e,b];exact ih
theorem KV.any {kvs:List (κ × V)} {vs:List (κ × Value)} (r:KV kvs vs) (k:κ):(kvs.any fun kv=>decide (kv.1 = k)) = vs.any fun kv=>decide (kv.1 = k):=by
 unfold KV at r
 induction r with
 | nil=>rfl
 | cons h t ih=>rw [any_cons,any_cons,ih,h.1]
theorem KV.repl {kvs:List (κ × V)} {vs:List (κ × Value)} (r:KV kvs vs) (k:κ) {y:V} {u:Value} (ry:RelV y u) :
  KV (kvs.map fun kv=>if kv.1 = k then (kv.1,y) else kv) (vs.map fun kv=>if kv.1 = k then (kv.1,u) else kv):=by
 unfold KV at r ⊢
 induction r with
 | nil=>exact .nil
 | @cons p q ps qs h t ih=>
  rw [map_cons,map_cons]
  refine .cons ?_ ih
  obtain ⟨h1,h2⟩:=h
  by_cases e:p.1 = k
  ·rw [if_pos e,if_pos (h1.symm.trans e)];exact ⟨h1,ry⟩
  ·rw [if_neg e,if_neg (fun z=>e (h1.trans z))];exact ⟨h1,h2⟩
theorem KV.put {kvs:List (κ × V)} {vs:List (κ × Value)} (r:KV kvs vs) (k:κ) {y:V} {u:Value} (ry:RelV y u):KV (putK kvs k y) (stored vs k u):=by
 unfold putK stored
 rw [r.any k]
 by_cases e:(vs.any fun kv=>decide (kv.1 = k)) = true
 ·rw [if_pos e,if_pos e];exact r.repl k ry
 ·rw [if_neg e,if_neg e];exact Paired.snoc r ⟨rfl,ry⟩
theorem KV.length {kvs:List (κ × V)} {vs:List (κ × Value)} (r:KV kvs vs):kvs.length = vs.length:=Paired.length r
end
theorem zho {P:Program} {w:World} {k:Key} {u:Value} (r:RelV (kV k) u):(qY P w).is k u = true:=by
 cases k with
 | inl i=>obtain ⟨t,e⟩:=(show ∃ t,u = Value.int i t from r);subst e;exact ziH P w i t
 | inr x=>obtain ⟨t,e⟩:=(show ∃ t,u = Value.str x t from r);subst e;exact ziG P w x t
theorem zgW {P:Program} {w:World}:∀ {ks:List Key} {us:List Value},Vals (ks.map kV) us->ItemsAre (qY P w) ks us
 | [],_,r=>by rw [map_nil] at r;cases r;exact .nil
 | k :: ks,_,r=>by
  rw [map_cons] at r
  cases r with
  | cons h t=>exact .cons (zho h) (zgW t)
noncomputable abbrev KT (H:Hp):List (List Key × V)->List (List Key × Addr × Value)->Prop:=Paired fun p q=>p.1 = q.1/\H q.2.1 = some (.tup (p.1.map kV))/\RelV p.2 q.2.2
theorem KT.val {H:Hp} {kvs:List (List Key × V)} {xs:List (List Key × Addr × Value)} (r:KT H kvs xs) (k:List Key):RelO (zaG kvs k) ((atKey xs k).map (·.2)):=by
 induction r with
 | nil=>exact True.intro
 | @cons p q ps qs h t ih=>
  obtain ⟨h1,_,h2⟩:=h
  by_cases e:p.1 = k
  ·have e':q.1 = k:=h1.symm.trans e
   have b:atKey (q :: qs) k = some q.2:=by simp [atKey,find?_cons,e']
   rw [zfd e,b];exact h2
  ·have e':¬ q.1 = k:=fun z=>e (h1.trans z)
   have b:atKey (q :: qs) k = atKey qs k:=by simp [atKey,find?_cons,e']
   rw [zfe e,b];exact ih
theorem KT.repl {H:Hp} {kvs:List (List Key × V)} {xs:List (List Key × Addr × Value)} (r:KT H kvs xs) (k:List Key) {y:V} {u:Value} (ry:RelV y u) :
  KT H (kvs.map fun kv=>if kv.1 = k then (kv.1,y) else kv) (xs.map (putAt k u)):=by
 induction r with
 | nil=>exact .nil
 | @cons p q ps qs h t ih=>
  rw [map_cons,map_cons]
  refine .cons ?_ ih
  obtain ⟨h1,h2,h3⟩:=h
  unfold putAt
  by_cases e:p.1 = k
  ·rw [if_pos e,if_pos (h1.symm.trans e)];exact ⟨h1,h2,ry⟩
  ·rw [if_neg e,if_neg (fun z=>e (h1.trans z))];exact ⟨h1,h2,h3⟩
theorem KT.put {H:Hp} {kvs:List (List Key × V)} {xs:List (List Key × Addr × Value)} (r:KT H kvs xs) (k:List Key) {b:Addr} {y:V} {u:Value} (hb:H b = some (.tup (k.map kV))) (ry:RelV y u) :
  KT H (putK kvs k y) (storedH xs k b u):=by
 have e:(kvs.any fun kv=>decide (kv.1 = k)) = (atKey xs k).isSome:=by
  rw [zhz,(r.val k).isSome_eq,Option.isSome_map]
 unfold putK storedH
 rw [e]
 by_cases q:(atKey xs k).isSome = true
 ·rw [if_pos q,if_pos q];exact r.repl k ry
 ·rw [if_neg q,if_neg q];exact Paired.snoc r ⟨rfl,hb,ry⟩
theorem KT.keeps {H H':Hp} {kvs:List (List Key × V)} {xs:List (List Key × Addr × Value)} (r:KT H kvs xs) (ht:∀ b ys,H b = some (.tup ys)->H' b = some (.tup ys)):KT H' kvs xs:=
 Paired.mapP r fun _ _ z=>⟨z.1,ht _ _ z.2.1,z.2.2⟩
section
variable {P:Program} {w:World} {H:Hp} {h:Heap} {a:Addr}
theorem zmj {u:HO} (ok:HOk P w H h) (e:Rd H a u):ObjOk P w H h a u:=e.ok ok
theorem zfZ {kvs:List (Key × V)} (ok:HOk P w H h) (e:Rd H a (.dK kvs)):kvs.length<=sizeLine/\(a == sysModules) = false/\∃ vs,KV kvs vs/\h.DictOf (qY P w) a vs:=
 show ObjOk P w H h a (.dK kvs) from zmj ok e
theorem zqw {kvs:List (Key × V)} (ok:HOk P w H h) (e:H a = some (.dK kvs)):kvs.length<=sizeLine/\(a == sysModules) = false/\∃ vs,KV kvs vs/\h.DictOf (qY P w) a vs:=zfZ ok (.inl e)
theorem zfM {ks:List Key} (ok:HOk P w H h) (e:H a = some (.tup (ks.map kV))):(tupleKind (qY P w)).is h ks a:=by
 obtain ⟨_,its,r,⟨o,h1,h2,n,h3⟩,_⟩:=(show ObjOk P w H h a (.tup (ks.map kV)) from ok a _ e)
 exact ⟨o,its.toArray,n,h1,h2,h3,by simpa using zgW r⟩
theorem zht {kvs:List (List Key × V)} (ok:HOk P w H h) (e:Rd H a (.dT kvs)):kvs.length<=sizeLine/\(a == sysModules) = false /\
  ∃ xs,KT H kvs xs/\h.DictOfH (tupleKind (qY P w)) a xs:=by
 obtain ⟨z,y,xs,r,o,es,ep,h1,h2,h3,h4,h5⟩:=(show ObjOk P w H h a (.dT kvs) from zmj ok e)
 refine ⟨z,y,xs,r,o,es,ep,h1,h2,h3,h4,fun x hx=>?_,h5⟩
 have all:∀ {l:List (List Key × V)} {m:List (List Key × Addr × Value)},KT H l m->∀ x ∈ m,(tupleKind (qY P w)).is h x.1 x.2.1:=by
  intro l m q
  induction q with
  | nil=>intro x hx;exact nomatch hx
  | @cons p q ps qs hq t ih=>
   intro x hx
   rcases mem_cons.mp hx with e | hx
   ·subst e
    exact zfM ok (by rw [← hq.1];exact hq.2.1)
   ·exact ih x hx
 exact all r x hx
theorem zqv {kvs:List (List Key × V)} (ok:HOk P w H h) (e:H a = some (.dT kvs)):kvs.length<=sizeLine/\(a == sysModules) = false /\
  ∃ xs,KT H kvs xs/\h.DictOfH (tupleKind (qY P w)) a xs:=zht ok (.inl e)
end
def DGet (H:Hp) (a:Addr) (y:V) (r:Option V):Prop:=
 (∃ kvs k,Rd H a (.dK kvs)/\y = kV k/\r = zaG kvs k)\/∃ kvs k b,Rd H a (.dT kvs)/\y = .ref b/\H b = some (.tup (k.map kV))/\r = zaG kvs k
def DPut (H:Hp) (a:Addr) (y v:V) (H':Hp):Prop:=
 (∃ kvs k,H a = some (.dK kvs)/\y = kV k/\kvs.length < sizeLine/\H' = upd H a (.dK (putK kvs k v))) \/
 ∃ kvs k b,H a = some (.dT kvs)/\y = .ref b/\H b = some (.tup (k.map kV))/\kvs.length < sizeLine/\H' = upd H a (.dT (putK kvs k v))
theorem DPut.k {H:Hp} {a:Addr} {kvs:List (Key × V)} {k:Key} {v:V} (e:H a = some (.dK kvs)) (hl:kvs.length < sizeLine):DPut H a (kV k) v (upd H a (.dK (putK kvs k v))):=.inl ⟨kvs,k,e,rfl,hl,rfl⟩
section
variable {X:Cx} {pins:List (Addr × Obj)} {σ:St} {H:Hp} {s:Shared} {a:Addr} {y v:V} {u r:Value} {o:Option V} {A:Around} {E:Value->Shared->Prop}
theorem Inv.big (I:Inv X pins σ H s):sysModules < s.heap.objs.size:=by
 have h:mainGlobals < s.heap.objs.size:=(I.mod.glob.keeps I.bk).lt
 exact Nat.lt_trans (by decide) h
theorem zk7 {Q:Value->Shared->Prop} (hu:A.units + 1 < cLine) (I:Inv X pins σ H s) (g:DGet H a y (some v)) (ry:RelV y u) (h:∀ w' s',Inv X pins σ H s'->RelV v w'->Q w' s') :
  wpAny (model X.prog X.w) A (getItem (.ref a) u) Q E s:=by
 rcases g with ⟨kvs,k,e,ey,l⟩ | ⟨kvs,k,b,e,ey,eb,l⟩
 ·subst ey
  obtain ⟨z,hd,vs,rel,dd⟩:=zfZ I.hok e
  obtain ⟨w',hw,rw'⟩:=RelO.some_of (v:=v) (o:=valueAt vs k) (by rw [l];exact rel.val k)
  exact wpAny_getItem_of (zho ry) dd.mapOf hw (h w' _ (I.tok _) rw')
 ·subst ey
  cases (show u = Value.ref b from ry)
  obtain ⟨z,hd,xs,rel,dd⟩:=zht I.hok e
  obtain ⟨w',hw,rw'⟩:=RelO.some_of (v:=v) (o:=(atKey xs k).map (·.2)) (by rw [l];exact rel.val k)
  obtain ⟨p,hp,hp2⟩:=Option.map_eq_some_iff.mp hw
  refine wpAny_getItem_heap (tupleKind_room_in1 hu) (zfM I.hok eb) dd hp ?_
  rw [hp2]
  exact h w' _ (I.tok _) rw'
theorem zrc {Q:Value->Shared->Prop} (hu:A.units + 1 < cLine) (I:Inv X pins σ H s) (g:DGet H a y o) (ry:RelV y u) (h:∀ s',Inv X pins σ H s'->Q (.bool o.isSome) s') :
  wpAny (model X.prog X.w) A (compareOp .In u (.ref a)) Q E s:=by
 rcases g with ⟨kvs,k,e,ey,l⟩ | ⟨kvs,k,b,e,ey,eb,l⟩
 ·subst ey
  obtain ⟨z,hd,vs,rel,dd⟩:=zfZ I.hok e
  refine wpAny_in_of (zho ry) hd dd.mapOf ?_
  rw [← (rel.val k).isSome_eq,← l]
  exact h _ (I.tok _)
 ·subst ey
  cases (show u = Value.ref b from ry)
  obtain ⟨z,hd,xs,rel,dd⟩:=zht I.hok e
  refine wpAny_in_heap (tupleKind_room_in1 hu) (zfM I.hok eb) hd dd ?_
  have q:=(rel.val k).isSome_eq
  rw [Option.isSome_map] at q
  rw [← q,← l]
  exact h _ (I.tok _)
theorem zjt {h':Heap} {t':Nat} {ob:HO} (I:Inv X pins σ H s) (mu:Mut (H a)) (hs:Heap.SameBut a s.heap h') (he:∃ q,h'.get? a = some q) (new:ObjOk X.prog X.w (upd H a ob) h' a ob) :
  Inv X pins σ (upd H a ob) { s with heap:=h',toks:=t' }:=
 I.write (x:=a) (e:=a) mu (.inl rfl) (fun b q hb z=>(hs.2 b hb).trans z) he new
theorem zpy {P:Program} {w:World} {H':Hp} {h':Heap} {kvs:List (Key × V)} {vs:List (Key × Value)} (z:kvs.length<=sizeLine) (hd:(a == sysModules) = false) (rel:KV kvs vs) (dd:h'.DictOf (qY P w) a vs) :
  ObjOk P w H' h' a (.dK kvs):=⟨z,hd,vs,rel,dd⟩
theorem zk6 {H':Hp} {Q:Unit->Shared->Prop} (hu:A.units + 1 < cLine) (I:Inv X pins σ H s) (g:DPut H a y v H') (ry:RelV y u) (rv:RelV v r) (h:∀ s',Inv X pins σ H' s'->Q () s') :
  wpAny (model X.prog X.w) A (setItem (.ref a) u r) Q E s:=by
 rcases g with ⟨kvs,k,e,ey,l,eH⟩ | ⟨kvs,k,b,e,ey,eb,l,eH⟩
 ·subst ey eH
  obtain ⟨z,hd,vs,rel,dd⟩:=zqw I.hok e
  have hz:vs.length<=sizeLine:=by rw [← rel.length];exact z
  have hl:(putK kvs k v).length<=sizeLine:=by have:=zeX kvs k v;omega
  refine wpAny_setItem_pairs (hsz:=hz) (zho ry) dd fun h' dd' hs=>h _ ?_
  have he:∃ q,h'.get? a = some q:=let ⟨q,_,_,hq,_⟩:=dd';⟨q,hq⟩
  exact zjt I (by rw [e];exact True.intro) hs he (zpy hl hd (rel.put k rv) dd')
 ·subst ey eH
  cases (show u = Value.ref b from ry)
  obtain ⟨z,hd,xs,rel,dd⟩:=zqv I.hok e
  have hz:xs.length<=sizeLine:=by rw [← Paired.length rel];exact z
  have hl:(putK kvs k v).length<=sizeLine:=by have:=zeX kvs k v;omega
  refine wpAny_setItem_heap (hsz:=hz) (tupleKind_room_in1 hu) (zfM I.hok eb) dd fun h' dd' hs=>h _ ?_
  obtain ⟨q,es,ep,hq,h2,h3,h4,_,h5⟩:=dd'
  refine zjt I (by rw [e];exact True.intro) hs ⟨q,hq⟩ ⟨hl,hd,_,(rel.put k eb rv).keeps fun c ys ec=>?_,q,es,ep,hq,h2,h3,h4,h5⟩
  rw [yk (zbs ec e (fun z=>nomatch z))]
  exact ec
end
section
variable {X:Cx} {pins:List (Addr × Obj)} {σ:St} {H:Hp} {s:Shared} {a:Addr} {kvs:List (Key × V)} {k:Key} {u:Value} {A:Around} {E:Value->Shared->Prop}
theorem zqx {Q:Value->Shared->Prop} (I:Inv X pins σ H s) (e:Rd H a (.dK kvs)) (h:∀ t s',Inv X pins σ H s'->Q (.int kvs.length t) s'):wpAny (model X.prog X.w) A (call (.builtin "len") [.ref a]) Q E s:=by
 obtain ⟨z,hd,vs,rel,dd⟩:=zfZ I.hok e
 refine call_len_dict hd dd (by rw [← rel.length];rw [sizeLine_eq] at z;omega) ?_
 rw [← rel.length]
 exact h _ _ (I.tok _)
end
theorem ziO {X:Cx} {pins:List (Addr × Obj)} {σ:St} {H:Hp} {s:Shared} {a:Addr} {y:V} {o:Option V} (I:Inv X pins σ H s) (g:DGet H a y o):s.TypeIs (.ref a) "dict":=by
 rcases g with ⟨kvs,k,e,_,_⟩ | ⟨kvs,k,b,e,_,_,_⟩
 ·obtain ⟨_,_,vs,_,dd⟩:=zfZ I.hok e
  exact dd.typeIs
 ·obtain ⟨_,_,xs,_,dd⟩:=zht I.hok e
  exact dd.typeIs
theorem zmd {P:Program} {w:World} {H:Hp} (h:Heap) (hb:sysModules < h.objs.size):ObjOk P w H (h.push { cls:=.type "dict",data:=.dict #[] }) h.objs.size (.dK []):=
 ⟨Nat.zero_le _,beq_eq_false_iff_ne.mpr (Ne.symm (Nat.ne_of_lt hb)),[],.nil,Heap.DictOf.new h⟩
noncomputable def znW:TE:=fun _ H Q=>∀ p,H p = none->Q (.ref p) (upd H p (.dK []))
section
variable {X:Cx} {pos:Pos}
theorem zlD:PE X (.Dict [] [] pos) znW:=fun pins s σ H Q I h=>
 wpAny_Dict_empty ⟨.ref s.heap.objs.size,_,I.laid (a:=s.heap.objs.size) (o:=.dK []) (t':=s.toks) (fun _ _ q=>Heap.get?_push_of_some _ q) (Nat.le_refl _) (zmd s.heap I.big),rfl,h _ (I.hok.fresh (Nat.le_refl _))⟩
end
noncomputable def zkI (kvs more:List (Key × V)):List (Key × V):=more.foldl (fun acc kv=>putK acc kv.1 kv.2) kvs
structure M1 (X:Cx) (o:Expr) (m:Str) (apos:Pos) (e:Expr) (cpos:Pos):Prop where
 base:attributeBase o m X.env (eval o X.env) = eval o X.env
 few:((backTo cpos (starEach [e] X.env)).all (fun x=>!x.1) && (backToKw cpos (keywordEach [] X.env)).all (fun x=>x.1.isSome)
  && decide (([e]:List Expr).length + ([]:List Keyword).length + (if ([]:List Keyword).isEmpty then 0 else 1) < 30)) = true
 line:(apos.endLine == cpos.line) = true
 trees:backTo cpos (starEach [e] X.env) = [(false,eval e X.env)]
structure M2 (X:Cx) (o:Expr) (m:Str) (apos:Pos) (e f:Expr) (cpos:Pos):Prop where
 base:attributeBase o m X.env (eval o X.env) = eval o X.env
 few:((backTo cpos (starEach [e,f] X.env)).all (fun x=>!x.1) && (backToKw cpos (keywordEach [] X.env)).all (fun x=>x.1.isSome)
  && decide (([e,f]:List Expr).length + ([]:List Keyword).length + (if ([]:List Keyword).isEmpty then 0 else 1) < 30)) = true
 line:(apos.endLine == cpos.line) = true
 trees:backTo cpos (starEach [e,f] X.env) = [(false,eval e X.env),(false,eval f X.env)]
def Bnd (n:Nat) (i:Int):Prop:=i.natAbs < 10 ^ n
instance (n:Nat) (i:Int):Decidable (Bnd n i):=inferInstanceAs (Decidable (i.natAbs < 10 ^ n))
theorem Bnd.add {n:Nat} {i j:Int} (h:Bnd n i) (k:Bnd n j):Bnd (n + 1) (i + j):=by
 unfold Bnd at *
 have h1:=Int.natAbs_add_le i j
 rw [Nat.pow_succ]
 omega
theorem Bnd.neg {n:Nat} {i:Int} (h:Bnd n i):Bnd n (-i):=by
 unfold Bnd at *
 rw [Int.natAbs_neg];exact h
theorem zjw {n:Nat} {i:Int} (h:Bnd n i) (hn:n<=3000):Builtin.Int.intBits i<=2 ^ 20:=by
 unfold Builtin.Int.intBits
 split
 ·exact Nat.zero_le _
 ·rename_i h0
  have h1:i.natAbs ≠ 0:=by
   intro z
   have:i = 0:=Int.natAbs_eq_zero.mp z
   subst this
   exact h0 rfl
  have h2:i.natAbs < 2 ^ (4 * n):=by
   have e:(2:Nat) ^ (4 * n) = 16 ^ n:=by rw [Nat.pow_mul]
   rw [e]
   exact Nat.lt_of_lt_of_le h (Nat.pow_le_pow_left (by decide) n)
  have h3:i.natAbs.log2 < 4 * n:=(Nat.log2_lt h1).mpr h2
  have:(2:Nat) ^ 20 = 1048576:=by decide
  omega
def CMulB (i j:Int):Prop:=(∃ m n,Bnd m i/\Bnd n j/\m<=3000/\n<=3000)\/CMul i j
theorem CMulB.ok {i j:Int} (h:CMulB i j):IntMulOk i j:=by
 rcases h with ⟨m,n,h1,h2,h3,h4⟩ | h
 ·exact IntMulOk.of_bits (zjw h1 h3) (zjw h2 h4)
 ·exact h.ok
section
variable {X:Cx}
theorem zm1:OpR X (binaryOp .Mult) (rI CMulB fun i j=>.int (i * j)):=opI fun _ _ _ _ _ _ _ hc q=>mul_int q hc.ok
noncomputable def zpZ (K:Frag):R2:=fun x y H Q=>∃ l b xs zs,x = .ref l/\y = .ref b/\SqL K H l xs/\SqL K H b zs/\xs.length + zs.length<=sizeLine/\∀ p,H p = none->Q (.ref p) (upd H p (.lst (xs ++ zs)))
theorem zm4:OpR X (binaryOp .Add) (zpZ X.K):=by
 intro pins s σ H x y v u Q I rx ry h
 obtain ⟨l,b,xs,zs,rfl,rfl,hH,hB,hz,q⟩:=h
 cases rx
 cases ry
 obtain ⟨its,r,pl,z⟩:=I.list hH
 obtain ⟨its2,r2,pl2,z2⟩:=I.list hB
 obtain ⟨⟨cls,dd,data,sl⟩,n,ho,hc,hdi,hd⟩:=pl
 obtain ⟨⟨cls2,dd2,data2,sl2⟩,n2,ho2,hc2,hdi2,hd2⟩:=pl2
 simp only at hc hd hc2 hd2
 subst hc hd hc2 hd2
 have e1:=r.length
 have e2:=r2.length
 refine concat_meets ⟨_,ho,rfl⟩ ⟨_,ho2,rfl⟩ noFill_list_add seq_list_add PySem.F.slot_list_add PySem.F.entry_list_add (PySem.F.args_list_add_2 _ _) (list_addW l b its.toArray its2.toArray n n2 dd dd2 sl sl2 (by rw [size_toArray,size_toArray];omega)) ⟨ho,ho2,?_⟩
 have ea:its.toArray ++ its2.toArray = (its ++ its2).toArray:=by simp
 rw [ea]
 exact ⟨.ref _,_,I.lnew (t':=s.toks) (r.append r2) (by rw [length_append];omega),rfl,q _ I.fresh⟩
end
structure Df (K:Frag) (mg:Str->Option Value) (x:Str) (st:Stmt) (ps:List Str):Prop where
 ex:∃ (f:Addr) (fd:FuncData),Fun K x x st f fd/\Binds K fd ps []/\mg x = some (.ref f)
structure Cal (P:Program) (w:World) (K:Frag) (mg:Str->Option Value) (base:Heap) (k:Nat) (x:Str) (ps:List Str) (sp:Sp):Prop where
 ex:∃ (f:Addr) (fd:FuncData),FnOk P w K mg base CX0 k f fd ps sp/\PySem.W.keepIn K (.ref f) = true/\Binds K fd ps []/\mg x = some (.ref f)
section
variable {P:Program} {w:World} {K:Frag} {mg:Str->Option Value} {base:Heap}
theorem Df.ok {x:Str} {st:Stmt} {N ps:List Str} {k:Nat} {sp:Sp} (D:Df K mg x st ps) (S:FnScope N ps (zf st)) (len:∀ vs H Q E,sp vs H Q E->vs.length = ps.length)
  (hbody:∀ (f:Addr) (cdv:Value) (A:Around) (outer:List Env) (s:Shared) (H:Hp) (vs:List V) (Q:VK) (E:XK),Room k (A.deeper (envOfC x (zf st) s.heap.objs.size f cdv))->sp vs H Q E->
   ∃ t,PSs (zb1 CX0 P w K mg base N x (zf st) f cdv A outer s H E).nox (yK st) t/\t { nx:=fun _ H'=>Q .non H',rt:=Q } (start N vs) H):Cal P w K mg base (k + 1) x ps sp:=by
 obtain ⟨f,fd,F,b,g⟩:=D.ex
 exact ⟨⟨f,fd,F.ok S len (hbody f),F.kp,b,g⟩⟩
theorem qv {h:Heap} (X:K.In h) (G:h.Ns mainGlobals mg) {x:Str} {st:Stmt} {ps:List Str} {f:Addr} {od an:Option Addr} {sl:Array (Option Value)} {oc kV dc pm cd ct:Value}
  (a:PySem.W.nsIn K mainGlobals x = some (some (.ref f)))
  (l:K.lookup f = some ⟨oc,od,.func (PySem.W.fnOf x x (zaD st) (yK st) (zf st) .none kV dc pm an cd ct),sl⟩) (c:PySem.W.codeIn K cd x = true) (k:PySem.W.keepIn K (.ref f) = true)
  (hb:∀ (kV doc pm:Value) (an:Option Addr) (cdv ct:Value) (us:List Value),us.length = ps.length->bindArgs (PySem.W.fnOf x x (zaD st) (yK st) (zf st) .none kV doc pm an cdv ct) ⟨us,[]⟩ = pure (ps.zip us)):Df K mg x st ps:=by
 have F:=zh9 (st:=st) l c k
 exact ⟨⟨f,_,F,F.binds hb,PySem.W.mg_of X G a⟩⟩
end
section
variable {K:Frag} {mg:Str->Option Value}
theorem zoM {h:Heap} (X:K.In h) (G:h.Ns mainGlobals mg) {st:Stmt} {f:Addr} {od an:Option Addr} {sl:Array (Option Value)} {oc kV dc pm cd ct:Value}
  (a:PySem.W.nsIn K mainGlobals "law" = some (some (.ref f)))
  (l:K.lookup f = some ⟨oc,od,.func (PySem.W.fnOf "law" "law" (zaD st) (yK st) (zf st) .none kV dc pm an cd ct),sl⟩) (c:PySem.W.codeIn K cd "law" = true) (k:PySem.W.keepIn K (.ref f) = true)
  (hb:∀ (kV dc pm:Value) (an:Option Addr) (cd ct:Value) (s:Shared) (u:Value),BindsTo s (PySem.W.fnOf "law" "law" (zaD st) (yK st) (zf st) .none kV dc pm an cd ct) ⟨[u],[]⟩ [("script",u)]) :
  ∃ (f:Addr) (fd:FuncData),Fun K "law" "law" st f fd/\mg "law" = some (.ref f)/\∀ (s:Shared) (u:Value),BindsTo s fd ⟨[u],[]⟩ [("script",u)]:=
 ⟨f,_,zh9 (st:=st) l c k,PySem.W.mg_of X G a,fun s u=>hb _ _ _ _ _ _ s u⟩
end
section
variable {X:Cx} {k:Nat} {ps:List Str} {sp:Sp} {x:Str} {p pos:Pos} {e:Expr} {es:List Expr} {t:TA}
theorem zos (C:Cal X.prog X.w X.K X.mg X.base k x ps sp) (hr:Room k X.A) (hg:Gl X x) (ha:PA X (e :: es) t) (hdb:(x == ("__debug__":Str)) = false:=by decide)
  (he:starEach (e :: es) X.env = (false,eval e X.env) :: starEach es X.env:=by rfl) (hpl:(backTo pos (starEach es X.env)).any (·.1) = false:=by rfl) :
  PE X (.Call (.Name x p) (e :: es) [] pos) (zmi sp [] E0 t):=by
 obtain ⟨f,fd,F,kp,b,g⟩:=C.ex
 exact zmW F hr hg g kp b .nil zml ha hdb he hpl
end
theorem Bnd.of {n:Nat} {i:Int} (h1:-(10 ^ n:Int) < i) (h2:i < 10 ^ n):Bnd n i:=by
 unfold Bnd
 have:((10 ^ n:Nat):Int) = (10:Int) ^ n:=by simp
 omega
theorem Bnd.hi {n:Nat} {i:Int} (h:Bnd n i):i < 10 ^ n:=by
 unfold Bnd at h
 have:((10 ^ n:Nat):Int) = (10:Int) ^ n:=by simp
 omega
theorem Bnd.lo {n:Nat} {i:Int} (h:Bnd n i):-(10 ^ n:Int) < i:=by
 unfold Bnd at h
 have:((10 ^ n:Nat):Int) = (10:Int) ^ n:=by simp
 omega
theorem Bnd.gcd {n:Nat} {a b:Int} (h:0 < b) (k:Bnd n b):Bnd n ((Int.gcd a b:Nat):Int):=by
 unfold Bnd at *
 have h1:((Int.gcd a b:Nat):Int) ∣ b:=Int.gcd_dvd_right ..
 have h2:((Int.gcd a b:Nat):Int)<=b:=Int.le_of_dvd h h1
 omega
noncomputable abbrev zgH:List Value:=[.type "ValueError",.type "Exception",.type "BaseException",.type "object"]
structure ExcAt (K:Frag) (mg:Str->Option Value) (x:Str) (C:Addr):Prop where
 bound:mg x = some (.ref C)
 obj:∀ h:Heap,K.In h->∃ bm N nm q bs hdct sn sub ab col dd k0 k1 k2 k3 k5 mN,h.get? C = some (excClassObj nm q C N bs bm hdct sn sub ab col dd k0 k1 k2 k3 k5 "ValueError.__new__")/\h.Ns N mN/\mN "__init__" = none/\OwnTail h zgH bm
theorem ObjOk.there {P:Program} {w:World} {H:Hp} {h:Heap} {a:Addr} {o:HO} (x:ObjOk P w H h a o):∃ u,h.get? a = some u:=by
 cases o with
 | lst xs=>obtain ⟨_,_,_,_,e⟩:=x;exact ⟨_,e⟩
 | tup xs=>obtain ⟨_,_,_,⟨ob,e,_⟩,_⟩:=x;exact ⟨_,e⟩
 | dK kvs=>obtain ⟨_,_,_,_,o,_,_,e,_⟩:=x;exact ⟨_,e⟩
 | dT kvs=>obtain ⟨_,_,_,_,o,_,_,e,_⟩:=x;exact ⟨_,e⟩
 | set S n=>obtain ⟨o,_,_,_,e,_⟩:=x;exact ⟨_,e⟩
 | ins C dx fs=>obtain ⟨_,_,_,e,_⟩:=x;exact ⟨_,e⟩
 | own y=>obtain ⟨_,e⟩:=x;exact ⟨_,e⟩
 | xd fs=>obtain ⟨_,⟨_,_,_,e,_⟩,_⟩:=x;exact ⟨_,e⟩
 | rng lo hi=>obtain ⟨_,_,_,e⟩:=x;exact ⟨_,e⟩
 | frz ob u=>obtain ⟨e,_⟩:=x;exact ⟨_,e⟩
 | tbl ps=>exact ⟨_,(show h.get? a = some _ from x)⟩
 | met f y=>exact ⟨_,(show h.get? a = some _ from x)⟩
 | ext φ=>obtain ⟨_,⟨_,e⟩,_⟩:=x;exact ⟨_,e⟩
noncomputable def CXC (P:Program) (w:World) (C:Addr):CXT:=fun l H s E ev s'=>∃ (e t:Addr) (B:Heap) (H':Hp),ev = .ref e/\Heap.FlyingW B l e (.ref C) (.ref t) s'.heap/\s'.os = s.os/\AllBare s'.gens /\
 Un (frs l) [] H H' s.heap s'.heap/\HOk P w H' s'.heap/\(∀ b o,s'.heap.get? b = some o->b ∉ frs l->(H' b ≠ none\/∃ o',s.heap.get? b = some o')->B.get? b = some o)/\(∀ b ∈ frs l,H' b = none)/\E (.ref C) none H'
noncomputable abbrev Cx.suite (X:Cx) (ev:Addr):Cx:={ X with A:=X.A.mark (some (.ref ev)),calm:=false,xe:=fun _ _=>False }
section
variable {X:Cx} {pins:List (Addr × Obj)} {σ:St} {H:Hp} {s:Shared} {ev:Addr}
theorem Inv.unsuite (ok:X.Ok) (I:Inv (X.suite ev) pins σ H s):Inv X pins σ H s:=⟨ok,I.os,I.bare,I.base,I.loc,I.cell,I.free,I.freeC,I.pin,I.hok,I.len⟩
end
theorem zl9 (x:V) (f:zap x = true):eqV x x = true:=by
 cases x with
 | non=>rfl
 | bl b=>simp [eqV]
 | int i=>simp [eqV]
 | str z=>simp [eqV]
 | _=>exact absurd (show false = true from f) Bool.false_ne_true
section
variable {X:Cx}
def CDivS (_ j:Int):Prop:=j ≠ 0/\∃ n,Bnd n j/\n<=2000
theorem CDivS.ok {i j:Int} (h:CDivS i j):Builtin.divisionGoesByPylong i j = false:=by
 obtain ⟨h0,n,h1,h2⟩:=h
 refine PyProof.noPylong_of_log2 ?_
 have hz:j.natAbs ≠ 0:=by omega
 have e:(2:Nat) ^ (4 * n) = 16 ^ n:=by rw [Nat.pow_mul]
 have h3:j.natAbs < 2 ^ (4 * n):=by
  rw [e]
  exact Nat.lt_of_lt_of_le h1 (Nat.pow_le_pow_left (by decide) n)
 have h4:j.natAbs.log2 < 4 * n:=(Nat.log2_lt hz).mpr h3
 omega
theorem zlG:OpR X (binaryOp .FloorDiv) (rI CDivS fun i j=>.int (i.fdiv j)):=opI fun _ _ _ _ _ _ _ hc q=>floordiv_int hc.1 q (.inl hc.ok)
end
structure CalX (P:Program) (w:World) (K:Frag) (mg:Str->Option Value) (base:Heap) (C:Addr) (k:Nat) (x:Str) (ps:List Str) (sp:Sp):Prop where
 ex:∃ (f:Addr) (fd:FuncData),FnOk P w K mg base (CXC P w C) k f fd ps sp/\PySem.W.keepIn K (.ref f) = true/\Binds K fd ps []/\mg x = some (.ref f)
theorem zcH {n:Nat} {name x:Str} {acc:List (Str × Addr)} {c:Addr} (e:((name,n) :: acc).lookup x = some c):(x = name/\c = n)\/acc.lookup x = some c:=by
 rw [lookup_cons] at e
 split at e
 ·rename_i h;cases e;exact .inl ⟨eq_of_beq h,rfl⟩
 ·exact .inr e
theorem zf2:∀ (names:List (Str × NameKind)) (n:Nat) (acc:List (Str × Addr)),(∀ x y c,acc.lookup x = some c->acc.lookup y = some c->x = y)->(∀ x c,acc.lookup x = some c->c < n)->∀ x y c,(cellsFrom n names acc).lookup x = some c->(cellsFrom n names acc).lookup y = some c->x = y
 | [],_,_,h,_,x,y,c,e1,e2=>h x y c e1 e2
 | (name,kind) :: r,n,acc,h,lt,x,y,c,e1,e2=>by
  unfold cellsFrom at e1 e2
  split at e1
  ·rename_i hk
   rw [if_pos hk] at e2
   refine zf2 r (n + 1) ((name,n) :: acc) (fun x y c f1 f2=>?_) (fun x c f=>?_) x y c e1 e2
   ·rcases zcH f1 with ⟨g1,g2⟩ | g1 <;> rcases zcH f2 with ⟨g3,g4⟩ | g3
    ·rw [g1,g3]
    ·subst g2;exact absurd (lt _ _ g3) (Nat.lt_irrefl _)
    ·subst g4;exact absurd (lt _ _ g1) (Nat.lt_irrefl _)
    ·exact h x y c g1 g3
   ·rcases zcH f with ⟨g1,g2⟩ | g1
    ·subst g2;exact Nat.lt_succ_self _
    ·exact Nat.lt_succ_of_lt (lt _ _ g1)
  ·rename_i hk
   rw [if_neg hk] at e2
   exact zf2 r n acc h lt x y c e1 e2
theorem zhu {x:Str} {c:Addr}:∀ (names:List (Str × NameKind)) (n:Nat) (acc:List (Str × Addr)),(cellsFrom n names acc).lookup x = some c->acc.lookup x = some c\/n<=c
 | [],_,_,e=>.inl e
 | (name,kind) :: r,n,acc,e=>by
  unfold cellsFrom at e
  split at e
  ·rcases zhu r (n + 1) _ e with f | f
   ·rcases zcH f with ⟨_,g⟩ | g
    ·exact .inr (Nat.le_of_eq g.symm)
    ·exact .inl g
   ·exact .inr (by omega)
  ·exact zhu r n acc e
theorem zkb {x:Str} {c:Addr} {lo:Nat}:∀ (names:List (Str × NameKind)) (n:Nat) (acc:List (Str × Addr)),lo<=n->(∀ c,acc.lookup x = some c->lo<=c)->(cellsFrom n names acc).lookup x = some c->lo<=c
 | [],_,_,_,h,e=>h _ e
 | (name,kind) :: r,n,acc,hn,h,e=>by
  unfold cellsFrom at e
  split at e
  ·refine zkb r (n + 1) _ (Nat.le_succ_of_le hn) (fun c f=>?_) e
   rcases zcH f with ⟨_,g⟩ | g
   ·subst g;exact hn
   ·exact h _ g
  ·exact zkb r n acc hn h e
theorem zf0 {x:Str} {c:Addr}:∀ (names:List (Str × NameKind)) (n:Nat) (acc:List (Str × Addr)),names.lookup x = some .cell->(cellsFrom n names acc).lookup x = some c->n<=c
 | [],_,_,h,_=>by cases h
 | (name,kind) :: r,n,acc,h,e=>by
  unfold cellsFrom at e
  rw [lookup_cons] at h
  split at h
  ·rename_i hx
   cases h
   rw [if_pos (show (NameKind.cell == NameKind.cell) = true from rfl)] at e
   refine zkb r (n + 1) _ (Nat.le_succ _) (fun c f=>?_) e
   rw [lookup_cons,hx] at f
   cases f;exact Nat.le_refl _
  ·split at e
   ·exact Nat.le_of_succ_le (zf0 r (n + 1) _ h e)
   ·exact zf0 r n acc h e
theorem zf1 {x:Str}:∀ (names:List (Str × NameKind)) (n:Nat) (acc:List (Str × Addr)),(∀ y ∈ names,y.2 = .cell->y.1 ≠ x)->(cellsFrom n names acc).lookup x = acc.lookup x
 | [],_,_,_=>rfl
 | (name,kind) :: r,n,acc,h=>by
  unfold cellsFrom
  split
  ·rename_i hk
   rw [zf1 r (n + 1) _ fun y hy=>h y (mem_cons_of_mem _ hy),lookup_cons]
   have:(x == name) = false:=by
    cases q:x == name with
    | false=>rfl
    | true=>exact absurd (eq_of_beq q).symm (h (name,kind) mem_cons_self (eq_of_beq hk))
   rw [this]
  ·exact zf1 r n acc fun y hy=>h y (mem_cons_of_mem _ hy)
theorem zeR:∀ (names:List (Str × NameKind)) (h:Heap) (acc:List (Str × Addr)),(∀ x c,acc.lookup x = some c->∃ v,h.IsCell c v)->∀ x c,(cellsFrom h.objs.size names acc).lookup x = some c->∃ v,(pushCells h names).IsCell c v
 | [],_,_,k,x,c,e=>k x c e
 | (name,kind) :: r,h,acc,k,x,c,e=>by
  unfold cellsFrom at e
  unfold pushCells
  split at e
  ·rename_i hk
   rw [if_pos hk]
   refine zeR r (h.push { cls:=.type "cell",data:=.cell none }) ((name,h.objs.size) :: acc) (fun x c f=>?_) x c (by rw [Heap.size_push];exact e)
   rcases zcH f with ⟨_,g⟩ | g
   ·subst g;exact ⟨none,_,Heap.get?_push_size _ rfl,rfl⟩
   ·obtain ⟨v,q⟩:=k x c g
    exact ⟨v,q.keeps fun b o e=>Heap.get?_push_of_some _ e⟩
  ·rename_i hk
   rw [if_neg hk]
   exact zeR r h acc k x c e
theorem zav {M:Model} {A:Around} {E:Value->Shared->Prop} {s:Shared} {scope:Scope} {globals:Addr} {cl:List (Str × Addr)} {qual:Str} {env:Env} {builtins:Addr} {Q:Env->Shared->Prop}
  (hQ:∀ h',h'.Ns s.heap.objs.size (fun _=>none)->h' = pushCells (s.heap.push { cls:=.type "dict",data:=.dict #[] }) scope.names->
   Q (newEnv scope s.heap.objs.size globals (cellsFrom (s.heap.objs.size + 1) scope.names cl) qual none .none (some env) builtins) { s with heap:=h' }) :
  wpAny M A (newFunctionEnv scope globals cl [] qual none .none (some env) builtins) Q E s:=by
 simp only [newFunctionEnv,Option.isSome_some,if_true]
 refine wpAny_bind (wpAny_alloc ?_)
 refine wpAny_bind (wpAny_layCells _ (fun name kind cells=>by cases hkc:kind == NameKind.cell <;> simp [hkc]) _ _ _ _ ?_)
 rw [show ({ s with heap:=s.heap.push { cls:=.type "dict",data:=.dict #[] } }:Shared).heap.objs.size = s.heap.objs.size + 1 from Heap.size_push ..]
 refine wpAny_bind ?_
 rw [List.forIn_nil]
 exact wpAny_pure (wpAny_pure (hQ _ ((Heap.Ns.new s.heap (.type "dict")).keeps (pushCells_keeps _ _)) rfl))
noncomputable def zfy (scope:Scope) (cl:List (Str × Addr)) (C:Addr) (env:Env):Env:={ compEnvC scope cl C env with cells:=cellsFrom (C + 1) scope.names cl }
noncomputable def Cx.block (X:Cx) (scope:Scope) (cl:List (Str × Addr)) (N:List Str) (ex:List Addr) (s0:Shared) (H0:Hp):Cx where
 prog:=X.prog
 w:=X.w
 K:=X.K
 mg:=X.mg
 base:=X.base
 A:=X.A
 N:=N
 s₀:=s0
 H₀:=H0
 env:=zfy scope cl s0.heap.objs.size X.env
 outer:=X.stack
 stack:=X.stack
 ex:=ex
 fn:=fun x=>scope.names.lookup x == some .cell
 calm:=X.calm
 pn:=[]
 xe:=fun _ _=>False
def PTs (X:Cx) (ifs:List Expr) (t:TT):Prop:=
 ∀ (pins:List (Addr × Obj)) (s:Shared) (σ:St) (H:Hp) (Q:Bool->Hp->Prop),Inv X pins σ H s->t σ H Q->
  wpAny (model X.prog X.w) X.A (forIn ifs true fun c r=>if r = true then do let ok ← isTrue c X.env (eval c X.env);pure (ForInStep.yield ok) else pure (ForInStep.yield r)) (TP X pins σ Q) X.xe s
noncomputable def zpG:TT:=fun _ H Q=>Q true H
theorem zmL {X:Cx}:PTs X [] zpG:=fun _ _ _ H _ I h=>wpAny_tests_nil ⟨H,I,h⟩
theorem zmK {X:Cx} {c:Expr} {t:TT} (h:PT X c t):PTs X [c] t:=fun pins s σ H Q I hq=>wpAny_tests_one (h pins s σ H Q I hq)
noncomputable def zaS (tgs:List Str) (caps:List (Str × Nat)) (σ:St):St:=tgs.map (fun _=>none) ++ caps.map fun c=>(σ[c.2]?).join
noncomputable def zhl (wi:TI) (g:TG) (tc:TT) (te:TE) (σ0:St->St):TE:=fun σ H Q=>wi σ H fun J H1=>∀ D,H1 D = none->∃ W:Nat->Nat->St->Hp->Prop,(∃ m,W 0 m (σ0 σ) (upd H1 D (.lst [])))/\∀ i m σ' H',W i m σ' H'->
 (J.stop i H'/\Q (.ref D) H')\/(J.go i H'/\∃ N:St->Hp->Prop,(∀ σ'' H'',N σ'' H''->∃ m',m' < m/\W (i + 1) m' σ'' H'')/\∀ x H2,J.yld i H' x H2->g x σ' H2 fun σ2 H3=>tc σ2 H3 fun b H4=>
  if b = true then te σ2 H4 fun v H5=>∃ ys,H5 D = some (.lst ys)/\ys.length < sizeLine/\N σ2 (upd H5 D (.lst (ys ++ [v]))) else N σ2 H4)
theorem zbQ {prog:Program} {w:World} {A:Around} {R:Result->Shared->Prop} {s:Shared} {elt target iter:Expr} {ifs:List Expr} {scope:Scope} {pos:Pos} {it acc:Value} {env:Env} (I:Nat->Shared->Prop)
  (turn:∀ n s,I n s->wpAny (model prog w) A (pyNext it) (fun r s₁=>match r with
   | none=>R (.ok .next) s₁
   | some v=>wpAny (model prog w) A (letOwnedTupleGo target it v) (fun _ s₁'=>wpAny (model prog w) A (assign target env v) (fun _ s₂=>
     wpAny (model prog w) A (forIn ifs true fun c r=>if r = true then do let ok ← isTrue c env (eval c env);pure (ForInStep.yield ok) else pure (ForInStep.yield r)) (fun ok s₃=>
      if ok = true then wpAny (model prog w) A (eval elt env) (fun x s₄=>
       wpAny (model prog w) A (call (.builtin "list.append") [acc,x]) (fun _ s₅=>∃ m,m < n/\I m s₅) (notedBy (model prog w) A env fun e s'=>R (.error e) s') s₄) (notedBy (model prog w) A env fun e s'=>R (.error e) s') s₃
      else ∃ m,m < n/\I m s₃) (notedBy (model prog w) A env fun e s'=>R (.error e) s') s₂) (notedBy (model prog w) A env fun e s'=>R (.error e) s') s₁') (notedBy (model prog w) A env fun e s'=>R (.error e) s') s₁) (notedBy (model prog w) A env fun e s'=>R (.error e) s') s)
  (n:Nat) (h:I n s):codeAny (model prog w) A (.compLoop (.ListComp elt [⟨target,iter,ifs,0⟩] scope pos) 0 it acc env) R s:=by
 refine codeAny_loop rfl I (fun n s hI=>?_) n h
 show wpAny _ A ((compTurn (.ListComp elt [⟨target,iter,ifs,0⟩] scope pos) 0 it acc env).onRaise (fun x=>do noteFrame x env;theTreesLotGoes x)) _ _ s
 refine wpAny_noted ?_
 rw [compTurn_list]
 refine wpAny_bind (wpAny_standAt (wpAny_bind (wpAny_mono (turn n s hI) (fun r s₁ h₁=>?_) fun _ _ h'=>h')))
 cases r with
 | none=>exact wpAny_pure h₁
 | some v=>
  refine wpAny_bind (wpAny_mono h₁ (fun _ s₁' h₁'=>?_) fun _ _ h'=>h')
  refine wpAny_bind (wpAny_mono h₁' (fun _ s₂ h₂=>wpAny_bind (wpAny_mono h₂ (fun ok s₃ h₃=>?_) fun _ _ h'=>h')) fun _ _ h'=>h')
  cases ok with
  | false=>exact wpAny_pure ⟨rfl,h₃⟩
  | true=>
   exact wpAny_bind (wpAny_bind (wpAny_mono h₃ (fun x s₄ h₄=>wpAny_bind (wpAny_mono h₄ (fun _ s₅ h₅=>wpAny_pure (wpAny_pure ⟨rfl,h₅⟩)) fun _ _ h'=>h')) fun _ _ h'=>h'))
section
variable {X:Cx}
theorem zi7 {tg elt iter:Expr} {ifs:List Expr} {scope:Scope} {cl:List (Str × Addr)} {pos:Pos} {tgs:List Str} {caps:List (Str × Nat)} {wi:TI} {g:TG} {tc:TT} {te:TE}
  (hc:X.calm = true) (hi:PI X tg iter wi) (hclos:closureFor scope X.env = pure cl) (hcell:∀ y ∈ scope.names,y.2 = .cell->y.1 ∉ caps.map (·.1)) (hkind:scope.kind = .function)
  (hnames:∀ y ∈ scope.names,y.2 = .local->scope.names.lookup y.1 = some .local)
  (hcl:∀ y c,cl.lookup y = some c->X.env.cells.lookup y = some c)
  (hhas:∀ n y,((relabel scope X.env).names.lookup y = some .cell\/(relabel scope X.env).names.lookup y = some .free)->∃ c,(cellsFrom n scope.names cl).lookup y = some c)
  (hcap:∀ c ∈ caps,X.N[c.2]? = some c.1/\X.env.kindOf c.1 = some .cell/\((relabel scope X.env).names.lookup c.1 = some .cell\/(relabel scope X.env).names.lookup c.1 = some .free))
  (hg:∀ ex s0 H0,PG (X.block scope cl (tgs ++ caps.map (·.1)) ex s0 H0) tg g) (hif:∀ ex s0 H0,PTs (X.block scope cl (tgs ++ caps.map (·.1)) ex s0 H0) ifs tc) (hel:∀ ex s0 H0,PE (X.block scope cl (tgs ++ caps.map (·.1)) ex s0 H0) elt te)
  (hs:∀ x,foldedSetIterable iter X.env x = pure x:=by intro _;rfl) :
  PE X (.ListComp elt [⟨tg,iter,ifs,0⟩] scope pos) (zhl wi g tc te (zaS tgs caps)):=by
 intro pins s σ H Q I h
 rw [eval_ListComp]
 refine wpAny_comprehension_free (use:=none) rfl hs hclos hkind hnames (thn (hi pins s σ H _ I h) fun v s1 h1=>thn h1 fun itv s2 h2=>?_)
 obtain ⟨it,fp,tn,J,H2,e,I2,T,st2,f2,hrest⟩:=h2
 subst e
 -- the new list
 have hD:H2 s2.heap.objs.size = none:=I2.fresh
 obtain ⟨W,⟨m0,w0⟩,turn⟩:=hrest _ hD
 refine wpAny_newObj_type ?_ (by show 0<=sizeLine;decide)
 have I3:Inv X pins σ (upd H2 s2.heap.objs.size (.lst [])) { s2 with heap:=s2.heap.push { cls:=.type "list",data:=.seq ([]:List Value).toArray } }:=I2.lnew (t':=s2.toks) (ys:=[]) (its:=[]) .nil (by show 0<=sizeLine;decide)
 generalize hs3:({ s2 with heap:=s2.heap.push { cls:=.type "list",data:=.seq ([]:List Value).toArray } }:Shared) = s3 at I3
 have lt2:∀ b o,s2.heap.get? b = some o->s3.heap.get? b = some o:=fun b o e=>by rw [← hs3];exact Heap.get?_push_of_some _ e
 have sz3:s2.heap.objs.size < s3.heap.objs.size:=by rw [← hs3];show _ < (s2.heap.push _).objs.size;rw [Heap.size_push];exact Nat.lt_succ_self _
 have st3:tn 0 s3.heap:=T.keep 0 _ _ st2 fun b _ o e=>lt2 b o e
 have fplt:∀ b ∈ fp,b < s2.heap.objs.size:=fun b hb=>by
  obtain ⟨o,e,_⟩:=T.obj 0 _ st2 b hb
  exact Heap.lt_size e
 generalize hH3:upd H2 s2.heap.objs.size (.lst []) = H3 at I3 w0
 have fr3:∀ b ∈ fp,H3 b = none:=fun b hb=>by rw [← hH3,yk (Nat.ne_of_lt (fplt b hb))];exact (f2 b hb).1
 have nstk:∀ b ∈ fp,b ∉ frs X.stack:=fun b hb z=>by
  obtain ⟨_,n1,n2,_⟩:=f2 b hb
  rcases mem_cons.mp (I2.stkSub b z) with z | z
  ·exact n1 z
  ·exact n2 z
 refine zav fun h4 ns4 sb4=>?_
 have keep4:∀ b o,s3.heap.get? b = some o->h4.get? b = some o:=fun b o e=>by rw [sb4];exact pushCells_keeps _ _ b o (Heap.get?_push_of_some _ e)
 have clt:∀ x c,cl.lookup x = some c->c < s3.heap.objs.size:=fun x c e=>by
  obtain ⟨v,q⟩:=I3.cell x c (hcl x c e)
  exact q.lt
 have cor:∀ x c,(cellsFrom (s3.heap.objs.size + 1) scope.names cl).lookup x = some c->cl.lookup x = some c\/s3.heap.objs.size + 1<=c:=fun x c e=>zhu _ _ _ e
 have cne:∀ b ∈ fp,∀ x c,(cellsFrom (s3.heap.objs.size + 1) scope.names cl).lookup x = some c->c ≠ b:=fun b hb x c e=>by
  rcases cor x c e with e | e
  ·exact (f2 b hb).2.2.2.2.1 x c (hcl x c e)
  ·exact Nat.ne_of_gt (Nat.lt_of_lt_of_le (Nat.lt_trans (fplt b hb) sz3) (Nat.le_of_succ_le e))
 have neC:∀ b ∈ fp,b ≠ s3.heap.objs.size:=fun b hb=>Nat.ne_of_lt (Nat.lt_trans (fplt b hb) sz3)
 have ok':(X.block scope cl (tgs ++ caps.map (·.1)) fp s3 H3).Ok:=
  ⟨I.ok.mod,hkind,I.ok.glob,I.ok.blt,Nat.le_refl _,zf2 _ _ _ (fun x y c e1 e2=>I.ok.inj x y c (hcl x c e1) (hcl y c e2)) (fun x c e=>Nat.lt_succ_of_lt (clt x c e)),hhas _,(fun x c z e=>Nat.le_of_succ_le (zf0 _ _ _ (eq_of_beq z) e)),I.ok.hd,I.ok.frames,.inl rfl,
   fun b hb=>⟨neC b hb,cne b hb⟩,I3.bs,Nat.le_trans I.ok.bsz I3.sz,fun b o e hb=>by
    rcases (f2 b hb).2.2.2.1 with z | z
    ·exact I.ok.noex b o e z
    ·exact absurd (Nat.lt_of_lt_of_le (Heap.lt_size e) (Nat.le_trans I.ok.bsz z)) (Nat.lt_irrefl _),
   nstk,I3.stack,I3.stkFree⟩
 have I4:Inv (X.block scope cl (tgs ++ caps.map (·.1)) fp s3 H3) [] (zaS tgs caps σ) H3 { s3 with heap:=h4 }:=by
  refine ⟨ok',rfl,I3.bare,Un.kept keep4,⟨_,ns4,fun i x v e1 e2 e3=>?_⟩,fun x c e=>?_,I3.hok.fresh (Nat.le_refl _),fun x c e=>(cor x c e).elim (fun e=>I3.freeC x c (hcl x c e)) (fun e=>I3.hok.fresh (Nat.le_of_succ_le e)),fun p hp=>by simp [Cx.block] at hp,I3.hok.kept keep4,by simp [zaS,Cx.block]⟩
  ·-- a captured name
   have hlen:(tgs.map (fun _=>(none:Option V))).length = tgs.length:=by simp
   by_cases hi:i < tgs.length
   ·have:(zaS tgs caps σ)[i]? = some none:=by
     unfold zaS
     rw [getElem?_append_left (by simpa using hi)]
     simp [hi]
    rw [this] at e2
    cases e2
   ·have e1':(tgs ++ caps.map (·.1))[i]? = some x:=e1
    rw [getElem?_append_right (by omega),getElem?_map] at e1'
    have e2':=e2
    unfold zaS at e2'
    rw [getElem?_append_right (by simpa using hi),hlen,getElem?_map] at e2'
    cases hcq:caps[i - tgs.length]? with
    | none=>rw [hcq] at e1';cases e1'
    | some cq=>
     rw [hcq] at e1' e2'
     have ex:cq.1 = x:=Option.some.inj e1'
     have ev:(σ[cq.2]?).join = some v:=Option.some.inj e2'
     obtain ⟨c1,c2,c3⟩:=hcap cq (mem_of_getElem? hcq)
     have ev':σ[cq.2]? = some (some v):=by
      cases q:σ[cq.2]? with
      | none=>rw [q] at ev;cases ev
      | some o=>rw [q] at ev;cases o with
       | none=>cases ev
       | some v'=>rw [show v' = v from Option.some.inj ev]
     obtain ⟨m,hn,hl⟩:=I3.loc
     obtain ⟨u,r,lk⟩:=hl cq.2 cq.1 v c1 ev' (.inr (.inl c2))
     rcases lk with ⟨k1,_⟩ | ⟨_,c,ec,icl⟩
     ·rw [c2] at k1;cases k1
     ·obtain ⟨c',ec'⟩:=hhas (s3.heap.objs.size + 1) cq.1 c3
      have ec2:=ec'
      rw [zf1 _ _ _ fun y hy hk hyx=>hcell y hy hk (by rw [hyx];exact List.mem_map_of_mem (mem_of_getElem? hcq))] at ec2
      have:=hcl _ _ ec2
      rw [ec] at this
      cases this
      refine ⟨u,r,.inr ⟨?_,c,?_,?_⟩⟩
      ·rw [← ex];exact c3
      ·rw [← ex];exact ec'
      ·obtain ⟨o,ho,hd⟩:=icl
       exact ⟨o,keep4 _ _ ho,hd⟩
  ·show ∃ v,h4.IsCell c v
   rw [sb4]
   refine zeR scope.names _ cl (fun x c f=>?_) x c (by rw [Heap.size_push];exact e)
   obtain ⟨v,o,ho,hd⟩:=I3.cell x c (hcl x c f)
   exact ⟨v,o,Heap.get?_push_of_some _ ho,hd⟩
 have stat:∀ {H':Hp},(∀ b ∈ fp,H' b = none)->∀ b ∈ fp,zdu (X.block scope cl (tgs ++ caps.map (·.1)) fp s3 H3) [] H' b:=fun hn b hb=>
  ⟨hn b hb,neC b hb,nstk b hb,.inl hb,cne b hb,fun p hp=>by simp [Cx.block] at hp⟩
 have st4:tn 0 h4:=T.keep 0 _ _ st3 fun b _ o e=>keep4 b o e
 have loop:codeAny (model X.prog X.w) X.A (.compLoop (.ListComp elt [⟨tg,iter,ifs,0⟩] scope pos) 0 (.ref it) (.ref s2.heap.objs.size) (zfy scope cl s3.heap.objs.size X.env))
   (compPost (model X.prog X.w) X.A X.xe none (EP X pins σ Q) (.ref s2.heap.objs.size) s3.heap.objs.size) { s3 with heap:=h4 }:=by
  refine zbQ (fun n s'=>∃ i σ' H',Inv (X.block scope cl (tgs ++ caps.map (·.1)) fp s3 H3) [] σ' H' s'/\tn i s'.heap/\(∀ b ∈ fp,H' b = none)/\W i n σ' H') ?_ m0 ⟨0,_,H3,I4,st4,fr3,w0⟩
  rintro n s5 ⟨i,σ5,H5,I5,st5,fr5,w5⟩
  rcases turn i n σ5 H5 w5 with ⟨stop,qn⟩ | ⟨go,N,hN,step⟩
  ·refine wpAny_mono (T.done (X.block scope cl (tgs ++ caps.map (·.1)) fp s3 H3) rfl rfl rfl hc i [] s5 σ5 H5 (fun _ _=>False) I5 (stat fr5) st5 stop) (fun r s6 ⟨hr,I6⟩=>?_) fun _ _ z=>False.elim z
   subst hr
   obtain ⟨m6,hn6,_⟩:=I6.loc
   refine ⟨m6,hn6,fun h' sb=>?_⟩
   have nb:∀ b o,s3.heap.get? b = some o->b ≠ s3.heap.objs.size:=fun b o e=>Nat.ne_of_lt (Heap.lt_size e)
   have eqb:∀ b,b ≠ s3.heap.objs.size->h'.get? b = s6.heap.get? b:=fun b hb=>sb.2 b hb
   have uX:Un (frs X.stack) fp H3 H5 s3.heap h':=by
    have u:=I6.base
    refine ⟨fun b o e a1 a2 a3=>?_,fun b o e a1 a2 a3=>?_,u.free,fun b o e a3=>?_,u.tups,u.frzs,u.tbls⟩
    ·rw [eqb b (nb b o e)];exact u.keep b o e a1 a2 a3
    ·rw [eqb b (nb b o e)];exact u.slot b o e a1 a2 a3
    ·rw [eqb b (nb b o e)];exact u.there b o e a3
   have hokX:HOk X.prog X.w H5 h':=fun a o e=>(I6.hok a o e).stay (fun b u hb eu=>by
    have hbC:b ≠ s3.heap.objs.size:=fun z=>by
     have hfC:H5 s3.heap.objs.size = none:=I6.free
     rcases hb with rfl | hb
     ·rw [z,hfC] at e;cases e
     ·rw [z,hfC] at hb;cases hb
    rw [eqb b hbC];exact eu) (fun _ q=>q) fun _ _ q=>q
   have os6:s6.os = s3.os:=I6.os
   exact ⟨.ref s2.heap.objs.size,H5,I3.call' (s':={ s6 with heap:=h' }) (ch:=fp) os6 uX hokX I6.bare (fun b hb=>⟨(f2 b hb).2.2.2.1,(f2 b hb).2.1,(f2 b hb).2.2.2.2.1,(f2 b hb).2.2.2.2.2⟩),rfl,qn⟩
  ·refine wpAny_mono (T.item (X.block scope cl (tgs ++ caps.map (·.1)) fp s3 H3) rfl rfl rfl hc i [] s5 σ5 H5 (fun _ _=>False) I5 (stat fr5) st5 go) (fun r s6 ⟨u,hr,h6⟩=>?_) fun _ _ z=>False.elim z
   subst hr
   refine wpAny_mono h6 (fun _ s7 ⟨x,H7,I7,r7,y7,st7,fr7⟩=>?_) fun _ _ z=>False.elim z
   have I7':=I7.pinned (stat fr7) (T.obj _ _ st7)
   have again:∀ {s9:Shared} {σ9:St} {H9:Hp},Inv (X.block scope cl (tgs ++ caps.map (·.1)) fp s3 H3) ([] ++ zdz fp s7.heap) σ9 H9 s9->N σ9 H9->
     ∃ m,m < n/\∃ i σ' H',Inv (X.block scope cl (tgs ++ caps.map (·.1)) fp s3 H3) [] σ' H' s9/\tn i s9.heap/\(∀ b ∈ fp,H' b = none)/\W i m σ' H':=fun {s9 σ9 H9} I9 n9=>by
    obtain ⟨m',hm,w9⟩:=hN σ9 H9 n9
    refine ⟨m',hm,i + 1,σ9,H9,I9.unpinned,T.keep _ _ _ st7 fun b hb o e=>(I9.pin (b,o) (mem_append_right _ (mem_append_right _ (za5 hb e)))).1,fun b hb=>?_,w9⟩
    obtain ⟨o,e,d⟩:=T.obj _ _ st7 b hb
    exact (I9.pin (b,o) (mem_append_right _ (mem_append_right _ (za5 hb e)))).2.1
   refine wpAny_mono (hg fp s3 H3 _ s7 σ5 H7 x u _ I7' r7 (step x H7 y7)) (fun _ s8 ⟨σ8,H8,I8,q8⟩=>?_) fun _ _ z=>False.elim z
   refine wpAny_mono (hif fp s3 H3 _ s8 σ8 H8 _ I8 q8) (fun b s9 ⟨H9,I9,q9⟩=>?_) fun _ _ z=>False.elim z
   cases b with
   | false=>
    rw [if_neg Bool.false_ne_true] at q9
    rw [if_neg Bool.false_ne_true]
    exact again I9 q9
   | true=>
    rw [if_pos rfl] at q9
    rw [if_pos rfl]
    refine wpAny_mono (hel fp s3 H3 _ s9 σ8 H9 _ I9 q9) (fun xv s10 ⟨v,H10,I10,rv,ys,hy,hl,q10⟩=>?_) fun _ _ z=>False.elim z
    refine wpAny_mono (qF (X:=X.block scope cl (tgs ++ caps.map (·.1)) fp s3 H3) _ s10 σ8 H10 (.ref s2.heap.objs.size) [v] (.ref s2.heap.objs.size) [xv] (fun _ H11=>N σ8 H11) I10 rfl (.cons rv .nil) ⟨_,ys,v,rfl,rfl,hy,hl,q10⟩) (fun _ s11 ⟨_,H11,I11,_,q11⟩=>again I11 q11) fun _ _ z=>False.elim z
 exact codeAny_compStart_list loop (T.self _ 0 _ _ _ st4 loop)
end
noncomputable def Each {α:Type} (P:α->Prop):List α->Prop
 | []=>True
 | a :: l=>P a/\Each P l
theorem Each.of {α:Type} {P:α->Prop}:∀ {l:List α},Each P l->∀ a ∈ l,P a
 | _ :: _,⟨h,_⟩,_,.head _=>h
 | _ :: _,⟨_,h⟩,_,.tail _ m=>Each.of h _ m
theorem lookup_mem {l:List (Str × NameKind)} {y:Str} {k:NameKind} (h:l.lookup y = some k):(y,k) ∈ l:=by
 induction l with
 | nil=>cases h
 | cons p l ih=>
  obtain ⟨n,k'⟩:=p
  rw [lookup_cons] at h
  cases e:y == n with
  | true=>
   rw [e] at h
   cases h
   rw [eq_of_beq e]
   exact .head _
  | false=>
   rw [e] at h
   exact .tail _ (ih h)
theorem zo1 {l:List (Str × NameKind)} {cl:List (Str × Addr)} (h:Each (fun p=>(p.2 = .cell\/p.2 = .free)->∃ c,cl.lookup p.1 = some c) l) (y:Str) (q:l.lookup y = some .cell\/l.lookup y = some .free):∃ c,cl.lookup y = some c:=by
 rcases q with q | q
 ·exact h.of _ (lookup_mem q) (.inl rfl)
 ·exact h.of _ (lookup_mem q) (.inr rfl)
theorem PI.or {X:Cx} {tg iter:Expr} {wi wi':TI} (h:PI X tg iter wi) (h':PI X tg iter wi'):PI X tg iter (fun σ H R=>wi σ H R\/wi' σ H R):=fun pins s σ H R I q=>q.elim (h pins s σ H R I) (h' pins s σ H R I)
section
variable {X:Cx}
noncomputable def zp0 (K:Frag):R2:=fun x y H Q=>∃ a b xs ys,x = .ref a/\y = .ref b/\SqT K H a xs/\SqT K H b ys/\xs.length + ys.length<=sizeLine /\
 (xs = []->Q (.ref b) H)/\(xs ≠ []->ys = []->Q (.ref a) H)/\(xs ≠ []->ys ≠ []->∀ p,H p = none->Q (.ref p) (upd H p (.tup (xs ++ ys))))
theorem zm5:OpR X (binaryOp .Add) (zp0 X.K):=by
 intro pins s σ H x y v u Q I rx ry h
 obtain ⟨a,b,xs,ys,rfl,rfl,ha,hb,hz,q0,q1,q2⟩:=h
 by_cases hx:xs = []
 ·cases rx
  cases ry
  obtain ⟨its,r1,p1,_⟩:=I.tuple ha
  obtain ⟨its2,r2,p2,_⟩:=I.tuple hb
  obtain ⟨⟨cls,dd,data,sl⟩,ho,hc,n,hd⟩:=id p1
  obtain ⟨⟨cls2,dd2,data2,sl2⟩,ho2,hc2,n2,hd2⟩:=id p2
  simp only at hc hd hc2 hd2
  subst hc hd hc2 hd2
  have e:its = []:=r1.nil_iff.mpr hx
  exact concat_meets ⟨_,ho,rfl⟩ ⟨_,ho2,rfl⟩ noFill_tuple_add seq_tuple_add PySem.F.slot_tuple_add PySem.F.entry_tuple_add (PySem.F.args_tuple_add_2 _ _)
   (tuple_addW0 a b its.toArray its2.toArray n n2 dd dd2 sl sl2 (by simp [e])) ⟨ho,ho2,⟨.ref b,H,I,rfl,q0 hx⟩⟩
 ·exact zm3 pins s σ H _ _ v u Q I rx ry ⟨a,b,xs,ys,rfl,rfl,ha,hb,hx,hz,q1 hx,q2 hx⟩
end
end L2
namespace HT
open PySem PySem.Spec PyProof.Rows
section
variable {prog:Program} {w:World} {A:Around} {E:Value->Shared->Prop} {s:Shared}
theorem zd6 {t sl:Addr} {items:Array Value} {vl vu:Value} {lo hi:Option Int} {Q:Value->Shared->Prop} (ht:IsTup s.heap t items) (hs:s.heap.IsSliceOf sl vl vu .none) (pl:IsPart vl lo) (pu:IsPart vu hi)
  (hw:sIx items.size 0 lo = 0/\sIx items.size items.size hi = items.size) (h:Q (.ref t) s):wpAny (model prog w) A (getItem (.ref t) (.ref sl)) Q E s:=by
 obtain ⟨os,hos,hcs,hds⟩:=id hs
 have hTs:s.TypeIs (.ref sl) "slice":=⟨os,hos,hcs⟩
 unfold getItem
 try with_reducible refine wpAny_holding ?_
 first | refine wpAny_bind (wpAny_pure ?_) | skip
 refine wpAny_bind (wpAny_sequenceKey ht.typeIs (by decide) ?_)
 refine wpAny_bind (wpAny_callSpecial?_slot (name:=Str.ofString "__getitem__") ht.typeIs PyProof.Rows.slot_tuple_getitem
  (wpAny_call_entry PyProof.Rows.slot_tuple_getitem ht.typeIs entry_tuple_getitem ?_ (args_tuple_getitem _ _)))
 show wpAny _ _ (Builtin.Tuple.tupleItemsOf (.ref t) >>= _) _ _ s
 refine wpAny_bind (tupleItemsOf_ ht ?_)
 refine wpAny_bind (wpAny_typeOf hTs ?_)
 rw [if_pos (by decide)]
 refine wpAny_bind (zcN hs pl pu ?_)
 have hyes:(((sIx items.size 0 lo:Nat):Int) == 0 && (1:Int) == 1 && (sIx items.size items.size hi - sIx items.size 0 lo) == items.size) = true:=by
  rw [hw.1,hw.2];simp
 show wpAny _ _ (if (((sIx items.size 0 lo:Nat):Int) == 0 && (1:Int) == 1 && (sIx items.size items.size hi - sIx items.size 0 lo) == items.size) = true then _ else _) _ _ s
 rw [if_pos hyes]
 refine wpAny_bind ?_
 unfold Builtin.Tuple.tupleIsExact
 refine wpAny_bind (wpAny_typeOf ht.typeIs (wpAny_pure ?_))
 rw [if_pos (by decide)]
 exact wpAny_bind (wpAny_rule (wpAny_pure ⟨_,rfl,wpAny_pure h⟩))
end
end HT
namespace L2
open PySem PySem.Spec PyProof.Rows
section
variable {X:Cx}
noncomputable def zqU (K:Frag):V->Option Int->Option Int->Hp->VK->Prop:=fun x lo hi H Q=>∃ a xs,x = .ref a/\SqT K H a xs /\
 ((HT.sIx xs.length 0 lo = 0/\HT.sIx xs.length xs.length hi = xs.length)->Q (.ref a) H)/\(¬ (HT.sIx xs.length 0 lo = 0/\HT.sIx xs.length xs.length hi = xs.length)->∀ p,H p = none->Q (.ref p) (upd H p (.tup (cutV xs lo hi))))
theorem zmB:SlR X (zqU X.K):=by
 intro pins s σ H x v vl vu lo hi sl Q I rx hs pl pu h
 obtain ⟨a,xs,rfl,hx,q1,q2⟩:=h
 by_cases hw:HT.sIx xs.length 0 lo = 0/\HT.sIx xs.length xs.length hi = xs.length
 ·cases rx
  obtain ⟨its,r,ht,hz⟩:=I.tuple hx
  have hlen:its.toArray.size = xs.length:=by rw [size_toArray];exact r.length.symm
  refine ⟨"tuple",_,PyProof.Rows.slot_tuple_getitem.lookup,ht.typeIs,?_⟩
  refine HT.zd6 ht hs pl pu (by rw [hlen];exact hw) ⟨.ref a,H,I,rfl,q1 hw⟩
 ·exact znZ pins s σ H _ v vl vu lo hi sl Q I rx hs pl pu ⟨a,xs,rfl,hx,hw,q2 hw⟩
theorem zfo:fillsNumberSlot (.type "tuple") "mul" = pure false:=
 PySem.fillsNumberSlot_seq (id:="tuple.__mul__") (r:=some (.builtin "tuple.__rmul__")) PySem.F.slot_tuple_mul.lookup (by decide +kernel) PySem.F.slot_tuple_rmul.lookup (by decide +kernel)
theorem zhQ:seqRepeat? (.type "tuple") = pure (some (.builtin "tuple.__mul__")):=by
 unfold seqRepeat?
 rw [PySem.seqSlot_of (T:="tuple") (name:="__mul__") (id:="tuple.__mul__") PySem.F.slot_tuple_mul.lookup (by decide +kernel),PySem.seqSlot_of (T:="tuple") (name:="__rmul__") (id:="tuple.__rmul__") PySem.F.slot_tuple_rmul.lookup (by decide +kernel)]
 rfl
theorem zgg (a:Int) (t:Tok) (l:Addr) (items:Array Value) (n:Nat) (dd:Option Addr) (sl:Array (Option Value)) :
  Meets (Builtin.«int.__rmul__» ⟨[.int a t,.ref l],[]⟩) (fun _ R s=>s.heap.get? l = some { cls:=.type "tuple",dict:=dd,data:=.seq items n,slots:=sl }/\R (.ok (.ret Value.notImplemented)) s):=
 .of_wp fun prog w A R s h=>by obtain ⟨hp,g,d,tk,os⟩:=s;obtain ⟨hl,h⟩:=h;wp_walk;exact ⟨_,rfl,h⟩
theorem zjE (l:Addr) (items:Array Value) (n:Nat) (x:Int) (u:Tok) (dd:Option Addr) (sl:Array (Option Value)) (h0:items.isEmpty = false) (h1:2<=x) (h2:x < 2 ^ 63) (h3:items.size * x.toNat<=sizeLine) :
  Meets (Builtin.«tuple.__mul__» ⟨[.ref l,.int x u],[]⟩) (fun _ R s=>s.heap.get? l = some { cls:=.type "tuple",dict:=dd,data:=.seq items n,slots:=sl }/\R (.ok (.ret (Value.ref s.heap.objs.size))) { s with heap:=s.heap.push { cls:=Value.type "tuple",data:=Data.seq (List.foldl (fun x1 x2=>x1 ++ x2) #[] (List.replicate x.toNat items)) },toks:=s.toks }):=
 .of_wp fun prog w A R s h=>by
  obtain ⟨hp,g,d,tk,os⟩:=s;obtain ⟨hl,h⟩:=h
  have f1:=AutoSeq1.idx_int
  have hA:¬(decide (x < -2 ^ 63) || decide (x ≥ 2 ^ 63)) = true:=by simp;omega
  have hB:¬(items.isEmpty || x == 1) = true:=by rw [h0];simp;omega
  have hC:¬(decide (x<=0) || items.isEmpty) = true:=by rw [h0];simp;omega
  have hm:((items.size:Nat):Int) * x = ((items.size * x.toNat:Nat):Int):=by
   rw [Int.natCast_mul,Int.toNat_of_nonneg (by omega)]
  have hs2:(sizeLine:Nat)<=(2 ^ 63 - 1) / 8:=by decide
  have hD:¬((items.size:Nat):Int) * x > (2 ^ 63 - 1) / 8:=by rw [hm];omega
  have hE:¬Builtin.Tuple.tupleTooMany (((items.size:Nat):Int) * x) = true:=by
   rw [hm]
   show ¬ decide (((items.size * x.toNat:Nat):Int) > ((sizeLine:Nat):Int)) = true
   rw [decide_eq_true_iff];omega
  have hT:IsTup hp l items:=⟨_,hl,rfl,n,rfl⟩
  wp_walk using wpAny_loadPart' hl
  rw [if_neg hA]
  refine wpAny_bind (tupleItemsOf_ hT ?_)
  show wpAny _ _ (if (items.isEmpty || x == 1) = true then _ else _) _ _ _
  rw [if_neg hB]
  show wpAny _ _ (if (decide (x<=0) || items.isEmpty) = true then _ else _) _ _ _
  rw [if_neg hC]
  show wpAny _ _ (if ((items.size:Nat):Int) * x > (2 ^ 63 - 1) / 8 then _ else _) _ _ _
  rw [if_neg hD]
  show wpAny _ _ (if Builtin.Tuple.tupleTooMany (((items.size:Nat):Int) * x) = true then _ else _) _ _ _
  rw [if_neg hE]
  have hj:(List.foldl (fun x1 x2=>x1 ++ x2) #[] (List.replicate x.toNat items)).size<=sizeLine:=by
   have:=foldl_rep items.toList x.toNat []
   rw [nil_append,Array.toArray_toList] at this
   rw [this,size_toArray,len_rep,Nat.mul_comm,Array.length_toList]
   exact h3
  exact wpAny_bind (m:=Builtin.Tuple.tupleExact _) (wpAny_newObj_type (wpAny_pure ⟨_,rfl,h⟩) hj)
noncomputable def zpW (K:Frag):R2:=fun x y H Q=>∃ l k xs,x = .ref l/\y = .int k/\SqT K H l xs/\xs ≠ []/\2<=k/\k < 2 ^ 63/\xs.length * k.toNat<=sizeLine /\
 ∀ p,H p = none->Q (.ref p) (upd H p (.tup (List.replicate k.toNat xs).flatten))
theorem zmZ:OpR X (binaryOp .Mult) (zpW X.K):=by
 intro pins s σ H x y v u Q I rx ry h
 obtain ⟨l,k,xs,rfl,rfl,hH,hx,h1,h2,hz,q⟩:=h
 cases rx
 obtain ⟨t,rfl⟩:=ry
 obtain ⟨its,r,pl,_⟩:=I.tuple hH
 have hl:=r.length
 obtain ⟨⟨cls,dd,data,sl⟩,ho,hc,n,hd⟩:=id pl
 simp only at hc hd
 subst hc hd
 have hlen:its.toArray.size * k.toNat<=sizeLine:=by rw [size_toArray,← hl];exact hz
 have hne:its.toArray.isEmpty = false:=by
  cases its with
  | nil=>exact absurd (r.nil_iff.mp rfl) hx
  | cons a b=>rfl
 have hnew:List.foldl (fun x1 x2=>x1 ++ x2) #[] (List.replicate k.toNat its.toArray) = (List.replicate k.toNat its).flatten.toArray:=by
  have:=foldl_rep its k.toNat []
  rw [nil_append] at this
  exact this
 refine wpAny_binaryOp_repeat_ref (T:="tuple") (U:="int") (by decide) ⟨_,ho,rfl⟩ (fun s'=>typeIs_int s' k t) zfo F.fills_int_mul F.slot_int_rmul zhQ F.slot_int_index.lookup
  (call_meets F.slot_int_rmul (typeIs_int s k t) F.entry_int_rmul (F.args_int_rmul_2 _ _) (zgg k t l its.toArray n dd sl)
   ⟨ho,rfl,⟨_,ho,rfl⟩,call_meets F.slot_tuple_mul ⟨_,ho,rfl⟩ F.entry_tuple_mul (F.args_tuple_mul_2 _ _) (zjE l its.toArray n k t dd sl hne h1 h2 hlen) ⟨ho,?_⟩⟩)
 rw [hnew]
 refine ⟨.ref s.heap.objs.size,_,I.laid (t':=s.toks) (o:=.tup (List.replicate k.toNat xs).flatten) (fun b ob q=>Heap.get?_push_of_some _ q) (Nat.le_refl _) ?_,rfl,q _ (I.hok.fresh (Nat.le_refl _))⟩
 exact ⟨by rw [len_rep,Nat.mul_comm];exact hz,_,r.rep k.toNat,IsTup.new _ _,NoDict.new⟩
end
section
variable {X:Cx}
theorem zfK {i0:Nat} {y0:Str} {py spos:Pos} {tg elt iter:Expr} {ifs:List Expr} {scope:Scope} {cl:List (Str × Addr)} {pos:Pos} {tgs:List Str} {caps:List (Str × Nat)} {wi:TI} {g:TG} {tc:TT} {te:TE}
  (hc:X.calm = true) (hi:PI X tg iter wi) (hclos:closureFor scope X.env = pure cl) (hcell:∀ y ∈ scope.names,y.2 = .cell->y.1 ∉ caps.map (·.1)) (hkind:scope.kind = .function)
  (hnames:∀ y ∈ scope.names,y.2 = .local->scope.names.lookup y.1 = some .local)
  (hcl:∀ y c,cl.lookup y = some c->X.env.cells.lookup y = some c)
  (hhas:∀ n y,((relabel scope X.env).names.lookup y = some .cell\/(relabel scope X.env).names.lookup y = some .free)->∃ c,(cellsFrom n scope.names cl).lookup y = some c)
  (hcap:∀ c ∈ caps,X.N[c.2]? = some c.1/\X.env.kindOf c.1 = some .cell/\((relabel scope X.env).names.lookup c.1 = some .cell\/(relabel scope X.env).names.lookup c.1 = some .free))
  (hg:∀ ex s0 H0,PG (X.block scope cl (tgs ++ caps.map (·.1)) ex s0 H0) tg g) (hif:∀ ex s0 H0,PTs (X.block scope cl (tgs ++ caps.map (·.1)) ex s0 H0) ifs tc) (hel:∀ ex s0 H0,PE (X.block scope cl (tgs ++ caps.map (·.1)) ex s0 H0) elt te)
  (hN0:X.N.Nodup) (hi0:X.N[i0]? = some y0) (hx0:Loc X.env.scope y0)
  (hsw:swapsWith (.ListComp elt [⟨tg,iter,ifs,0⟩] scope pos) (some (.Name y0 py)) spos.line X.env = pure true:=by rfl)
  (hf0:X.fn y0 = true\/X.env.scope.names.lookup y0 = some .local:=by first | exact .inl rfl | exact .inr rfl | assumption)
  (hs:∀ x,foldedSetIterable iter X.env x = pure x:=by intro _;rfl) :
  PS X (.Assign [.Name y0 py] (.ListComp elt [⟨tg,iter,ifs,0⟩] scope pos) spos) (fun D σ H=>zhl wi g tc te (zaS tgs caps) σ H fun v H'=>D.nx (σ.set i0 (some v)) H'):=by
 intro pins s σ H DD I h
 rw [exec_Assign_Name_used _ _ _ _ hsw]
 refine wpAny_bind (wpAny_standAt (wpAny_bind ?_))
 show wpAny _ X.A (do let _ ← comprehension (.ListComp elt [⟨tg,iter,ifs,0⟩] scope pos) scope X.env _ (newList []) false (eval iter X.env) (some (assign (.Name y0 py) X.env))) _ _ s
 refine wpAny_bind (wpAny_mono (wpAny_comprehension_free (use:=some (assign (.Name y0 py) X.env)) (Q:=fun _ s'=>SP X pins DD .next s') rfl hs hclos hkind hnames
  (thn (hi pins s σ H _ I h) fun v s1 h1=>thn h1 fun itv s2 h2=>?_)) (fun _ s' hq=>wpAny_pure (wpAny_pure hq)) fun _ _ e=>e)
 obtain ⟨it,fp,tn,J,H2,e,I2,T,st2,f2,hrest⟩:=h2
 subst e
 -- the new list
 have hD:H2 s2.heap.objs.size = none:=I2.fresh
 obtain ⟨W,⟨m0,w0⟩,turn⟩:=hrest _ hD
 refine wpAny_newObj_type ?_ (by show 0<=sizeLine;decide)
 have I3:Inv X pins σ (upd H2 s2.heap.objs.size (.lst [])) { s2 with heap:=s2.heap.push { cls:=.type "list",data:=.seq ([]:List Value).toArray } }:=I2.lnew (t':=s2.toks) (ys:=[]) (its:=[]) .nil (by show 0<=sizeLine;decide)
 generalize hs3:({ s2 with heap:=s2.heap.push { cls:=.type "list",data:=.seq ([]:List Value).toArray } }:Shared) = s3 at I3
 have lt2:∀ b o,s2.heap.get? b = some o->s3.heap.get? b = some o:=fun b o e=>by rw [← hs3];exact Heap.get?_push_of_some _ e
 have sz3:s2.heap.objs.size < s3.heap.objs.size:=by rw [← hs3];show _ < (s2.heap.push _).objs.size;rw [Heap.size_push];exact Nat.lt_succ_self _
 have st3:tn 0 s3.heap:=T.keep 0 _ _ st2 fun b _ o e=>lt2 b o e
 have fplt:∀ b ∈ fp,b < s2.heap.objs.size:=fun b hb=>by
  obtain ⟨o,e,_⟩:=T.obj 0 _ st2 b hb
  exact Heap.lt_size e
 generalize hH3:upd H2 s2.heap.objs.size (.lst []) = H3 at I3 w0
 have fr3:∀ b ∈ fp,H3 b = none:=fun b hb=>by rw [← hH3,yk (Nat.ne_of_lt (fplt b hb))];exact (f2 b hb).1
 have nstk:∀ b ∈ fp,b ∉ frs X.stack:=fun b hb z=>by
  obtain ⟨_,n1,n2,_⟩:=f2 b hb
  rcases mem_cons.mp (I2.stkSub b z) with z | z
  ·exact n1 z
  ·exact n2 z
 refine zav fun h4 ns4 sb4=>?_
 have keep4:∀ b o,s3.heap.get? b = some o->h4.get? b = some o:=fun b o e=>by rw [sb4];exact pushCells_keeps _ _ b o (Heap.get?_push_of_some _ e)
 have clt:∀ x c,cl.lookup x = some c->c < s3.heap.objs.size:=fun x c e=>by
  obtain ⟨v,q⟩:=I3.cell x c (hcl x c e)
  exact q.lt
 have cor:∀ x c,(cellsFrom (s3.heap.objs.size + 1) scope.names cl).lookup x = some c->cl.lookup x = some c\/s3.heap.objs.size + 1<=c:=fun x c e=>zhu _ _ _ e
 have cne:∀ b ∈ fp,∀ x c,(cellsFrom (s3.heap.objs.size + 1) scope.names cl).lookup x = some c->c ≠ b:=fun b hb x c e=>by
  rcases cor x c e with e | e
  ·exact (f2 b hb).2.2.2.2.1 x c (hcl x c e)
  ·exact Nat.ne_of_gt (Nat.lt_of_lt_of_le (Nat.lt_trans (fplt b hb) sz3) (Nat.le_of_succ_le e))
 have neC:∀ b ∈ fp,b ≠ s3.heap.objs.size:=fun b hb=>Nat.ne_of_lt (Nat.lt_trans (fplt b hb) sz3)
 have ok':(X.block scope cl (tgs ++ caps.map (·.1)) fp s3 H3).Ok:=
  ⟨I.ok.mod,hkind,I.ok.glob,I.ok.blt,Nat.le_refl _,zf2 _ _ _ (fun x y c e1 e2=>I.ok.inj x y c (hcl x c e1) (hcl y c e2)) (fun x c e=>Nat.lt_succ_of_lt (clt x c e)),hhas _,(fun x c z e=>Nat.le_of_succ_le (zf0 _ _ _ (eq_of_beq z) e)),I.ok.hd,I.ok.frames,.inl rfl,
   fun b hb=>⟨neC b hb,cne b hb⟩,I3.bs,Nat.le_trans I.ok.bsz I3.sz,fun b o e hb=>by
    rcases (f2 b hb).2.2.2.1 with z | z
    ·exact I.ok.noex b o e z
    ·exact absurd (Nat.lt_of_lt_of_le (Heap.lt_size e) (Nat.le_trans I.ok.bsz z)) (Nat.lt_irrefl _),
   nstk,I3.stack,I3.stkFree⟩
 have I4:Inv (X.block scope cl (tgs ++ caps.map (·.1)) fp s3 H3) [] (zaS tgs caps σ) H3 { s3 with heap:=h4 }:=by
  refine ⟨ok',rfl,I3.bare,Un.kept keep4,⟨_,ns4,fun i x v e1 e2 e3=>?_⟩,fun x c e=>?_,I3.hok.fresh (Nat.le_refl _),fun x c e=>(cor x c e).elim (fun e=>I3.freeC x c (hcl x c e)) (fun e=>I3.hok.fresh (Nat.le_of_succ_le e)),fun p hp=>by simp [Cx.block] at hp,I3.hok.kept keep4,by simp [zaS,Cx.block]⟩
  ·-- a captured name
   have hlen:(tgs.map (fun _=>(none:Option V))).length = tgs.length:=by simp
   by_cases hi:i < tgs.length
   ·have:(zaS tgs caps σ)[i]? = some none:=by
     unfold zaS
     rw [getElem?_append_left (by simpa using hi)]
     simp [hi]
    rw [this] at e2
    cases e2
   ·have e1':(tgs ++ caps.map (·.1))[i]? = some x:=e1
    rw [getElem?_append_right (by omega),getElem?_map] at e1'
    have e2':=e2
    unfold zaS at e2'
    rw [getElem?_append_right (by simpa using hi),hlen,getElem?_map] at e2'
    cases hcq:caps[i - tgs.length]? with
    | none=>rw [hcq] at e1';cases e1'
    | some cq=>
     rw [hcq] at e1' e2'
     have ex:cq.1 = x:=Option.some.inj e1'
     have ev:(σ[cq.2]?).join = some v:=Option.some.inj e2'
     obtain ⟨c1,c2,c3⟩:=hcap cq (mem_of_getElem? hcq)
     have ev':σ[cq.2]? = some (some v):=by
      cases q:σ[cq.2]? with
      | none=>rw [q] at ev;cases ev
      | some o=>rw [q] at ev;cases o with
       | none=>cases ev
       | some v'=>rw [show v' = v from Option.some.inj ev]
     obtain ⟨m,hn,hl⟩:=I3.loc
     obtain ⟨u,r,lk⟩:=hl cq.2 cq.1 v c1 ev' (.inr (.inl c2))
     rcases lk with ⟨k1,_⟩ | ⟨_,c,ec,icl⟩
     ·rw [c2] at k1;cases k1
     ·obtain ⟨c',ec'⟩:=hhas (s3.heap.objs.size + 1) cq.1 c3
      have ec2:=ec'
      rw [zf1 _ _ _ fun y hy hk hyx=>hcell y hy hk (by rw [hyx];exact List.mem_map_of_mem (mem_of_getElem? hcq))] at ec2
      have:=hcl _ _ ec2
      rw [ec] at this
      cases this
      refine ⟨u,r,.inr ⟨?_,c,?_,?_⟩⟩
      ·rw [← ex];exact c3
      ·rw [← ex];exact ec'
      ·obtain ⟨o,ho,hd⟩:=icl
       exact ⟨o,keep4 _ _ ho,hd⟩
  ·show ∃ v,h4.IsCell c v
   rw [sb4]
   refine zeR scope.names _ cl (fun x c f=>?_) x c (by rw [Heap.size_push];exact e)
   obtain ⟨v,o,ho,hd⟩:=I3.cell x c (hcl x c f)
   exact ⟨v,o,Heap.get?_push_of_some _ ho,hd⟩
 have stat:∀ {H':Hp},(∀ b ∈ fp,H' b = none)->∀ b ∈ fp,zdu (X.block scope cl (tgs ++ caps.map (·.1)) fp s3 H3) [] H' b:=fun hn b hb=>
  ⟨hn b hb,neC b hb,nstk b hb,.inl hb,cne b hb,fun p hp=>by simp [Cx.block] at hp⟩
 have st4:tn 0 h4:=T.keep 0 _ _ st3 fun b _ o e=>keep4 b o e
 have loop:codeAny (model X.prog X.w) X.A (.compLoop (.ListComp elt [⟨tg,iter,ifs,0⟩] scope pos) 0 (.ref it) (.ref s2.heap.objs.size) (zfy scope cl s3.heap.objs.size X.env))
   (compPost (model X.prog X.w) X.A X.xe (some (assign (.Name y0 py) X.env)) (fun _ s'=>SP X pins DD .next s') (.ref s2.heap.objs.size) s3.heap.objs.size) { s3 with heap:=h4 }:=by
  refine zbQ (fun n s'=>∃ i σ' H',Inv (X.block scope cl (tgs ++ caps.map (·.1)) fp s3 H3) [] σ' H' s'/\tn i s'.heap/\(∀ b ∈ fp,H' b = none)/\W i n σ' H') ?_ m0 ⟨0,_,H3,I4,st4,fr3,w0⟩
  rintro n s5 ⟨i,σ5,H5,I5,st5,fr5,w5⟩
  rcases turn i n σ5 H5 w5 with ⟨stop,qn⟩ | ⟨go,N,hN,step⟩
  ·refine wpAny_mono (T.done (X.block scope cl (tgs ++ caps.map (·.1)) fp s3 H3) rfl rfl rfl hc i [] s5 σ5 H5 (fun _ _=>False) I5 (stat fr5) st5 stop) (fun r s6 ⟨hr,I6⟩=>?_) fun _ _ z=>False.elim z
   subst hr
   obtain ⟨m6,hn6,_⟩:=I6.loc
   have nb:∀ b o,s3.heap.get? b = some o->b ≠ s3.heap.objs.size:=fun b o e=>Nat.ne_of_lt (Heap.lt_size e)
   have uX:Un (frs X.stack) fp H3 H5 s3.heap s6.heap:=I6.base
   have os6:s6.os = s3.os:=I6.os
   have I6X:Inv X pins σ H5 s6:=I3.call' (s':=s6) (ch:=fp) os6 uX I6.hok I6.bare (fun b hb=>⟨(f2 b hb).2.2.2.1,(f2 b hb).2.1,(f2 b hb).2.2.2.2.1,(f2 b hb).2.2.2.2.2⟩)
   have hfC:H5 s3.heap.objs.size = none:=I6.free
   show wpAny _ X.A (assign (.Name y0 py) X.env (.ref s2.heap.objs.size)) _ _ s6
   refine wpAny_assign_Name (zgQ I6X hN0 hi0 hx0 (v:=.ref s2.heap.objs.size) rfl (fun s7 I7 ⟨a,sa,ha⟩=>?_) hf0)
   have aC:s3.heap.objs.size ≠ a:=fun z=>by
    rcases ha with ha | ha
    ·have h3:=I3.lt
     rw [ha] at z
     rw [← z] at h3
     exact Nat.lt_irrefl _ h3
    ·obtain ⟨v,q⟩:=I3.cell _ _ ha
     have:=q.lt
     rw [← z] at this
     exact Nat.lt_irrefl _ this
   refine ⟨m6,hn6.sameBut sa aC,fun h' sb=>?_⟩
   have eqb:∀ b,b ≠ s3.heap.objs.size->h'.get? b = s7.heap.get? b:=fun b hb=>sb.2 b hb
   have uY:Un (frs X.stack) [s3.heap.objs.size] H5 H5 s7.heap h':=by
    refine ⟨fun b o e a1 a2 a3=>?_,fun b o e a1 a2 a3=>?_,fun _ _ _ q _=>q,fun b o e a3=>?_,fun _ _ q=>q,fun _ _ _ q=>q,fun b ps q=>⟨#[],by simpa using q⟩⟩
    ·rw [eqb b (fun z=>a3 (by rw [z];exact .head _))];exact e
    ·exact ⟨o.slots,by rw [eqb b (fun z=>a3 (by rw [z];exact .head _))];exact e⟩
    ·exact ⟨o,by rw [eqb b (fun z=>a3 (by rw [z];exact .head _))];exact e⟩
   have hokY:HOk X.prog X.w H5 h':=fun a o e=>(I7.hok a o e).stay (fun b u hb eu=>by
    have hbC:b ≠ s3.heap.objs.size:=fun z=>by
     rcases hb with rfl | hb
     ·rw [z,hfC] at e;cases e
     ·rw [z,hfC] at hb;cases hb
    rw [eqb b hbC];exact eu) (fun _ q=>q) fun _ _ q=>q
   refine ⟨σ.set i0 (some (.ref s2.heap.objs.size)),H5,I7.call' (s':={ s7 with heap:=h' }) (ch:=[s3.heap.objs.size]) rfl uY hokY I7.bare (fun b hb=>?_),qn⟩
   rw [mem_singleton.mp hb]
   refine ⟨.inr I3.sz,Nat.ne_of_gt I3.lt,fun x c e z=>?_,fun p hp z=>?_⟩
   ·obtain ⟨v,q⟩:=I3.cell x c e
    have:=q.lt
    rw [z] at this
    exact Nat.lt_irrefl _ this
   ·have:=Heap.lt_size (I3.pin p hp).1
    rw [z] at this
    exact Nat.lt_irrefl _ this
  ·refine wpAny_mono (T.item (X.block scope cl (tgs ++ caps.map (·.1)) fp s3 H3) rfl rfl rfl hc i [] s5 σ5 H5 (fun _ _=>False) I5 (stat fr5) st5 go) (fun r s6 ⟨u,hr,h6⟩=>?_) fun _ _ z=>False.elim z
   subst hr
   refine wpAny_mono h6 (fun _ s7 ⟨x,H7,I7,r7,y7,st7,fr7⟩=>?_) fun _ _ z=>False.elim z
   have I7':=I7.pinned (stat fr7) (T.obj _ _ st7)
   have again:∀ {s9:Shared} {σ9:St} {H9:Hp},Inv (X.block scope cl (tgs ++ caps.map (·.1)) fp s3 H3) ([] ++ zdz fp s7.heap) σ9 H9 s9->N σ9 H9->
     ∃ m,m < n/\∃ i σ' H',Inv (X.block scope cl (tgs ++ caps.map (·.1)) fp s3 H3) [] σ' H' s9/\tn i s9.heap/\(∀ b ∈ fp,H' b = none)/\W i m σ' H':=fun {s9 σ9 H9} I9 n9=>by
    obtain ⟨m',hm,w9⟩:=hN σ9 H9 n9
    refine ⟨m',hm,i + 1,σ9,H9,I9.unpinned,T.keep _ _ _ st7 fun b hb o e=>(I9.pin (b,o) (mem_append_right _ (mem_append_right _ (za5 hb e)))).1,fun b hb=>?_,w9⟩
    obtain ⟨o,e,d⟩:=T.obj _ _ st7 b hb
    exact (I9.pin (b,o) (mem_append_right _ (mem_append_right _ (za5 hb e)))).2.1
   refine wpAny_mono (hg fp s3 H3 _ s7 σ5 H7 x u _ I7' r7 (step x H7 y7)) (fun _ s8 ⟨σ8,H8,I8,q8⟩=>?_) fun _ _ z=>False.elim z
   refine wpAny_mono (hif fp s3 H3 _ s8 σ8 H8 _ I8 q8) (fun b s9 ⟨H9,I9,q9⟩=>?_) fun _ _ z=>False.elim z
   cases b with
   | false=>
    rw [if_neg Bool.false_ne_true] at q9
    rw [if_neg Bool.false_ne_true]
    exact again I9 q9
   | true=>
    rw [if_pos rfl] at q9
    rw [if_pos rfl]
    refine wpAny_mono (hel fp s3 H3 _ s9 σ8 H9 _ I9 q9) (fun xv s10 ⟨v,H10,I10,rv,ys,hy,hl,q10⟩=>?_) fun _ _ z=>False.elim z
    refine wpAny_mono (qF (X:=X.block scope cl (tgs ++ caps.map (·.1)) fp s3 H3) _ s10 σ8 H10 (.ref s2.heap.objs.size) [v] (.ref s2.heap.objs.size) [xv] (fun _ H11=>N σ8 H11) I10 rfl (.cons rv .nil) ⟨_,ys,v,rfl,rfl,hy,hl,q10⟩) (fun _ s11 ⟨_,H11,I11,_,q11⟩=>again I11 q11) fun _ _ z=>False.elim z
 exact codeAny_compStart_list loop (T.self _ 0 _ _ _ st4 loop)
end
section
variable {X:Cx}
theorem zl2:ziz X (zlx X.K):=by
 intro pins s σ H x y v u Q I rx ry h
 obtain ⟨p,xs,i,z,rfl,rfl,hq,he,q⟩:=h
 cases rx
 obtain ⟨t,rfl⟩:=ry
 obtain ⟨its,r,pl,hz⟩:=I.list hq
 obtain ⟨j,h1,h2,h3,h4,h5⟩:=zeT he
 obtain ⟨w,ew,rw'⟩:=r.get h2
 have hl:=r.length
 have hn:=zcg
 have fin:EP X pins σ Q w s:=⟨z,H,I,rw',q⟩
 by_cases h0:0<=i
 ·have hj:i.toNat = j:=by
   rw [seqIndex_of h0 h5] at h1
   exact Option.some.inj h1
  exact wpAny_getItem_list pl.isList h0 (by omega) (by rw [hj];simpa using ew) fin
 ·have hj:(i + (its.toArray.size:Int)).toNat = j:=by
   rw [seqIndex_neg (by omega) h4] at h1
   rw [size_toArray,← hl]
   exact Option.some.inj h1
  exact wpAny_getItem_list_neg pl.isList (by omega) (by rw [size_toArray] <;> omega) (by omega) (by rw [hj];simpa using ew) fin
end
end L2
namespace L2
open PySem PySem.Spec PyProof.Rows PySem.Builtin PySem.Builtin.ObjectAttr
inductive Tl (h:Heap) (bmB:List Value) (ns:List Str):List Value->Prop
 | base:Tl h bmB ns bmB
 | own {a:Addr} {c:Value} {dd:Option Addr} {cd:ClassData} {sl:Array (Option Value)} {mA:Str->Option Value} {tl:List Value} (e:h.get? a = some ⟨c,dd,.cls cd,sl⟩) (hn:h.Ns cd.ns mA) (no:∀ n ∈ ns,mA n = none) (t:Tl h bmB ns tl):Tl h bmB ns (.ref a :: tl)
section
variable {h h':Heap} {bmB tl:List Value} {ns:List Str}
theorem Tl.tail (T:Tl h bmB ns tl) (hi:("__init__":Str) ∈ ns):OwnTail h bmB tl:=by
 induction T with
 | base=>exact .base
 | own e hn no _ ih=>exact .own e hn (no _ hi) ih
variable {M:Model} {A:Around} {E:Value->Shared->Prop} {g:Array GenState} {d:Drawn} {t:Nat} {os:OsState}
theorem Tl.along {n:Str} {y:Option Value} {Q:Option Value->Shared->Prop} (T:Tl h bmB ns tl) (hm:n ∈ ns) (hB:lookupAlong bmB n = pure y) (hq:Q y ⟨h,g,d,t,os⟩):wpAny M A (lookupAlong tl n) Q E ⟨h,g,d,t,os⟩:=by
 induction T with
 | base=>rw [hB];exact wpAny_pure hq
 | own e hn no _ ih=>
  rw [lookupAlong_cons]
  exact wpAny_bind (wpAny_classOwn_cls e hn (by rw [no _ hm];exact ih))
variable {nm q:Str} {C N:Addr} {bs bm:List Value} {hdct:Bool} {sn:List Str} {sub:List Value} {ab:Bool} {col:Option Bool} {dd:Option Addr} {k0 k1 k2 k3 k5:Option Value} {B newId:String}
theorem zhZ {n:Str} {mN:Str->Option Value} {y:Option Value} {Q:Option Value->Shared->Prop} (hC:h.get? C = some (excClassObj nm q C N bs bm hdct sn sub ab col dd k0 k1 k2 k3 k5 newId)) (hn:h.Ns N mN) (T:Tl h bmB ns bm) (hm:n ∈ ns)
  (hbm:mroOf (.type B) = pure bmB) (hB:typeLookup (.type B) n = pure y) (hq:Q ((mN n).or y) ⟨h,g,d,t,os⟩):wpAny M A (typeLookup (.ref C) n) Q E ⟨h,g,d,t,os⟩:=by
 have hr:lookupAlong bmB n = pure y:=by rw [typeLookup_eq,hbm] at hB;exact hB
 rw [typeLookup_eq]
 refine wpAny_bind (wpAny_mroOf_exc hC ?_)
 rw [lookupAlong_cons]
 refine wpAny_bind (wpAny_classOwn_exc hC hn ?_)
 cases hv:mN n with
 | some v=>rw [hv] at hq;exact wpAny_pure hq
 | none=>rw [hv] at hq;exact T.along hm hr hq
end
section
variable {prog:Program} {w:World} {A:Around} {E:Value->Shared->Prop} {h:Heap} {g:Array GenState} {d:Drawn} {t:Nat} {os:OsState}
variable {nm q name:Str} {C N x:Addr} {bs bm:List Value} {sn ns:List Str} {sub:List Value} {ab:Bool} {col:Option Bool} {dd:Option Addr} {k0 k1 k2 k3 k5:Option Value} {newId:String} {mN:Str->Option Value} {v:Value} {o:Obj}
theorem zjz {M:Model} {u:Value} {Q:Unit->Shared->Prop} (hC:h.get? C = some (excClassObj nm q C N bs bm true sn sub ab col dd k0 k1 k2 k3 k5 newId)) (T:Tl h zgH ns bm) (hi:("__init__":Str) ∈ ns) (hx:h.get? x = some o) (hc:o.cls = .ref C) (hq:Q () ⟨h,g,d,t,os⟩) :
  wpAny M A (checkBuiltinCall "object.__setattr__" ⟨[.ref x,u,v],[]⟩) Q E ⟨h,g,d,t,os⟩:=by
 have hb:(Value.ref C :: bm).contains (.type "object") = true:=by rw [List.contains_cons,(T.tail hi).hasType PySem.F.store_ValueError.hasOwner,Bool.or_true]
 simp only [checkBuiltinCall,PySem.F.store_ValueError.kind,PySem.F.store_ValueError.split]
 refine wpAny_bind ?_
 unfold isInstance
 repeat (first | (with_reducible refine wpAny_loadPart_at hx ?_;rw [hc]) | (with_reducible refine wpAny_isSubtype_exc hC ?_;rw [hb]) | wp_step)
 exact hq
theorem zjy {tk:Tok} {Q:Fin->Shared->Prop} (hC:h.get? C = some (excClassObj nm q C N bs bm true sn sub ab col dd k0 k1 k2 k3 k5 newId)) (hn:h.Ns N mN) (T:Tl h zgH ns bm) (m2:mN name = none) (hm:name ∈ ns)
  (hB:typeLookup (.type "ValueError") name = pure none) (hx:h.get? x = some o) (hc:o.cls = .ref C) (hnc:∀ c,o.data ≠ .cls c) (hd:o.dict = none)
  (hq:∀ h' tk' dx,h.get? dx = none->dx ≠ x->h'.get? x = some { o with dict:=some dx }->h'.Ns1 dx (fun y=>if y = name then some v else none)->(∀ b ob,b ≠ x->h.get? b = some ob->h'.get? b = some ob)->Q (.done (.ret .none)) ⟨h',g,d,tk',os⟩) :
  wpAny (model prog w) A (Builtin.«object.__setattr__» ⟨[.ref x,.str name tk,v],[]⟩) Q E ⟨h,g,d,t,os⟩:=by
 have hp:∀ l,Tl h zgH ns l->refuseLoop (.ref x) "__setattr__" l = pure ():=by
  intro l T
  induction T with
  | base=>exact PySem.F.store_ValueError.passes (.ref x)
  | own _ _ _ _ ih=>rw [refuseLoop_ref];exact ih
 have hp:=hp bm T
 unfold Builtin.«object.__setattr__»
 repeat (first | rw [refuse_eq] | (rw [refuseLoop_ref,hp]) | (with_reducible refine wpAny_loadPart_at hx ?_;rw [hc]) | with_reducible refine wpAny_mroOf_exc hC ?_ | (with_reducible refine zhZ hC hn T hm PySem.F.store_ValueError.mro hB ?_;rw [m2]) | wp_step)
 rw [hd,if_neg (by simp [typeHasDict])]
 have e1:(h.push ⟨.type "dict",none,.dict #[] 0,#[]⟩).get? x = some o:=Heap.get?_push_of_some _ hx
 have ne:x ≠ h.objs.size:=Nat.ne_of_lt (Heap.lt_size hx)
 have hfr:=(Heap.get?_some_iff.mp hx).2
 have key:wpAny (model prog w) A (do let d ← alloc ⟨.type "dict",none,.dict #[] 0,#[]⟩;update x fun o=>{ o with dict:=some d };dictMade (.ref C) x d) (fun a s'=>wpAny (model prog w) A (match a with | some d=>storeInDict d (Value.str name tk) name v | none=>noDictFor (Value.ref x) (Value.ref C) name (none.or none:Option Value).isSome) Q E s') E ⟨h,g,d,t,os⟩:=by
  refine wpAny_bind (wpAny_alloc' (wpAny_bind (wpAny_update' e1 (wpAny_pure ?_))))
  generalize hg2:(h.push ⟨.type "dict",none,.dict #[] 0,#[]⟩).update x (fun o=>{ o with dict:=some h.objs.size }) = h2
  have gd:h2.get? h.objs.size = some ⟨.type "dict",none,.dict #[] 0,#[]⟩:=by
   rw [← hg2];exact (Heap.get?_update_ne _ _ _ _ ne.symm).trans (Heap.get?_push_at rfl rfl)
  have gx:h2.get? x = some { o with dict:=some h.objs.size }:=by
   rw [← hg2]
   refine Heap.get?_update_self _ e1 ?_
   obtain ⟨oc,od,odt,osl⟩:=o
   cases odt <;> first | rfl | exact hfr
  have nd:h2.Ns h.objs.size (fun _=>none):=⟨_,#[],_,gd,rfl,fun e he=>absurd he (by simp),fun _=>rfl⟩
  show wpAny _ _ (storeInDict h.objs.size (.str name tk) name v) _ _ _
  unfold storeInDict newKeyGuard
  refine wpAny_bind (wpAny_pure (wpAny_bind (wpAny_nsSet1 (Heap.Ns1.of_empty nd) fun h' n1 hs=>?_)))
  obtain ⟨oD,esD,epD,a1,a2,a3⟩:=n1.count (Within.cons name v Within.nil)
  refine wpAny_bind (wpAny_lookBehind a1 (by rw [a2];exact pastItsLine_dict (Nat.le_trans a3 (by rw [length_cons,length_nil,sizeLine_eq];omega))) ?_)
  wp_walk
  refine hq h' _ h.objs.size (Heap.get?_none_of_le (Nat.le_refl _)) ne.symm ((hs.2 x ne).trans gx) n1 fun b ob hb e=>(hs.2 b (Nat.ne_of_lt (Heap.lt_size e))).trans ?_
  rw [← hg2]
  exact (Heap.get?_update_ne _ _ _ _ hb).trans (Heap.get?_push_of_some _ e)
 cases hdt:o.data with
 | cls c=>exact absurd hdt (hnc c)
 | _=>exact key
theorem zqz {Q:Unit->Shared->Prop} (hC:h.get? C = some (excClassObj nm q C N bs bm true sn sub ab col dd k0 k1 k2 k3 k5 newId)) (hn:h.Ns N mN) (T:Tl h zgH ns bm) (hi:("__init__":Str) ∈ ns) (m1:mN "__setattr__" = none) (hs:("__setattr__":Str) ∈ ns) (m2:mN name = none) (hm:name ∈ ns)
  (hB:typeLookup (.type "ValueError") name = pure none) (hx:h.get? x = some o) (hc:o.cls = .ref C) (hnc:∀ c,o.data ≠ .cls c) (hd:o.dict = none)
  (hq:∀ h' tk' dx,h.get? dx = none->dx ≠ x->h'.get? x = some { o with dict:=some dx }->h'.Ns1 dx (fun y=>if y = name then some v else none)->(∀ b ob,b ≠ x->h.get? b = some ob->h'.get? b = some ob)->Q () ⟨h',g,d,tk',os⟩) :
  wpAny (model prog w) A (setAttr (.ref x) name v) Q E ⟨h,g,d,t,os⟩:=by
 have f3:=PySem.F.store_ValueError.slot.bind (.ref x)
 unfold setAttr callSpecial? specialOf
 repeat (any_goals (first | assumption | (with_reducible refine wpAny_loadPart_at hx ?_;rw [hc]) | (with_reducible refine zhZ hC hn T hs PySem.F.store_ValueError.mro PySem.F.store_ValueError.slot.lookup ?_;rw [m1]) | wp_step))
 refine codeAny_call_builtin PySem.F.store_ValueError.slot.plain PySem.F.store_ValueError.entry (zjz hC T hi hx hc (zjy hC hn T m2 hm hB hx hc hnc hd fun h' tk' dx a1 a2 a3 a4 a5=>?_))
 repeat (any_goals (first | assumption | wp_step))
 exact hq h' tk' dx a1 a2 a3 a4 a5
end
noncomputable abbrev zk2 (C:Addr) (t:Addr) (od:Option Addr):Obj:=⟨.ref C,od,.fields #[.ref t,.none,.none,.none,.bool false,.none],#[]⟩
noncomputable def ExO (e C:Addr) (od:Option Addr):Heap->Prop:=fun h=>∃ ob,h.get? e = some ob/\ob.cls = .ref C/\ob.dict = od/\∀ c,ob.data ≠ .cls c
noncomputable def ExN (e C t:Addr) (od:Option Addr):Heap->Prop:=fun h=>h.get? e = some (zk2 C t od)
theorem zpu {P:Program} {w:World} {H:Hp} {h:Heap} {e C t:Addr} {od:Option Addr} (x:ExN e C t od h):ObjOk P w H h e (.ext (ExN e C t od)):=
 ⟨x,⟨_,x⟩,fun _ _ q k=>k _ q⟩
noncomputable def zhA (H:Hp) (e:Addr):Hp:=fun b=>if b = e then none else H b
theorem zcC {H:Hp} {e b:Addr} (h:b ≠ e):zhA H e b = H b:=if_neg h
theorem zkl {H:Hp} {e:Addr}:zhA H e e = none:=if_pos rfl
section
variable {X:Cx} {pins:List (Addr × Obj)} {σ:St} {H:Hp} {s:Shared} {e:Addr}
theorem Inv.take {o:HO} (I:Inv X pins σ H s) (h0:X.s₀.heap.get? e = none) (hn:H e = none) (hl:e ≠ X.env.locals) (hc:∀ x c,X.env.cells.lookup x = some c->c ≠ e) (hp:∀ p ∈ X.pn ++ pins,p.1 ≠ e) (new:ObjOk X.prog X.w (upd H e o) s.heap e o):Inv X pins σ (upd H e o) s:=by
 have ne:∀ b ob,X.s₀.heap.get? b = some ob->b ≠ e:=fun b ob q z=>by rw [z,h0] at q;cases q
 have nh:∀ b u,H b = some u->b ≠ e:=fun b u q z=>by rw [z,hn] at q;cases q
 refine ⟨I.ok,I.os,I.bare,⟨I.base.keep,I.base.slot,fun b ob q n x=>by rw [yk (ne b ob q)];exact I.base.free b ob q n x,I.base.there,fun b xs q=>?_,fun b u xs q=>?_,fun b ps q=>?_⟩,I.loc,I.cell,by rw [yk hl.symm];exact I.free,fun x c q=>by rw [yk (hc x c q)];exact I.freeC x c q,fun p q=>?_,?_,I.len⟩
 ·have:=I.base.tups b xs q;rw [yk (nh b _ this)];exact this
 ·have:=I.base.frzs b u xs q;rw [yk (nh b _ this)];exact this
 ·obtain ⟨m,this⟩:=I.base.tbls b ps q;exact ⟨m,by rw [yk (nh b _ this)];exact this⟩
 ·obtain ⟨a,b,c⟩:=I.pin p q
  exact ⟨a,by rw [yk (hp p q)];exact b,c⟩
 ·intro b u q
  by_cases hb:b = e
  ·subst hb;rw [qA] at q;cases q;exact new
  ·rw [yk hb] at q
   exact (I.hok b u q).stay (fun _ _ _ z=>z) (fun c z=>by rw [yk (nh c _ z)];exact z) fun c xs z=>by rw [yk (nh c _ z)];exact z
theorem Inv.let {φ:Heap->Prop} (I:Inv X pins σ H s) (he:H e = some (.ext φ)):Inv X pins σ (zhA H e) s:=by
 have nh:∀ b u,H b = some u->(∀ ψ,u ≠ .ext ψ)->b ≠ e:=fun b u q n z=>by rw [z,he] at q;cases q;exact n φ rfl
 have nn:∀ b,H b = none->zhA H e b = none:=fun b q=>by
  unfold zhA
  split
  ·rfl
  ·exact q
 refine ⟨I.ok,I.os,I.bare,⟨I.base.keep,I.base.slot,fun b ob q n x=>nn b (I.base.free b ob q n x),I.base.there,fun b xs q=>?_,fun b u xs q=>?_,fun b ps q=>?_⟩,I.loc,I.cell,nn _ I.free,fun x c q=>nn _ (I.freeC x c q),fun p q=>?_,?_,I.len⟩
 ·have:=I.base.tups b xs q;rw [zcC (nh b _ this (fun _ z=>by cases z))];exact this
 ·have:=I.base.frzs b u xs q;rw [zcC (nh b _ this (fun _ z=>by cases z))];exact this
 ·obtain ⟨m,this⟩:=I.base.tbls b ps q;exact ⟨m,by rw [zcC (nh b _ this (fun _ z=>by cases z))];exact this⟩
 ·obtain ⟨a,b,c⟩:=I.pin p q
  exact ⟨a,nn _ b,c⟩
 ·intro b u q
  by_cases hb:b = e
  ·subst hb;rw [zkl] at q;cases q
  ·rw [zcC hb] at q
   exact (I.hok b u q).stay (fun _ _ _ z=>z) (fun c z=>by rw [zcC (nh c _ z (fun _ y=>by cases y))];exact z) fun c xs z=>by rw [zcC (nh c _ z (fun _ y=>by cases y))];exact z
end
noncomputable def CXX (P:Program) (w:World):CXT:=fun l H s E ev s'=>∃ (e t C:Addr) (oe:Obj) (B:Heap) (H':Hp),ev = .ref e/\Heap.FlyingW B l e (.ref C) (.ref t) s'.heap/\s'.heap.get? e = some oe/\s'.os = s.os/\AllBare s'.gens /\
 Un (frs l) [] H H' s.heap s'.heap/\HOk P w H' s'.heap/\(∀ b o,s'.heap.get? b = some o->b ∉ frs l->(H' b ≠ none\/∃ o',s.heap.get? b = some o')->B.get? b = some o)/\(∀ b ∈ frs l,H' b = none)/\E (.ref C) oe.dict H'
noncomputable abbrev xns:List Str:=["__setattr__","at","__getattribute__","__getattr__"]
structure XcAt (K:Frag) (mg:Str->Option Value) (x:Str) (C fI:Addr):Prop where
 bound:mg x = some (.ref C)
 obj:∀ h:Heap,K.In h->∃ bm N nm q bs sn sub ab col dd k0 k1 k2 k3 k5 mN,h.get? C = some (excClassObj nm q C N bs bm true sn sub ab col dd k0 k1 k2 k3 k5 "ValueError.__new__")/\h.Ns N mN/\mN "__init__" = some (.ref fI)/\(∀ n ∈ xns,mN n = none)/\Tl h zgH ("__init__" :: xns) bm
 fn:∃ oI,K.lookup fI = some oI/\oI.cls = .type "function"
theorem zni:typeLookup (.type "ValueError") "at" = pure none:=by rw [typeLookup_type,builtinLookup_eq_fast];kernel_rfl
section
variable {X:Cx} {E:XK} {o value:Expr} {ta tv:TE} {pos pos':Pos}
theorem Inv.new0 {pins:List (Addr × Obj)} {σ:St} {H:Hp} {s:Shared} {e:Addr} (I:Inv X pins σ H s) (hex:X.ex = []) (he:s.heap.get? e = none):X.s₀.heap.get? e = none/\H e = none/\e ≠ X.env.locals/\(∀ x c,X.env.cells.lookup x = some c->c ≠ e)/\∀ p ∈ X.pn ++ pins,p.1 ≠ e:=by
 refine ⟨?_,?_,fun z=>?_,fun x c q z=>?_,fun p q z=>?_⟩
 ·cases q:X.s₀.heap.get? e with
  | none=>rfl
  | some u=>
   obtain ⟨o',e'⟩:=I.base.there e u q (by rw [hex];simp)
   rw [he] at e';cases e'
 ·cases q:H e with
  | none=>rfl
  | some u=>
   obtain ⟨o',e'⟩:=(I.hok e u q).there
   rw [he] at e';cases e'
 ·obtain ⟨m,⟨ob,_,_,e',_⟩,_⟩:=I.loc
  rw [← z,he] at e';cases e'
 ·obtain ⟨v,ob,e',_⟩:=I.cell x c q
  rw [z,he] at e';cases e'
 ·have:=(I.pin p q).1
  rw [z,he] at this;cases this
theorem zoc (hex:X.ex = []) (ha:PE X o ta) (hv:PE X value tv) (hs:swapsWith value (some (.Attribute o "at" pos')) pos.line X.env = pure false:=by rfl):PS X (.Assign [.Attribute o "at" pos'] value pos)
  (fun D σ H=>tv σ H fun y H1=>ta σ H1 fun x H2=>∃ e C fI t nm,x = .ref e/\XcAt X.K X.mg nm C fI/\H2 e = some (.ext (ExN e C t none))/\∀ d,H2 d = none->d ≠ e->D.nx σ (upd (upd H2 e (.ext (ExN e C t (some d)))) d (.xd [("at",y)]))):=by
 intro pins s σ H D I h
 refine plainObj_wpAny_Assign_Attribute (thn (hv pins s σ H _ I h) fun u s1 ⟨y,H1,I1,ry,q⟩=>thn (ha pins s1 σ H1 _ I1 q) fun ov s2 ⟨x,H2,I2,rx,e,C,fI,t,nm,ex,O,ee,q2⟩=>?_) hs
 subst ex
 obtain rfl:ov = Value.ref e:=rx
 obtain ⟨bm,N,nm,q,bs,sn,sub,ab,col,dd,k0,k1,k2,k3,k5,mN,hC,hN,hi,hno,T⟩:=O.obj s2.heap I2.kIn
 obtain ⟨g0,_,_⟩:=I2.hok e _ ee
 have g0:s2.heap.get? e = some (zk2 C t none):=g0
 obtain ⟨h2,ge,dr,tk,os⟩:=s2
 refine zqz hC hN T (by decide) (hno _ (by decide)) (by decide) (hno _ (by decide)) (by decide) zni g0 rfl (fun c z=>by cases z) rfl fun h' tk' dx a1 a2 a3 a4 a5=>?_
 have I3:Inv X pins σ (upd H2 e (.ext (ExN e C t (some dx)))) ⟨h',ge,dr,tk',os⟩:=I2.write (t':=tk') (by rw [ee];trivial) (.inl rfl) (fun b u nb e'=>a5 b u nb e') ⟨_,a3⟩ (zpu a3)
 obtain ⟨b1,b2,b3,b4,b5⟩:=I2.new0 hex a1
 have I4:Inv X pins σ (upd (upd H2 e (.ext (ExN e C t (some dx)))) dx (.xd [("at",y)])) ⟨h',ge,dr,tk',os⟩:=I3.take b1 (by rw [yk a2];exact b2) b3 b4 b5 ⟨_,a4,fun f=>by
  by_cases hf:f = "at"
  ·subst hf;exact ry
  ·rw [if_neg hf]
   show RelO (List.lookup f [("at",y)]) none
   rw [lookup_cons]
   simp only [beq_eq_false_iff_ne.mpr hf,List.lookup_nil]
   trivial⟩
 exact ⟨σ,_,I4,q2 dx b2 a2⟩
end
theorem zjh {P:Program} {w:World} {K:Frag} {mg:Str->Option Value} {base:Heap} {x qual:Str} {st:Stmt} {C f:Addr} {fd:FuncData} {p1 p2 p3 p4:Pos} (O:XcAt K mg x C f) (F:Fun K "__init__" qual st f fd) (S:FnScope ["self","at"] ["self","at"] (zf st))
  (hb:yK st = [.Assign [.Attribute (.Name "self" p1) "at" p2] (.Name "at" p3) p4]) (l1:(zf st).names.lookup ("self":Str) = some NameKind.local) (l2:(zf st).names.lookup ("at":Str) = some NameKind.local) :
  FnOk P w K mg base CX0 1 f fd ["self","at"] (fun vs H Q E=>(∃ e t v,vs = [.ref e,v]/\H e = some (.ext (ExN e C t none))/\∀ d,H d = none->d ≠ e->Q .non (upd (upd H e (.ext (ExN e C t (some d)))) d (.xd [("at",v)])))):=by
 refine F.ok S (fun vs H Q E ⟨e,t,v,h,_⟩=>by rw [h];rfl) fun cdv A outer s H vs Q E hr ⟨e,t,v,h1,h2,h3⟩=>?_
 subst h1
 rw [hb]
 refine ⟨_,zi4 (zoc rfl (zhU (i:=0) rfl (.inl l1)) (zhU (i:=1) rfl (.inl l2))),?_⟩
 exact ⟨v,rfl,.ref e,rfl,e,C,f,t,x,rfl,O,h2,h3⟩
structure Sup (K:Frag) (mg:Str->Option Value) (y:Str) (C C':Addr):Prop where
 bound:mg y = some (.ref C)
 obj:∀ h:Heap,K.In h->(∃ bm N nm q bs hdct sn sub ab col dd k0 k1 k2 k3 k5,h.get? C = some (excClassObj nm q C N bs bm hdct sn sub ab col dd k0 k1 k2 k3 k5 "ValueError.__new__")/\bm.contains (.type "BaseException") = true) /\
  ∃ bm N nm q bs hdct sn sub ab col dd k0 k1 k2 k3 k5,h.get? C' = some (excClassObj nm q C' N bs bm hdct sn sub ab col dd k0 k1 k2 k3 k5 "ValueError.__new__")/\(Value.ref C' :: bm).contains (.ref C) = true
theorem handed {x:V} {v:Value} (r:RelV x v):handedOut v = pure v:=by
 cases x with
 | non=>cases r;rfl
 | bl b=>cases r;rfl
 | int i=>obtain ⟨_,rfl⟩:=r;rfl
 | str i=>obtain ⟨_,rfl⟩:=r;rfl
 | byt i=>obtain ⟨_,rfl⟩:=r;rfl
 | flt i=>obtain ⟨_,rfl⟩:=r;rfl
 | ref a=>cases r;rfl
 | ty n=>cases r;rfl
def PX (X:Cx) (sts:List Stmt) (t:XK->TS):Prop:=
 ∀ (E:XK) (pins:List (Addr × Obj)) (s:Shared) (σ:St) (H:Hp) (D:Ends),Inv X pins σ H s->t E D σ H->
  wpAny (model X.prog X.w) X.A (execs sts X.env) (SP X pins D) (fun ev s'=>∃ H1 s1,Inv X pins σ H1 s1/\CXX X.prog X.w X.stack H1 s1 E ev s') s
end L2
namespace FT
open PySem PySem.Spec PyProof.Rows L2
noncomputable def noStar:Expr->Bool
 | .Starred _ _=>false
 | _=>true
theorem zaj {e:Expr} {es:List Expr} {env:PySem.Env} (h:noStar e = true):starEach (e :: es) env = (false,eval e env) :: starEach es env:=by
 cases e <;> first | rfl | cases h
theorem zcM {env:PySem.Env} {pos:Pos}:∀ {es:List Expr},es.all noStar = true->(backTo pos (starEach es env)).any (·.1) = false:=by
 intro es h
 have h1:(starEach es env).any (·.1) = false:=by
  induction es with
  | nil=>rfl
  | cons e es ih=>
   rw [all_cons,Bool.and_eq_true] at h
   rw [zaj h.1,any_cons,ih h.2]
   rfl
 have h2:∀ l:List (Bool × Sem Value),l.any (·.1) = false->(backTo pos l).any (·.1) = false:=by
  intro l hl
  unfold backTo
  rw [List.any_map]
  exact hl
 exact h2 _ h1
inductive T where
 | non | bl (b:Bool) | int (i:Int) | str (x:Str) | ty (n:String) | tup (xs:List T) | lst (xs:List T) | ref (a:Nat) | dct (kvs:List (Key × T)) | exc (C:Addr) (fs:List (Str × T))
inductive Cell where
 | lst (xs:List T) | dic (kvs:List (Key × T)) | ins (C:Addr) (fs:List (Str × T))
noncomputable abbrev Mem:=List Cell
noncomputable abbrev Ev:=List (Option T)
inductive Out (β:Type) where
 | ok (b:β) (M:Mem) | exn (C:Addr) (fs:List (Str × T)) (M:Mem) | bad
noncomputable def Out.bind {β γ:Type} (o:Out β) (k:β->Mem->Out γ):Out γ:=match o with
 | .ok b M=>k b M
 | .exn C fs M=>.exn C fs M
 | .bad=>.bad
theorem zcI {β γ:Type} (b:β) (M:Mem) (k:β->Mem->Out γ):(Out.ok b M).bind k = k b M:=rfl
theorem zrf {β γ:Type} (k:β->Mem->Out γ):(Out.bad:Out β).bind k = .bad:=rfl
structure Sit where
 α:Nat->Addr
 M:Mem
 H:Hp
 hid:List Addr
def Sit.off (S:Sit) (p:Addr):Prop:=(∀ a,a < S.M.length->S.α a ≠ p)/\p ∉ S.hid
def KL (K:Frag) (a:Addr) (xs:List V):Prop:=
 ∃ (o:Obj) (its:Array Value) (n:Nat),K.lookup a = some o/\o.cls = .type "list"/\o.dict = none/\o.data = .seq its n/\its.size<=sizeLine/\Vals xs its.toList
inductive Rep (K:Frag) (S:Sit):T->V->Prop where
 | non:Rep K S .non .non
 | bl (b:Bool):Rep K S (.bl b) (.bl b)
 | int (i:Int):Rep K S (.int i) (.int i)
 | str (x:Str):Rep K S (.str x) (.str x)
 | ty (x:String):Rep K S (.ty x) (.ty x)
 | tup {ts:List T} {p:Addr} {vs:List V} (h:SqT K S.H p vs) (l:ts.length = vs.length) (r:∀ (i:Nat) t v,ts[i]? = some t->vs[i]? = some v->Rep K S t v):Rep K S (.tup ts) (.ref p)
 | lst {ts:List T} {p:Addr} {vs:List V} (h:(Rd S.H p (.lst vs)/\S.off p)\/KL K p vs) (l:ts.length = vs.length) (r:∀ (i:Nat) t v,ts[i]? = some t->vs[i]? = some v->Rep K S t v):Rep K S (.lst ts) (.ref p)
 | ref {a:Nat} (h:a < S.M.length):Rep K S (.ref a) (.ref (S.α a))
 | dct {kvs:List (Key × T)} {us:List (Key × V)} {p:Addr} {o:Obj} (h:S.H p = some (.frz o (.dK us))) (l:kvs.map (·.1) = us.map (·.1)) (r:∀ (i:Nat) t v,(kvs.map (·.2))[i]? = some t->(us.map (·.2))[i]? = some v->Rep K S t v):Rep K S (.dct kvs) (.ref p)
 | exc {C:Addr} {fs:List (Str × T)} {us:List (Str × V)} {p:Addr} {od:Option Addr} (h:S.H p = some (.ext (ExO p C od))) (hd:(od = none/\us = [])\/∃ d,od = some d/\S.H d = some (.xd us)) (l:fs.map (·.1) = us.map (·.1)) (r:∀ (i:Nat) t v,(fs.map (·.2))[i]? = some t->(us.map (·.2))[i]? = some v->Rep K S t v):Rep K S (.exc C fs) (.ref p)
def Reps (K:Frag) (S:Sit) (ts:List T) (vs:List V):Prop:=ts.length = vs.length/\∀ (i:Nat) t v,ts[i]? = some t->vs[i]? = some v->Rep K S t v
def RepF (K:Frag) (S:Sit) (fs:List (Str × T)) (us:List (Str × V)):Prop:=fs.map (·.1) = us.map (·.1)/\Reps K S (fs.map (·.2)) (us.map (·.2))
def RepK (K:Frag) (S:Sit) (fs:List (Key × T)) (us:List (Key × V)):Prop:=fs.map (·.1) = us.map (·.1)/\Reps K S (fs.map (·.2)) (us.map (·.2))
noncomputable def CellOk (K:Frag) (S:Sit) (p:Addr):Cell->Prop
 | .lst ts=>∃ vs,S.H p = some (.lst vs)/\Reps K S ts vs
 | .dic kvs=>∃ us,S.H p = some (.dK us)/\RepK K S kvs us
 | .ins C fs=>∃ dx us,S.H p = some (.ins C dx us)/\RepF K S fs us
structure MemOk (K:Frag) (S:Sit):Prop where
 cell:∀ a c,S.M[a]? = some c->CellOk K S (S.α a) c
 inj:∀ a b,a < S.M.length->b < S.M.length->S.α a = S.α b->a = b
 hd:∀ p ∈ S.hid,(∀ a,a < S.M.length->S.α a ≠ p)/\∃ vs,S.H p = some (.lst vs)
structure Grow (S S':Sit):Prop where
 le:S.M.length<=S'.M.length
 al:∀ a,a < S.M.length->S'.α a = S.α a
 fr:∀ a,S.M.length<=a->a < S'.M.length->S.H (S'.α a) = none
 kp:∀ b o,S.H b = some o->S.off b->S'.H b = some o
 hk:∀ p ∈ S.hid,p ∈ S'.hid/\S'.H p = S.H p
 hf:∀ p ∈ S'.hid,p ∈ S.hid\/S.H p = none
structure Stp (K:Frag) (S S':Sit):Prop extends Grow S S' where
 mok:MemOk K S'
section
variable {K:Frag} {S S' S'':Sit}
theorem MemOk.some (m:MemOk K S) {a:Nat} (h:a < S.M.length):∃ o,S.H (S.α a) = Option.some o/\Mut (Option.some o):=by
 have e:S.M[a]? = Option.some S.M[a]:=by simp [h]
 have c:=m.cell a _ e
 cases q:S.M[a] with
 | lst ts=>rw [q] at c;obtain ⟨vs,e,_⟩:=c;exact ⟨_,e,trivial⟩
 | dic ts=>rw [q] at c;obtain ⟨vs,e,_⟩:=c;exact ⟨_,e,trivial⟩
 | ins C fs=>rw [q] at c;obtain ⟨dx,vs,e,_⟩:=c;exact ⟨_,e,trivial⟩
theorem MemOk.off_of (m:MemOk K S) {p:Addr} {o:Option HO} (e:S.H p = o) (h:¬ Mut o):S.off p:=by
 refine ⟨fun a ha z=>?_,fun z=>?_⟩
 ·obtain ⟨o',e',mu⟩:=m.some ha
  rw [z,e] at e'
  rw [e'] at h
  exact h mu
 ·obtain ⟨_,vs,q⟩:=m.hd p z
  rw [e] at q
  rw [q] at h
  exact h trivial
theorem MemOk.off_ext (m:MemOk K S) {p:Addr} {φ:Heap->Prop} (e:S.H p = Option.some (.ext φ)):S.off p:=by
 refine ⟨fun a ha z=>?_,fun z=>?_⟩
 ·have ea:S.M[a]? = Option.some S.M[a]:=by simp [ha]
  have c:=m.cell a _ ea
  cases q:S.M[a] with
  | lst ts=>rw [q] at c;obtain ⟨vs,e',_⟩:=c;rw [z,e] at e';cases e'
  | dic ts=>rw [q] at c;obtain ⟨vs,e',_⟩:=c;rw [z,e] at e';cases e'
  | ins C fs=>rw [q] at c;obtain ⟨dx,vs,e',_⟩:=c;rw [z,e] at e';cases e'
 ·obtain ⟨_,vs,q⟩:=m.hd p z
  rw [e] at q;cases q
theorem MemOk.off_none (m:MemOk K S) {p:Addr} (e:S.H p = none):S.off p:=m.off_of e (fun z=>z)
theorem Grow.tup (g:Grow S S') (m:MemOk K S) {p:Addr} {vs:List V} (h:SqT K S.H p vs):SqT K S'.H p vs:=by
 rcases h with (h | ⟨o,h⟩) | h
 ·exact .inl (.inl (g.kp _ _ h (m.off_of h (fun z=>z))))
 ·exact .inl (.inr ⟨o,g.kp _ _ h (m.off_of h (fun z=>z))⟩)
 ·exact .inr h
theorem Grow.off (g:Grow S S') {p:Addr} {o:HO} (h:S.H p = some o) (f:S.off p):S'.off p:=by
 refine ⟨fun a ha z=>?_,fun z=>?_⟩
 ·by_cases hl:a < S.M.length
  ·rw [g.al a hl] at z;exact f.1 a hl z
  ·have:=g.fr a (Nat.le_of_not_lt hl) ha
   rw [z,h] at this
   cases this
 ·rcases g.hf p z with q | q
  ·exact f.2 q
  ·rw [h] at q;cases q
theorem Grow.rd (g:Grow S S') {p:Addr} {u:HO} (h:Rd S.H p u) (f:S.off p):Rd S'.H p u/\S'.off p:=by
 rcases h with h | ⟨o,h⟩
 ·exact ⟨.inl (g.kp _ _ h f),g.off h f⟩
 ·exact ⟨.inr ⟨o,g.kp _ _ h f⟩,g.off h f⟩
theorem Rep.grow (m:MemOk K S) (g:Grow S S') {t:T} {v:V} (r:Rep K S t v):Rep K S' t v:=by
 induction r with
 | non=>exact .non
 | bl b=>exact .bl b
 | int b=>exact .int b
 | str b=>exact .str b
 | ty b=>exact .ty b
 | tup h l _ ih=>exact .tup (g.tup m h) l ih
 | lst h l _ ih=>
  refine .lst ?_ l ih
  rcases h with ⟨h,f⟩ | h
  ·exact .inl (g.rd h f)
  ·exact .inr h
 | ref h=>rw [← g.al _ h];exact .ref (Nat.lt_of_lt_of_le h g.le)
 | dct h l _ ih=>exact .dct (g.kp _ _ h (m.off_of h (fun z=>z))) l ih
 | exc h hd l _ ih=>exact .exc (g.kp _ _ h (m.off_ext h)) (hd.imp (fun z=>z) fun ⟨d,a,b⟩=>⟨d,a,g.kp _ _ b (m.off_of b (fun z=>z))⟩) l ih
theorem Reps.grow (m:MemOk K S) (g:Grow S S') {ts:List T} {vs:List V} (r:Reps K S ts vs):Reps K S' ts vs:=⟨r.1,fun i t v e1 e2=>(r.2 i t v e1 e2).grow m g⟩
theorem RepF.grow (m:MemOk K S) (g:Grow S S') {ts:List (Str × T)} {vs:List (Str × V)} (r:RepF K S ts vs):RepF K S' ts vs:=⟨r.1,r.2.grow m g⟩
theorem RepK.grow (m:MemOk K S) (g:Grow S S') {ts:List (Key × T)} {vs:List (Key × V)} (r:RepK K S ts vs):RepK K S' ts vs:=⟨r.1,r.2.grow m g⟩
theorem Reps.nil:Reps K S [] []:=⟨rfl,fun _ _ _ e _=>by simp at e⟩
theorem Reps.cons {t:T} {v:V} {ts:List T} {vs:List V} (r:Rep K S t v) (rs:Reps K S ts vs):Reps K S (t :: ts) (v :: vs):=by
 refine ⟨by simp [rs.1],fun i a b e1 e2=>?_⟩
 cases i with
 | zero=>simp at e1 e2;subst e1;subst e2;exact r
 | succ i=>exact rs.2 i a b (by simpa using e1) (by simpa using e2)
theorem Reps.nil_inv {ts:List T} (r:Reps K S ts []):ts = []:=List.length_eq_zero_iff.mp (by rw [r.1];rfl)
theorem Reps.consT {t:T} {ts:List T} {vs:List V} (r:Reps K S (t :: ts) vs):∃ v vs',vs = v :: vs'/\Rep K S t v/\Reps K S ts vs':=by
 cases vs with
 | nil=>have:=r.1;simp at this
 | cons v vs'=>exact ⟨v,vs',rfl,r.2 0 t v rfl rfl,by have:=r.1;simpa using this,fun i a b e1 e2=>r.2 (i + 1) a b (by simpa using e1) (by simpa using e2)⟩
theorem Reps.nilT {vs:List V} (r:Reps K S [] vs):vs = []:=List.length_eq_zero_iff.mp (by rw [← r.1];rfl)
theorem Reps.app {ts ts':List T} {vs vs':List V} (r:Reps K S ts vs) (r':Reps K S ts' vs'):Reps K S (ts ++ ts') (vs ++ vs'):=by
 induction ts generalizing vs with
 | nil=>rw [r.nilT];exact r'
 | cons t ts ih=>
  obtain ⟨v,vs1,rfl,r1,r2⟩:=r.consT
  exact (ih r2).cons r1
theorem Reps.get {ts:List T} {vs:List V} (r:Reps K S ts vs) {i:Nat} {t:T} (e:ts[i]? = some t):∃ v,vs[i]? = some v/\Rep K S t v:=by
 have hi:i < vs.length:=by rw [← r.1];exact (List.getElem?_eq_some_iff.mp e).1
 have e2:vs[i]? = some vs[i]:=by simp [hi]
 exact ⟨_,e2,r.2 i t _ e e2⟩
theorem Reps.set {ts:List T} {vs:List V} (r:Reps K S ts vs) {t:T} {v:V} (q:Rep K S t v) (j:Nat):Reps K S (ts.set j t) (vs.set j v):=by
 refine ⟨by simp [r.1],fun i a b e1 e2=>?_⟩
 rw [getElem?_set] at e1 e2
 by_cases h:j = i
 ·subst h
  by_cases hl:j < ts.length
  ·rw [if_pos rfl,if_pos hl] at e1
   rw [if_pos rfl,if_pos (by rw [← r.1];exact hl)] at e2
   cases e1;cases e2;exact q
  ·rw [if_pos rfl,if_neg hl] at e1;cases e1
 ·rw [if_neg h] at e1 e2
  exact r.2 i a b e1 e2
theorem Reps.sub {ts:List T} {vs:List V} (r:Reps K S ts vs) (a b:Nat):Reps K S ((ts.drop a).take b) ((vs.drop a).take b):=by
 refine ⟨by simp [r.1],fun i x y e1 e2=>?_⟩
 rw [getElem?_take] at e1 e2
 split at e1
 ·rename_i h
  rw [if_pos h] at e2
  rw [List.getElem?_drop] at e1 e2
  exact r.2 _ x y e1 e2
 ·cases e1
theorem CellOk.grow (m:MemOk K S) (g:Grow S S') {p:Addr} {c:Cell} (e:S'.H p = S.H p) (h:CellOk K S p c):CellOk K S' p c:=by
 cases c with
 | lst ts=>obtain ⟨vs,q,r⟩:=h;exact ⟨vs,by rw [e];exact q,r.grow m g⟩
 | dic ts=>obtain ⟨vs,q,r⟩:=h;exact ⟨vs,by rw [e];exact q,r.grow m g⟩
 | ins C ts=>obtain ⟨dx,vs,q,r⟩:=h;exact ⟨dx,vs,by rw [e];exact q,r.grow m g⟩
theorem Stp.refl (m:MemOk K S):Stp K S S:=⟨⟨Nat.le_refl _,fun _ _=>rfl,fun a h1 h2=>absurd (Nat.lt_of_lt_of_le h2 h1) (Nat.lt_irrefl _),fun _ _ e _=>e,fun _ h=>⟨h,rfl⟩,fun _ h=>.inl h⟩,m⟩
theorem Stp.trans (a:Stp K S S') (b:Stp K S' S''):Stp K S S'':=by
 have nn:∀ p,S'.H p = none->S.H p = none:=fun p hn=>by
  cases q:S.H p with
  | none=>rfl
  | some o=>
   by_cases f:S.off p
   ·rw [a.kp _ _ q f] at hn;cases hn
   ·exfalso
    apply f
    refine ⟨fun c hc z=>?_,fun z=>?_⟩
    ·have h3:c < S'.M.length:=Nat.lt_of_lt_of_le hc a.le
     obtain ⟨o',e',_⟩:=a.mok.some h3
     rw [a.al c hc,z,hn] at e'
     cases e'
    ·rw [(a.hk p z).2,q] at hn;cases hn
 refine ⟨⟨Nat.le_trans a.le b.le,fun i hi=>(b.al i (Nat.lt_of_lt_of_le hi a.le)).trans (a.al i hi),fun i h1 h2=>?_,fun p o e f=>b.kp _ _ (a.kp _ _ e f) (a.off e f),fun p h=>⟨(b.hk p (a.hk p h).1).1,(b.hk p (a.hk p h).1).2.trans (a.hk p h).2⟩,fun p h=>?_⟩,b.mok⟩
 ·by_cases hl:i < S'.M.length
  ·rw [b.al i hl];exact a.fr i h1 hl
  ·exact nn _ (b.fr i (Nat.le_of_not_lt hl) h2)
 ·rcases b.hf p h with q | q
  ·exact a.hf p q
  ·exact .inr (nn p q)
theorem Stp.new (m:MemOk K S) {p:Addr} (hp:S.H p = none) (o:HO):Stp K S ⟨S.α,S.M,upd S.H p o,S.hid⟩:=by
 have g:Grow S ⟨S.α,S.M,upd S.H p o,S.hid⟩:=⟨Nat.le_refl _,fun _ _=>rfl,fun a h1 h2=>absurd (Nat.lt_of_lt_of_le h2 h1) (Nat.lt_irrefl _),fun b u e _=>by show upd S.H p o b = _;rw [yk (qD e hp)];exact e,fun q h=>⟨h,by obtain ⟨_,vs,e⟩:=m.hd q h;exact yk (qD e hp)⟩,fun q h=>.inl h⟩
 refine ⟨g,⟨fun a c e=>?_,m.inj,fun q h=>?_⟩⟩
 rotate_left
 ·obtain ⟨h1,vs,e⟩:=m.hd q h
  exact ⟨h1,vs,(yk (qD e hp)).trans e⟩
 refine (m.cell a c e).grow m g ?_
 have ha:a < S.M.length:=(List.getElem?_eq_some_iff.mp e).1
 exact yk ((m.off_none hp).1 a ha)
noncomputable def Sit.more (S:Sit) (p:Addr) (o:HO) (c:Cell):Sit:=⟨fun a=>if a = S.M.length then p else S.α a,S.M ++ [c],upd S.H p o,S.hid⟩
theorem Grow.more (m:MemOk K S) {p:Addr} (hp:S.H p = none) (o:HO) (c:Cell):Grow S (S.more p o c):=by
 refine ⟨by show _<=(S.M ++ [c]).length;simp,fun a h=>if_neg (Nat.ne_of_lt h),fun a h1 h2=>?_,fun b u e _=>?_,fun q h=>⟨h,by obtain ⟨_,vs,e⟩:=m.hd q h;exact yk (qD e hp)⟩,fun q h=>.inl h⟩
 ·have h3:a < (S.M ++ [c]).length:=h2
  have:a = S.M.length:=by simp at h3;omega
  show S.H (if a = S.M.length then p else S.α a) = none
  rw [if_pos this];exact hp
 ·show upd S.H p o b = _;rw [yk (qD e hp)];exact e
theorem Stp.more (m:MemOk K S) {p:Addr} (hp:S.H p = none) (o:HO) (c:Cell) (hc:CellOk K (S.more p o c) p c):Stp K S (S.more p o c):=by
 have g:=Grow.more m hp o c
 refine ⟨g,⟨fun a d e=>?_,fun a b h1 h2 e=>?_,fun q h=>?_⟩⟩
 rotate_right
 ·obtain ⟨h1,vs,e⟩:=m.hd q h
  refine ⟨fun a ha z=>?_,vs,(yk (qD e hp)).trans e⟩
  have z':(if a = S.M.length then p else S.α a) = q:=z
  by_cases hl:a = S.M.length
  ·rw [if_pos hl] at z';rw [← z',hp] at e;cases e
  ·rw [if_neg hl] at z'
   have h3:a < (S.M ++ [c]).length:=ha
   exact h1 a (by simp at h3;omega) z'
 ·have e':(S.M ++ [c])[a]? = some d:=e
  by_cases ha:a < S.M.length
  ·rw [getElem?_append_left ha] at e'
   show CellOk K _ (if a = S.M.length then p else S.α a) d
   rw [if_neg (Nat.ne_of_lt ha)]
   exact (m.cell a d e').grow m g (yk ((m.off_none hp).1 a ha))
  ·rw [getElem?_append_right (Nat.le_of_not_lt ha)] at e'
   have h3:a - S.M.length = 0:=by
    cases q:a - S.M.length with
    | zero=>rfl
    | succ k=>rw [q] at e';simp at e'
   rw [h3] at e'
   cases e'
   show CellOk K _ (if a = S.M.length then p else S.α a) c
   rw [if_pos (by omega)]
   exact hc
 ·have h1':a < (S.M ++ [c]).length:=h1
  have h2':b < (S.M ++ [c]).length:=h2
  have e':(if a = S.M.length then p else S.α a) = (if b = S.M.length then p else S.α b):=e
  simp at h1' h2'
  by_cases ha:a = S.M.length
  ·by_cases hb:b = S.M.length
   ·omega
   ·rw [if_pos ha,if_neg hb] at e'
    exact absurd e'.symm ((m.off_none hp).1 b (by omega))
  ·by_cases hb:b = S.M.length
   ·rw [if_neg ha,if_pos hb] at e'
    exact absurd e' ((m.off_none hp).1 a (by omega))
   ·rw [if_neg ha,if_neg hb] at e'
    exact m.inj a b (by omega) (by omega) e'
noncomputable def Sit.put (S:Sit) (a:Nat) (o:HO) (c:Cell):Sit:=⟨S.α,S.M.set a c,upd S.H (S.α a) o,S.hid⟩
theorem Grow.put (m:MemOk K S) {a:Nat} (ha:a < S.M.length) (o:HO) (c:Cell):Grow S (S.put a o c):=by
 refine ⟨by show _<=(S.M.set a c).length;simp,fun _ _=>rfl,fun b h1 h2=>?_,fun b u e f=>?_,fun q h=>⟨h,yk (Ne.symm ((m.hd q h).1 a ha))⟩,fun q h=>.inl h⟩
 ·have h3:b < (S.M.set a c).length:=h2
  simp at h3
  exact absurd (Nat.lt_of_lt_of_le h3 h1) (Nat.lt_irrefl _)
 ·show upd S.H (S.α a) o b = _
  rw [yk (Ne.symm (f.1 a ha))];exact e
theorem Stp.put (m:MemOk K S) {a:Nat} (ha:a < S.M.length) (o:HO) (c:Cell) (hc:CellOk K (S.put a o c) (S.α a) c):Stp K S (S.put a o c):=by
 have g:=Grow.put m ha o c
 refine ⟨g,⟨fun b d e=>?_,fun i j h1 h2 e=>?_,fun q h=>?_⟩⟩
 rotate_right
 ·obtain ⟨h1,vs,e⟩:=m.hd q h
  refine ⟨fun b hb z=>?_,vs,(yk (Ne.symm (h1 a ha))).trans e⟩
  have h3:b < (S.M.set a c).length:=hb
  simp at h3
  exact h1 b h3 z
 ·have e':(S.M.set a c)[b]? = some d:=e
  rw [getElem?_set] at e'
  by_cases h:a = b
  ·subst h
   rw [if_pos rfl,if_pos ha] at e'
   cases e'
   exact hc
  ·rw [if_neg h] at e'
   refine (m.cell b d e').grow m g (yk fun z=>h ?_)
   exact (m.inj b a (List.getElem?_eq_some_iff.mp e').1 ha z).symm
 ·have h1':i < (S.M.set a c).length:=h1
  have h2':j < (S.M.set a c).length:=h2
  simp at h1' h2'
  exact m.inj i j h1' h2' e
end
def EvR (K:Frag) (S:Sit) (στ:Ev) (σ:L2.St):Prop:=στ.length = σ.length/\∀ (i:Nat) t,στ[i]? = some (some t)->∃ v,σ[i]? = some (some v)/\Rep K S t v
class Mo (K:Frag) {β γ:Type} (R:Sit->β->γ->Prop):Prop where
 mo:∀ {S S' b c},MemOk K S->Stp K S S'->R S b c->R S' b c
noncomputable def UnR:Sit->Unit->Unit->Prop:=fun _ _ _=>True
noncomputable def EqR {β:Type}:Sit->β->β->Prop:=fun _ b c=>b = c
noncomputable def PrR {A AV B BV:Type} (RA:Sit->A->AV->Prop) (RB:Sit->B->BV->Prop):Sit->A × B->AV × BV->Prop:=fun S a v=>RA S a.1 v.1/\RB S a.2 v.2
instance (K):Mo K (Rep K):=⟨fun m s r=>r.grow m s.toGrow⟩
instance (K):Mo K (Reps K):=⟨fun m s r=>r.grow m s.toGrow⟩
instance (K):Mo K (EvR K):=⟨fun m s r=>⟨r.1,fun i t e=>let ⟨v,e',q⟩:=r.2 i t e;⟨v,e',q.grow m s.toGrow⟩⟩⟩
instance (K):Mo K UnR:=⟨fun _ _ r=>r⟩
instance (K) {β:Type}:Mo K (EqR (β:=β)):=⟨fun _ _ r=>r⟩
instance (K) {A AV B BV:Type} (RA:Sit->A->AV->Prop) (RB:Sit->B->BV->Prop) [Mo K RA] [Mo K RB]:Mo K (PrR RA RB):=⟨fun m s r=>⟨Mo.mo m s r.1,Mo.mo m s r.2⟩⟩
def zpB (K:Frag) (S:Sit) (fs:List (Str × T)) (od:Option Addr):Prop:=(fs = []/\od = none)\/∃ d us,od = some d/\S.H d = some (.xd us)/\RepF K S fs us
def Fin {β γ:Type} (XE:XK) (R:Sit->β->γ->Prop) (K:Frag) (S:Sit) (o:Out β) (Q:γ->Hp->Prop):Prop:=match o with
 | .ok b M'=>∀ S' c,S'.M = M'->Stp K S S'->R S' b c->Q c S'.H
 | .exn C fs M'=>∀ S' od,S'.M = M'->Stp K S S'->zpB K S' fs od->XE (.ref C) od S'.H
 | .bad=>False
theorem Fin.later {β γ:Type} {XE:XK} {R:Sit->β->γ->Prop} {K:Frag} {S S1:Sit} {o:Out β} {Q:γ->Hp->Prop} (s:Stp K S S1) (h:Fin XE R K S o Q):Fin XE R K S1 o Q:=by
 cases o with
 | ok b M'=>exact fun S' c e s' r=>h S' c e (s.trans s') r
 | exn C fs M'=>exact fun S' c e s' r=>h S' c e (s.trans s') r
 | bad=>exact h
theorem Fin.mono {β γ:Type} {XE:XK} {R:Sit->β->γ->Prop} {K:Frag} {S:Sit} {o:Out β} {Q Q':γ->Hp->Prop} (i:∀ c H,Q c H->Q' c H) (h:Fin XE R K S o Q):Fin XE R K S o Q':=by
 cases o with
 | ok b M'=>exact fun S' c e s' r=>i _ _ (h S' c e s' r)
 | exn C fs M'=>exact h
 | bad=>exact h
def LN {A AV β γ:Type} (XE:XK) (R:Sit->β->γ->Prop) (K:Frag) (RA:Sit->A->AV->Prop) (k:A->Ev->Mem->Out β) (av:AV) (σ:L2.St) (H:Hp) (Q:γ->Hp->Prop):Prop:=
 ∃ (S:Sit) (στ:Ev) (a:A),S.H = H/\MemOk K S/\EvR K S στ σ/\RA S a av/\Fin XE R K S (k a στ S.M) Q
def L0 {A AV β γ:Type} (XE:XK) (R:Sit->β->γ->Prop) (K:Frag) (RA:Sit->A->AV->Prop) (k:A->Mem->Out β) (av:AV) (H:Hp) (Q:γ->Hp->Prop):Prop:=
 ∃ (S:Sit) (a:A),S.H = H/\MemOk K S/\RA S a av/\Fin XE R K S (k a S.M) Q
section
variable {K:Frag} {XE:XK}
theorem LN.bind {A AV B BV β γ:Type} {R:Sit->β->γ->Prop} {RA:Sit->A->AV->Prop} {RB:Sit->B->BV->Prop} [Mo K RA] {f:A->Ev->Mem->Out B} {k:A->B->Ev->Mem->Out β} {av:AV} {σ:L2.St} {H:Hp} {Q:γ->Hp->Prop}
  (h:LN XE R K RA (fun a σ M=>(f a σ M).bind fun b M1=>k a b σ M1) av σ H Q) :
  LN XE RB K RA f av σ H (fun bv H1=>LN XE R K (PrR RA RB) (fun ab=>k ab.1 ab.2) (av,bv) σ H1 Q):=by
 obtain ⟨S,στ,a,e,m,ev,ra,fin⟩:=h
 refine ⟨S,στ,a,e,m,ev,ra,?_⟩
 replace fin:Fin XE R K S ((f a στ S.M).bind fun b M1=>k a b στ M1) Q:=fin
 cases q:f a στ S.M with
 | bad=>rw [q] at fin;exact fin
 | exn C fs M'=>rw [q] at fin;exact fin
 | ok b M1=>
  rw [q] at fin
  intro S1 c e1 s1 r1
  refine ⟨S1,στ,(a,b),rfl,s1.mok,Mo.mo m s1 ev,⟨Mo.mo m s1 ra,r1⟩,?_⟩
  rw [e1]
  exact fin.later s1
theorem LN.l0 {A AV β γ:Type} {R:Sit->β->γ->Prop} {RA:Sit->A->AV->Prop} {k:A->Mem->Out β} {av:AV} {σ:L2.St} {H:Hp} {Q:γ->Hp->Prop} (h:LN XE R K RA (fun a _ M=>k a M) av σ H Q):L0 XE R K RA k av H Q:=by
 obtain ⟨S,στ,a,e,m,ev,ra,fin⟩:=h
 exact ⟨S,a,e,m,ra,fin⟩
theorem LN.mono {A AV β γ:Type} {R:Sit->β->γ->Prop} {RA:Sit->A->AV->Prop} {k:A->Ev->Mem->Out β} {av:AV} {σ:L2.St} {H:Hp} {Q Q':γ->Hp->Prop} (h:LN XE R K RA k av σ H Q) (i:∀ c H,Q c H->Q' c H):LN XE R K RA k av σ H Q':=by
 obtain ⟨S,στ,a,e,m,ev,ra,fin⟩:=h
 exact ⟨S,στ,a,e,m,ev,ra,fin.mono i⟩
theorem LN.env {A AV β γ:Type} {R:Sit->β->γ->Prop} {RA:Sit->A->AV->Prop} {f:Ev->Mem->Out β} {av:AV} {σ:L2.St} {H:Hp} {Q:γ->Hp->Prop} (h:LN XE R K RA (fun _ σ M=>f σ M) av σ H Q):LN XE R K UnR (fun _ σ M=>f σ M) () σ H Q:=by
 obtain ⟨S,στ,a,e,m,ev,ra,fin⟩:=h
 exact ⟨S,στ,(),e,m,ev,trivial,fin⟩
end
noncomputable def lE (XE:XK) (K:Frag) (f:Ev->Mem->Out T):TE:=fun σ H Q=>LN XE (Rep K) K UnR (fun _ σ M=>f σ M) () σ H Q
noncomputable def lT (XE:XK) (K:Frag) (f:Ev->Mem->Out Bool):TT:=fun σ H Q=>LN XE EqR K UnR (fun _ σ M=>f σ M) () σ H Q
noncomputable def lA (XE:XK) (K:Frag) (f:Ev->Mem->Out (List T)):TA:=fun σ H Q=>LN XE (Reps K) K UnR (fun _ σ M=>f σ M) () σ H Q
def GE (X:Cx) (XE:XK) (e:Expr) (f:Ev->Mem->Out T):Prop:=PE X e (lE XE X.K f)
def GT (X:Cx) (XE:XK) (e:Expr) (f:Ev->Mem->Out Bool):Prop:=PT X e (lT XE X.K f)
def GW (X:Cx) (XE:XK) (e:Expr) (f:Ev->Mem->Out Bool):Prop:=PW X e (lT XE X.K f)
def GA (X:Cx) (XE:XK) (es:List Expr) (f:Ev->Mem->Out (List T)):Prop:=PA X es (lA XE X.K f)
theorem PE.imp {X:Cx} {e:Expr} {t t':TE} (h:PE X e t) (i:∀ σ H Q,t' σ H Q->t σ H Q):PE X e t':=fun pins s σ H Q I q=>h pins s σ H Q I (i σ H Q q)
theorem PT.imp {X:Cx} {e:Expr} {t t':TT} (h:PT X e t) (i:∀ σ H Q,t' σ H Q->t σ H Q):PT X e t':=fun pins s σ H Q I q=>h pins s σ H Q I (i σ H Q q)
theorem PW.imp {X:Cx} {e:Expr} {t t':TT} (h:PW X e t) (i:∀ σ H Q,t' σ H Q->t σ H Q):PW X e t':=fun whole pins s σ H Q I q=>h whole pins s σ H Q I (i σ H Q q)
theorem PA.imp {X:Cx} {e:List Expr} {t t':TA} (h:PA X e t) (i:∀ σ H Q,t' σ H Q->t σ H Q):PA X e t':=fun pos pins s σ H Q I q=>h pos pins s σ H Q I (i σ H Q q)
theorem PS.imp {X:Cx} {e:Stmt} {t t':TS} (h:PS X e t) (i:∀ D σ H,t' D σ H->t D σ H):PS X e t':=fun pins s σ H D I q=>h pins s σ H D I (i D σ H q)
theorem PSs.imp {X:Cx} {e:List Stmt} {t t':TS} (h:PSs X e t) (i:∀ D σ H,t' D σ H->t D σ H):PSs X e t':=fun pins s σ H D I q=>h pins s σ H D I (i D σ H q)
noncomputable def yb (i:Nat):Ev->Mem->Out T:=fun σ M=>match σ[i]? with
 | some (some t)=>.ok t M
 | _=>.bad
noncomputable def eC (t:T):Ev->Mem->Out T:=fun _ M=>.ok t M
noncomputable def eOp (o:T->T->Mem->Out T) (f g:Ev->Mem->Out T):Ev->Mem->Out T:=fun σ M=>(f σ M).bind fun x M1=>(g σ M1).bind fun y M2=>o x y M2
noncomputable def eUn (o:T->Mem->Out T) (f:Ev->Mem->Out T):Ev->Mem->Out T:=fun σ M=>(f σ M).bind fun x M1=>o x M1
noncomputable def blT {β:Type} (t:T) (M:Mem) (k:Bool->Mem->Out β):Out β:=match t with
 | .bl b=>k b M
 | _=>.bad
noncomputable def zu (f:Ev->Mem->Out T):Ev->Mem->Out Bool:=fun σ M=>(f σ M).bind fun x M1=>blT x M1 fun b M2=>.ok b M2
noncomputable def zcv (f g:Ev->Mem->Out Bool):Ev->Mem->Out Bool:=fun σ M=>(f σ M).bind fun c M1=>if c = true then g σ M1 else .ok false M1
noncomputable def zba (f g:Ev->Mem->Out Bool):Ev->Mem->Out Bool:=fun σ M=>(f σ M).bind fun c M1=>if c = true then .ok true M1 else g σ M1
noncomputable def zc5 (f:Ev->Mem->Out Bool):Ev->Mem->Out Bool:=fun σ M=>(f σ M).bind fun c M1=>.ok (!c) M1
noncomputable def zih (f g:Ev->Mem->Out T):Ev->Mem->Out T:=fun σ M=>(f σ M).bind fun x M1=>blT x M1 fun b M2=>if b = true then g σ M2 else .ok (.bl false) M2
noncomputable def eOr (f g:Ev->Mem->Out T):Ev->Mem->Out T:=fun σ M=>(f σ M).bind fun x M1=>blT x M1 fun b M2=>if b = true then .ok (.bl true) M2 else g σ M2
noncomputable def zj8 (f:Ev->Mem->Out T):Ev->Mem->Out T:=fun σ M=>(f σ M).bind fun x M1=>blT x M1 fun b M2=>.ok (.bl (!b)) M2
noncomputable def eIf (c:Ev->Mem->Out Bool) (f g:Ev->Mem->Out T):Ev->Mem->Out T:=fun σ M=>(c σ M).bind fun b M1=>if b = true then f σ M1 else g σ M1
noncomputable def zd:Ev->Mem->Out (List T):=fun _ M=>.ok [] M
noncomputable def zb (f:Ev->Mem->Out T) (g:Ev->Mem->Out (List T)):Ev->Mem->Out (List T):=fun σ M=>(f σ M).bind fun x M1=>(g σ M1).bind fun xs M2=>.ok (x :: xs) M2
noncomputable def zK (g:Ev->Mem->Out (List T)):Ev->Mem->Out T:=fun σ M=>(g σ M).bind fun xs M1=>if xs.length<=sizeLine then .ok (.tup xs) M1 else .bad
noncomputable def qx (g:Ev->Mem->Out (List T)):Ev->Mem->Out (List T):=fun σ M=>(g σ M).bind fun xs M1=>if xs.length<=sizeLine then .ok xs M1 else .bad
noncomputable def eFz (g:Ev->Mem->Out (List T)):Ev->Mem->Out T:=fun σ M=>(g σ M).bind fun xs M1=>.ok (.lst xs) M1
noncomputable def eTk (g:Ev->Mem->Out (List T)):Ev->Mem->Out T:=fun σ M=>(g σ M).bind fun xs M1=>.ok (.ref M1.length) (M1 ++ [.lst xs])
noncomputable def ze (f:List T->Mem->Out T) (g:Ev->Mem->Out (List T)):Ev->Mem->Out T:=fun σ M=>(g σ M).bind fun ts M1=>f ts M1
noncomputable def zfY (o o':T->T->Mem->Out T) (f g h:Ev->Mem->Out T):Ev->Mem->Out T:=fun σ M=>(f σ M).bind fun x M1=>(g σ M1).bind fun y M2=>(o x y M2).bind fun z M3=>blT z M3 fun b M4=>if b = true then (h σ M4).bind fun w M5=>o' y w M5 else .ok (.bl false) M4
noncomputable def lR2 (XE:XK) (K:Frag) (o:T->T->Mem->Out T):R2:=fun x y H Q=>L0 XE (Rep K) K (PrR (Rep K) (Rep K)) (fun a M=>o a.1 a.2 M) (x,y) H Q
noncomputable def lRN (XE:XK) (K:Frag) (o:List T->Mem->Out T):List V->Hp->VK->Prop:=fun xs H Q=>L0 XE (Rep K) K (Reps K) o xs H Q
def FinL (XE:XK) (K:Frag) (S:Sit) (o:Out (List T)) (Q:VK):Prop:=match o with
 | .ok xs M'=>∀ S' p vs,S'.M = M'->Stp K S S'->S.H p = none->p ∈ S'.hid->S'.H p = some (.lst vs)->Reps K S' xs vs->Q (.ref p) S'.H
 | .exn C fs M'=>∀ S' od,S'.M = M'->Stp K S S'->zpB K S' fs od->XE (.ref C) od S'.H
 | .bad=>False
theorem FinL.later {XE:XK} {K:Frag} {S S1:Sit} {o:Out (List T)} {Q:VK} (s:Stp K S S1) (h:FinL XE K S o Q):FinL XE K S1 o Q:=by
 have nn:∀ p,S1.H p = none->S.H p = none:=fun p hn=>by
  cases q:S.H p with
  | none=>rfl
  | some o=>
   by_cases f:S.off p
   ·rw [s.kp _ _ q f] at hn;cases hn
   ·exfalso
    apply f
    refine ⟨fun c hc z=>?_,fun z=>?_⟩
    ·have h3:c < S1.M.length:=Nat.lt_of_lt_of_le hc s.le
     obtain ⟨o',e',_⟩:=s.mok.some h3
     rw [s.al c hc,z,hn] at e'
     cases e'
    ·rw [(s.hk p z).2,q] at hn;cases hn
 cases o with
 | ok b M'=>exact fun S' p vs e s' f=>h S' p vs e (s.trans s') (nn p f)
 | exn C fs M'=>exact fun S' c e s' r=>h S' c e (s.trans s') r
 | bad=>exact h
noncomputable def lL (XE:XK) (K:Frag) (f:Ev->Mem->Out (List T)):TE:=fun σ H Q=>∃ (S:Sit) (στ:Ev),S.H = H/\MemOk K S/\EvR K S στ σ/\FinL XE K S (f στ S.M) Q
def GL (X:Cx) (XE:XK) (e:Expr) (f:Ev->Mem->Out (List T)):Prop:=PE X e (lL XE X.K f)
section
variable {K:Frag} {S S':Sit}
noncomputable def Sit.show (S':Sit) (h:List Addr):Sit:=⟨S'.α,S'.M,S'.H,h⟩
theorem Rep.show {h:List Addr} (sub:∀ p ∈ h,p ∈ S'.hid) {t:T} {v:V} (r:Rep K S' t v):Rep K (S'.show h) t v:=by
 induction r with
 | non=>exact .non
 | bl b=>exact .bl b
 | int b=>exact .int b
 | str b=>exact .str b
 | ty b=>exact .ty b
 | tup h l _ ih=>exact .tup h l ih
 | lst h l _ ih=>
  refine .lst ?_ l ih
  rcases h with ⟨h,f⟩ | h
  ·exact .inl ⟨h,f.1,fun z=>f.2 (sub _ z)⟩
  ·exact .inr h
 | ref h=>exact .ref (S:=S'.show _) h
 | dct h l _ ih=>exact .dct h l ih
 | exc h hd l _ ih=>exact .exc h hd l ih
theorem Reps.show {h:List Addr} (sub:∀ p ∈ h,p ∈ S'.hid) {ts:List T} {vs:List V} (r:Reps K S' ts vs):Reps K (S'.show h) ts vs:=⟨r.1,fun i t v e1 e2=>(r.2 i t v e1 e2).show sub⟩
theorem CellOk.show {h:List Addr} (sub:∀ p ∈ h,p ∈ S'.hid) {p:Addr} {c:Cell} (q:CellOk K S' p c):CellOk K (S'.show h) p c:=by
 cases c with
 | lst ts=>obtain ⟨vs,q,r⟩:=q;exact ⟨vs,q,r.show sub⟩
 | dic ts=>obtain ⟨vs,q,r⟩:=q;exact ⟨vs,q,r.1,r.2.show sub⟩
 | ins C ts=>obtain ⟨dx,vs,q,r⟩:=q;exact ⟨dx,vs,q,r.1,r.2.show sub⟩
theorem Stp.show (s:Stp K S S'):Stp K S (S'.show S.hid):=by
 have sub:∀ p ∈ S.hid,p ∈ S'.hid:=fun p h=>(s.hk p h).1
 exact ⟨⟨s.le,s.al,s.fr,s.kp,fun p h=>⟨h,(s.hk p h).2⟩,fun p h=>.inl h⟩,⟨fun a c e=>(s.mok.cell a c e).show sub,s.mok.inj,fun p h=>s.mok.hd p (sub p h)⟩⟩
theorem zgw (s:Stp K S S') {p:Addr} {vs:List V} (hn:S.H p = none) (m:MemOk K S) (hp:p ∈ S'.hid) (e:S'.H p = some (.lst vs)) {xs:List T} (r:Reps K S' xs vs):Rep K (S'.show S.hid) (.lst xs) (.ref p):=by
 have sub:∀ p ∈ S.hid,p ∈ S'.hid:=fun p h=>(s.hk p h).1
 refine .lst (.inl ⟨.inl e,(s.mok.hd p hp).1,fun z=>?_⟩) r.1 (r.show sub).2
 obtain ⟨_,us,q⟩:=m.hd p z
 rw [hn] at q
 cases q
noncomputable def Sit.track (S':Sit) (p:Addr) (xs:List T) (h:List Addr):Sit:=⟨fun a=>if a = S'.M.length then p else S'.α a,S'.M ++ [.lst xs],S'.H,h⟩
theorem Rep.track {p:Addr} {xs:List T} {hh:List Addr} (hp:p ∈ S'.hid) (sub:∀ p ∈ hh,p ∈ S'.hid) {t:T} {v:V} (r:Rep K S' t v):Rep K (S'.track p xs hh) t v:=by
 induction r with
 | non=>exact .non
 | bl b=>exact .bl b
 | int b=>exact .int b
 | str b=>exact .str b
 | ty b=>exact .ty b
 | tup h l _ ih=>exact .tup h l ih
 | lst h l _ ih=>
  refine .lst ?_ l ih
  rcases h with ⟨h,f⟩ | h
  ·refine .inl ⟨h,fun a ha z=>?_,fun z=>f.2 (sub _ z)⟩
   have z':(if a = S'.M.length then p else S'.α a) = _:=z
   by_cases hl:a = S'.M.length
   ·rw [if_pos hl] at z';rw [← z'] at f;exact f.2 hp
   ·rw [if_neg hl] at z'
    have h3:a < (S'.M ++ [Cell.lst xs]).length:=ha
    exact f.1 a (by simp at h3;omega) z'
  ·exact .inr h
 | @ref a h=>
  have:S'.α a = (S'.track p xs hh).α a:=(if_neg (Nat.ne_of_lt h)).symm
  rw [this]
  exact .ref (by show a < (S'.M ++ [Cell.lst xs]).length;simp;omega)
 | dct h l _ ih=>exact .dct h l ih
 | exc h hd l _ ih=>exact .exc h hd l ih
theorem Reps.track {p:Addr} {xs:List T} {h:List Addr} (hp:p ∈ S'.hid) (sub:∀ p ∈ h,p ∈ S'.hid) {ts:List T} {vs:List V} (r:Reps K S' ts vs):Reps K (S'.track p xs h) ts vs:=⟨r.1,fun i t v e1 e2=>(r.2 i t v e1 e2).track hp sub⟩
theorem CellOk.track {p:Addr} {xs:List T} {h:List Addr} (hp:p ∈ S'.hid) (sub:∀ p ∈ h,p ∈ S'.hid) {q:Addr} {c:Cell} (o:CellOk K S' q c):CellOk K (S'.track p xs h) q c:=by
 cases c with
 | lst ts=>obtain ⟨vs,q,r⟩:=o;exact ⟨vs,q,r.track hp sub⟩
 | dic ts=>obtain ⟨vs,q,r⟩:=o;exact ⟨vs,q,r.1,r.2.track hp sub⟩
 | ins C ts=>obtain ⟨dx,vs,q,r⟩:=o;exact ⟨dx,vs,q,r.1,r.2.track hp sub⟩
theorem Stp.track (s:Stp K S S') (m:MemOk K S) {p:Addr} {vs:List V} (hn:S.H p = none) (hp:p ∈ S'.hid) (e:S'.H p = some (.lst vs)) {xs:List T} (r:Reps K S' xs vs):Stp K S (S'.track p xs S.hid):=by
 have sub:∀ p ∈ S.hid,p ∈ S'.hid:=fun p h=>(s.hk p h).1
 have lt:∀ a,a < S'.M.length->(S'.track p xs S.hid).α a = S'.α a:=fun a h=>if_neg (Nat.ne_of_lt h)
 refine ⟨⟨Nat.le_trans s.le (by show _<=(S'.M ++ [Cell.lst xs]).length;simp),fun a h=>(lt a (Nat.lt_of_lt_of_le h s.le)).trans (s.al a h),fun a h1 h2=>?_,s.kp,fun p h=>⟨h,(s.hk p h).2⟩,fun p h=>.inl h⟩,⟨fun a c e2=>?_,fun a b h1 h2 e2=>?_,fun q h=>?_⟩⟩
 ·by_cases hl:a < S'.M.length
  ·rw [lt a hl];exact s.fr a h1 hl
  ·have h3:a < (S'.M ++ [Cell.lst xs]).length:=h2
   have:a = S'.M.length:=by simp at h3;omega
   show S.H (if a = S'.M.length then p else S'.α a) = none
   rw [if_pos this];exact hn
 ·have e':(S'.M ++ [Cell.lst xs])[a]? = some c:=e2
  by_cases ha:a < S'.M.length
  ·rw [getElem?_append_left ha] at e'
   rw [lt a ha]
   exact (s.mok.cell a c e').track hp sub
  ·rw [getElem?_append_right (Nat.le_of_not_lt ha)] at e'
   have h3:a - S'.M.length = 0:=by
    cases q:a - S'.M.length with
    | zero=>rfl
    | succ k=>rw [q] at e';simp at e'
   rw [h3] at e'
   cases e'
   show CellOk K _ (if a = S'.M.length then p else S'.α a) _
   rw [if_pos (by omega)]
   exact ⟨vs,e,r.track hp sub⟩
 ·have h1':a < (S'.M ++ [Cell.lst xs]).length:=h1
  have h2':b < (S'.M ++ [Cell.lst xs]).length:=h2
  have e':(if a = S'.M.length then p else S'.α a) = (if b = S'.M.length then p else S'.α b):=e2
  simp at h1' h2'
  by_cases ha:a = S'.M.length
  ·by_cases hb:b = S'.M.length
   ·omega
   ·rw [if_pos ha,if_neg hb] at e'
    exact absurd e'.symm ((s.mok.hd p hp).1 b (by omega))
  ·by_cases hb:b = S'.M.length
   ·rw [if_neg ha,if_pos hb] at e'
    exact absurd e' ((s.mok.hd p hp).1 a (by omega))
   ·rw [if_neg ha,if_neg hb] at e'
    exact s.mok.inj a b (by omega) (by omega) e'
 ·obtain ⟨h1,us,q1⟩:=s.mok.hd q (sub q h)
  refine ⟨fun a ha z=>?_,us,q1⟩
  have z':(if a = S'.M.length then p else S'.α a) = q:=z
  have h3:a < (S'.M ++ [Cell.lst xs]).length:=ha
  by_cases hl:a = S'.M.length
  ·rw [if_pos hl] at z'
   obtain ⟨_,us2,q2⟩:=m.hd q h
   rw [← z',hn] at q2
   cases q2
  ·rw [if_neg hl] at z'
   exact h1 a (by simp at h3;omega) z'
noncomputable def Sit.hide (S:Sit) (p:Addr) (vs:List V):Sit:=⟨S.α,S.M,upd S.H p (.lst vs),p :: S.hid⟩
theorem Stp.hide (m:MemOk K S) {p:Addr} (hp:S.H p = none) (vs:List V):Stp K S (S.hide p vs):=by
 have g:Grow S (S.hide p vs):=⟨Nat.le_refl _,fun _ _=>rfl,fun a h1 h2=>absurd (Nat.lt_of_lt_of_le h2 h1) (Nat.lt_irrefl _),fun b u e _=>by show upd S.H p _ b = _;rw [yk (qD e hp)];exact e,fun q h=>⟨.tail _ h,by obtain ⟨_,vs,e⟩:=m.hd q h;exact yk (qD e hp)⟩,fun q h=>by
  cases h with
  | head=>exact .inr hp
  | tail _ h=>exact .inl h⟩
 refine ⟨g,⟨fun a c e=>?_,m.inj,fun q h=>?_⟩⟩
 ·have ha:a < S.M.length:=(List.getElem?_eq_some_iff.mp e).1
  exact (m.cell a c e).grow m g (yk ((m.off_none hp).1 a ha))
 ·cases h with
  | head=>exact ⟨(m.off_none hp).1,vs,qA⟩
  | tail _ h=>
   obtain ⟨h1,us,e⟩:=m.hd q h
   exact ⟨h1,us,(yk (qD e hp)).trans e⟩
end
section
variable {X:Cx} {XE:XK} {a b c e:Expr} {es:List Expr} {f g h:Ev->Mem->Out T} {pos:Pos} {ga:Ev->Mem->Out (List T)}
theorem zpi {i:Nat} (h:PE X e (zjG i)):GE X XE e (yb i):=PE.imp h fun σ H Q h9=>by
 obtain ⟨S,στ,_,e,m,ev,_,fin⟩:=h9
 replace fin:Fin XE (Rep X.K) X.K S (yb i στ S.M) Q:=fin
 unfold yb at fin
 cases q:στ[i]? with
 | none=>rw [q] at fin;exact fin.elim
 | some o=>
  cases o with
  | none=>rw [q] at fin;exact fin.elim
  | some t=>
   rw [q] at fin
   obtain ⟨v,e2,r⟩:=ev.2 i t q
   exact ⟨v,e2,by rw [← e];exact fin S v rfl (.refl m) r⟩
theorem zbX {t:T} {v:V} (h:PE X e (tC v)) (r:∀ S,Rep X.K S t v):GE X XE e (eC t):=PE.imp h fun σ H Q h9=>by
 obtain ⟨S,στ,_,e,m,ev,_,fin⟩:=h9
 show Q v H
 rw [← e];exact fin S v rfl (.refl m) (r S)
theorem ge_int {i j}:GE X XE (.Constant (.int i) j pos) (eC (.int i)):=zbX zkD fun _=>.int _
theorem zqt {i j}:GE X XE (.Constant (.bool i) j pos) (eC (.bl i)):=zbX zp6 fun _=>.bl _
theorem zpm {j}:GE X XE (.Constant .none j pos) (eC .non):=zbX zop fun _=>.non
theorem ge_str {i j}:GE X XE (.Constant (.str i) j pos) (eC (.str i)):=zbX zom fun _=>.str _
theorem znJ {x:Str} {n:String} (hg:Gl X x) (hm:X.mg x = none) (hv:bootBuiltins x = some (.type n)) (hn:x ≠ "__name__":=by decide) (hd:(x == ("__debug__":Str)) = false:=by decide):GE X XE (.Name x pos) (eC (.ty n)):=zbX (zmX (v:=.ty n) hg hm hv rfl hn hd) fun _=>.ty _
theorem zhw {o:T->T->Mem->Out T} {K:Frag} {σ:L2.St} {H:Hp} {Q:VK} (h:lE XE K (eOp o f g) σ H Q):lE XE K f σ H fun x H1=>lE XE K g σ H1 fun y H2=>lR2 XE K o x y H2 Q:=
 LN.mono (LN.bind (f:=fun _ σ M=>f σ M) (k:=fun _ x σ M1=>(g σ M1).bind fun y M2=>o x y M2) (RB:=Rep K) h) fun v H1 h1=>
  LN.mono (LN.env (f:=g) (LN.bind (f:=fun _ σ M=>g σ M) (k:=fun (ax:Unit × T) y σ M2=>o ax.2 y M2) (RB:=Rep K) h1)) fun w H2 h2=>by
   obtain ⟨S,στ,a,e,m,ev,ra,fin⟩:=h2
   exact ⟨S,(a.1.2,a.2),e,m,⟨ra.1.2,ra.2⟩,fin⟩
theorem zqq {op:Operator} {o:T->T->Mem->Out T} (ho:OpR X (binaryOp op) (lR2 XE X.K o)) (ha:GE X XE a f) (hb:GE X XE b g):GE X XE (.BinOp a op b pos) (eOp o f g):=PE.imp (zp4 ho ha hb) fun _ _ _ h=>zhw h
theorem zpp {op:CmpOp} {o:T->T->Mem->Out T} (ho:OpR X (compareOp op) (lR2 XE X.K o)) (ha:GE X XE a f) (hb:GE X XE b g) (hm:behindInMarks op b = false):GE X XE (.Compare a [op] [b] pos) (eOp o f g):=PE.imp (zmV ho ha hb hm) fun _ _ _ h=>zhw h
theorem zqr {o:T->T->Mem->Out T} (ho:IxR X (lR2 XE X.K o)) (ha:GE X XE a f) (hb:GE X XE b g) (hs:zgL b):GE X XE (.Subscript a b pos) (eOp o f g):=PE.imp (zp5 ho ha hb hs) fun _ _ _ h=>zhw h
theorem zhv {K:Frag} {β γ:Type} {R:Sit->β->γ->Prop} {S:Sit} {t:T} {v:V} {M:Mem} {k:Bool->Mem->Out β} {Q:γ->Hp->Prop} (r:Rep K S t v) (h:Fin XE R K S (blT t M k) Q):∃ b,v = .bl b/\t = .bl b/\Fin XE R K S (k b M) Q:=by
 cases r with
 | bl b=>exact ⟨b,rfl,rfl,h⟩
 | _=>exact h.elim
theorem zo4 (ha:GE X XE e f) (he:∀ whole,isTrue e X.env whole = (do let v ← whole;standAt e.pos;holding [v] (truthy v)):=by intro _;rfl):GT X XE e (zu f):=PT.imp (zoa ha he) fun σ H Q h=>
 LN.mono (LN.bind (f:=fun _ σ M=>f σ M) (k:=fun _ x σ M1=>blT x M1 fun b M2=>.ok b M2) (RB:=Rep X.K) h) fun v H1 h2=>by
  obtain ⟨S,στ,a,e,m,ev,ra,fin⟩:=h2
  obtain ⟨b,e1,_,fin⟩:=zhv ra.2 fin
  exact ⟨b,e1,by rw [← e];exact fin S b rfl (.refl m) rfl⟩
theorem zo6 {op:CmpOp} {o:T->T->Mem->Out T} (ho:OpR X (compareOp op) (lR2 XE X.K o)) (ha:GE X XE a f) (hb:GE X XE b g) (hm:behindInMarks op b = false):GT X XE (.Compare a [op] [b] pos) (zu (eOp o f g)):=PT.imp (zmM ho ha hb hm) fun σ H Q h=>by
 have h1:=LN.bind (f:=fun _ σ M=>eOp o f g σ M) (k:=fun _ x σ M1=>blT x M1 fun b M2=>.ok b M2) (RB:=Rep X.K) h
 refine zhw (LN.mono h1 fun v H1 h2=>?_)
 obtain ⟨S,στ,a,e,m,ev,ra,fin⟩:=h2
 obtain ⟨b,e1,_,fin⟩:=zhv ra.2 fin
 exact ⟨b,e1,by rw [← e];exact fin S b rfl (.refl m) rfl⟩
theorem tif {tf tg:Ev->Mem->Out Bool} {K:Frag} {σ:L2.St} {H:Hp} {Q:Bool->Hp->Prop} {p:Bool->Ev->Mem->Out Bool} (h:LN XE EqR K UnR (fun _ σ M=>(tf σ M).bind fun c M1=>p c σ M1) () σ H Q):lT XE K tf σ H fun c H1=>lT XE K (fun σ M=>p c σ M) σ H1 Q:=
 LN.mono (LN.bind (f:=fun _ σ M=>tf σ M) (k:=fun _ c σ M1=>p c σ M1) (RB:=EqR) h) fun c H1 h2=>by
  obtain ⟨S,στ,a,e,m,ev,ra,fin⟩:=h2
  have:a.2 = c:=ra.2
  subst this
  exact ⟨S,στ,(),e,m,ev,trivial,fin⟩
theorem zhn {K:Frag} {σ:L2.St} {H:Hp} {Q:Bool->Hp->Prop} {d:Bool} (h:lT XE K (fun _ M=>.ok d M) σ H Q):Q d H:=by
 obtain ⟨S,στ,a,e,m,ev,ra,fin⟩:=h
 rw [← e];exact fin S d rfl (.refl m) rfl
theorem zj1 {K:Frag} {σ:L2.St} {H:Hp} {Q:VK} {d:T} {v:V} (h:lE XE K (fun _ M=>.ok d M) σ H Q) (r:∀ S,Rep K S d v):Q v H:=by
 obtain ⟨S,στ,a,e,m,ev,ra,fin⟩:=h
 rw [← e];exact fin S v rfl (.refl m) (r S)
variable {tf tg:Ev->Mem->Out Bool} {rest:List Expr}
theorem zns (ha:GT X XE a tf):GW X XE (.BoolOp .And [a] pos) tf:=zmH ha
theorem zo2 (ha:GT X XE a tf):GW X XE (.BoolOp .Or [a] pos) tf:=zn8 ha
theorem zo3 (ha:GT X XE a tf) (hb:GW X XE (.BoolOp .And (b :: rest) pos) tg):GW X XE (.BoolOp .And (a :: b :: rest) pos) (zcv tf tg):=PW.imp (zn9 ha hb) fun σ H Q h=>
 LN.mono (tif (tf:=tf) (tg:=tg) (p:=fun c σ M1=>if c = true then tg σ M1 else .ok false M1) h) fun c H1 h1=>by
  cases c with
  | true=>exact (if_pos rfl).mpr h1
  | false=>exact (if_neg Bool.false_ne_true).mpr (zhn h1)
theorem zqk (ha:GT X XE a tf) (hb:GW X XE (.BoolOp .Or (b :: rest) pos) tg):GW X XE (.BoolOp .Or (a :: b :: rest) pos) (zba tf tg):=PW.imp (zp1 ha hb) fun σ H Q h=>
 LN.mono (tif (tf:=tf) (tg:=tg) (p:=fun c σ M1=>if c = true then .ok true M1 else tg σ M1) h) fun c H1 h1=>by
  cases c with
  | true=>exact (if_pos rfl).mpr (zhn h1)
  | false=>exact (if_neg Bool.false_ne_true).mpr h1
theorem GW.gt (h:GW X XE e tf):GT X XE e tf:=PW.pt h
theorem zo5 (ha:GT X XE a tf):GT X XE (.UnaryOp .Not a pos) (zc5 tf):=PT.imp (zob ha) fun σ H Q h=>
 LN.mono (tif (tf:=tf) (tg:=tf) (p:=fun c σ M1=>.ok (!c) M1) h) fun c H1 h1=>zhn h1
theorem zpk {op} (h:GE X XE a f):GE X XE (.BoolOp op [a] pos) f:=zon h
theorem eif {K:Frag} {σ:L2.St} {H:Hp} {Q:VK} {p:Bool->Ev->Mem->Out T} (h:LN XE (Rep K) K UnR (fun _ σ M=>(f σ M).bind fun x M1=>blT x M1 fun b M2=>p b σ M2) () σ H Q):lE XE K f σ H fun x H1=>∃ c,x = .bl c/\lE XE K (fun σ M=>p c σ M) σ H1 Q:=
 LN.mono (LN.bind (f:=fun _ σ M=>f σ M) (k:=fun _ x σ M1=>blT x M1 fun b M2=>p b σ M2) (RB:=Rep K) h) fun c H1 h2=>by
  obtain ⟨S,στ,a,e,m,ev,ra,fin⟩:=h2
  obtain ⟨b,e1,e2,fin⟩:=zhv ra.2 fin
  exact ⟨b,e1,S,στ,(),e,m,ev,trivial,fin⟩
theorem zpr (ha:GE X XE a f) (hb:GE X XE (.BoolOp .And (b :: rest) pos) g):GE X XE (.BoolOp .And (a :: b :: rest) pos) (zih f g):=PE.imp (zot ha hb) fun σ H Q h=>
 LN.mono (eif (f:=f) (p:=fun b σ M2=>if b = true then g σ M2 else .ok (.bl false) M2) h) fun x H1 ⟨c,e,h1⟩=>⟨c,e,by
  cases c with
  | true=>exact (if_pos rfl).mpr h1
  | false=>exact (if_neg Bool.false_ne_true).mpr (zj1 h1 fun _=>.bl _)⟩
theorem zqp (ha:GE X XE a f) (hb:GE X XE (.BoolOp .Or (b :: rest) pos) g):GE X XE (.BoolOp .Or (a :: b :: rest) pos) (eOr f g):=PE.imp (zp3 ha hb) fun σ H Q h=>
 LN.mono (eif (f:=f) (p:=fun b σ M2=>if b = true then .ok (.bl true) M2 else g σ M2) h) fun x H1 ⟨c,e,h1⟩=>⟨c,e,by
  cases c with
  | true=>exact (if_pos rfl).mpr (zj1 h1 fun _=>.bl _)
  | false=>exact (if_neg Bool.false_ne_true).mpr h1⟩
theorem zpl (ha:GE X XE a f):GE X XE (.UnaryOp .Not a pos) (zj8 f):=PE.imp (zoo ha) fun σ H Q h=>
 LN.mono (eif (f:=f) (p:=fun b σ M2=>.ok (.bl (!b)) M2) h) fun x H1 ⟨c,e,h1⟩=>⟨c,e,zj1 h1 fun _=>.bl _⟩
theorem ge_if (hc:GT X XE c tf) (ha:GE X XE a f) (hb:GE X XE b g):GE X XE (.IfExp c a b pos) (eIf tf f g):=PE.imp (zlC hc ha hb) fun σ H Q h=>
 LN.mono (LN.bind (f:=fun _ σ M=>tf σ M) (k:=fun _ c σ M1=>if c = true then f σ M1 else g σ M1) (RB:=EqR) h) fun c H1 h2=>by
  obtain ⟨S,στ,a,e,m,ev,ra,fin⟩:=h2
  have:a.2 = c:=ra.2
  subst this
  replace fin:Fin XE (Rep X.K) X.K S (if a.2 = true then f στ S.M else g στ S.M) Q:=fin
  cases q:a.2 with
  | true=>exact (if_pos rfl).mpr ⟨S,στ,(),e,m,ev,trivial,by rw [q] at fin;exact fin⟩
  | false=>exact (if_neg Bool.false_ne_true).mpr ⟨S,στ,(),e,m,ev,trivial,by rw [q] at fin;exact fin⟩
theorem zps:GA X XE [] zd:=PA.imp zou fun σ H Q h9=>by
 obtain ⟨S,στ,_,e,m,ev,_,fin⟩:=h9
 show Q [] H
 rw [← e];exact fin S [] rfl (.refl m) .nil
theorem znK (ha:GE X XE e f) (hr:GA X XE es ga) (hs:noStar e = true:=by rfl):GA X XE (e :: es) (zb f ga):=PA.imp (zmY ha hr (zaj hs)) fun σ H Q h=>
 LN.mono (LN.bind (f:=fun _ σ M=>f σ M) (k:=fun _ x σ M1=>(ga σ M1).bind fun xs M2=>.ok (x :: xs) M2) (RB:=Rep X.K) h) fun v H1 h1=>
  LN.mono (LN.env (f:=ga) (LN.bind (f:=fun _ σ M=>ga σ M) (k:=fun (ax:Unit × T) ys σ M2=>.ok (ax.2 :: ys) M2) (RB:=Reps X.K) h1)) fun w H2 h2=>by
   obtain ⟨S,στ,a,e,m,ev,ra,fin⟩:=h2
   show Q (v :: w) H2
   rw [← e]
   exact fin S _ rfl (.refl m) (Reps.cons ra.1.2 ra.2)
theorem zpj {x1} (h:GA X XE es ga):GE X XE (.Tuple es x1 pos) (zK ga):=PE.imp (zol h) fun σ H Q h=>
 LN.mono (LN.bind (f:=fun _ σ M=>ga σ M) (k:=fun _ xs σ M1=>if xs.length<=sizeLine then .ok (T.tup xs) M1 else .bad) (RB:=Reps X.K) h) fun v H1 h2=>by
  obtain ⟨S,στ,a,e,m,ev,ra,fin⟩:=h2
  by_cases hl:a.2.length<=sizeLine
  ·replace fin:Fin XE (Rep X.K) X.K S (if a.2.length<=sizeLine then .ok (.tup a.2) S.M else .bad) Q:=fin
   rw [if_pos hl] at fin
   refine ⟨by rw [← ra.2.1];exact hl,fun p hp=>?_⟩
   subst e
   have s:=Stp.new m hp (.tup v)
   exact fin ⟨S.α,S.M,upd S.H p (.tup v),S.hid⟩ (.ref p) rfl s (.tup (.inl (.inl qA)) ra.2.1 (ra.2.grow m s.toGrow).2)
  ·replace fin:Fin XE (Rep X.K) X.K S (if a.2.length<=sizeLine then .ok (.tup a.2) S.M else .bad) Q:=fin
   rw [if_neg hl] at fin
   exact fin.elim
theorem znB (h:GA X XE es ga):GL X XE (.List es pos) (qx ga):=PE.imp (zoq h) fun σ H Q h9=>by
 obtain ⟨S,στ,e,m,ev,fin⟩:=h9
 replace fin:FinL XE X.K S ((ga στ S.M).bind fun xs M1=>if xs.length<=sizeLine then .ok xs M1 else .bad) Q:=fin
 refine ⟨S,στ,(),e,m,ev,trivial,?_⟩
 show Fin XE (Reps X.K) X.K S (ga στ S.M) _
 cases q:ga στ S.M with
 | bad=>rw [q] at fin;exact fin
 | exn C fs M'=>rw [q] at fin;exact fin
 | ok xs M1=>
  rw [q] at fin
  intro S1 vs e1 s1 r1
  by_cases hl:xs.length<=sizeLine
  ·replace fin:FinL XE X.K S (if xs.length<=sizeLine then .ok xs M1 else .bad) Q:=fin
   rw [if_pos hl] at fin
   refine ⟨by rw [← r1.1];exact hl,fun p hp=>?_⟩
   have s2:=Stp.hide s1.mok hp vs
   exact (fin.later s1) (S1.hide p vs) p vs e1 s2 hp (.head _) qA (r1.grow s1.mok s2.toGrow)
  ·replace fin:FinL XE X.K S (if xs.length<=sizeLine then .ok xs M1 else .bad) Q:=fin
   rw [if_neg hl] at fin
   exact fin.elim
theorem zqs (h:GL X XE e ga):GE X XE e (eFz ga):=PE.imp h fun σ H Q ⟨S,στ,_,e,m,ev,_,fin⟩=>⟨S,στ,e,m,ev,by
 show FinL XE X.K S (ga στ S.M) Q
 replace fin:Fin XE (Rep X.K) X.K S ((ga στ S.M).bind fun xs M1=>.ok (.lst xs) M1) Q:=fin
 cases q:ga στ S.M with
 | bad=>rw [q] at fin;exact fin
 | exn C fs M'=>rw [q] at fin;exact fin
 | ok xs M1=>
  rw [q] at fin
  intro S1 p vs e1 s1 hn hp hv r
  exact fin (S1.show S.hid) (.ref p) e1 s1.show (zgw s1 hn m hp hv r)⟩
theorem zqn (h:GL X XE e ga):GE X XE e (eTk ga):=PE.imp h fun σ H Q ⟨S,στ,_,e,m,ev,_,fin⟩=>⟨S,στ,e,m,ev,by
 show FinL XE X.K S (ga στ S.M) Q
 replace fin:Fin XE (Rep X.K) X.K S ((ga στ S.M).bind fun xs M1=>.ok (.ref M1.length) (M1 ++ [.lst xs])) Q:=fin
 cases q:ga στ S.M with
 | bad=>rw [q] at fin;exact fin
 | exn C fs M'=>rw [q] at fin;exact fin
 | ok xs M1=>
  rw [q] at fin
  intro S1 p vs e1 s1 hn hp hv r
  refine fin (S1.track p xs S.hid) (.ref p) (by show S1.M ++ _ = _;rw [e1]) (s1.track m hn hp hv r) ?_
  have this:(S1.track p xs S.hid).α S1.M.length = p:=if_pos rfl
  rw [← e1]
  have hl:S1.M.length < (S1.track p xs S.hid).M.length:=by show _ < (S1.M ++ [Cell.lst xs]).length;simp
  have r2:Rep X.K (S1.track p xs S.hid) (.ref S1.M.length) (.ref ((S1.track p xs S.hid).α S1.M.length)):=.ref hl
  rw [this] at r2
  exact r2⟩
theorem chain {o o':T->T->Mem->Out T} {K:Frag} {σ:L2.St} {H:Hp} {Q:VK} (hh:lE XE K (zfY o o' f g h) σ H Q):zkp (lR2 XE K o) (lR2 XE K o') (lE XE K f) (lE XE K g) (lE XE K h) σ H Q:=
 LN.mono (LN.bind (f:=fun _ σ M=>f σ M) (k:=fun _ x σ M1=>(g σ M1).bind fun y M2=>(o x y M2).bind fun z M3=>blT z M3 fun b M4=>if b = true then (h σ M4).bind fun w M5=>o' y w M5 else .ok (.bl false) M4) (RB:=Rep K) hh) fun x H1 h1=>
  LN.mono (LN.env (f:=g) (LN.bind (f:=fun _ σ M=>g σ M) (k:=fun (ax:Unit × T) y σ M2=>(o ax.2 y M2).bind fun z M3=>blT z M3 fun b M4=>if b = true then (h σ M4).bind fun w M5=>o' y w M5 else .ok (.bl false) M4) (RB:=Rep K) h1)) fun y H2 h2=>by
   have h3:=LN.bind (f:=fun (a:(Unit × T) × T) _ M=>o a.1.2 a.2 M) (k:=fun a z σ M3=>blT z M3 fun b M4=>if b = true then (h σ M4).bind fun w M5=>o' a.2 w M5 else .ok (.bl false) M4) (RB:=Rep K) h2
   obtain ⟨S,a,e,m,ra,fin⟩:=LN.l0 (k:=fun (a:(Unit × T) × T) M=>o a.1.2 a.2 M) h3
   refine ⟨S,(a.1.2,a.2),e,m,⟨ra.1.2,ra.2⟩,fin.mono fun z H3 h4=>?_⟩
   obtain ⟨S3,στ,a3,e3,m3,ev3,ra3,fin3⟩:=h4
   obtain ⟨b,e1,_,fin3⟩:=zhv ra3.2 fin3
   refine ⟨b,e1,?_⟩
   cases b with
   | false=>exact (if_neg Bool.false_ne_true).mpr (by rw [← e3];exact fin3 S3 _ rfl (.refl m3) (.bl _))
   | true=>
    refine (if_pos rfl).mpr ?_
    have h5:LN XE (Rep K) K (Rep K) (fun y σ M4=>(h σ M4).bind fun w M5=>o' y w M5) y σ H3 Q:=⟨S3,στ,a3.1.2,e3,m3,ev3,ra3.1.2,fin3⟩
    refine LN.mono (LN.env (f:=h) (LN.bind (f:=fun _ σ M=>h σ M) (k:=fun y w σ M5=>o' y w M5) (RB:=Rep K) h5)) fun w H4 h6=>?_
    exact LN.l0 (k:=fun (a:T × T) M=>o' a.1 a.2 M) h6
theorem zl4 {op op':CmpOp} {o o':T->T->Mem->Out T} (ho:OpR X (compareOp op) (lR2 XE X.K o)) (ho':OpR X (compareOp op') (lR2 XE X.K o')) (ha:GE X XE a f) (hb:GE X XE b g) (hc:GE X XE c h)
  (hm:lastMarks [op,op'] [b,c] = false:=by with_unfolding_all rfl):GE X XE (.Compare a [op,op'] [b,c] pos) (zfY o o' f g h):=PE.imp (zlE ho ho' ha hb hc hm) fun _ _ _ hh=>chain hh
end
inductive Fl where
 | nx (σ:Ev) | rt (t:T) | bk (σ:Ev) | ct (σ:Ev)
inductive FlV where
 | nx (σ:L2.St) | rt (v:V) | bk (σ:L2.St) | ct (σ:L2.St)
inductive FlR (K:Frag) (S:Sit):Fl->FlV->Prop where
 | nx {a b}:EvR K S a b->FlR K S (.nx a) (.nx b)
 | rt {a b}:Rep K S a b->FlR K S (.rt a) (.rt b)
 | bk {a b}:EvR K S a b->FlR K S (.bk a) (.bk b)
 | ct {a b}:EvR K S a b->FlR K S (.ct a) (.ct b)
noncomputable def z3 (D:Ends):FlV->Hp->Prop
 | .nx σ,H=>D.nx σ H
 | .rt v,H=>D.rt v H
 | .bk σ,H=>D.bk σ H
 | .ct σ,H=>D.ct σ H
noncomputable def lS (XE:XK) (K:Frag) (g:Ev->Mem->Out Fl):TS:=fun D σ H=>LN XE (FlR K) K UnR (fun _ σ M=>g σ M) () σ H (z3 D)
def GS (X:Cx) (XE:XK) (st:Stmt) (g:Ev->Mem->Out Fl):Prop:=PS X st (lS XE X.K g)
def GSs (X:Cx) (XE:XK) (st:List Stmt) (g:Ev->Mem->Out Fl):Prop:=PSs X st (lS XE X.K g)
theorem EvR.set {K:Frag} {S:Sit} {στ:Ev} {σ:L2.St} (r:EvR K S στ σ) {t:T} {v:V} (q:Rep K S t v) (i:Nat):EvR K S (στ.set i (some t)) (σ.set i (some v)):=by
 refine ⟨by simp [r.1],fun j u e=>?_⟩
 rw [getElem?_set] at e ⊢
 by_cases h:i = j
 ·subst h
  by_cases hl:i < στ.length
  ·rw [if_pos rfl,if_pos hl] at e
   cases e
   exact ⟨v,by rw [if_pos rfl,if_pos (by rw [← r.1];exact hl)],q⟩
  ·rw [if_pos rfl,if_neg hl] at e;cases e
 ·rw [if_neg h] at e
  obtain ⟨w,e2,q2⟩:=r.2 j u e
  exact ⟨w,by rw [if_neg h];exact e2,q2⟩
noncomputable def yO:Ev->Mem->Out Fl:=fun σ M=>.ok (.nx σ) M
noncomputable def zru:Ev->Mem->Out Fl:=fun σ M=>.ok (.bk σ) M
noncomputable def zrI:Ev->Mem->Out Fl:=fun σ M=>.ok (.ct σ) M
noncomputable def zb4 (k:Ev->Mem->Out Fl) (fl:Fl) (M:Mem):Out Fl:=match fl with
 | .nx σ=>k σ M
 | .rt t=>.ok (.rt t) M
 | .bk σ=>.ok (.bk σ) M
 | .ct σ=>.ok (.ct σ) M
noncomputable def yg (g h:Ev->Mem->Out Fl):Ev->Mem->Out Fl:=fun σ M=>(g σ M).bind (zb4 h)
noncomputable def qB (f:Ev->Mem->Out T):Ev->Mem->Out Fl:=fun σ M=>(f σ M).bind fun t M1=>.ok (.rt t) M1
noncomputable def zF (f:Ev->Mem->Out T):Ev->Mem->Out Fl:=fun σ M=>(f σ M).bind fun _ M1=>.ok (.nx σ) M1
noncomputable def sIf (c:Ev->Mem->Out Bool) (g h:Ev->Mem->Out Fl):Ev->Mem->Out Fl:=fun σ M=>(c σ M).bind fun b M1=>if b = true then g σ M1 else h σ M1
noncomputable def zm (i:Nat) (f:Ev->Mem->Out T):Ev->Mem->Out Fl:=fun σ M=>(f σ M).bind fun t M1=>.ok (.nx (σ.set i (some t))) M1
noncomputable def lG (XE:XK) (K:Frag) (bd:T->Ev->Mem->Out Ev):TG:=fun v σ H Q=>LN XE (EvR K) K (Rep K) bd v σ H Q
noncomputable def lGs (XE:XK) (K:Frag) (bd:List T->Ev->Mem->Out Ev):TGs:=fun v σ H Q=>LN XE (EvR K) K (Reps K) bd v σ H Q
def GG (X:Cx) (XE:XK) (tg:Expr) (bd:T->Ev->Mem->Out Ev):Prop:=PG X tg (lG XE X.K bd)
def GGs (X:Cx) (XE:XK) (tg:List Expr) (bd:List T->Ev->Mem->Out Ev):Prop:=PGs X tg (lGs XE X.K bd)
noncomputable def zi (i:Nat):T->Ev->Mem->Out Ev:=fun t σ M=>.ok (σ.set i (some t)) M
noncomputable def zau:List T->Ev->Mem->Out Ev:=fun ts σ M=>match ts with
 | []=>.ok σ M
 | _=>.bad
noncomputable def qz (b:T->Ev->Mem->Out Ev) (bs:List T->Ev->Mem->Out Ev):List T->Ev->Mem->Out Ev:=fun ts σ M=>match ts with
 | t :: r=>(b t σ M).bind fun σ1 M1=>bs r σ1 M1
 | _=>.bad
noncomputable def zat (n:Nat) (bs:List T->Ev->Mem->Out Ev):T->Ev->Mem->Out Ev:=fun t σ M=>match t with
 | .tup xs=>if xs.length = n then bs xs σ M else .bad
 | _=>.bad
noncomputable def zeg (f:Ev->Mem->Out T) (b:T->Ev->Mem->Out Ev):Ev->Mem->Out Fl:=fun σ M=>(f σ M).bind fun t M1=>(b t σ M1).bind fun σ1 M2=>.ok (.nx σ1) M2
def zdt (K:Frag) (S:Sit) (items:List T) (J:It):Prop:=∀ S',Stp K S S'->
 (∀ (i:Nat) t,items[i]? = some t->J.go i S'.H/\∀ x H',J.yld i S'.H x H'->∃ S'',S''.H = H'/\S''.M = S'.M/\Stp K S' S''/\Rep K S'' t x)/\∀ i,items.length<=i->J.stop i S'.H
instance (K):Mo K (zdt K):=⟨fun _ s r=>fun S' s'=>r S' (s.trans s')⟩
noncomputable def lI (XE:XK) (K:Frag) (f:Ev->Mem->Out (List T)):TI:=fun σ H R=>LN XE (zdt K) K UnR (fun _ σ M=>f σ M) () σ H R
def GI (X:Cx) (XE:XK) (tg iter:Expr) (f:Ev->Mem->Out (List T)):Prop:=PI X tg iter (lI XE X.K f)
noncomputable def zac (k:Ev->Mem->Out Fl) (fl:Fl) (M:Mem):Out Fl:=match fl with
 | .nx σ=>k σ M
 | .ct σ=>k σ M
 | .bk σ=>.ok (.nx σ) M
 | .rt t=>.ok (.rt t) M
noncomputable def forL (bd:T->Ev->Mem->Out Ev) (body:Ev->Mem->Out Fl):List T->Ev->Mem->Out Fl
 | [],σ,M=>.ok (.nx σ) M
 | x :: xs,σ,M=>(bd x σ M).bind fun σ1 M1=>(body σ1 M1).bind (zac (forL bd body xs))
noncomputable def zby (it:Ev->Mem->Out (List T)) (bd:T->Ev->Mem->Out Ev) (body:Ev->Mem->Out Fl):Ev->Mem->Out Fl:=fun σ M=>(it σ M).bind fun xs M1=>forL bd body xs σ M1
noncomputable def whileN (c:Ev->Mem->Out Bool) (body:Ev->Mem->Out Fl):Nat->Ev->Mem->Out Fl
 | 0,_,_=>.bad
 | n + 1,σ,M=>(c σ M).bind fun b M1=>if b = true then (body σ M1).bind (zac (whileN c body n)) else .ok (.nx σ) M1
open Classical in
noncomputable def zhP (c:Ev->Mem->Out Bool) (body:Ev->Mem->Out Fl):Ev->Mem->Out Fl:=fun σ M=>if h:∃ n,whileN c body n σ M ≠ .bad then whileN c body h.choose σ M else .bad
theorem zdg {c:Ev->Mem->Out Bool} {body:Ev->Mem->Out Fl}:∀ {n:Nat} {σ:Ev} {M:Mem} {r:Out Fl},whileN c body n σ M = r->r ≠ .bad->whileN c body (n + 1) σ M = r
 | 0,_,_,_,e,h=>absurd e.symm h
 | n + 1,σ,M,r,e,h=>by
  unfold whileN at e ⊢
  cases q:c σ M with
  | bad=>rw [q] at e;exact absurd e.symm h
  | exn C fs M'=>rw [q] at e;exact e
  | ok b M1=>
   rw [q] at e
   replace e:(if b = true then (body σ M1).bind (zac (whileN c body n)) else Out.ok (.nx σ) M1) = r:=e
   show (if b = true then (body σ M1).bind (zac (whileN c body (n + 1))) else Out.ok (.nx σ) M1) = r
   cases b with
   | false=>exact e
   | true=>
    rw [if_pos rfl] at e ⊢
    cases q2:body σ M1 with
    | bad=>rw [q2] at e;exact absurd e.symm h
    | exn C fs M'=>rw [q2] at e;exact e
    | ok fl M2=>
     rw [q2] at e
     cases fl with
     | nx σ2=>exact zdg (n:=n) e h
     | ct σ2=>exact zdg (n:=n) e h
     | bk σ2=>exact e
     | rt t=>exact e
theorem zgM {c:Ev->Mem->Out Bool} {body:Ev->Mem->Out Fl} {n k:Nat} {σ:Ev} {M:Mem} {r:Out Fl} (e:whileN c body n σ M = r) (h:r ≠ .bad):whileN c body (n + k) σ M = r:=by
 induction k with
 | zero=>exact e
 | succ k ih=>exact zdg ih h
theorem zku {c:Ev->Mem->Out Bool} {body:Ev->Mem->Out Fl} {σ:Ev} {M:Mem} {r:Out Fl} (n:Nat) (e:whileN c body n σ M = r) (h:r ≠ .bad):zhP c body σ M = r:=by
 have ex:∃ n,whileN c body n σ M ≠ .bad:=⟨n,by rw [e];exact h⟩
 unfold zhP
 rw [dif_pos ex]
 have h2:=ex.choose_spec
 have e1:=zgM (k:=ex.choose) e h
 have e2:=zgM (k:=n) rfl h2
 rw [Nat.add_comm] at e2
 rw [← e2,e1]
noncomputable def zgs (XE:XK) (K:Frag) (st:T->T->T->Mem->Out Unit):zgK:=fun o i v H Q=>L0 XE UnR K (PrR (PrR (Rep K) (Rep K)) (Rep K)) (fun a M=>st a.1.1 a.1.2 a.2 M) ((o,i),v) H (fun _ H'=>Q H')
noncomputable def ziu (st:T->T->T->Mem->Out Unit) (f g:Ev->Mem->Out T):T->Ev->Mem->Out Ev:=fun t σ M=>(f σ M).bind fun o M1=>(g σ M1).bind fun i M2=>(st o i t M2).bind fun _ M3=>.ok σ M3
noncomputable def zjR (i:Nat) (o:T->T->Mem->Out T) (f:Ev->Mem->Out T):Ev->Mem->Out Fl:=fun σ M=>(yb i σ M).bind fun x M0=>(f σ M0).bind fun y M1=>(o x y M1).bind fun z M2=>.ok (.nx (σ.set i (some z))) M2
noncomputable def zhm (get op:T->T->Mem->Out T) (st:T->T->T->Mem->Out Unit) (f g h:Ev->Mem->Out T):Ev->Mem->Out Fl:=fun σ M=>
 (f σ M).bind fun o M1=>(g σ M1).bind fun i M2=>(get o i M2).bind fun x M3=>(h σ M3).bind fun y M4=>(op x y M4).bind fun z M5=>(st o i z M5).bind fun _ M6=>.ok (.nx σ) M6
section
variable {X:Cx} {XE:XK} {a b c e iter tg:Expr} {es:List Expr} {f g h:Ev->Mem->Out T} {pos:Pos} {ga:Ev->Mem->Out (List T)} {st:Stmt} {sts rest:List Stmt} {p q r:Ev->Mem->Out Fl} {tf:Ev->Mem->Out Bool}
theorem znw:GSs X XE [] yO:=PSs.imp zmN fun D σ H h9=>by
 obtain ⟨S,στ,_,e,m,ev,_,fin⟩:=h9
 show D.nx σ H
 rw [← e];exact fin S (.nx σ) rfl (.refl m) (.nx ev)
theorem zoN {K:Frag} {D:Ends} {σ:L2.St} {H:Hp} (hh:lS XE K (yg p q) D σ H):lS XE K p { D with nx:=lS XE K q D } σ H:=by
 obtain ⟨S,στ,_,e,m,ev,_,fin⟩:=hh
 refine ⟨S,στ,(),e,m,ev,trivial,?_⟩
 show Fin XE (FlR K) K S (p στ S.M) _
 replace fin:Fin XE (FlR K) K S ((p στ S.M).bind (zb4 q)) (z3 D):=fin
 cases o:p στ S.M with
 | bad=>rw [o] at fin;exact fin
 | exn C fs M'=>rw [o] at fin;exact fin
 | ok fl M1=>
  rw [o] at fin
  intro S1 cc e1 s1 r1
  cases r1 with
  | nx r1=>exact ⟨S1,_,(),rfl,s1.mok,r1,trivial,by rw [e1];exact Fin.later s1 fin⟩
  | rt r1=>exact fin S1 _ e1 s1 (.rt r1)
  | bk r1=>exact fin S1 _ e1 s1 (.bk r1)
  | ct r1=>exact fin S1 _ e1 s1 (.ct r1)
theorem zlX (h1:GS X XE st p) (h2:GSs X XE rest q):GSs X XE (st :: rest) (yg p q):=PSs.imp (zly h1 h2) fun _ _ _ hh=>zoN hh
theorem znv (h1:GS X XE st p):GSs X XE [st] p:=zi4 h1
theorem zo8 (he:GE X XE e f):GS X XE (.Return (some e) pos) (qB f):=PS.imp (zoe he) fun D σ H hh=>
 LN.mono (LN.bind (f:=fun _ σ M=>f σ M) (k:=fun _ t σ M1=>.ok (Fl.rt t) M1) (RB:=Rep X.K) hh) fun v H1 h9=>by
  obtain ⟨S,στ,a,e,m,ev,ra,fin⟩:=h9
  rw [← e];exact fin S (.rt v) rfl (.refl m) (.rt ra.2)
theorem zpb (he:GE X XE e f) (hs:swapsWith e none pos.line X.env = pure false:=by rfl):GS X XE (.Expr e pos) (zF f):=PS.imp (zmO he hs) fun D σ H hh=>
 LN.mono (LN.bind (f:=fun _ σ M=>f σ M) (k:=fun _ t σ M1=>.ok (Fl.nx σ) M1) (RB:=Rep X.K) hh) fun v H1 h9=>by
  obtain ⟨S,στ,a,e,m,ev,ra,fin⟩:=h9
  show D.nx σ H1
  rw [← e];exact fin S (.nx σ) rfl (.refl m) (.nx ev)
theorem zql (hc:GT X XE c tf) (ha:GSs X XE sts p) (hb:GSs X XE rest q):GS X XE (.If c sts rest pos) (sIf tf p q):=PS.imp (zp2 hc ha hb) fun D σ H hh=>
 LN.mono (LN.bind (f:=fun _ σ M=>tf σ M) (k:=fun _ c σ M1=>if c = true then p σ M1 else q σ M1) (RB:=EqR) hh) fun c H1 h2=>by
  obtain ⟨S,στ,a,e,m,ev,ra,fin⟩:=h2
  have:a.2 = c:=ra.2
  subst this
  replace fin:Fin XE (FlR X.K) X.K S (if a.2 = true then p στ S.M else q στ S.M) (z3 D):=fin
  cases q:a.2 with
  | true=>exact (if_pos rfl).mpr ⟨S,στ,(),e,m,ev,trivial,by rw [q] at fin;exact fin⟩
  | false=>exact (if_neg Bool.false_ne_true).mpr ⟨S,στ,(),e,m,ev,trivial,by rw [q] at fin;exact fin⟩
theorem zo7 {i:Nat} {x:Str} {pos':Pos} (hN:X.N.Nodup) (hi:X.N[i]? = some x) (hx:Loc X.env.scope x) (he:GE X XE e f) (hs:swapsWith e (some (.Name x pos')) pos.line X.env = pure false:=by rfl) (hf:X.fn x = true\/X.env.scope.names.lookup x = some .local:=by first | exact .inl rfl | exact .inr rfl | assumption) :
  GS X XE (.Assign [.Name x pos'] e pos) (zm i f):=PS.imp (zod hN hi hx he hs hf) fun D σ H hh=>
 LN.mono (LN.bind (f:=fun _ σ M=>f σ M) (k:=fun _ t σ M1=>.ok (Fl.nx (σ.set i (some t))) M1) (RB:=Rep X.K) hh) fun v H1 h9=>by
  obtain ⟨S,στ,a,e,m,ev,ra,fin⟩:=h9
  show D.nx (σ.set i (some v)) H1
  rw [← e];exact fin S (.nx _) rfl (.refl m) (.nx (ev.set ra.2 i))
theorem PG.imp {t t':TG} (h:PG X tg t) (i:∀ v σ H Q,t' v σ H Q->t v σ H Q):PG X tg t':=fun pins s σ H v u Q I r q=>h pins s σ H v u Q I r (i v σ H Q q)
theorem PGs.imp {tgs:List Expr} {t t':TGs} (h:PGs X tgs t) (i:∀ v σ H Q,t' v σ H Q->t v σ H Q):PGs X tgs t':=fun pins s σ H v u Q I r q=>h pins s σ H v u Q I r (i v σ H Q q)
theorem znF {i:Nat} (h:PG X tg (zhq i)):GG X XE tg (zi i):=PG.imp h fun v σ H Q h9=>by
 obtain ⟨S,στ,t,e,m,ev,ra,fin⟩:=h9
 show Q (σ.set i (some v)) H
 rw [← e];exact fin S _ rfl (.refl m) (ev.set ra i)
theorem znE:GGs X XE [] zau:=PGs.imp zmS fun v σ H Q h9=>by
 obtain ⟨S,στ,t,e,m,ev,ra,fin⟩:=h9
 cases t with
 | nil=>exact ⟨ra.nilT,by rw [← e];exact fin S _ rfl (.refl m) ev⟩
 | cons t r=>exact fin.elim
theorem zl1 {bd:T->Ev->Mem->Out Ev} {bs:List T->Ev->Mem->Out Ev} (h:PGs X (e :: es) (zj6 (lG XE X.K bd) (lGs XE X.K bs))):GGs X XE (e :: es) (qz bd bs):=PGs.imp h fun v σ H Q h9=>by
 obtain ⟨S,στ,t,e,m,ev,ra,fin⟩:=h9
 cases t with
 | nil=>exact fin.elim
 | cons t r=>
  obtain ⟨v1,vs,rfl,r1,r2⟩:=ra.consT
  refine ⟨v1,vs,rfl,?_⟩
  replace fin:Fin XE (EvR X.K) X.K S ((bd t στ S.M).bind fun σ1 M1=>bs r σ1 M1) Q:=fin
  refine ⟨S,στ,t,e,m,ev,r1,?_⟩
  show Fin XE (EvR X.K) X.K S (bd t στ S.M) _
  cases o:bd t στ S.M with
  | bad=>rw [o] at fin;exact fin
  | exn C fs M'=>rw [o] at fin;exact fin
  | ok σ1 M1=>
   rw [o] at fin
   intro S1 cc e1 s1 ev1
   exact ⟨S1,σ1,r,rfl,s1.mok,ev1,r2.grow m s1.toGrow,by rw [e1];exact Fin.later s1 fin⟩
theorem zpg {n:Nat} {bs:List T->Ev->Mem->Out Ev} (h:PG X tg (zl6 X.K n (lGs XE X.K bs))):GG X XE tg (zat n bs):=PG.imp h fun v σ H Q h9=>by
 obtain ⟨S,στ,t,e,m,ev,ra,fin⟩:=h9
 cases ra with
 | @tup ts p vs h l r=>
  replace fin:Fin XE (EvR X.K) X.K S (if ts.length = n then bs ts στ S.M else .bad) Q:=fin
  by_cases hn:ts.length = n
  ·rw [if_pos hn] at fin
   exact ⟨p,vs,rfl,by rw [← e];exact h,by rw [← l];exact hn,S,στ,ts,e,m,ev,⟨l,r⟩,fin⟩
  ·rw [if_neg hn] at fin;exact fin.elim
 | _=>exact fin.elim
theorem zqe {K:Frag} {bd:T->Ev->Mem->Out Ev} {v:V} {σ:L2.St} {H:Hp} {D:Ends} (hh:LN XE (FlR K) K (Rep K) (fun t σ M=>(bd t σ M).bind fun σ1 M2=>.ok (Fl.nx σ1) M2) v σ H (z3 D)):lG XE K bd v σ H D.nx:=by
 obtain ⟨S,στ,t,e,m,ev,ra,fin⟩:=hh
 refine ⟨S,στ,t,e,m,ev,ra,?_⟩
 replace fin:Fin XE (FlR K) K S ((bd t στ S.M).bind fun σ1 M2=>.ok (Fl.nx σ1) M2) (z3 D):=fin
 cases o:bd t στ S.M with
 | bad=>rw [o] at fin;exact fin
 | exn C fs M'=>rw [o] at fin;exact fin
 | ok σ1 M1=>
  rw [o] at fin
  intro S1 cc e1 s1 ev1
  exact fin S1 (.nx cc) e1 s1 (.nx ev1)
theorem zpe {bd:T->Ev->Mem->Out Ev} (he:GE X XE e f) (hg:GG X XE tg bd) (hs:swapsWithSole [tg] e pos.line X.env = pure false:=by rfl) (hw:swappedStores [tg] e X.env = pure none:=by rfl)
  (h1:(assignEach [tg] X.env).map (·.2) = [assign tg X.env]:=by rfl):GS X XE (.Assign [tg] e pos) (zeg f bd):=PS.imp (zoi he hg hs hw h1) fun D σ H hh=>
 LN.mono (LN.bind (f:=fun _ σ M=>f σ M) (k:=fun _ t σ M1=>(bd t σ M1).bind fun σ1 M2=>.ok (Fl.nx σ1) M2) (RB:=Rep X.K) hh) fun v H1 ⟨S,στ,a,e,m,ev,ra,fin⟩=>
  zqe ⟨S,στ,a.2,e,m,ev,ra.2,fin⟩
theorem PI.imp {t t':TI} (h:PI X tg iter t) (i:∀ σ H R,t' σ H R->t σ H R):PI X tg iter t':=fun pins s σ H R I q=>h pins s σ H R I (i σ H R q)
theorem zo9 {bd:T->Ev->Mem->Out Ev} (hp:PassesOwn (model X.prog X.w) X.A X.env X.xe) (hc:X.calm = true) (hi:GI X XE tg iter ga) (hg:GG X XE tg bd) (hb:GSs X XE sts p)
  (hs:∀ x,foldedSetIterable iter X.env x = pure x:=by intro _;rfl):GS X XE (.For tg iter sts [] pos) (zby ga bd p):=PS.imp (zof hp hc hi hg hb hs) fun D σ H hh=>by
 refine LN.mono (LN.bind (f:=fun _ σ M=>ga σ M) (k:=fun _ xs σ M1=>forL bd p xs σ M1) (RB:=zdt X.K) hh) fun J H1 h1=>?_
 obtain ⟨S,στ,a,e,m,ev,ra,fin⟩:=h1
 refine ⟨fun i n σ H=>∃ S στ,S.H = H/\MemOk X.K S/\EvR X.K S στ σ/\zdt X.K S a.2 J/\n = a.2.length - i/\i<=a.2.length/\Fin XE (FlR X.K) X.K S (forL bd p (a.2.drop i) στ S.M) (z3 D),⟨_,S,στ,e,m,ev,ra.2,rfl,Nat.zero_le _,fin⟩,?_⟩
 rintro i n σ1 H2 ⟨S1,στ1,e1,m1,ev1,it1,en,hi1,fin1⟩
 subst e1
 obtain ⟨it2,it3⟩:=it1 S1 (.refl m1)
 by_cases hl:i < a.2.length
 ·have eq:a.2.drop i = a.2[i] :: a.2.drop (i + 1):=List.drop_eq_getElem_cons hl
  rw [eq] at fin1
  obtain ⟨go,yl⟩:=it2 i a.2[i] (by simp [hl])
  refine .inr ⟨go,fun σ' H'=>∃ S στ,S.H = H'/\MemOk X.K S/\EvR X.K S στ σ'/\zdt X.K S a.2 J/\Fin XE (FlR X.K) X.K S (forL bd p (a.2.drop (i + 1)) στ S.M) (z3 D),?_,fun x H' hy=>?_⟩
  ·rintro σ' H' ⟨S2,στ2,e2,m2,ev2,it4,fin2⟩
   exact ⟨a.2.length - (i + 1),by omega,S2,στ2,e2,m2,ev2,it4,rfl,hl,fin2⟩
  ·obtain ⟨S2,e2,eM,s2,r2⟩:=yl x H' hy
   replace fin1:Fin XE (FlR X.K) X.K S1 ((bd a.2[i] στ1 S1.M).bind fun σ1 M1=>(p σ1 M1).bind (zac (forL bd p (a.2.drop (i + 1))))) (z3 D):=fin1
   refine ⟨S2,στ1,a.2[i],e2,s2.mok,Mo.mo m1 s2 ev1,r2,?_⟩
   rw [eM]
   cases o:bd a.2[i] στ1 S1.M with
   | bad=>rw [o] at fin1;exact fin1
   | exn C fs M'=>rw [o] at fin1;exact Fin.later s2 fin1
   | ok σ3 M3=>
    rw [o] at fin1
    intro S3 σ3v e3 s3 ev3
    have s13:=s2.trans s3
    refine ⟨S3,σ3,(),rfl,s3.mok,ev3,trivial,?_⟩
    show Fin XE (FlR X.K) X.K S3 (p σ3 S3.M) _
    rw [e3]
    replace fin1:Fin XE (FlR X.K) X.K S1 ((p σ3 M3).bind (zac (forL bd p (a.2.drop (i + 1))))) (z3 D):=fin1
    cases o2:p σ3 M3 with
    | bad=>rw [o2] at fin1;exact fin1
    | exn C fs M'=>rw [o2] at fin1;exact Fin.later s13 fin1
    | ok fl M4=>
     rw [o2] at fin1
     intro S4 fv e4 s4 r4
     have s14:=s13.trans s4
     cases r4 with
     | nx r4=>exact ⟨S4,_,rfl,s4.mok,r4,Mo.mo m1 s14 it1,by rw [e4];exact Fin.later s14 fin1⟩
     | ct r4=>exact ⟨S4,_,rfl,s4.mok,r4,Mo.mo m1 s14 it1,by rw [e4];exact Fin.later s14 fin1⟩
     | bk r4=>exact fin1 S4 (.nx _) e4 s14 (.nx r4)
     | rt r4=>exact fin1 S4 (.rt _) e4 s14 (.rt r4)
 ·rw [List.drop_eq_nil_of_le (by omega)] at fin1
  refine .inl ⟨it3 i (by omega),?_⟩
  exact fin1 S1 (.nx σ1) rfl (.refl m1) (.nx ev1)
end
noncomputable def startT (n:Nat) (ts:List T):Ev:=ts.map some ++ List.replicate (n - ts.length) none
noncomputable def yh (p n:Nat) (g:Ev->Mem->Out Fl):List T->Mem->Out T:=fun ts M=>if ts.length = p then match g (startT n ts) M with
 | .ok (.rt t) M'=>.ok t M'
 | .ok (.nx _) M'=>.ok .non M'
 | _=>.bad else .bad
noncomputable def spT (K:Frag) (f:List T->Mem->Out T):Sp:=fun vs H Q E=>L0 E (Rep K) K (Reps K) f vs H Q
structure CalT (P:Program) (w:World) (K:Frag) (mg:Str->Option Value) (base:Heap) (k:Nat) (x:Str) (ps:List Str) (f:List T->Mem->Out T):Prop where
 cal:Cal P w K mg base k x ps (spT K f)
 nox:∀ ts M C fs M',f ts M ≠ .exn C fs M'
theorem zfJ (p n:Nat) (g:Ev->Mem->Out Fl):∀ ts M C fs M',yh p n g ts M ≠ .exn C fs M':=by
 intro ts M C fs M' z
 unfold yh at z
 split at z
 ·split at z <;> cases z
 ·cases z
theorem EvR.start {K:Frag} {S:Sit} {ts:List T} {vs:List V} (r:Reps K S ts vs) {N:List Str} {n:Nat} (hn:N.length = n):EvR K S (startT n ts) (L2.start N vs):=by
 subst hn
 refine ⟨by simp [startT,L2.start,r.1],fun i t e=>?_⟩
 unfold startT at e
 unfold L2.start
 by_cases hi:i < ts.length
 ·rw [getElem?_append_left (by simpa using hi)] at e
  rw [getElem?_append_left (by simpa [← r.1] using hi)]
  rw [getElem?_map] at e ⊢
  cases q:ts[i]? with
  | none=>rw [q] at e;cases e
  | some t'=>
   rw [q] at e
   have:t' = t:=Option.some.inj (Option.some.inj e)
   subst this
   obtain ⟨v,e2,r2⟩:=r.get q
   exact ⟨v,by rw [e2];rfl,r2⟩
 ·rw [getElem?_append_right (by simpa using hi)] at e
  rw [List.getElem?_replicate] at e
  split at e <;> cases e
section
variable {P:Program} {w:World} {K:Frag} {mg:Str->Option Value} {base:Heap}
theorem zfx {X:Cx} {st:List Stmt} {g:Ev->Mem->Out Fl} {p n:Nat} {N:List Str} (hn:N.length = n) {E:XK} {vs:List V} {H:Hp} {Q:VK} (hX:X.K = K) (h:spT K (yh p n g) vs H Q E) (hb:GSs X E0 st g) :
  ∃ t,PSs X st t/\t { nx:=fun _ H'=>Q .non H',rt:=Q } (start N vs) H:=by
 subst hX
 refine ⟨_,hb,?_⟩
 obtain ⟨S,ts,e,m,r,fin⟩:=h
 refine ⟨S,startT n ts,(),e,m,EvR.start r hn,trivial,?_⟩
 show Fin E0 (FlR X.K) X.K S (g (startT n ts) S.M) _
 unfold yh at fin
 by_cases hp:ts.length = p
 ·rw [if_pos hp] at fin
  cases o:g (startT n ts) S.M with
  | bad=>rw [o] at fin;exact fin
  | exn C fs M'=>rw [o] at fin;exact fin.elim
  | ok fl M1=>
   rw [o] at fin
   cases fl with
   | nx σ1=>
    intro S1 c e1 s1 r1
    cases r1 with
    | nx r1=>exact fin S1 .non e1 s1 .non
   | rt t=>
    intro S1 c e1 s1 r1
    cases r1 with
    | rt r1=>exact fin S1 _ e1 s1 r1
   | bk σ1=>exact fin.elim
   | ct σ1=>exact fin.elim
 ·rw [if_neg hp] at fin;exact fin.elim
theorem zhG {p n:Nat} {g:Ev->Mem->Out Fl} {ps:List Str} (hp:ps.length = p):∀ vs H Q E,spT K (yh p n g) vs H Q E->vs.length = ps.length:=by
 intro vs H Q E ⟨S,ts,e,m,r,fin⟩
 rw [← r.1,hp]
 unfold yh at fin
 by_cases h:ts.length = p
 ·exact h
 ·rw [if_neg h] at fin;exact fin.elim
theorem zlf {x:Str} {st:Stmt} {N ps:List Str} {k p n:Nat} {g:Ev->Mem->Out Fl} (D:Df K mg x st ps) (Sc:FnScope N ps (zf st)) (hp:ps.length = p) (hn:N.length = n)
  (hb:∀ (f:Addr) (cdv:Value) (A:Around) (outer:List PySem.Env) (s:Shared) (H:Hp) (E:XK),Room k (A.deeper (envOfC x (zf st) s.heap.objs.size f cdv))->GSs (zb1 CX0 P w K mg base N x (zf st) f cdv A outer s H E).nox E0 (yK st) g) :
  CalT P w K mg base (k + 1) x ps (yh p n g):=
 ⟨D.ok Sc (zhG hp) fun f cdv A outer s H vs Q E hr h=>zfx hn rfl h (hb f cdv A outer s H E hr),zfJ _ _ _⟩
theorem zoL {st:Stmt} {N ps:List Str} {x qual:Str} {f:Addr} {fd:FuncData} {k p n:Nat} {g:Ev->Mem->Out Fl} (F:Fun K x qual st f fd) (Sc:FnScope N ps (zf st)) (hp:ps.length = p) (hn:N.length = n)
  (hb:∀ (cdv:Value) (A:Around) (outer:List PySem.Env) (s:Shared) (H:Hp) (E:XK),Room k (A.deeper (envOfC qual (zf st) s.heap.objs.size f cdv))->GSs (zb1 CX0 P w K mg base N qual (zf st) f cdv A outer s H E).nox E0 (yK st) g) :
  FnOk P w K mg base CX0 (k + 1) f fd ps (spT K (yh p n g)):=
 F.ok Sc (zhG hp) fun cdv A outer s H vs Q E hr h=>zfx hn rfl h (hb cdv A outer s H E hr)
theorem znl {f:List T->Mem->Out T} {H:Hp} {a:Addr} {ns:List Int} {M':Mem} (hS:SqL K H a (ns.map V.int)) (h:f [.lst (ns.map .int)] [] = .ok (.bl true) M'):spT K f [.ref a] H (fun v _=>v = .bl true) fun _ _ _=>False:=by
 refine ⟨⟨fun _=>0,[],H,[]⟩,[.lst (ns.map .int)],rfl,⟨fun a c e=>by simp at e,fun a b h=>absurd h (Nat.not_lt_zero _),fun p h=>by simp at h⟩,.cons (.lst (vs:=ns.map V.int) ?_ (by simp) ?_) .nil,?_⟩
 ·rcases hS with h | h
  ·exact .inl ⟨h,fun a h=>absurd h (Nat.not_lt_zero _),fun z=>by simp at z⟩
  ·exact .inr h
 ·intro i t v e1 e2
  rw [getElem?_map] at e1 e2
  cases q:ns[i]? with
  | none=>rw [q] at e1;cases e1
  | some z=>rw [q] at e1 e2;cases e1;cases e2;exact .int z
 ·show Fin _ _ K _ (f [.lst (ns.map .int)] []) _
  rw [h]
  intro S' c e s r
  cases r
  rfl
end
section
variable {X:Cx} {XE:XK} {k:Nat} {ps:List Str} {x:Str} {p pos:Pos} {e:Expr} {es:List Expr} {ga:Ev->Mem->Out (List T)} {F:List T->Mem->Out T}
theorem zpq (C:CalT X.prog X.w X.K X.mg X.base k x ps F) (hr:Room k X.A) (hg:Gl X x) (ha:GA X XE (e :: es) ga) (hdb:(x == ("__debug__":Str)) = false:=by decide)
  (he:noStar e = true:=by rfl) (hpl:es.all noStar = true:=by rfl) :
  GE X XE (.Call (.Name x p) (e :: es) [] pos) (ze F ga):=PE.imp (zos C.cal hr hg ha hdb (zaj he) (zcM hpl)) fun σ H Q hh=>
 LN.mono (LN.bind (f:=fun _ σ M=>ga σ M) (k:=fun _ ts σ M1=>F ts M1) (RB:=Reps X.K) hh) fun vs H1 h9=>by
  obtain ⟨S,στ,a,e,m,ev,ra,fin⟩:=h9
  rw [append_nil]
  refine ⟨S,a.2,e,m,ra.2,?_⟩
  show Fin E0 (Rep X.K) X.K S (F a.2 S.M) Q
  replace fin:Fin XE (Rep X.K) X.K S (F a.2 S.M) Q:=fin
  cases o:F a.2 S.M with
  | bad=>rw [o] at fin;exact fin
  | exn C' fs M'=>exact absurd o (C.nox _ _ _ _ _)
  | ok t M1=>rw [o] at fin;exact fin
theorem zl5 {id:String} (hc:CallR X (.builtin id) (lRN XE X.K F)) (hg:Gl X x) (hm:X.mg x = none) (hv:bootBuiltins x = some (.builtin id)) (ha:GA X XE (e :: es) ga) (hn:x ≠ "__name__":=by decide) (hdb:(x == ("__debug__":Str)) = false:=by decide)
  (he:noStar e = true:=by rfl) (hpl:es.all noStar = true:=by rfl) :
  GE X XE (.Call (.Name x p) (e :: es) [] pos) (ze F ga):=PE.imp (zlF hc hg hm hv ha hn hdb (zaj he) (zcM hpl)) fun σ H Q hh=>
 LN.mono (LN.bind (f:=fun _ σ M=>ga σ M) (k:=fun _ ts σ M1=>F ts M1) (RB:=Reps X.K) hh) fun vs H1 ⟨S,στ,a,e,m,ev,ra,fin⟩=>⟨S,a.2,e,m,ra.2,fin⟩
theorem zkY {id:String} (hc:CallR X (.type id) (lRN XE X.K F)) (hg:Gl X x) (hm:X.mg x = none) (hv:bootBuiltins x = some (.type id)) (ha:GA X XE (e :: es) ga) (hn:x ≠ "__name__":=by decide) (hdb:(x == ("__debug__":Str)) = false:=by decide)
  (he:noStar e = true:=by rfl) (hpl:es.all noStar = true:=by rfl) :
  GE X XE (.Call (.Name x p) (e :: es) [] pos) (ze F ga):=PE.imp (zgS hc hg hm hv ha hn hdb (zaj he) (zcM hpl)) fun σ H Q hh=>
 LN.mono (LN.bind (f:=fun _ σ M=>ga σ M) (k:=fun _ ts σ M1=>F ts M1) (RB:=Reps X.K) hh) fun vs H1 ⟨S,στ,a,e,m,ev,ra,fin⟩=>⟨S,a.2,e,m,ra.2,fin⟩
end
inductive T.lt (n:Nat):T->Prop where
 | non:T.lt n .non
 | bl (b:Bool):T.lt n (.bl b)
 | int (i:Int):T.lt n (.int i)
 | str (x:Str):T.lt n (.str x)
 | ty (x:String):T.lt n (.ty x)
 | tup {ts:List T} (h:∀ t ∈ ts,T.lt n t):T.lt n (.tup ts)
 | lst {ts:List T} (h:∀ t ∈ ts,T.lt n t):T.lt n (.lst ts)
 | ref {a:Nat} (h:a < n):T.lt n (.ref a)
 | dct {kvs:List (Key × T)} (h:∀ t ∈ kvs.map (·.2),T.lt n t):T.lt n (.dct kvs)
 | exc {C:Addr} {fs:List (Str × T)} (h:∀ t ∈ fs.map (·.2),T.lt n t):T.lt n (.exc C fs)
noncomputable def Cell.lt (n:Nat):Cell->Prop
 | .lst ts=>∀ t ∈ ts,T.lt n t
 | .dic kvs=>∀ k ∈ kvs,T.lt n k.2
 | .ins _ fs=>∀ k ∈ fs,T.lt n k.2
inductive Fz (M':Mem) (n:Nat):T->T->Prop where
 | same {t:T} (h:T.lt n t):Fz M' n t t
 | tup {ts us:List T} (l:ts.length = us.length) (h:∀ (i:Nat) t u,ts[i]? = some t->us[i]? = some u->Fz M' n t u):Fz M' n (.tup ts) (.tup us)
 | lst {ts us:List T} (l:ts.length = us.length) (h:∀ (i:Nat) t u,ts[i]? = some t->us[i]? = some u->Fz M' n t u):Fz M' n (.lst ts) (.lst us)
 | ref {a:Nat} {ts us:List T} (e:M'[a]? = some (.lst ts)) (g:n<=a) (l:ts.length = us.length) (h:∀ (i:Nat) t u,ts[i]? = some t->us[i]? = some u->Fz M' n t u):Fz M' n (.ref a) (.lst us)
theorem Rep.lt {K:Frag} {S:Sit} {t:T} {v:V} (r:Rep K S t v):T.lt S.M.length t:=by
 induction r with
 | non=>exact .non
 | bl b=>exact .bl b
 | int b=>exact .int b
 | str b=>exact .str b
 | ty b=>exact .ty b
 | @tup ts p vs h l _ ih=>
  refine .tup fun t ht=>?_
  obtain ⟨i,hi,rfl⟩:=getElem_of_mem ht
  exact ih i _ vs[i] (by simp [hi]) (by simp [← l,hi])
 | @lst ts p vs h l _ ih=>
  refine .lst fun t ht=>?_
  obtain ⟨i,hi,rfl⟩:=getElem_of_mem ht
  exact ih i _ vs[i] (by simp [hi]) (by simp [← l,hi])
 | ref h=>exact .ref h
 | @dct kvs us p o h l _ ih=>
  refine .dct fun t ht=>?_
  obtain ⟨i,hi,rfl⟩:=getElem_of_mem ht
  have hl:i < us.length:=by have:=congrArg List.length l;simp at this hi;omega
  exact ih i _ (us[i]'hl).2 (getElem?_eq_getElem hi) (by simp [hl])
 | @exc C fs us p od h hd l _ ih=>
  refine .exc fun t ht=>?_
  obtain ⟨i,hi,rfl⟩:=getElem_of_mem ht
  have hl:i < us.length:=by have:=congrArg List.length l;simp at this hi;omega
  exact ih i _ (us[i]'hl).2 (getElem?_eq_getElem hi) (by simp [hl])
theorem Reps.lt {K:Frag} {S:Sit} {ts:List T} {vs:List V} (r:Reps K S ts vs):∀ t ∈ ts,T.lt S.M.length t:=fun t ht=>by
 obtain ⟨i,hi,rfl⟩:=getElem_of_mem ht
 have hv:i < vs.length:=by rw [← r.1];exact hi
 exact (r.2 i _ vs[i] (by simp [hi]) (by simp [hv])).lt
theorem zjd {κ:Type} {fs:List (κ × T)} {n:Nat} (h:∀ t ∈ fs.map (·.2),T.lt n t):∀ k ∈ fs,T.lt n k.2:=fun k hk=>h _ (List.mem_map_of_mem (f:=(·.2)) hk)
theorem CellOk.lt {K:Frag} {S:Sit} {p:Addr} {c:Cell} (h:CellOk K S p c):Cell.lt S.M.length c:=by
 cases c with
 | lst ts=>obtain ⟨vs,_,r⟩:=h;exact r.lt
 | dic ts=>obtain ⟨vs,_,r⟩:=h;exact zjd r.2.lt
 | ins C ts=>obtain ⟨dx,vs,_,r⟩:=h;exact zjd r.2.lt
theorem T.lt.mono {n m:Nat} (h:n<=m) {t:T} (r:T.lt n t):T.lt m t:=by
 induction r with
 | non=>exact .non
 | bl b=>exact .bl b
 | int b=>exact .int b
 | str b=>exact .str b
 | ty b=>exact .ty b
 | tup _ ih=>exact .tup ih
 | lst _ ih=>exact .lst ih
 | ref g=>exact .ref (Nat.lt_of_lt_of_le g h)
 | dct _ ih=>exact .dct ih
 | exc _ ih=>exact .exc ih
noncomputable def Sit.cut (S:Sit) (n:Nat) (h:List Addr):Sit:=⟨S.α,S.M.take n,S.H,h⟩
section
variable {K:Frag} {S S':Sit} {n:Nat} {hh:List Addr}
theorem Rep.cut (hn:n<=S'.M.length) (sub:∀ p ∈ hh,p ∈ S'.hid) {t:T} {v:V} (r:Rep K S' t v) (l:T.lt n t):Rep K (S'.cut n hh) t v:=by
 have ln:(S'.cut n hh).M.length = n:=by show (S'.M.take n).length = n;simp;omega
 induction r with
 | non=>exact .non
 | bl b=>exact .bl b
 | int b=>exact .int b
 | str b=>exact .str b
 | ty b=>exact .ty b
 | @tup ts p vs h l2 _ ih=>
  cases l with
  | tup hl=>exact .tup h l2 fun i t v e1 e2=>ih i t v e1 e2 (hl t (mem_of_getElem? e1))
 | @lst ts p vs h l2 _ ih=>
  cases l with
  | lst hl=>
   refine .lst ?_ l2 fun i t v e1 e2=>ih i t v e1 e2 (hl t (mem_of_getElem? e1))
   rcases h with ⟨h,f⟩ | h
   ·exact .inl ⟨h,fun a ha z=>f.1 a (by rw [ln] at ha;omega) z,fun z=>f.2 (sub _ z)⟩
   ·exact .inr h
 | @ref a h=>
  cases l with
  | ref hl=>exact .ref (S:=S'.cut n hh) (by rw [ln];exact hl)
 | dct h l2 _ ih=>
  cases l with
  | dct hl=>exact .dct (S:=S'.cut n hh) h l2 fun i t v e1 e2=>ih i t v e1 e2 (hl t (mem_of_getElem? e1))
 | exc h hd l2 _ ih=>
  cases l with
  | exc hl=>exact .exc (S:=S'.cut n hh) h hd l2 fun i t v e1 e2=>ih i t v e1 e2 (hl t (mem_of_getElem? e1))
theorem Reps.cut (hn:n<=S'.M.length) (sub:∀ p ∈ hh,p ∈ S'.hid) {t:List T} {v:List V} (r:Reps K S' t v) (l:∀ x ∈ t,T.lt n x):Reps K (S'.cut n hh) t v:=⟨r.1,fun i t v e1 e2=>(r.2 i t v e1 e2).cut hn sub (l t (mem_of_getElem? e1))⟩
theorem CellOk.cut (hn:n<=S'.M.length) (sub:∀ p ∈ hh,p ∈ S'.hid) {p:Addr} {c:Cell} (r:CellOk K S' p c) (l:Cell.lt n c):CellOk K (S'.cut n hh) p c:=by
 have ms:∀ {κ:Type} {fs:List (κ × T)},(∀ k ∈ fs,T.lt n k.2)->∀ t ∈ fs.map (·.2),T.lt n t:=fun h t ht=>by
  obtain ⟨k,hk,rfl⟩:=mem_map.mp ht
  exact h k hk
 cases c with
 | lst ts=>obtain ⟨vs,q,r⟩:=r;exact ⟨vs,q,r.cut hn sub l⟩
 | dic ts=>obtain ⟨vs,q,r⟩:=r;exact ⟨vs,q,r.1,r.2.cut hn sub (ms l)⟩
 | ins C ts=>obtain ⟨dx,vs,q,r⟩:=r;exact ⟨dx,vs,q,r.1,r.2.cut hn sub (ms l)⟩
theorem Stp.cut (s:Stp K S S') (h1:S.M.length<=n) (h2:n<=S'.M.length) (hl:∀ (i:Nat) c,i < n->S'.M[i]? = some c->Cell.lt n c):Stp K S (S'.cut n S.hid):=by
 have sub:∀ p ∈ S.hid,p ∈ S'.hid:=fun p h=>(s.hk p h).1
 have ln:(S'.cut n S.hid).M.length = n:=by show (S'.M.take n).length = n;simp;omega
 refine ⟨⟨by rw [ln];exact h1,s.al,fun a g1 g2=>s.fr a g1 (by rw [ln] at g2;omega),s.kp,fun p h=>⟨h,(s.hk p h).2⟩,fun p h=>.inl h⟩,⟨fun a c e=>?_,fun a b g1 g2 e=>s.mok.inj a b (by rw [ln] at g1;omega) (by rw [ln] at g2;omega) e,fun p h=>?_⟩⟩
 ·have e':(S'.M.take n)[a]? = some c:=e
  rw [getElem?_take] at e'
  split at e'
  ·rename_i hi
   exact (s.mok.cell a c e').cut h2 sub (hl a c hi e')
  ·cases e'
 ·obtain ⟨g1,vs,g2⟩:=s.mok.hd p (sub p h)
  exact ⟨fun a ha z=>g1 a (by rw [ln] at ha;omega) z,vs,g2⟩
theorem Rep.fz (m:MemOk K S') (hn:n<=S'.M.length) (sub:∀ p ∈ hh,p ∈ S'.hid) {t u:T} (z:Fz S'.M n t u):∀ {v:V},Rep K S' t v->Rep K (S'.cut n hh) u v:=by
 have ln:(S'.cut n hh).M.length = n:=by show (S'.M.take n).length = n;simp;omega
 induction z with
 | same h=>exact fun r=>r.cut hn sub h
 | @tup ts us l _ ih=>
  intro v r
  cases r with
  | @tup _ p vs h l2 rr=>
   refine .tup h (by rw [← l];exact l2) fun i t v e1 e2=>?_
   have hi:i < ts.length:=by rw [l];exact (List.getElem?_eq_some_iff.mp e1).1
   exact ih i ts[i] t (by simp [hi]) e1 (rr i _ v (by simp [hi]) e2)
 | @lst ts us l _ ih=>
  intro v r
  cases r with
  | @lst _ p vs h l2 rr=>
   refine .lst ?_ (by rw [← l];exact l2) fun i t v e1 e2=>?_
   ·rcases h with ⟨h,f⟩ | h
    ·exact .inl ⟨h,fun a ha z=>f.1 a (by rw [ln] at ha;omega) z,fun z=>f.2 (sub _ z)⟩
    ·exact .inr h
   ·have hi:i < ts.length:=by rw [l];exact (List.getElem?_eq_some_iff.mp e1).1
    exact ih i ts[i] t (by simp [hi]) e1 (rr i _ v (by simp [hi]) e2)
 | @ref a ts us e g l _ ih=>
  intro v r
  cases r with
  | ref ha=>
   obtain ⟨vs,q,rr⟩:=m.cell a _ e
   refine .lst (vs:=vs) (.inl ⟨.inl q,fun b hb z=>?_,fun z=>?_⟩) (by rw [← l];exact rr.1) fun i t v e1 e2=>?_
   ·rw [ln] at hb
    have:=m.inj b a (by omega) ha z
    omega
   ·exact (m.hd _ (sub _ z)).1 a ha rfl
   ·have hi:i < ts.length:=by rw [l];exact (List.getElem?_eq_some_iff.mp e1).1
    exact ih i ts[i] t (by simp [hi]) e1 (rr.2 i _ v (by simp [hi]) e2)
end
def Refines (f g:List T->Mem->Out T):Prop:=∀ ts M t' M1,(∀ c ∈ M,Cell.lt M.length c)->f ts M = .ok t' M1->∃ t M',g ts M = .ok t M'/\M.length<=M1.length/\M1.length<=M'.length/\M1 = M'.take M1.length/\(∀ (i:Nat) c,M1[i]? = some c->M[i]? = some c\/Cell.lt M1.length c)/\Fz M' M1.length t t'
theorem Cell.lt.mono {n m:Nat} (h:n<=m) {c:Cell} (r:Cell.lt n c):Cell.lt m c:=by
 cases c with
 | lst ts=>exact fun t ht=>(r t ht).mono h
 | dic ts=>exact fun t ht=>(r t ht).mono h
 | ins C ts=>exact fun t ht=>(r t ht).mono h
theorem CalT.refine {P:Program} {w:World} {K:Frag} {mg:Str->Option Value} {base:Heap} {k:Nat} {x:Str} {ps:List Str} {f g:List T->Mem->Out T} (C:CalT P w K mg base k x ps g) (h:Refines f g) (nox:∀ ts M C fs M',f ts M ≠ .exn C fs M'):CalT P w K mg base k x ps f:=by
 refine ⟨?_,nox⟩
 obtain ⟨⟨fa,fd,F,kp,b,gg⟩⟩:=C.cal
 have key:∀ vs H Q E,spT K f vs H Q E->spT K g vs H Q E:=by
  rintro vs H Q E ⟨S,ts,e,m,r,fin⟩
  refine ⟨S,ts,e,m,r,?_⟩
  have wf:∀ c ∈ S.M,Cell.lt S.M.length c:=fun c hc=>by
   obtain ⟨i,hi,rfl⟩:=getElem_of_mem hc
   exact (m.cell i _ (by simp [hi])).lt
  cases o:f ts S.M with
  | bad=>rw [o] at fin;exact fin.elim
  | exn C' fs M'=>exact absurd o (nox _ _ _ _ _)
  | ok t' M1=>
   rw [o] at fin
   obtain ⟨t,M',eg,l1,l2,eM,hc,z⟩:=h ts S.M t' M1 wf o
   rw [eg]
   intro S' v e1 s r1
   have hl:∀ (i:Nat) c,i < M1.length->S'.M[i]? = some c->Cell.lt M1.length c:=fun i c hi ec=>by
    have e2:M1[i]? = some c:=by
     rw [eM,getElem?_take,if_pos hi,← e1];exact ec
    rcases hc i c e2 with q | q
    ·exact (wf c (mem_of_getElem? q)).mono l1
    ·exact q
   have sc:=s.cut l1 (by rw [e1];exact l2) hl
   refine fin (S'.cut M1.length S.hid) v ?_ sc ?_
   ·show S'.M.take M1.length = M1
    rw [e1];exact eM.symm
   ·exact Rep.fz s.mok (by rw [e1];exact l2) (fun p h=>(s.hk p h).1) (by rw [e1];exact z) r1
 refine ⟨⟨fa,fd,⟨fun vs H Q E q=>F.len vs H Q E (key _ _ _ _ q),?_⟩,kp,b,gg⟩⟩
 intro A outer s H args us vs Q E hr h0 hb hv hq
 exact F.run A outer s H args us vs Q E hr h0 hb hv (key _ _ _ _ hq)
noncomputable def yz (t:T) (M:Mem):Option (List T):=match t with
 | .lst xs=>some xs
 | .ref a=>match M[a]? with
  | some (.lst xs)=>some xs
  | _=>none
 | _=>none
noncomputable def zhJ (t:T):Option (List T):=match t with
 | .lst xs=>some xs
 | .tup xs=>some xs
 | _=>none
noncomputable def qZ (t:T) (M:Mem):Option (List T):=match t with
 | .tup xs=>some xs
 | t=>yz t M
section
variable {K:Frag} {S:Sit} {t:T} {v:V} {xs:List T}
theorem zcV {p:Addr} {vs:List V} (h:(Rd S.H p (.lst vs)/\S.off p)\/KL K p vs):SqL K S.H p vs:=by
 rcases h with ⟨h,_⟩ | h
 ·exact .inl h
 ·exact .inr h
theorem zI (m:MemOk K S) (r:Rep K S t v) (e:yz t S.M = some xs):∃ p vs,v = .ref p/\SqL K S.H p vs/\Reps K S xs vs:=by
 cases r with
 | @lst ts p vs h l r=>cases e;exact ⟨p,vs,rfl,zcV h,l,r⟩
 | @ref a h=>
  unfold yz at e
  dsimp only at e
  split at e
  ·rename_i ys q
   cases e
   obtain ⟨vs,q2,r2⟩:=m.cell a _ q
   exact ⟨_,vs,rfl,.inl (.inl q2),r2⟩
  ·cases e
 | _=>cases e
theorem zcc (m:MemOk K S) (r:Rep K S t v) (e:qZ t S.M = some xs):∃ p vs,v = .ref p/\(SqL K S.H p vs\/SqT K S.H p vs)/\Reps K S xs vs:=by
 cases t with
 | tup ts=>
  cases e
  cases r with
  | @tup _ p vs h l r=>exact ⟨p,vs,rfl,.inr h,l,r⟩
 | lst ts=>obtain ⟨p,vs,e1,h,r2⟩:=zI m r e;exact ⟨p,vs,e1,.inl h,r2⟩
 | ref a=>obtain ⟨p,vs,e1,h,r2⟩:=zI m r e;exact ⟨p,vs,e1,.inl h,r2⟩
 | _=>cases e
end
noncomputable def zaH (f:Ev->Mem->Out T):Ev->Mem->Out (List T):=fun σ M=>(f σ M).bind fun t M1=>match zhJ t with
 | some xs=>.ok xs M1
 | none=>.bad
noncomputable def zeh (lo:Int) (n:Nat):List T:=(List.range n).map fun (k:Nat)=>T.int (lo + (k:Int))
noncomputable def zfl (ts:List T) (M1:Mem):Out (List T):=match ts with
 | [.int j]=>@ite _ (-(2 ^ 62)<=j/\j < 2 ^ 62) (Classical.propDecidable _) (.ok (zeh 0 j.toNat) M1) .bad
 | _=>.bad
noncomputable def zqR (ts:List T) (M1:Mem):Out (List T):=match ts with
 | [.int i,.int j]=>@ite _ ((-(2 ^ 62)<=i/\i < 2 ^ 62)/\(-(2 ^ 62)<=j/\j < 2 ^ 62)) (Classical.propDecidable _) (.ok (zeh i (j - i).toNat) M1) .bad
 | _=>.bad
noncomputable def zaB (f:Ev->Mem->Out (List T)):Ev->Mem->Out (List T):=fun σ M=>(f σ M).bind fun ts M1=>zfl ts M1
noncomputable def zrp (f:Ev->Mem->Out (List T)):Ev->Mem->Out (List T):=fun σ M=>(f σ M).bind fun ts M1=>zqR ts M1
theorem zlS (K:Frag) (S:Sit) (lo:Int) (n:Nat):zdt K S (zeh lo n) (Itr lo n):=fun S' s=>by
 refine ⟨fun i t e=>?_,fun i h=>?_⟩
 ·unfold zeh at e
  rw [getElem?_map] at e
  cases q:(List.range n)[i]? with
  | none=>rw [q] at e;cases e
  | some k=>
   rw [q] at e
   cases e
   have hi:i < n:=by have:=(List.getElem?_eq_some_iff.mp q).1;simpa using this
   have hk:k = i:=by rw [getElem?_range hi] at q;exact (Option.some.inj q).symm
   subst hk
   refine ⟨hi,fun x H' hy=>?_⟩
   obtain ⟨e1,e2⟩:=hy
   exact ⟨S',e1.symm,rfl,.refl s.mok,by rw [e2];exact .int _⟩
 ·show n<=i
  simpa [zeh] using h
section
variable {X:Cx} {XE:XK} {a b c e iter tg:Expr} {es:List Expr} {f g h:Ev->Mem->Out T} {pos p:Pos} {ga:Ev->Mem->Out (List T)}
theorem zpf (he:GE X XE e f):GI X XE tg e (zaH f):=PI.imp (PI.or (zi5 he) (zoj he)) fun σ H R h9=>by
 obtain ⟨S,στ,_,e,m,ev,_,fin⟩:=h9
 replace fin:Fin XE (zdt X.K) X.K S ((f στ S.M).bind fun t M1=>match zhJ t with | some xs=>.ok xs M1 | none=>.bad) R:=fin
 cases o:f στ S.M with
 | bad=>rw [o] at fin;exact fin.elim
 | exn C fs M'=>
  rw [o] at fin
  refine .inl ⟨S,στ,(),e,m,ev,trivial,?_⟩
  show Fin XE (Rep X.K) X.K S (f στ S.M) _
  rw [o];exact fin
 | ok t M1=>
  rw [o] at fin
  cases t with
  | lst ts=>
   refine .inl ⟨S,στ,(),e,m,ev,trivial,?_⟩
   show Fin XE (Rep X.K) X.K S (f στ S.M) _
   rw [o]
   intro S1 v e1 s1 r1
   cases r1 with
   | @lst _ p vs h l r=>
    have r1:Reps X.K S1 ts vs:=⟨l,r⟩
    refine ⟨p,rfl,⟨vs,zcV h⟩,fin S1 _ e1 s1 fun S3 s3=>?_⟩
    have g3:SqL X.K S3.H p vs:=by
     rcases h with ⟨h2,f2⟩ | h2
     ·exact .inl (s3.toGrow.rd h2 f2).1
     ·exact .inr h2
    refine ⟨fun i t et=>?_,fun i hi=>⟨vs,g3,by rw [← l];exact hi⟩⟩
    obtain ⟨v2,ev3,r3⟩:=r1.get et
    refine ⟨⟨vs,v2,g3,ev3⟩,fun x H' hy=>?_⟩
    obtain ⟨ey,hy⟩:=hy
    have:=hy vs g3
    rw [ev3] at this
    cases this
    exact ⟨S3,ey.symm,rfl,.refl s3.mok,r3.grow s1.mok s3.toGrow⟩
  | tup ts=>
   refine .inr ⟨S,στ,(),e,m,ev,trivial,?_⟩
   show Fin XE (Rep X.K) X.K S (f στ S.M) _
   rw [o]
   intro S1 v e1 s1 r1
   cases r1 with
   | @tup _ p vs h l r=>
    have r1:Reps X.K S1 ts vs:=⟨l,r⟩
    refine ⟨p,rfl,⟨vs,h⟩,fin S1 _ e1 s1 fun S3 s3=>?_⟩
    have g3:SqT X.K S3.H p vs:=s3.toGrow.tup s1.mok h
    refine ⟨fun i t et=>?_,fun i hi=>⟨vs,g3,by rw [← l];exact hi⟩⟩
    obtain ⟨v2,ev3,r3⟩:=r1.get et
    refine ⟨⟨vs,v2,g3,ev3⟩,fun x H' hy=>?_⟩
    obtain ⟨ey,hy⟩:=hy
    have:=hy vs g3
    rw [ev3] at this
    cases this
    exact ⟨S3,ey.symm,rfl,.refl s3.mok,r3.grow s1.mok s3.toGrow⟩
  | _=>exact fin.elim
theorem zkX (hg:Gl X "range") (hm:X.mg "range" = none) (ha:GA X XE [a] ga) (hs:starEach [a] X.env = [(false,eval a X.env)]:=by rfl):GI X XE tg (.Call (.Name "range" p) [a] [] pos) (zaB ga):=PI.imp (zkC hg hm ha hs) fun σ H R hh=>
 LN.mono (LN.bind (f:=fun _ σ M=>ga σ M) (k:=fun _ ts σ M1=>zfl ts M1) (RB:=Reps X.K) hh) fun vs H1 h9=>by
  obtain ⟨S,στ,a,e,m,ev,ra,fin⟩:=h9
  obtain ⟨u,ts⟩:=a
  have rr:Reps X.K S ts vs:=ra.2
  replace fin:Fin XE (zdt X.K) X.K S (zfl ts S.M) R:=fin
  unfold zfl at fin
  split at fin
  ·rename_i j
   obtain ⟨v,vs',rfl,r1,r2⟩:=rr.consT
   cases r1
   rw [r2.nilT]
   split at fin
   ·rename_i hj
    exact ⟨j,rfl,hj.1,hj.2,by rw [← e];exact fin S _ rfl (.refl m) (zlS _ _ _ _)⟩
   ·exact fin.elim
  ·exact fin.elim
end
noncomputable def zy (bd:T->Ev->Mem->Out Ev) (cond:Ev->Mem->Out Bool) (el:Ev->Mem->Out T):List T->Ev->Mem->List T->Out (List T)
 | [],_,M,acc=>.ok acc M
 | x :: xs,σ,M,acc=>(bd x σ M).bind fun σ1 M1=>(cond σ1 M1).bind fun b M2=>if b = true then (el σ1 M2).bind fun t M3=>if acc.length < sizeLine then zy bd cond el xs σ1 M3 (acc ++ [t]) else .bad else zy bd cond el xs σ1 M2 acc
noncomputable def zb3 (tgs:List Str) (caps:List (Str × Nat)) (σ:Ev):Ev:=tgs.map (fun _=>none) ++ caps.map fun c=>(σ[c.2]?).join
noncomputable def yU (it:Ev->Mem->Out (List T)) (bd:T->Ev->Mem->Out Ev) (cond:Ev->Mem->Out Bool) (el:Ev->Mem->Out T) (tgs:List Str) (caps:List (Str × Nat)):Ev->Mem->Out (List T):=fun σ M=>(it σ M).bind fun xs M1=>zy bd cond el xs (zb3 tgs caps σ) M1 []
noncomputable def qH:Ev->Mem->Out Bool:=fun _ M=>.ok true M
theorem EvR.cap {K:Frag} {S:Sit} {στ:Ev} {σ:L2.St} (r:EvR K S στ σ) (tgs:List Str) (caps:List (Str × Nat)):EvR K S (zb3 tgs caps στ) (zaS tgs caps σ):=by
 refine ⟨by simp [zb3,zaS],fun i t e=>?_⟩
 unfold zb3 at e
 unfold zaS
 by_cases hi:i < tgs.length
 ·rw [getElem?_append_left (by simpa using hi)] at e
  rw [getElem?_map] at e
  cases q:tgs[i]? with
  | none=>rw [q] at e;cases e
  | some x=>rw [q] at e;cases e
 ·rw [getElem?_append_right (by simpa using hi),getElem?_map] at e
  rw [getElem?_append_right (by simpa using hi),getElem?_map]
  simp only [length_map] at e ⊢
  cases q:caps[i - tgs.length]? with
  | none=>rw [q] at e;cases e
  | some cq=>
   rw [q] at e
   have e2:(στ[cq.2]?).join = some t:=Option.some.inj e
   have e3:στ[cq.2]? = some (some t):=by
    cases q2:στ[cq.2]? with
    | none=>rw [q2] at e2;cases e2
    | some o=>rw [q2] at e2;cases o with
     | none=>cases e2
     | some v'=>rw [show v' = t from Option.some.inj e2]
   obtain ⟨v,e4,r4⟩:=r.2 _ _ e3
   exact ⟨v,by show some ((σ[cq.2]?).join) = _;rw [e4];rfl,r4⟩
noncomputable def Sit.hput (S:Sit) (p:Addr) (vs:List V):Sit:=⟨S.α,S.M,upd S.H p (.lst vs),S.hid⟩
section
variable {K:Frag} {S S0:Sit} {p:Addr} {us:List V}
theorem Rep.hput (m:MemOk K S) (hp:p ∈ S.hid) {t:T} {v:V} (r:Rep K S t v):Rep K (S.hput p us) t v:=by
 obtain ⟨_,ws,ew⟩:=m.hd p hp
 induction r with
 | non=>exact .non
 | bl b=>exact .bl b
 | int b=>exact .int b
 | str b=>exact .str b
 | ty b=>exact .ty b
 | @tup ts q vs h l _ ih=>
  refine .tup ?_ l ih
  rcases h with (h | ⟨o,h⟩) | h
  ·exact .inl (.inl ((yk (zbs h ew (by intro z;cases z))).trans h))
  ·exact .inl (.inr ⟨o,(yk (zbs h ew (by intro z;cases z))).trans h⟩)
  ·exact .inr h
 | @lst ts q vs h l _ ih=>
  refine .lst ?_ l ih
  rcases h with ⟨h,f⟩ | h
  ·have hne:q ≠ p:=fun z=>f.2 (by rw [z];exact hp)
   refine .inl ⟨?_,f⟩
   rcases h with h | ⟨o,h⟩
   ·exact .inl ((yk hne).trans h)
   ·exact .inr ⟨o,(yk hne).trans h⟩
  ·exact .inr h
 | ref h=>exact .ref (S:=S.hput p us) h
 | dct h l _ ih=>exact .dct (S:=S.hput p us) ((yk (zbs h ew (by intro z;cases z))).trans h) l ih
 | exc h hd l _ ih=>exact .exc (S:=S.hput p us) ((yk (zbs h ew (by intro z;cases z))).trans h) (hd.imp (fun z=>z) fun ⟨d,a,b⟩=>⟨d,a,(yk (zbs b ew (by intro z;cases z))).trans b⟩) l ih
theorem Reps.hput (m:MemOk K S) (hp:p ∈ S.hid) {t:List T} {v:List V} (r:Reps K S t v):Reps K (S.hput p us) t v:=⟨r.1,fun i a b e1 e2=>(r.2 i a b e1 e2).hput m hp⟩
theorem CellOk.hput (m:MemOk K S) (hp:p ∈ S.hid) {q:Addr} {c:Cell} (hq:q ≠ p) (r:CellOk K S q c):CellOk K (S.hput p us) q c:=by
 cases c with
 | lst ts=>obtain ⟨vs,q,r⟩:=r;exact ⟨vs,(yk hq).trans q,r.hput m hp⟩
 | dic ts=>obtain ⟨vs,q,r⟩:=r;exact ⟨vs,(yk hq).trans q,r.1,r.2.hput m hp⟩
 | ins C ts=>obtain ⟨dx,vs,q,r⟩:=r;exact ⟨dx,vs,(yk hq).trans q,r.1,r.2.hput m hp⟩
theorem Stp.hput (s:Stp K S0 S) (hp:p ∈ S.hid) (hn:S0.H p = none) (m0:MemOk K S0):Stp K S0 (S.hput p us):=by
 refine ⟨⟨s.le,s.al,s.fr,fun b o e f=>(yk (qD e hn)).trans (s.kp b o e f),fun q h=>⟨(s.hk q h).1,?_⟩,s.hf⟩,⟨fun a c e=>?_,s.mok.inj,fun q h=>?_⟩⟩
 ·obtain ⟨_,vs,e⟩:=m0.hd q h
  exact (yk (qD e hn)).trans (s.hk q h).2
 ·exact (s.mok.cell a c e).hput s.mok hp ((s.mok.hd p hp).1 a (List.getElem?_eq_some_iff.mp e).1)
 ·obtain ⟨h1,vs,e⟩:=s.mok.hd q h
  refine ⟨h1,?_⟩
  by_cases z:q = p
  ·exact ⟨us,by show upd S.H p _ q = _;rw [z];exact qA⟩
  ·exact ⟨vs,(yk z).trans e⟩
end
structure CB (X:Cx) (scope:Scope) (cl:List (Str × Addr)) (caps:List (Str × Nat)):Prop where
 hc:X.calm = true
 hclos:closureFor scope X.env = pure cl
 hcell:∀ y ∈ scope.names,y.2 = .cell->y.1 ∉ caps.map (·.1)
 hkind:scope.kind = .function
 hnames:∀ y ∈ scope.names,y.2 = .local->scope.names.lookup y.1 = some .local
 hcl:∀ y c,cl.lookup y = some c->X.env.cells.lookup y = some c
 hhas:∀ n y,((relabel scope X.env).names.lookup y = some .cell\/(relabel scope X.env).names.lookup y = some .free)->∃ c,(cellsFrom n scope.names cl).lookup y = some c
 hcap:∀ c ∈ caps,X.N[c.2]? = some c.1/\X.env.kindOf c.1 = some .cell/\((relabel scope X.env).names.lookup c.1 = some .cell\/(relabel scope X.env).names.lookup c.1 = some .free)
section
variable {X:Cx} {XE:XK}
theorem zil {tgs:List Str} {caps:List (Str × Nat)} {ga:Ev->Mem->Out (List T)} {bd:T->Ev->Mem->Out Ev} {cond:Ev->Mem->Out Bool} {f:Ev->Mem->Out T} {σ:L2.St} {H:Hp} {Q:VK} (hh:lL XE X.K (yU ga bd cond f tgs caps) σ H Q) :
  zhl (lI XE X.K ga) (lG XE X.K bd) (lT XE X.K cond) (lE XE X.K f) (zaS tgs caps) σ H Q:=by
 obtain ⟨S,στ,e,m,ev,fin⟩:=hh
 replace fin:FinL XE X.K S ((ga στ S.M).bind fun xs M1=>zy bd cond f xs (zb3 tgs caps στ) M1 []) Q:=fin
 refine ⟨S,στ,(),e,m,ev,trivial,?_⟩
 show Fin XE (zdt X.K) X.K S (ga στ S.M) _
 cases o:ga στ S.M with
 | bad=>rw [o] at fin;exact fin
 | exn C fs M'=>rw [o] at fin;exact fin
 | ok items M1=>
  rw [o] at fin
  replace fin:FinL XE X.K S (zy bd cond f items (zb3 tgs caps στ) M1 []) Q:=fin
  intro S0 J e0 s0 it0 D hD
  have m0:=s0.mok
  have fin0:=fin.later s0
  have s1:=Stp.hide (K:=X.K) m0 hD []
  refine ⟨fun i n σ' H'=>∃ S στ acc vs,S.H = H'/\EvR X.K S στ σ'/\n = items.length - i/\i<=items.length/\D ∈ S.hid/\S.H D = some (.lst vs)/\Reps X.K S acc vs/\Stp X.K S0 S/\FinL XE X.K S0 (zy bd cond f (items.drop i) στ S.M acc) Q,
   ⟨items.length - 0,S0.hide D [],zb3 tgs caps στ,[],[],rfl,(Mo.mo (K:=X.K) m0 s1 (Mo.mo (K:=X.K) m s0 ev)).cap tgs caps,rfl,Nat.zero_le _,.head _,qA,.nil,s1,by show FinL XE X.K S0 (zy bd cond f items (zb3 tgs caps στ) S0.M []) Q;rw [e0];exact fin0⟩,?_⟩
  rintro i n σ1 H1 ⟨S2,στ2,acc,vs,e2,ev2,en,hi2,hid2,hD2,racc,s2,fin2⟩
  subst e2
  have m2:=s2.mok
  obtain ⟨itg,its⟩:=it0 S2 s2
  by_cases hl:i < items.length
  ·have eq:items.drop i = items[i] :: items.drop (i + 1):=List.drop_eq_getElem_cons hl
   rw [eq] at fin2
   obtain ⟨go,yl⟩:=itg i items[i] (by simp [hl])
   refine .inr ⟨go,fun σ' H'=>∃ S στ acc vs,S.H = H'/\EvR X.K S στ σ'/\D ∈ S.hid/\S.H D = some (.lst vs)/\Reps X.K S acc vs/\Stp X.K S0 S/\FinL XE X.K S0 (zy bd cond f (items.drop (i + 1)) στ S.M acc) Q,?_,fun x H' hy=>?_⟩
   ·rintro σ' H' ⟨S,στ,acc,vs,a1,a2,a3,a4,a5,a6,a7⟩
    exact ⟨items.length - (i + 1),by omega,S,στ,acc,vs,a1,a2,rfl,hl,a3,a4,a5,a6,a7⟩
   ·obtain ⟨S3,e3,eM,s3,r3⟩:=yl x H' hy
    replace fin2:FinL XE X.K S0 ((bd items[i] στ2 S2.M).bind fun σ1 M1=>(cond σ1 M1).bind fun b M2=>if b = true then (f σ1 M2).bind fun t M3=>if acc.length < sizeLine then zy bd cond f (items.drop (i + 1)) σ1 M3 (acc ++ [t]) else .bad else zy bd cond f (items.drop (i + 1)) σ1 M2 acc) Q:=fin2
    refine ⟨S3,στ2,items[i],e3,s3.mok,Mo.mo m2 s3 ev2,r3,?_⟩
    show Fin XE (EvR X.K) X.K S3 (bd items[i] στ2 S3.M) _
    rw [eM]
    cases o1:bd items[i] στ2 S2.M with
    | bad=>rw [o1] at fin2;exact fin2
    | exn C fs M'=>rw [o1] at fin2;exact fun S' od a1 a2 a3=>fin2 S' od a1 ((s2.trans s3).trans a2) a3
    | ok σ4 M4=>
     rw [o1] at fin2
     intro S4 σ4v e4 s4 ev4
     have t4:=s3.trans s4
     replace fin2:FinL XE X.K S0 ((cond σ4 M4).bind fun b M2=>if b = true then (f σ4 M2).bind fun t M3=>if acc.length < sizeLine then zy bd cond f (items.drop (i + 1)) σ4 M3 (acc ++ [t]) else .bad else zy bd cond f (items.drop (i + 1)) σ4 M2 acc) Q:=fin2
     refine ⟨S4,σ4,(),rfl,s4.mok,ev4,trivial,?_⟩
     show Fin XE EqR X.K S4 (cond σ4 S4.M) _
     rw [e4]
     cases o2:cond σ4 M4 with
     | bad=>rw [o2] at fin2;exact fin2
     | exn C fs M'=>rw [o2] at fin2;exact fun S' od a1 a2 a3=>fin2 S' od a1 ((s2.trans t4).trans a2) a3
     | ok b M5=>
      rw [o2] at fin2
      intro S5 b5 e5 s5 eb
      have eb':b = b5:=eb
      subst eb'
      have t5:=t4.trans s5
      replace fin2:FinL XE X.K S0 (if b = true then (f σ4 M5).bind fun t M3=>if acc.length < sizeLine then zy bd cond f (items.drop (i + 1)) σ4 M3 (acc ++ [t]) else .bad else zy bd cond f (items.drop (i + 1)) σ4 M5 acc) Q:=fin2
      cases b with
      | false=>
       rw [if_neg Bool.false_ne_true] at fin2
       refine (if_neg Bool.false_ne_true).mpr ⟨S5,σ4,acc,vs,rfl,Mo.mo s4.mok s5 ev4,(t5.hk D hid2).1,by rw [(t5.hk D hid2).2];exact hD2,racc.grow m2 t5.toGrow,s2.trans t5,by rw [e5];exact fin2⟩
      | true=>
       rw [if_pos rfl] at fin2
       refine (if_pos rfl).mpr ⟨S5,σ4,(),rfl,s5.mok,Mo.mo s4.mok s5 ev4,trivial,?_⟩
       show Fin XE (Rep X.K) X.K S5 (f σ4 S5.M) _
       rw [e5]
       cases o3:f σ4 M5 with
       | bad=>rw [o3] at fin2;exact fin2
       | exn C fs M'=>rw [o3] at fin2;exact fun S' od a1 a2 a3=>fin2 S' od a1 ((s2.trans t5).trans a2) a3
       | ok t M6=>
        rw [o3] at fin2
        replace fin2:FinL XE X.K S0 (if acc.length < sizeLine then zy bd cond f (items.drop (i + 1)) σ4 M6 (acc ++ [t]) else .bad) Q:=fin2
        intro S6 v6 e6 s6 r6
        have t6:=t5.trans s6
        have hz:acc.length < sizeLine:=by
         by_cases hz:acc.length < sizeLine
         ·exact hz
         ·rw [if_neg hz] at fin2;exact fin2.elim
        rw [if_pos hz] at fin2
        have hid6:=(t6.hk D hid2).1
        have hD6:S6.H D = some (.lst vs):=by rw [(t6.hk D hid2).2];exact hD2
        refine ⟨vs,hD6,by rw [← racc.1];exact hz,S6.hput D (vs ++ [v6]),σ4,acc ++ [t],vs ++ [v6],rfl,?_,hid6,qA,?_,(s2.trans t6).hput hid6 hD m0,by show FinL XE X.K S0 (zy bd cond f (items.drop (i + 1)) σ4 S6.M (acc ++ [t])) Q;rw [e6];exact fin2⟩
        ·have ev6:EvR X.K S6 σ4 σ4v:=Mo.mo s4.mok (s5.trans s6) ev4
         exact ⟨ev6.1,fun i t e=>let ⟨v,e',q⟩:=ev6.2 i t e;⟨v,e',q.hput s6.mok hid6⟩⟩
        ·exact ((racc.grow m2 t6.toGrow).app (.cons r6 .nil)).hput s6.mok hid6
  ·rw [List.drop_eq_nil_of_le (by omega)] at fin2
   refine .inl ⟨its i (by omega),?_⟩
   exact fin2 S2 D vs rfl s2 hD hid2 hD2 racc
theorem znC {tg elt iter:Expr} {ifs:List Expr} {scope:Scope} {cl:List (Str × Addr)} {pos:Pos} {tgs:List Str} {caps:List (Str × Nat)} {ga:Ev->Mem->Out (List T)} {bd:T->Ev->Mem->Out Ev} {cond:Ev->Mem->Out Bool} {f:Ev->Mem->Out T}
  (hi:GI X XE tg iter ga) (cb:CB X scope cl caps)
  (hg:∀ ex s0 H0,GG (X.block scope cl (tgs ++ caps.map (·.1)) ex s0 H0) XE tg bd) (hif:∀ ex s0 H0,PTs (X.block scope cl (tgs ++ caps.map (·.1)) ex s0 H0) ifs (lT XE X.K cond)) (hel:∀ ex s0 H0,GE (X.block scope cl (tgs ++ caps.map (·.1)) ex s0 H0) XE elt f)
  (hs:∀ x,foldedSetIterable iter X.env x = pure x:=by intro _;rfl) :
  GL X XE (.ListComp elt [⟨tg,iter,ifs,0⟩] scope pos) (yU ga bd cond f tgs caps):=PE.imp (zi7 (tgs:=tgs) (g:=lG XE X.K bd) (tc:=lT XE X.K cond) (te:=lE XE X.K f) cb.hc hi cb.hclos cb.hcell cb.hkind cb.hnames cb.hcl cb.hhas cb.hcap hg hif hel hs) fun σ H Q hh=>zil hh
theorem ziJ {i0:Nat} {y0:Str} {py spos:Pos} {tg elt iter:Expr} {ifs:List Expr} {scope:Scope} {cl:List (Str × Addr)} {pos:Pos} {tgs:List Str} {caps:List (Str × Nat)} {ga:Ev->Mem->Out (List T)} {bd:T->Ev->Mem->Out Ev} {cond:Ev->Mem->Out Bool} {f:Ev->Mem->Out T}
  (hi:GI X XE tg iter ga) (cb:CB X scope cl caps)
  (hg:∀ ex s0 H0,GG (X.block scope cl (tgs ++ caps.map (·.1)) ex s0 H0) XE tg bd) (hif:∀ ex s0 H0,PTs (X.block scope cl (tgs ++ caps.map (·.1)) ex s0 H0) ifs (lT XE X.K cond)) (hel:∀ ex s0 H0,GE (X.block scope cl (tgs ++ caps.map (·.1)) ex s0 H0) XE elt f)
  (hN0:X.N.Nodup) (hi0:X.N[i0]? = some y0) (hx0:Loc X.env.scope y0)
  (hsw:swapsWith (.ListComp elt [⟨tg,iter,ifs,0⟩] scope pos) (some (.Name y0 py)) spos.line X.env = pure true:=by rfl)
  (hf0:X.fn y0 = true\/X.env.scope.names.lookup y0 = some .local:=by first | exact .inl rfl | exact .inr rfl | assumption)
  (hs:∀ x,foldedSetIterable iter X.env x = pure x:=by intro _;rfl) :
  GS X XE (.Assign [.Name y0 py] (.ListComp elt [⟨tg,iter,ifs,0⟩] scope pos) spos) (zm i0 (eFz (yU ga bd cond f tgs caps))):=PS.imp (zfK (tgs:=tgs) (g:=lG XE X.K bd) (tc:=lT XE X.K cond) (te:=lE XE X.K f) cb.hc hi cb.hclos cb.hcell cb.hkind cb.hnames cb.hcl cb.hhas cb.hcap hg hif hel hN0 hi0 hx0 hsw hf0 hs) fun D σ H ⟨S,στ,_,e,m,ev,_,fin⟩=>zil ⟨S,στ,e,m,ev,by
 show FinL XE X.K S (yU ga bd cond f tgs caps στ S.M) _
 replace fin:Fin XE (FlR X.K) X.K S (((yU ga bd cond f tgs caps στ S.M).bind fun xs M1=>.ok (T.lst xs) M1).bind fun t M1=>.ok (.nx (στ.set i0 (some t))) M1) (z3 D):=fin
 cases q:yU ga bd cond f tgs caps στ S.M with
 | bad=>rw [q] at fin;exact fin
 | exn C fs M'=>rw [q] at fin;exact fin
 | ok xs M1=>
  rw [q] at fin
  intro S1 p vs e1 s1 hn hp hv r
  exact fin (S1.show S.hid) (.nx (σ.set i0 (some (.ref p)))) e1 s1.show (.nx ((Mo.mo (K:=X.K) m s1.show ev).set (zgw s1 hn m hp hv r) i0))⟩
theorem znu:PTs X [] (lT XE X.K qH):=fun pins s σ H Q I h=>zmL pins s σ H Q I (zhn h)
theorem znt {c:Expr} {tf:Ev->Mem->Out Bool} (h:GT X XE c tf):PTs X [c] (lT XE X.K tf):=zmK h
end
def LNL {A AV:Type} (XE:XK) (K:Frag) (RA:Sit->A->AV->Prop) (k:A->Ev->Mem->Out (List T)) (av:AV) (σ:L2.St) (H:Hp) (Q:VK):Prop:=
 ∃ (S:Sit) (στ:Ev) (a:A),S.H = H/\MemOk K S/\EvR K S στ σ/\RA S a av/\FinL XE K S (k a στ S.M) Q
theorem LNL.bind {K:Frag} {XE:XK} {A AV B BV:Type} {RA:Sit->A->AV->Prop} {RB:Sit->B->BV->Prop} [Mo K RA] {f:A->Ev->Mem->Out B} {k:A->B->Ev->Mem->Out (List T)} {av:AV} {σ:L2.St} {H:Hp} {Q:VK}
  (h:LNL XE K RA (fun a σ M=>(f a σ M).bind fun b M1=>k a b σ M1) av σ H Q):LN XE RB K RA f av σ H (fun bv H1=>LNL XE K (PrR RA RB) (fun ab=>k ab.1 ab.2) (av,bv) σ H1 Q):=by
 obtain ⟨S,στ,a,e,m,ev,ra,fin⟩:=h
 refine ⟨S,στ,a,e,m,ev,ra,?_⟩
 replace fin:FinL XE K S ((f a στ S.M).bind fun b M1=>k a b στ M1) Q:=fin
 cases q:f a στ S.M with
 | bad=>rw [q] at fin;exact fin
 | exn C fs M'=>rw [q] at fin;exact fin
 | ok b M1=>
  rw [q] at fin
  intro S1 c e1 s1 r1
  refine ⟨S1,στ,(a,b),rfl,s1.mok,Mo.mo m s1 ev,⟨Mo.mo m s1 ra,r1⟩,?_⟩
  rw [e1]
  exact fin.later s1
def L0L {A AV:Type} (XE:XK) (K:Frag) (RA:Sit->A->AV->Prop) (k:A->Mem->Out (List T)) (av:AV) (H:Hp) (Q:VK):Prop:=∃ (S:Sit) (a:A),S.H = H/\MemOk K S/\RA S a av/\FinL XE K S (k a S.M) Q
noncomputable def zlR (XE:XK) (K:Frag) (o:List T->Mem->Out (List T)):List V->Hp->VK->Prop:=fun xs H Q=>L0L XE K (Reps K) o xs H Q
noncomputable def lOp (o:T->T->Mem->Out (List T)) (f g:Ev->Mem->Out T):Ev->Mem->Out (List T):=fun σ M=>(f σ M).bind fun x M1=>(g σ M1).bind fun y M2=>o x y M2
noncomputable def zj2 (F:List T->Mem->Out (List T)) (g:Ev->Mem->Out (List T)):Ev->Mem->Out (List T):=fun σ M=>(g σ M).bind fun ts M1=>F ts M1
theorem zlL {XE:XK} {K:Frag} {S:Sit} {xs:List T} {vs:List V} {Q:VK} (m:MemOk K S) (fin:FinL XE K S (.ok xs S.M) Q) (r:Reps K S xs vs):∀ p,S.H p = none->Q (.ref p) (upd S.H p (.lst vs)):=fun p hp=>
 fin (S.hide p vs) p vs rfl (Stp.hide m hp vs) hp (.head _) qA (r.grow m (Stp.hide m hp vs).toGrow)
section
variable {X:Cx} {XE:XK} {a b e:Expr} {es:List Expr} {f g:Ev->Mem->Out T} {pos p:Pos} {ga:Ev->Mem->Out (List T)} {x:Str}
theorem zkW {id:String} {F:List T->Mem->Out (List T)} (hc:CallR X (.type id) (zlR XE X.K F)) (hg:Gl X x) (hm:X.mg x = none) (hv:bootBuiltins x = some (.type id)) (ha:GA X XE (e :: es) ga) (hn:x ≠ "__name__":=by decide) (hdb:(x == ("__debug__":Str)) = false:=by decide)
  (he:noStar e = true:=by rfl) (hpl:es.all noStar = true:=by rfl) :
  GL X XE (.Call (.Name x p) (e :: es) [] pos) (zj2 F ga):=PE.imp (zgS hc hg hm hv ha hn hdb (zaj he) (zcM hpl)) fun σ H Q ⟨S,στ,e,m,ev,fin⟩=>
 LN.mono (LNL.bind (f:=fun (_:Unit) σ M=>ga σ M) (k:=fun _ ts σ M1=>F ts M1) (RA:=UnR) (RB:=Reps X.K) ⟨S,στ,(),e,m,ev,trivial,fin⟩) fun vs H1 ⟨S,στ,a,e,m,ev,ra,fin⟩=>⟨S,a.2,e,m,ra.2,fin⟩
end
noncomputable def zao (k:Int->Int->Mem->Out T) (x y:T) (M:Mem):Out T:=match x,y with
 | .int i,.int j=>k i j M
 | _,_=>.bad
def Mo64 (i j:Int):Prop:=(i.natAbs < 10 ^ 3000/\j.natAbs < 10 ^ 3000)\/(-(2 ^ 64) < i/\i < 2 ^ 64)\/(-(2 ^ 64) < j/\j < 2 ^ 64)
instance (i j:Int):Decidable (Mo64 i j):=inferInstanceAs (Decidable (_\/_))
theorem Mo64.ok {i j:Int} (h:Mo64 i j):CMulB i j:=by
 rcases h with h | h
 ·exact .inl ⟨3000,3000,h.1,h.2,Nat.le_refl _,Nat.le_refl _⟩
 ·exact .inr h
noncomputable def zds:T->T->Mem->Out T:=zao fun i j M=>.ok (.int (i + j)) M
noncomputable def zbw:T->T->Mem->Out T:=zao fun i j M=>.ok (.int (i - j)) M
noncomputable def zhX:T->T->Mem->Out T:=zao fun i j M=>if Mo64 i j then .ok (.int (i * j)) M else .bad
noncomputable def zcs:T->T->Mem->Out T:=zao fun i j M=>if j ≠ 0/\j.natAbs < 10 ^ 2000 then .ok (.int (i.fdiv j)) M else .bad
noncomputable def zbz:T->T->Mem->Out T:=zao fun i j M=>if j ≠ 0 then .ok (.int (i.fmod j)) M else .bad
noncomputable def zgj:T->T->Mem->Out T:=zao fun i j M=>if 0<=j/\j<=1000000/\i.natAbs < 2 ^ 64 then .ok (.int (i ^ j.toNat)) M else .bad
noncomputable def ltI:T->T->Mem->Out T:=zao fun i j M=>.ok (.bl (decide (i < j))) M
noncomputable def leI:T->T->Mem->Out T:=zao fun i j M=>.ok (.bl (decide (i<=j))) M
noncomputable def gtI:T->T->Mem->Out T:=zao fun i j M=>.ok (.bl (decide (j < i))) M
noncomputable def geI:T->T->Mem->Out T:=zao fun i j M=>.ok (.bl (decide (j<=i))) M
noncomputable def zqW:T->Mem->Out T:=fun x M=>match x with
 | .int i=>.ok (.int (-i)) M
 | _=>.bad
section
variable {X:Cx} {XE:XK}
theorem zi3 {K:Frag} {S:Sit} {i:Int} {v:V} (r:Rep K S (.int i) v):v = .int i:=by cases r;rfl
theorem zbC {fn:Value->Value->Sem Value} {r:R2} {k:Int->Int->Mem->Out T} (ho:OpR X fn r)
  (h:∀ i j S Q,MemOk X.K S->Fin XE (Rep X.K) X.K S (k i j S.M) Q->r (.int i) (.int j) S.H Q):OpR X fn (lR2 XE X.K (zao k)):=by
 intro pins s σ H x y v u Q I rx ry ⟨S,⟨tx,ty⟩,e,m,⟨r1,r2⟩,fin⟩
 replace fin:Fin XE (Rep X.K) X.K S (zao k tx ty S.M) Q:=fin
 unfold zao at fin
 split at fin
 ·have e1:=zi3 r1
  have e2:=zi3 r2
  dsimp only at e1 e2
  subst e1;subst e2;subst e
  exact ho pins s σ S.H _ _ v u Q I rx ry (h _ _ S Q m fin)
 ·exact fin.elim
theorem yY:OpR X (binaryOp .Sub) (lR2 XE X.K zbw):=zbC zov fun i j S Q m fin=>⟨i,j,rfl,rfl,fin S _ rfl (.refl m) (.int _)⟩
theorem zdA:OpR X (binaryOp .FloorDiv) (lR2 XE X.K zcs):=zbC zlG fun i j S Q m fin=>by
 by_cases h:j ≠ 0/\j.natAbs < 10 ^ 2000
 ·rw [if_pos h] at fin
  exact ⟨i,j,rfl,rfl,⟨h.1,2000,h.2,Nat.le_refl _⟩,fin S _ rfl (.refl m) (.int _)⟩
 ·rw [if_neg h] at fin;exact fin.elim
theorem za4:OpR X (binaryOp .Mod) (lR2 XE X.K zbz):=zbC zm2 fun i j S Q m fin=>by
 by_cases h:j ≠ 0
 ·rw [if_pos h] at fin
  exact ⟨i,j,rfl,rfl,h,fin S _ rfl (.refl m) (.int _)⟩
 ·rw [if_neg h] at fin;exact fin.elim
theorem zeI:OpR X (binaryOp .Pow) (lR2 XE X.K zgj):=zbC zow fun i j S Q m fin=>by
 by_cases h:0<=j/\j<=1000000/\i.natAbs < 2 ^ 64
 ·rw [if_pos h] at fin
  exact ⟨i,j,rfl,rfl,h,fin S _ rfl (.refl m) (.int _)⟩
 ·rw [if_neg h] at fin;exact fin.elim
theorem zcU:OpR X (compareOp .Lt) (lR2 XE X.K ltI):=zbC zp7 fun i j S Q m fin=>⟨i,j,rfl,rfl,fin S _ rfl (.refl m) (.bl _)⟩
theorem zkE:OpR X (compareOp .LtE) (lR2 XE X.K leI):=zbC zp8 fun i j S Q m fin=>⟨i,j,rfl,rfl,fin S _ rfl (.refl m) (.bl _)⟩
theorem zej:OpR X (compareOp .Gt) (lR2 XE X.K gtI):=zbC zp9 fun i j S Q m fin=>⟨i,j,rfl,rfl,fin S _ rfl (.refl m) (.bl _)⟩
theorem zoA:OpR X (compareOp .GtE) (lR2 XE X.K geI):=zbC zqa fun i j S Q m fin=>⟨i,j,rfl,rfl,fin S _ rfl (.refl m) (.bl _)⟩
noncomputable def isB:T->T->Mem->Out T:=fun x y M=>match x,y with
 | .bl a,.bl b=>.ok (.bl (a == b)) M
 | _,_=>.bad
noncomputable def zqg:T->T->Mem->Out T:=fun x y M=>match x,y with
 | .bl a,.bl b=>.ok (.bl (a != b)) M
 | _,_=>.bad
noncomputable def zlI:T->Bool
 | .non=>true
 | _=>false
noncomputable def isN:T->T->Mem->Out T:=fun x y M=>match y with
 | .non=>.ok (.bl (zlI x)) M
 | _=>.bad
noncomputable def zbu:T->T->Mem->Out T:=fun x y M=>match y with
 | .non=>.ok (.bl (!zlI x)) M
 | _=>.bad
theorem zhV {K:Frag} {S:Sit} {t:T} {v:V} (r:Rep K S t v):decide (v = .non) = zlI t:=by
 cases r <;> first | rfl | exact decide_eq_false (by intro z;cases z)
theorem zgl:OpR X (compareOp .Is) (lR2 XE X.K isN):=by
 intro pins s σ H x y v u Q I rx ry ⟨S,⟨tx,ty⟩,e,m,⟨r1,r2⟩,fin⟩
 replace fin:Fin XE (Rep X.K) X.K S (isN tx ty S.M) Q:=fin
 unfold isN at fin
 split at fin
 ·cases r2;subst e
  exact zox pins s σ S.H _ _ v u Q I rx ry ⟨rfl,by rw [zhV r1];exact fin S _ rfl (.refl m) (.bl _)⟩
 ·exact fin.elim
theorem zei:OpR X (compareOp .IsNot) (lR2 XE X.K zbu):=by
 intro pins s σ H x y v u Q I rx ry ⟨S,⟨tx,ty⟩,e,m,⟨r1,r2⟩,fin⟩
 replace fin:Fin XE (Rep X.K) X.K S (zbu tx ty S.M) Q:=fin
 unfold zbu at fin
 split at fin
 ·cases r2;subst e
  exact zm0 pins s σ S.H _ _ v u Q I rx ry ⟨rfl,by rw [zhV r1];exact fin S _ rfl (.refl m) (.bl _)⟩
 ·exact fin.elim
noncomputable def zj5 (M:Mem):T->T->Option T
 | .tup xs,.int i=>atI xs i
 | .lst xs,.int i=>atI xs i
 | .ref a,.int i=>match M[a]? with
  | some (.lst xs)=>atI xs i
  | _=>none
 | _,_=>none
noncomputable def zfn (o:Option T) (M:Mem):Out T:=match o with
 | some t=>.ok t M
 | none=>.bad
noncomputable def ixT:T->T->Mem->Out T:=fun x y M=>zfn (zj5 M x y) M
theorem Reps.atI {K:Frag} {S:Sit} {ts:List T} {vs:List V} (r:Reps K S ts vs) {i:Int} {t:T} (e:L2.atI ts i = some t):∃ v,L2.atI vs i = some v/\Rep K S t v:=by
 unfold L2.atI at e ⊢
 rw [← r.1]
 cases q:ixN ts.length i with
 | none=>rw [q] at e;cases e
 | some j=>
  rw [q] at e
  obtain ⟨v,e2,r2⟩:=r.get (show ts[j]? = some t from e)
  exact ⟨v,e2,r2⟩
theorem znG {K:Frag} {S:Sit} {tx ty t:T} {x y:V} (m:MemOk K S) (r1:Rep K S tx x) (r2:Rep K S ty y) (e:zj5 S.M tx ty = some t) :
  ∃ p vs i v,x = .ref p/\y = .int i/\(SqL K S.H p vs\/SqT K S.H p vs)/\L2.atI vs i = some v/\Rep K S t v:=by
 unfold zj5 at e
 split at e
 ·cases r2
  cases r1 with
  | @tup _ p vs h l r=>
   obtain ⟨v,e2,r3⟩:=Reps.atI ⟨l,r⟩ e
   exact ⟨p,vs,_,v,rfl,rfl,.inr h,e2,r3⟩
 ·cases r2
  cases r1 with
  | @lst _ p vs h l r=>
   obtain ⟨v,e2,r3⟩:=Reps.atI ⟨l,r⟩ e
   exact ⟨p,vs,_,v,rfl,rfl,.inl (zcV h),e2,r3⟩
 ·split at e
  ·rename_i q
   cases r2
   cases r1 with
   | ref h=>
    obtain ⟨vs,q2,r⟩:=m.cell _ _ q
    obtain ⟨v,e2,r3⟩:=Reps.atI r e
    exact ⟨_,vs,_,v,rfl,rfl,.inl (.inl (.inl q2)),e2,r3⟩
  ·cases e
 ·cases e
theorem zeH {K:Frag} {S:Sit} {o:Option T} {Q:VK} (fin:Fin XE (Rep K) K S (zfn o S.M) Q):∃ t,o = some t/\Fin XE (Rep K) K S (.ok t S.M) Q:=by
 unfold zfn at fin
 split at fin
 ·exact ⟨_,rfl,fin⟩
 ·exact fin.elim
theorem qg:IxR X (lR2 XE X.K ixT):=by
 intro va sl pins s σ H x y v u Q I rx ry ⟨S,⟨tx,ty⟩,e,m,⟨r1,r2⟩,fin⟩ hs
 obtain ⟨t,et,fin⟩:=zeH (show Fin XE (Rep X.K) X.K S (zfn (zj5 S.M tx ty) S.M) Q from fin)
 obtain ⟨p,vs,i,w,e1,e2,hq,ea,r3⟩:=znG m r1 r2 et
 dsimp only at e1 e2
 subst e1;subst e2;subst e
 refine zoW va sl pins s σ S.H _ _ v u Q I rx ry ?_ hs
 rcases hq with hq | hq
 ·exact .inl ⟨p,vs,i,w,rfl,rfl,hq,ea,fin S w rfl (.refl m) r3⟩
 ·exact .inr (.inl ⟨p,vs,i,w,rfl,rfl,hq,ea,fin S w rfl (.refl m) r3⟩)
noncomputable def yC (k:T->Mem->Out T) (ts:List T) (M:Mem):Out T:=match ts with
 | [t]=>k t M
 | _=>.bad
noncomputable def call2 (k:T->T->Mem->Out T) (ts:List T) (M:Mem):Out T:=match ts with
 | [t,u]=>k t u M
 | _=>.bad
theorem zfw {F:Value} {k:T->Mem->Out T} (h:∀ (pins:List (Addr × Obj)) (s:Shared) (σ:L2.St) (S:Sit) (t:T) (x:V) (v:Value) (Q:VK),Inv X pins σ S.H s->RelV x v->MemOk X.K S->Rep X.K S t x->Fin XE (Rep X.K) X.K S (k t S.M) Q->wpAny (model X.prog X.w) X.A (call F [v]) (EP X pins σ Q) X.xe s):CallR X F (lRN XE X.K (yC k)):=by
 intro pins s σ H xs us Q I r ⟨S,ts,e,m,rs,fin⟩
 subst e
 replace fin:Fin XE (Rep X.K) X.K S (yC k ts S.M) Q:=fin
 unfold yC at fin
 split at fin
 ·obtain ⟨v,vs,rfl,r1,r2⟩:=rs.consT
  rw [r2.nilT] at r
  obtain ⟨u,rfl,rx⟩:=vals1 r
  exact h pins s σ S _ v u Q I rx m r1 fin
 ·exact fin.elim
theorem zfv {F:Value} {k:T->T->Mem->Out T} (h:∀ (pins:List (Addr × Obj)) (s:Shared) (σ:L2.St) (S:Sit) (t1 t2:T) (x1 x2:V) (v1 v2:Value) (Q:VK),Inv X pins σ S.H s->RelV x1 v1->RelV x2 v2->MemOk X.K S->Rep X.K S t1 x1->Rep X.K S t2 x2->Fin XE (Rep X.K) X.K S (k t1 t2 S.M) Q->wpAny (model X.prog X.w) X.A (call F [v1,v2]) (EP X pins σ Q) X.xe s):CallR X F (lRN XE X.K (call2 k)):=by
 intro pins s σ H xs us Q I r ⟨S,ts,e,m,rs,fin⟩
 subst e
 replace fin:Fin XE (Rep X.K) X.K S (call2 k ts S.M) Q:=fin
 unfold call2 at fin
 split at fin
 ·obtain ⟨v,vs,rfl,r1,r2⟩:=rs.consT
  obtain ⟨v2,vs2,rfl,r3,r4⟩:=r2.consT
  rw [r4.nilT] at r
  obtain ⟨u,w,rfl,rx,ry⟩:=vals2 r
  exact h pins s σ S _ _ v v2 u w Q I rx ry m r1 r3 fin
 ·exact fin.elim
noncomputable def qC:T->Mem->Out T:=fun t M=>match t with
 | .str z=>if z.length<=sizeLine then .ok (.int z.length) M else .bad
 | t=>match qZ t M with
  | some xs=>.ok (.int xs.length) M
  | none=>.bad
theorem yB:CallR X (.builtin "len") (lRN XE X.K (yC qC)):=zfw fun pins s σ S t x v Q I rx m r fin=>by
 unfold qC at fin
 split at fin
 ·cases r
  split at fin
  ·rename_i hz
   exact ziq pins s σ S.H _ _ Q I (.cons rx .nil) ⟨_,rfl,hz,fin S _ rfl (.refl m) (.int _)⟩
  ·exact fin.elim
 ·split at fin
  ·rename_i xs q
   obtain ⟨p,vs,rfl,hq,rs⟩:=zcc m r q
   exact zir pins s σ S.H _ _ Q I (.cons rx .nil) ⟨p,vs,rfl,hq,by rw [← rs.1];exact fin S _ rfl (.refl m) (.int _)⟩
  ·exact fin.elim
noncomputable def zgp:T->T->Mem->Out T:=zao fun i j M=>.ok (.int (if j > i then j else i)) M
noncomputable def zgn:T->T->Mem->Out T:=zao fun i j M=>.ok (.int (if j < i then j else i)) M
theorem zey (hc:X.calm = true):CallR X (.builtin "max") (lRN XE X.K (call2 zgp)):=zfv fun pins s σ S t1 t2 x1 x2 v1 v2 Q I rx ry m r1 r2 fin=>by
 unfold zgp zao at fin
 split at fin
 ·cases r1;cases r2
  exact zle hc pins s σ S.H _ _ Q I (.cons rx (.cons ry .nil)) ⟨_,_,rfl,fin S _ rfl (.refl m) (.int _)⟩
 ·exact fin.elim
theorem zg8 (hc:X.calm = true):CallR X (.builtin "min") (lRN XE X.K (call2 zgn)):=zfv fun pins s σ S t1 t2 x1 x2 v1 v2 Q I rx ry m r1 r2 fin=>by
 unfold zgn zao at fin
 split at fin
 ·cases r1;cases r2
  exact zld hc pins s σ S.H _ _ Q I (.cons rx (.cons ry .nil)) ⟨_,_,rfl,fin S _ rfl (.refl m) (.int _)⟩
 ·exact fin.elim
noncomputable def zaf:T->Mem->Out T:=fun t M=>match qZ t M with
 | some xs=>.ok (.tup xs) M
 | none=>.bad
theorem zaE:CallR X (.type "tuple") (lRN XE X.K (yC zaf)):=zfw fun pins s σ S t x v Q I rx m r fin=>by
 unfold zaf at fin
 split at fin
 ·rename_i xs q
  obtain ⟨p,vs,rfl,hq,rs⟩:=zcc m r q
  refine zhj pins s σ S.H _ _ Q I (.cons rx .nil) ⟨p,vs,rfl,?_⟩
  rcases hq with hq | hq
  ·refine .inl ⟨hq,fun l hl=>?_⟩
   have s2:=Stp.new m hl (.tup vs)
   exact fin ⟨S.α,S.M,upd S.H l (.tup vs),S.hid⟩ (.ref l) rfl s2 (.tup (.inl (.inl qA)) rs.1 (rs.grow m s2.toGrow).2)
  ·exact .inr ⟨hq,fin S _ rfl (.refl m) (.tup hq rs.1 rs.2)⟩
 ·exact fin.elim
noncomputable def zeK:List T->Mem->Out (List T):=fun ts M=>match ts with
 | [t]=>match qZ t M with
  | some xs=>.ok xs M
  | none=>.bad
 | _=>.bad
theorem zkc:CallR X (.type "list") (zlR XE X.K zeK):=by
 intro pins s σ H xs us Q I r ⟨S,ts,e,m,rs,fin⟩
 subst e
 replace fin:FinL XE X.K S (zeK ts S.M) Q:=fin
 unfold zeK at fin
 split at fin
 ·split at fin
  ·rename_i t ys q
   obtain ⟨v,vs,rfl,r1,r2⟩:=rs.consT
   rw [r2.nilT] at r
   obtain ⟨p,ws,rfl,hq,rs2⟩:=zcc m r1 q
   exact zio pins s σ S.H _ us Q I r ⟨p,ws,rfl,hq,zlL m fin rs2⟩
  ·exact fin.elim
 ·exact fin.elim
noncomputable def qV (x:T) (ts:List T) (M:Mem):Out T:=match x,ts with
 | .ref a,[t]=>match M[a]? with
  | some (.lst xs)=>if xs.length < sizeLine then .ok .non (M.set a (.lst (xs ++ [t]))) else .bad
  | _=>.bad
 | _,_=>.bad
noncomputable def zdG (o i t:T) (M:Mem):Out Unit:=match o,i with
 | .ref a,.int k=>match M[a]? with
  | some (.lst xs)=>match ixN xs.length k with
   | some j=>.ok () (M.set a (.lst (xs.set j t)))
   | none=>.bad
  | _=>.bad
 | _,_=>.bad
theorem zeG {K:Frag} {S:Sit} (m:MemOk K S) {a:Nat} {c:Cell} (e:S.M[a]? = some c) {ts:List T} {vs:List V} (r:Reps K S ts vs):Stp K S (S.put a (.lst vs) (.lst ts)):=by
 have ha:a < S.M.length:=(List.getElem?_eq_some_iff.mp e).1
 exact Stp.put m ha _ _ ⟨vs,qA,r.grow m (Grow.put m ha _ _)⟩
theorem zfF:zd2 X (zgs XE X.K zdG):=by
 intro pins s σ H o i v ov iv u Q I ro ri rv ⟨S,⟨⟨to,ti⟩,tv⟩,e,m,⟨⟨r1,r2⟩,r3⟩,fin⟩
 subst e
 replace fin:Fin XE UnR X.K S (zdG to ti tv S.M) (fun _ H'=>Q H'):=fin
 unfold zdG at fin
 split at fin
 ·split at fin
  ·rename_i a k _ xs q
   split at fin
   ·rename_i j qj
    cases r1
    cases r2
    obtain ⟨vs,q2,rs⟩:=m.cell _ _ q
    refine set_list pins s σ S.H _ _ v ov iv u Q I ro ri rv ⟨S.α a,vs,k,j,rfl,rfl,q2,by rw [← rs.1];exact qj,?_⟩
    exact fin (S.put a (.lst (vs.set j v)) (.lst (xs.set j tv))) () rfl (zeG m q (rs.set r3 j)) trivial
   ·exact fin.elim
  ·exact fin.elim
 ·exact fin.elim
theorem zph {o i:Expr} {f g:Ev->Mem->Out T} {pos:Pos} {st:T->T->T->Mem->Out Unit} (ho:GE X XE o f) (hi:GE X XE i g) (hs:zd2 X (zgs XE X.K st))
  (ha:∀ v,assign (.Subscript o i pos) X.env v = (do
   let ov ← holding [v] (eval o X.env)
   let iv ← holding [v,ov] (eval i X.env)
   standAt pos
   holding [v,ov,iv] (setItem ov iv v)
   release [v,ov,iv] []):=by intro _;rfl):GG X XE (.Subscript o i pos) (ziu st f g):=PG.imp (zok ho hi hs ha) fun v σ H Q hh=>by
 have h1:LN XE (EvR X.K) X.K (Rep X.K) (fun t σ M=>(f σ M).bind fun o M1=>(g σ M1).bind fun i M2=>(st o i t M2).bind fun _ M3=>.ok σ M3) v σ H Q:=hh
 refine LN.mono (LN.env (f:=f) (LN.bind (f:=fun _ σ M=>f σ M) (k:=fun t o σ M1=>(g σ M1).bind fun i M2=>(st o i t M2).bind fun _ M3=>.ok σ M3) (RB:=Rep X.K) h1)) fun ov H1 h2=>?_
 refine LN.mono (LN.env (f:=g) (LN.bind (f:=fun _ σ M=>g σ M) (k:=fun (to:T × T) i σ M2=>(st to.2 i to.1 M2).bind fun _ M3=>.ok σ M3) (RB:=Rep X.K) h2)) fun iv H2 h3=>?_
 obtain ⟨S,στ,a,e,m,ev,ra,fin⟩:=h3
 refine ⟨S,((a.1.2,a.2),a.1.1),e,m,⟨⟨ra.1.2,ra.2⟩,ra.1.1⟩,?_⟩
 show Fin XE UnR X.K S (st a.1.2 a.2 a.1.1 S.M) _
 replace fin:Fin XE (EvR X.K) X.K S ((st a.1.2 a.2 a.1.1 S.M).bind fun _ M3=>.ok στ M3) Q:=fin
 cases o:st a.1.2 a.2 a.1.1 S.M with
 | bad=>rw [o] at fin;exact fin
 | exn C fs M'=>rw [o] at fin;exact fin
 | ok b M1=>
  rw [o] at fin
  intro S1 c e1 s1 _
  exact fin S1 σ e1 s1 (Mo.mo m s1 ev)
noncomputable def yG (x:T) (M:Mem):Out T:=match yz x M with
 | some _=>.ok x M
 | none=>.bad
noncomputable def z7 (F:T->List T->Mem->Out T) (f:Ev->Mem->Out T) (g:Ev->Mem->Out (List T)):Ev->Mem->Out T:=fun σ M=>(f σ M).bind fun x M1=>(g σ M1).bind fun ts M2=>F x ts M2
theorem ge_app {o e:Expr} {f:Ev->Mem->Out T} {ga:Ev->Mem->Out (List T)} {apos cpos:Pos} (h:PE X (.Call (.Attribute o "append" apos) [e] [] cpos) (tBM X.K "list" zgi (lE XE X.K f) (lA XE X.K ga))):GE X XE (.Call (.Attribute o "append" apos) [e] [] cpos) (z7 qV (eUn yG f) ga):=PE.imp h fun σ H Q hh=>by
 obtain ⟨S,στ,_,e0,m,ev,_,fin⟩:=hh
 replace fin:Fin XE (Rep X.K) X.K S (((f στ S.M).bind fun x M1=>yG x M1).bind fun x M1=>(ga στ M1).bind fun ts M2=>qV x ts M2) Q:=fin
 refine ⟨S,στ,(),e0,m,ev,trivial,?_⟩
 show Fin XE (Rep X.K) X.K S (f στ S.M) _
 cases o1:f στ S.M with
 | bad=>rw [o1] at fin;exact fin
 | exn C fs M'=>rw [o1] at fin;exact fin
 | ok x M1=>
  rw [o1] at fin
  intro S1 v e1 s1 r1
  replace fin:Fin XE (Rep X.K) X.K S ((yG x M1).bind fun x M1=>(ga στ M1).bind fun ts M2=>qV x ts M2) Q:=fin
  unfold yG at fin
  cases q:yz x M1 with
  | none=>rw [q] at fin;exact fin.elim
  | some xs=>
   rw [q] at fin
   replace fin:Fin XE (Rep X.K) X.K S ((ga στ M1).bind fun ts M2=>qV x ts M2) Q:=fin
   obtain ⟨p,vs,rfl,hq,_⟩:=zI s1.mok r1 (by rw [e1];exact q)
   refine ⟨.inl ⟨rfl,vs,hq⟩,S1,στ,(),rfl,s1.mok,Mo.mo m s1 ev,trivial,?_⟩
   show Fin XE (Reps X.K) X.K S1 (ga στ S1.M) _
   rw [e1]
   cases o2:ga στ M1 with
   | bad=>rw [o2] at fin;exact fin
   | exn C fs M'=>rw [o2] at fin;exact Fin.later s1 fin
   | ok ts M2=>
    rw [o2] at fin
    intro S2 ws e2 s2 r2
    replace fin:Fin XE (Rep X.K) X.K S (qV x ts M2) Q:=fin
    have fin2:=Fin.later (s1.trans s2) fin
    unfold qV at fin2
    split at fin2
    ·split at fin2
     ·rename_i a t _ ys qy
      split at fin2
      ·rename_i hz
       obtain ⟨w,ws',rfl,r3,r4⟩:=r2.consT
       rw [r4.nilT]
       have r1':=r1.grow s1.mok s2.toGrow
       cases r1' with
       | ref ha2=>
       obtain ⟨us,q3,rs⟩:=s2.mok.cell a _ (by rw [e2];exact qy)
       refine ⟨S2.α a,us,w,rfl,rfl,q3,by rw [← rs.1];exact hz,?_⟩
       exact fin2 (S2.put a (.lst (us ++ [w])) (.lst (ys ++ [t]))) .non (by show S2.M.set a _ = _;rw [e2]) (zeG s2.mok (by rw [e2];exact qy) (rs.app (.cons r3 .nil))) .non
      ·exact fin2.elim
     ·exact fin2.elim
    ·exact fin2.elim
end
noncomputable def zb2 (xs:List T) (lo hi:Option Int):List T:=(xs.drop (HT.sIx xs.length 0 lo)).take (HT.sIx xs.length xs.length hi - HT.sIx xs.length 0 lo)
theorem Reps.cutV {K:Frag} {S:Sit} {ts:List T} {vs:List V} (r:Reps K S ts vs) (lo hi:Option Int):Reps K S (zb2 ts lo hi) (L2.cutV vs lo hi):=by
 unfold zb2 L2.cutV
 rw [← r.1]
 exact r.sub _ _
theorem zj9 {xs:List T} {lo hi:Option Int} (h:HT.sIx xs.length 0 lo = 0/\HT.sIx xs.length xs.length hi = xs.length):zb2 xs lo hi = xs:=by
 unfold zb2
 rw [h.1,h.2]
 simp
theorem zgm {XE:XK} {K:Frag} {S:Sit} {xs:List T} {vs:List V} {Q:VK} (m:MemOk K S) (fin:Fin XE (Rep K) K S (.ok (.tup xs) S.M) Q) (r:Reps K S xs vs):∀ p,S.H p = none->Q (.ref p) (upd S.H p (.tup vs)):=fun p hp=>by
 have s2:=Stp.new m hp (.tup vs)
 exact fin ⟨S.α,S.M,upd S.H p (.tup vs),S.hid⟩ (.ref p) rfl s2 (.tup (.inl (.inl qA)) r.1 (r.grow m s2.toGrow).2)
theorem zi8 {XE:XK} {K:Frag} {S:Sit} {xs:List T} {vs:List V} {Q:VK} (m:MemOk K S) (fin:Fin XE (Rep K) K S (.ok (.lst xs) S.M) Q) (r:Reps K S xs vs):∀ p,S.H p = none->Q (.ref p) (upd S.H p (.lst vs)):=fun p hp=>by
 have s2:=Stp.new m hp (.lst vs)
 exact fin ⟨S.α,S.M,upd S.H p (.lst vs),S.hid⟩ (.ref p) rfl s2 (.lst (.inl ⟨.inl qA,m.off_none hp⟩) r.1 (r.grow m s2.toGrow).2)
noncomputable def zJ:T->T->Mem->Out T:=fun x y M=>match x,y with
 | .int i,.int j=>.ok (.int (i + j)) M
 | .str a,.str b=>if a.length + b.length<=sizeLine then .ok (.str (a ++ b)) M else .bad
 | .tup xs,.tup ys=>if xs.length + ys.length<=sizeLine then .ok (.tup (xs ++ ys)) M else .bad
 | x,y=>match yz x M,yz y M with
  | some xs,some ys=>if xs.length + ys.length<=sizeLine then .ok (.lst (xs ++ ys)) M else .bad
  | _,_=>.bad
noncomputable def zbd:T->T->Mem->Out T:=fun x y M=>match x,y with
 | .int i,.int j=>if Mo64 i j then .ok (.int (i * j)) M else .bad
 | .tup xs,.int k=>if xs ≠ []/\2<=k/\k < 2 ^ 63/\xs.length * k.toNat<=sizeLine then .ok (.tup (List.replicate k.toNat xs).flatten) M else .bad
 | _,_=>.bad
section
variable {X:Cx} {XE:XK}
theorem zB:OpR X (binaryOp .Add) (lR2 XE X.K zJ):=by
 intro pins s σ H x y v u Q I rx ry ⟨S,⟨tx,ty⟩,e,m,⟨r1,r2⟩,fin⟩
 subst e
 replace fin:Fin XE (Rep X.K) X.K S (zJ tx ty S.M) Q:=fin
 unfold zJ at fin
 split at fin
 ·cases r1;cases r2
  exact zoB pins s σ S.H _ _ v u Q I rx ry ⟨_,_,rfl,rfl,fin S _ rfl (.refl m) (.int _)⟩
 ·cases r1;cases r2
  split at fin
  ·rename_i hz
   exact zjU pins s σ S.H _ _ v u Q I rx ry ⟨_,_,rfl,rfl,hz,fin S _ rfl (.refl m) (.str _)⟩
  ·exact fin.elim
 ·split at fin
  ·rename_i hz
   cases r1 with
   | @tup _ p vs h l r=>
   cases r2 with
   | @tup _ p2 vs2 h2 l2 rr2=>
   have r1:Reps X.K S _ vs:=⟨l,r⟩
   have r2:Reps X.K S _ vs2:=⟨l2,rr2⟩
   refine zm5 pins s σ S.H _ _ v u Q I rx ry ⟨p,p2,vs,vs2,rfl,rfl,h,h2,by rw [← l,← l2];exact hz,fun e=>?_,fun e1 e2=>?_,fun e1 e2=>zgm m fin (r1.app r2)⟩
   ·subst e
    rw [r1.nil_inv,nil_append] at fin
    exact fin S _ rfl (.refl m) (.tup h2 l2 rr2)
   ·subst e2
    rw [r2.nil_inv,append_nil] at fin
    exact fin S _ rfl (.refl m) (.tup h l r)
  ·exact fin.elim
 ·split at fin
  ·rename_i xs ys q1 q2
   split at fin
   ·rename_i hz
    obtain ⟨p,vs,e1,h1,s1⟩:=zI m r1 q1
    obtain ⟨p2,vs2,e2,h2,s2⟩:=zI m r2 q2
    dsimp only at e1 e2
    subst e1;subst e2
    exact zm4 pins s σ S.H _ _ v u Q I rx ry ⟨p,p2,vs,vs2,rfl,rfl,h1,h2,by rw [← s1.1,← s2.1];exact hz,zi8 m fin (s1.app s2)⟩
   ·exact fin.elim
  ·exact fin.elim
theorem Reps.rep {K:Frag} {S:Sit} {ts:List T} {vs:List V} (r:Reps K S ts vs) (n:Nat):Reps K S (List.replicate n ts).flatten (List.replicate n vs).flatten:=by
 induction n with
 | zero=>exact .nil
 | succ n ih=>rw [replicate_succ,replicate_succ,flatten_cons,flatten_cons];exact r.app ih
theorem zcF:OpR X (binaryOp .Mult) (lR2 XE X.K zbd):=by
 intro pins s σ H x y v u Q I rx ry ⟨S,⟨tx,ty⟩,e,m,⟨r1,r2⟩,fin⟩
 subst e
 replace fin:Fin XE (Rep X.K) X.K S (zbd tx ty S.M) Q:=fin
 unfold zbd at fin
 split at fin
 ·cases r1;cases r2
  split at fin
  ·rename_i h
   exact zm1 pins s σ S.H _ _ v u Q I rx ry ⟨_,_,rfl,rfl,h.ok,fin S _ rfl (.refl m) (.int _)⟩
  ·exact fin.elim
 ·split at fin
  ·rename_i h
   cases r2
   cases r1 with
   | @tup _ p vs hq l r=>
   have r1:Reps X.K S _ vs:=⟨l,r⟩
   exact zmZ pins s σ S.H _ _ v u Q I rx ry ⟨p,_,vs,rfl,rfl,hq,fun z=>h.1 (by subst z;exact r1.nil_inv),h.2.1,h.2.2.1,by rw [← l];exact h.2.2.2,zgm m fin (r1.rep _)⟩
  ·exact fin.elim
 ·exact fin.elim
noncomputable def lO (XE:XK) (K:Frag) (f:Ev->Mem->Out (Option Int)):TO:=fun σ H Q=>LN XE EqR K UnR (fun _ σ M=>f σ M) () σ H Q
def GO (X:Cx) (XE:XK) (e:Option Expr) (f:Ev->Mem->Out (Option Int)):Prop:=PO X e (lO XE X.K f)
noncomputable def zfL:Ev->Mem->Out (Option Int):=fun _ M=>.ok none M
noncomputable def zlU (x:T) (M:Mem):Out (Option Int):=match x with
 | .int i=>.ok (some i) M
 | _=>.bad
noncomputable def zdS (f:Ev->Mem->Out T):Ev->Mem->Out (Option Int):=fun σ M=>(f σ M).bind zlU
theorem PO.imp {e:Option Expr} {t t':TO} (h:PO X e t) (i:∀ σ H Q,t' σ H Q->t σ H Q):PO X e t':=fun pins s σ H Q I q=>h pins s σ H Q I (i σ H Q q)
theorem znA:GO X XE none zfL:=PO.imp zmR fun σ H Q h9=>by
 obtain ⟨S,στ,_,e,m,ev,_,fin⟩:=h9
 show Q none H
 rw [← e];exact fin S none rfl (.refl m) rfl
theorem znz {e:Expr} {f:Ev->Mem->Out T} (h:GE X XE e f):GO X XE (some e) (zdS f):=PO.imp (zmQ h) fun σ H Q hh=>
 LN.mono (LN.bind (f:=fun _ σ M=>f σ M) (k:=fun _ x σ M1=>zlU x M1) (RB:=Rep X.K) hh) fun v H1 h9=>by
  obtain ⟨S,στ,a,e,m,ev,ra,fin⟩:=h9
  obtain ⟨u,t⟩:=a
  have r:Rep X.K S t v:=ra.2
  replace fin:Fin XE EqR X.K S (zlU t S.M) Q:=fin
  cases r with
  | int i=>exact ⟨i,rfl,by rw [← e];exact fin S (some i) rfl (.refl m) rfl⟩
  | _=>exact fin.elim
noncomputable def zgE (x:T) (lo hi:Option Int) (M:Mem):Out T:=match x with
 | .tup xs=>.ok (.tup (zb2 xs lo hi)) M
 | x=>match yz x M with
  | some xs=>.ok (.lst (zb2 xs lo hi)) M
  | none=>.bad
noncomputable def eSl (f:Ev->Mem->Out T) (p q:Ev->Mem->Out (Option Int)):Ev->Mem->Out T:=fun σ M=>(f σ M).bind fun x M1=>(p σ M1).bind fun lo M2=>(q σ M2).bind fun hi M3=>zgE x lo hi M3
noncomputable def zq2 (XE:XK) (K:Frag):V->Option Int->Option Int->Hp->VK->Prop:=fun x lo hi H Q=>∃ S t,S.H = H/\MemOk K S/\Rep K S t x/\Fin XE (Rep K) K S (zgE t lo hi S.M) Q
theorem zqP:SlR X (zq2 XE X.K):=by
 intro pins s σ H x v vl vu lo hi sl Q I rx hs pl pu ⟨S,t,e,m,r,fin⟩
 subst e
 unfold zgE at fin
 split at fin
 ·cases r with
  | @tup _ p vs h l r=>
  have r1:Reps X.K S _ vs:=⟨l,r⟩
  refine zmB pins s σ S.H _ v vl vu lo hi sl Q I rx hs pl pu ⟨p,vs,rfl,h,fun w=>?_,fun w=>zgm m fin (r1.cutV lo hi)⟩
  rw [zj9 (by rw [l];exact w)] at fin
  exact fin S _ rfl (.refl m) (.tup h l r)
 ·split at fin
  ·rename_i xs q
   obtain ⟨p,vs,e1,h1,s1⟩:=zI m r q
   subst e1
   exact zmC pins s σ S.H _ v vl vu lo hi sl Q I rx hs pl pu ⟨p,vs,rfl,h1,zi8 m fin (s1.cutV lo hi)⟩
  ·exact fin.elim
theorem zqo {e:Expr} {lo hi:Option Expr} {f:Ev->Mem->Out T} {p q:Ev->Mem->Out (Option Int)} {p2 pos:Pos} (he:GE X XE e f) (hl:GO X XE lo p) (hu:GO X XE hi q):GE X XE (.Subscript e (.Slice lo hi none p2) pos) (eSl f p q):=PE.imp (zlB zqP he hl hu) fun σ H Q hh=>
 LN.mono (LN.bind (f:=fun _ σ M=>f σ M) (k:=fun _ x σ M1=>(p σ M1).bind fun lo M2=>(q σ M2).bind fun hi M3=>zgE x lo hi M3) (RB:=Rep X.K) hh) fun v H1 h1=>
  LN.mono (LN.env (f:=p) (LN.bind (f:=fun _ σ M=>p σ M) (k:=fun (ax:Unit × T) lo σ M2=>(q σ M2).bind fun hi M3=>zgE ax.2 lo hi M3) (RB:=EqR) h1)) fun l H2 h2=>
   LN.mono (LN.env (f:=q) (LN.bind (f:=fun _ σ M=>q σ M) (k:=fun (ax:(Unit × T) × Option Int) hi σ M3=>zgE ax.1.2 ax.2 hi M3) (RB:=EqR) h2)) fun w H3 h9=>by
    obtain ⟨S,στ,a,e,m,ev,ra,fin⟩:=h9
    have e1:a.1.2 = l:=ra.1.2
    have e2:a.2 = w:=ra.2
    exact ⟨S,a.1.1.2,e,m,ra.1.1.2,by rw [← e1,← e2];exact fin⟩
noncomputable def zoP (T U:String):Option Bool:=if (Value.type T == Value.type U) = true then some true else if PySem.W.kitMeta U = true then (PySem.fastBuiltinMro T).map (·.contains (.type U)) else none
noncomputable def tyN (t:T) (M:Mem):Option String:=match t with
 | .non=>some "NoneType" | .bl _=>some "bool" | .int _=>some "int" | .str _=>some "str" | .tup _=>some "tuple" | .lst _=>some "list"
 | .ref a=>match M[a]? with
  | some (.lst _)=>some "list"
  | some (.dic _)=>some "dict"
  | _=>none
 | _=>none
noncomputable def zmn (n U:String):Bool:=n == U || (n == "bool" && U == "int")
noncomputable def zhk:List String:=["NoneType","bool","int","str","tuple","list","dict"]
theorem znn:∀ n ∈ zhk,∀ U ∈ zhk,U ≠ "NoneType"->zoP n U = some (zmn n U):=by decide +kernel
noncomputable def qP:T->T->Mem->Out T:=fun t u M=>match u with
 | .ty U=>match tyN t M with
  | some n=>if U ∈ zhk/\U ≠ "NoneType" then .ok (.bl (zmn n U)) M else .bad
  | none=>.bad
 | _=>.bad
theorem zmw {t:T} {M:Mem} {n:String} (h:tyN t M = some n):n ∈ zhk:=by
 unfold tyN at h
 split at h <;> first | (cases h;decide) | (split at h <;> first | (cases h;decide) | (cases h)) | cases h
theorem zlT {pins:List (Addr × Obj)} {s:Shared} {σ:L2.St} {S:Sit} {t:T} {x:V} {u:Value} {U n:String} {b:Bool} {Q:Value->Shared->Prop} {E:Value->Shared->Prop} (I:L2.Inv X pins σ S.H s) (m:MemOk X.K S) (rx:RelV x u) (r:Rep X.K S t x) (hn:tyN t S.M = some n) (e:zoP n U = some b) (h:∀ tk,Q (.bool b) { s with toks:=tk }) :
  wpAny (model X.prog X.w) X.A (call (.builtin "isinstance") [u,.type U]) Q E s:=by
 have e':PySem.W.kitOne X.K (.type n) (.type U) = some b:=e
 cases r with
 | non=>cases hn;cases (show u = Value.none from rx);exact PySem.W.kia_one PySem.W.kitx_none I.kIn True.intro e' (fun z=>nomatch z) h
 | bl y=>cases hn;cases (show u = Value.bool y from rx);exact PySem.W.kia_one PySem.W.kitx_bool I.kIn True.intro e' (fun z=>nomatch z) h
 | int i=>cases hn;obtain ⟨t,q⟩:=(show ∃ t,u = Value.int i t from rx);cases q;exact PySem.W.kia_one PySem.W.kitx_int I.kIn True.intro e' (fun z=>nomatch z) h
 | str y=>cases hn;obtain ⟨t,q⟩:=(show ∃ t,u = Value.str y t from rx);cases q;exact PySem.W.kia_one PySem.W.kitx_str I.kIn True.intro e' (fun z=>nomatch z) h
 | ty y=>cases hn
 | @tup ts p vs hq l r=>
  cases hn
  cases (show u = Value.ref p from rx)
  obtain ⟨its,_,pl,_⟩:=I.tuple hq
  obtain ⟨o,h1,h2,_⟩:=pl
  exact PySem.W.kia_one PySem.W.kitx_tuple I.kIn ⟨o,h1,h2⟩ e' (fun z=>nomatch z) h
 | @lst ts p vs hq l r=>
  cases hn
  cases (show u = Value.ref p from rx)
  obtain ⟨its,_,pl,_⟩:=I.list (zcV hq)
  obtain ⟨o,h1,h2⟩:=pl.isList
  exact PySem.W.kia_one PySem.W.kitx_list I.kIn ⟨o,h1,h2.1⟩ e' (fun z=>nomatch z) h
 | @ref a ha=>
  cases (show u = Value.ref _ from rx)
  unfold tyN at hn
  dsimp only at hn
  split at hn
  ·rename_i ts q
   cases hn
   obtain ⟨vs,q2,_⟩:=m.cell a _ q
   obtain ⟨_,_,n,_,h1⟩:=(show ObjOk X.prog X.w S.H s.heap (S.α a) (.lst vs) from I.hok _ _ q2)
   exact PySem.W.kia_one PySem.W.kitx_list I.kIn ⟨_,h1,rfl⟩ e' (fun z=>nomatch z) h
  ·rename_i ts q
   cases hn
   obtain ⟨vs,q2,_⟩:=m.cell a _ q
   obtain ⟨_,_,vs2,_,p⟩:=(show ObjOk X.prog X.w S.H s.heap (S.α a) (.dK vs) from I.hok _ _ q2)
   obtain ⟨o,es,ep,h1,h2,_⟩:=p
   exact PySem.W.kia_one PySem.W.kitx_dict I.kIn ⟨o,h1,h2.1⟩ e' (fun z=>nomatch z) h
  ·cases hn
 | dct h l r=>cases hn
 | exc h hd l r=>cases hn
theorem zaT:CallR X (.builtin "isinstance") (lRN XE X.K (call2 qP)):=zfv fun pins s σ S t1 t2 x1 x2 v1 v2 Q I rx ry m r1 r2 fin=>by
 unfold qP at fin
 split at fin
 ·rename_i U
  split at fin
  ·rename_i n hn
   split at fin
   ·rename_i hU
    cases r2
    cases ry
    exact zlT I m rx r1 hn (znn n (zmw hn) U hU.1 hU.2) fun tk=>⟨.bl _,S.H,I.tok tk,rfl,fin S _ rfl (.refl m) (.bl _)⟩
   ·exact fin.elim
  ·exact fin.elim
 ·exact fin.elim
end
noncomputable def zbH:T->Bool
 | .non=>true
 | .bl _=>true
 | .int _=>true
 | .str _=>true
 | _=>false
noncomputable def eqS:T->T->Bool
 | .non,.non=>true
 | .bl a,.bl b=>a == b
 | .bl a,.int b=>(if a then 1 else 0) == b
 | .int a,.bl b=>a == (if b then 1 else 0)
 | .int a,.int b=>a == b
 | .str a,.str b=>a == b
 | _,_=>false
noncomputable def eqL (f:T->T->Option Bool):List T->List T->Option Bool
 | [],[]=>some true
 | [],_ :: _=>some false
 | _ :: _,[]=>some false
 | x :: xs,y :: ys=>match f x y,eqL f xs ys with
  | some a,some b=>some (a && b)
  | _,_=>none
noncomputable def eqD (M:Mem):Nat->T->T->Option Bool
 | d,.tup xs,.tup ys=>match d with
  | 0=>none
  | d + 1=>eqL (eqD M d) xs ys
 | d,x,y=>if (zbH x && zbH y) = true then some (eqS x y) else match d,yz x M,yz y M with
  | d + 1,some xs,some ys=>if xs.length = ys.length then eqL (eqD M d) xs ys else some false
  | _,_,_=>none
noncomputable def eqA:T->T->Mem->Out T:=fun x y M=>match eqD M 20 x y with
 | some b=>.ok (.bl b) M
 | none=>.bad
noncomputable def neA:T->T->Mem->Out T:=fun x y M=>match eqD M 20 x y with
 | some b=>.ok (.bl (!b)) M
 | none=>.bad
theorem zd0 {f:T->T->Option Bool}:∀ {xs ys:List T} {b:Bool},eqL f xs ys = some b->
  ∃ e:Nat->Bool,(∀ j x y,xs[j]? = some x->ys[j]? = some y->f x y = some (e j))/\b = ((List.range (min xs.length ys.length)).all e && xs.length == ys.length)
 | [],[],b,h=>by cases h;exact ⟨fun _=>true,fun j x y e1=>by simp at e1,by simp⟩
 | [],_ :: _,b,h=>by cases h;exact ⟨fun _=>true,fun j x y e1=>by simp at e1,by simp⟩
 | _ :: _,[],b,h=>by cases h;exact ⟨fun _=>true,fun j x y _ e1=>by simp at e1,by simp⟩
 | x :: xs,y :: ys,b,h=>by
  unfold eqL at h
  cases q1:f x y with
  | none=>rw [q1] at h;cases h
  | some a=>
   cases q2:eqL f xs ys with
   | none=>rw [q1,q2] at h;cases h
   | some c=>
    rw [q1,q2] at h
    cases h
    obtain ⟨e,h1,h2⟩:=zd0 q2
    refine ⟨fun j=>match j with | 0=>a | j + 1=>e j,fun j u v e1 e2=>?_,?_⟩
    ·cases j with
     | zero=>simp at e1 e2;subst e1;subst e2;exact q1
     | succ j=>exact h1 j u v (by simpa using e1) (by simpa using e2)
    ·rw [h2]
     have:min (x :: xs).length (y :: ys).length = min xs.length ys.length + 1:=by simp only [length_cons];omega
     rw [this,List.range_succ_eq_map,all_cons,List.all_map]
     simp [Bool.and_assoc,Function.comp_def]
section
variable {X:Cx} {XE:XK} {pins:List (Addr × Obj)} {s:Shared} {σ:L2.St} {S:Sit}
theorem zP {K:Frag} {t:T} {v:V} (r:Rep K S t v) (h:zbH t = true):zap v = true:=by
 cases r <;> first | rfl | (exact absurd (show false = true from h) Bool.false_ne_true)
theorem zeO {K:Frag} {t u:T} {v w:V} (r:Rep K S t v) (q:Rep K S u w) (h:zbH t = true) (h2:zbH u = true):eqS t u = eqV v w:=by
 cases r <;> first | (exact absurd (show false = true from h) Bool.false_ne_true) | (cases q <;> first | rfl | (exact absurd (show false = true from h2) Bool.false_ne_true))
theorem zi0 {K:Frag} {t u:T} {v:V} (r:Rep K S t v) (q:Rep K S u v) (h:zbH t = true) (h2:zbH u = true):eqS t u = true:=by
 rw [zeO r q h h2]
 exact zl9 v (zP r h)
theorem zma (I:L2.Inv X pins σ S.H s) (m:MemOk X.K S):∀ (d:Nat) {t u:T} {v:V} {b:Bool},Rep X.K S t v->Rep X.K S u v->eqD S.M d t u = some b->b = true:=by
 intro d
 induction d with
 | zero=>
  intro t u v b r q h
  unfold eqD at h
  split at h
  ·cases h
  ·split at h
   ·rename_i hs
    rw [Bool.and_eq_true] at hs
    cases h
    exact zi0 r q hs.1 hs.2
   ·cases h
 | succ d ih=>
  have key:∀ {xs ys:List T} {vs:List V} {b:Bool},Reps X.K S xs vs->Reps X.K S ys vs->eqL (eqD S.M d) xs ys = some b->b = true:=by
   intro xs ys vs b r q h
   obtain ⟨e,h1,h2⟩:=zd0 h
   rw [h2,r.1,q.1]
   simp only [Nat.min_self,beq_self_eq_true,Bool.and_true,all_eq_true,mem_range]
   intro j hj
   have hx:j < xs.length:=by rw [r.1];exact hj
   have hy:j < ys.length:=by rw [q.1];exact hj
   have ex:xs[j]? = some xs[j]:=by simp [hx]
   have ey:ys[j]? = some ys[j]:=by simp [hy]
   have ev:vs[j]? = some vs[j]:=by simp [hj]
   exact ih (r.2 j _ _ ex ev) (q.2 j _ _ ey ev) (h1 j _ _ ex ey)
  intro t u v b r q h
  unfold eqD at h
  split at h
  ·cases r with
   | @tup _ p vs h1 l1 r1=>
   cases q with
   | @tup _ _ vs2 h2 l2 r2=>
   have:=I.tuple_inj h1 h2
   subst this
   exact key ⟨l1,r1⟩ ⟨l2,r2⟩ h
  ·split at h
   ·rename_i hs
    rw [Bool.and_eq_true] at hs
    cases h
    exact zi0 r q hs.1 hs.2
   ·split at h
    ·rename_i d' xs ys hd q1 q2
     cases hd
     obtain ⟨p,vs,e1,hq1,s1⟩:=zI m r q1
     obtain ⟨p2,vs2,e2,hq2,s2⟩:=zI m q q2
     rw [e1] at e2
     cases e2
     have:=I.list_inj hq1 hq2
     subst this
     rw [if_pos (by rw [s1.1,s2.1])] at h
     exact key s1 s2 h
    ·cases h
theorem zk4 (I:L2.Inv X pins σ S.H s) (m:MemOk X.K S):∀ (d:Nat) {A:Around} {t u:T} {v w:V} {x y:Value} {b:Bool},A.units + d < cLine->RelV v x->RelV w y->Rep X.K S t v->Rep X.K S u w->eqD S.M d t u = some b->SeqAt.EqAt A s x y b:=by
 intro d
 induction d with
 | zero=>
  intro A t u v w x y b hu rx ry r q h
  unfold eqD at h
  split at h
  ·cases h
  ·split at h
   ·rename_i hs
    rw [Bool.and_eq_true] at hs
    cases h
    rw [zeO r q hs.1 hs.2]
    exact zie rx ry (zP r hs.1) (zP q hs.2)
   ·cases h
 | succ d ih=>
  have key:∀ {A:Around} {xs ys:List T} {vs ws:List V} {us zs:List Value} {b:Bool},A.units + d < cLine->Reps X.K S xs vs->Reps X.K S ys ws->Vals vs us->Vals ws zs->eqL (eqD S.M d) xs ys = some b->
    ∃ e:Nat->Bool,(∀ j (h1:j < us.toArray.size) (h2:j < zs.toArray.size),SeqAt.EqAt A s us.toArray[j] zs.toArray[j] (e j))/\b = ((List.range (min us.toArray.size zs.toArray.size)).all e && us.toArray.size == zs.toArray.size):=by
   intro A xs ys vs ws us zs b hu r q hv hw h
   obtain ⟨e,h1,h2⟩:=zd0 h
   have l1:us.length = xs.length:=by rw [← hv.length,r.1]
   have l2:zs.length = ys.length:=by rw [← hw.length,q.1]
   refine ⟨e,fun j g1 g2=>?_,by rw [h2,size_toArray,size_toArray,l1,l2]⟩
   have g1':j < us.length:=by simpa using g1
   have g2':j < zs.length:=by simpa using g2
   have ex:xs[j]? = some (xs[j]'(by omega)):=getElem?_eq_getElem (by omega)
   have ey:ys[j]? = some (ys[j]'(by omega)):=getElem?_eq_getElem (by omega)
   obtain ⟨v,ev,rv⟩:=r.get ex
   obtain ⟨w,ew,rw'⟩:=q.get ey
   obtain ⟨a,ea,ra⟩:=Vals.get hv ev
   obtain ⟨c,ec,rc⟩:=Vals.get hw ew
   have:us.toArray[j] = a:=by
    rw [getElem_toArray];rw [getElem?_eq_getElem g1'] at ea;exact Option.some.inj ea
   rw [this]
   have:zs.toArray[j] = c:=by
    rw [getElem_toArray];rw [getElem?_eq_getElem g2'] at ec;exact Option.some.inj ec
   rw [this]
   exact ih hu ra rc rv rw' (h1 j _ _ ex ey)
  intro A t u v w x y b hu rx ry r q h
  have hsame:v = w->b = true:=fun z=>by subst z;exact zma I m (d + 1) r q h
  unfold eqD at h
  split at h
  ·cases r with
   | @tup _ p vs h1 l1 r1=>
   cases q with
   | @tup _ p2 vs2 h2 l2 r2=>
   cases rx
   cases ry
   by_cases hp:p = p2
   ·subst hp
    rw [hsame rfl]
    exact SeqAt.EqAt.same _
   ·obtain ⟨its,ri,pl,_⟩:=I.tuple h1
    obtain ⟨its2,ri2,pl2,_⟩:=I.tuple h2
    obtain ⟨e,he,eb⟩:=key (A:=A.in1) (by show A.units + 1 + d < cLine;omega) ⟨l1,r1⟩ ⟨l2,r2⟩ ri ri2 h
    rw [eb]
    exact SeqAt.EqAt.of_refs hp (SeqAt.RcAt.tuples pl pl2 (by omega) he)
  ·split at h
   ·rename_i hs
    rw [Bool.and_eq_true] at hs
    cases h
    rw [zeO r q hs.1 hs.2]
    exact zie rx ry (zP r hs.1) (zP q hs.2)
   ·split at h
    ·rename_i d' xs ys hd q1 q2
     cases hd
     obtain ⟨p,vs,e1,hq1,s1⟩:=zI m r q1
     obtain ⟨p2,vs2,e2,hq2,s2⟩:=zI m q q2
     subst e1
     subst e2
     cases rx
     cases ry
     by_cases hp:p = p2
     ·subst hp
      rw [hsame rfl]
      exact SeqAt.EqAt.same _
     ·obtain ⟨its,ri,pl,_⟩:=I.list hq1
      obtain ⟨its2,ri2,pl2,_⟩:=I.list hq2
      have lz:its.length = xs.length:=by rw [← ri.length,s1.1]
      have lz2:its2.length = ys.length:=by rw [← ri2.length,s2.1]
      by_cases hl:xs.length = ys.length
      ·rw [if_pos hl] at h
       obtain ⟨e,he,eb⟩:=key (A:=A.in1) (by show A.units + 1 + d < cLine;omega) s1 s2 ri ri2 h
       have hsz:its.toArray.size = its2.toArray.size:=by simp [lz,lz2,hl]
       rw [eb,hsz,Nat.min_self,beq_self_eq_true,Bool.and_true,← hsz]
       exact SeqAt.EqAt.of_refs hp (SeqAt.RcAt.lists pl.isList pl2.isList hsz (by omega) he)
      ·rw [if_neg hl] at h
       cases h
       exact SeqAt.EqAt.of_refs hp (SeqAt.RcAt.lists_lengths pl.isList pl2.isList (by simp [lz,lz2,hl]) (by omega))
    ·cases h
theorem zn4 {A:Around} {y x:V} {u v:Value} (ry:RelV y u) (rx:RelV x v) (fy:zap y = true) (fx:zap x = true):SeqAt.RcAt A s u v (eqV y x):=by
 cases y with
 | non=>
  cases ry
  cases x with
  | non=>cases rx;exact SeqAt.RcAt.none_none
  | bl b=>cases rx;exact SeqAt.RcAt.none_bool b
  | int b=>obtain ⟨t,rfl⟩:=rx;exact SeqAt.RcAt.none_int b t
  | str b=>obtain ⟨t,rfl⟩:=rx;exact SeqAt.RcAt.none_str b t
  | _=>exact absurd (show false = true from fx) Bool.false_ne_true
 | bl a=>
  cases ry
  cases x with
  | non=>cases rx;exact SeqAt.RcAt.bool_none a
  | bl b=>cases rx;exact SeqAt.RcAt.bool_bool a b
  | int b=>obtain ⟨t,rfl⟩:=rx;exact SeqAt.RcAt.bool_int a b t
  | str b=>obtain ⟨t,rfl⟩:=rx;exact SeqAt.RcAt.bool_str a b t
  | _=>exact absurd (show false = true from fx) Bool.false_ne_true
 | int a=>
  obtain ⟨t',rfl⟩:=ry
  cases x with
  | non=>cases rx;exact SeqAt.RcAt.int_none a t'
  | bl b=>cases rx;exact SeqAt.RcAt.int_bool a t' b
  | int b=>obtain ⟨t,rfl⟩:=rx;exact SeqAt.RcAt.int_int a t' b t
  | str b=>obtain ⟨t,rfl⟩:=rx;exact SeqAt.RcAt.int_str a t' b t
  | _=>exact absurd (show false = true from fx) Bool.false_ne_true
 | str a=>
  obtain ⟨t',rfl⟩:=ry
  cases x with
  | non=>cases rx;exact SeqAt.RcAt.str_none a t'
  | bl b=>cases rx;exact SeqAt.RcAt.str_bool a t' b
  | int b=>obtain ⟨t,rfl⟩:=rx;exact SeqAt.RcAt.str_int a t' b t
  | str b=>obtain ⟨t,rfl⟩:=rx;exact SeqAt.RcAt.str_str a t' b t
  | _=>exact absurd (show false = true from fx) Bool.false_ne_true
 | _=>exact absurd (show false = true from fy) Bool.false_ne_true
theorem zlv {A:Around} {y x:V} {u v:Value} (ry:RelV y u) (rx:RelV x v) (fy:zap y = true) (fx:zap x = true):SeqAt.RcNeAt A s u v (!eqV y x):=by
 cases y with
 | non=>
  cases ry
  cases x with
  | non=>cases rx;exact SeqAt.RcNeAt.none_none
  | bl b=>cases rx;exact SeqAt.RcNeAt.none_bool b
  | int b=>obtain ⟨t,rfl⟩:=rx;exact SeqAt.RcNeAt.none_int b t
  | str b=>obtain ⟨t,rfl⟩:=rx;exact SeqAt.RcNeAt.none_str b t
  | _=>exact absurd (show false = true from fx) Bool.false_ne_true
 | bl a=>
  cases ry
  cases x with
  | non=>cases rx;exact SeqAt.RcNeAt.bool_none a
  | bl b=>cases rx;exact SeqAt.RcNeAt.bool_bool a b
  | int b=>obtain ⟨t,rfl⟩:=rx;exact SeqAt.RcNeAt.bool_int a b t
  | str b=>obtain ⟨t,rfl⟩:=rx;exact SeqAt.RcNeAt.bool_str a b t
  | _=>exact absurd (show false = true from fx) Bool.false_ne_true
 | int a=>
  obtain ⟨t',rfl⟩:=ry
  cases x with
  | non=>cases rx;exact SeqAt.RcNeAt.int_none a t'
  | bl b=>cases rx;exact SeqAt.RcNeAt.int_bool a t' b
  | int b=>obtain ⟨t,rfl⟩:=rx;exact SeqAt.RcNeAt.int_int a t' b t
  | str b=>obtain ⟨t,rfl⟩:=rx;exact SeqAt.RcNeAt.int_str a t' b t
  | _=>exact absurd (show false = true from fx) Bool.false_ne_true
 | str a=>
  obtain ⟨t',rfl⟩:=ry
  cases x with
  | non=>cases rx;exact SeqAt.RcNeAt.str_none a t'
  | bl b=>cases rx;exact SeqAt.RcNeAt.str_bool a t' b
  | int b=>obtain ⟨t,rfl⟩:=rx;exact SeqAt.RcNeAt.str_int a t' b t
  | str b=>obtain ⟨t,rfl⟩:=rx;exact SeqAt.RcNeAt.str_str a t' b t
  | _=>exact absurd (show false = true from fx) Bool.false_ne_true
 | _=>exact absurd (show false = true from fy) Bool.false_ne_true
theorem zk3 (I:L2.Inv X pins σ S.H s) (m:MemOk X.K S) (d:Nat) {t u:T} {v w:V} {x y:Value} {b:Bool} {A:Around} (hu:A.units + d < cLine) (rx:RelV v x) (ry:RelV w y) (r:Rep X.K S t v) (q:Rep X.K S u w) (h:eqD S.M d t u = some b):SeqAt.RcAt A s x y b/\SeqAt.RcNeAt A s x y (!b):=by
 have at_:∀ {A:Around} {d:Nat} {xs ys:List T} {vs ws:List V} {us zs:List Value} {b:Bool},A.units + d < cLine->Reps X.K S xs vs->Reps X.K S ys ws->Vals vs us->Vals ws zs->eqL (eqD S.M d) xs ys = some b->
    ∃ e:Nat->Bool,(∀ j (h1:j < us.toArray.size) (h2:j < zs.toArray.size),SeqAt.EqAt A s us.toArray[j] zs.toArray[j] (e j))/\b = ((List.range (min us.toArray.size zs.toArray.size)).all e && us.toArray.size == zs.toArray.size):=by
  intro A d xs ys vs ws us zs b hu r q hv hw h
  obtain ⟨e,h1,h2⟩:=zd0 h
  have l1:us.length = xs.length:=by rw [← hv.length,r.1]
  have l2:zs.length = ys.length:=by rw [← hw.length,q.1]
  refine ⟨e,fun j g1 g2=>?_,by rw [h2,size_toArray,size_toArray,l1,l2]⟩
  have g1':j < us.length:=by simpa using g1
  have g2':j < zs.length:=by simpa using g2
  have ex:xs[j]? = some (xs[j]'(by omega)):=getElem?_eq_getElem (by omega)
  have ey:ys[j]? = some (ys[j]'(by omega)):=getElem?_eq_getElem (by omega)
  obtain ⟨v,ev,rv⟩:=r.get ex
  obtain ⟨w,ew,rw'⟩:=q.get ey
  obtain ⟨a,ea,ra⟩:=Vals.get hv ev
  obtain ⟨c,ec,rc⟩:=Vals.get hw ew
  have:us.toArray[j] = a:=by
   rw [getElem_toArray];rw [getElem?_eq_getElem g1'] at ea;exact Option.some.inj ea
  rw [this]
  have:zs.toArray[j] = c:=by
   rw [getElem_toArray];rw [getElem?_eq_getElem g2'] at ec;exact Option.some.inj ec
  rw [this]
  exact zk4 I m d hu ra rc rv rw' (h1 j _ _ ex ey)
 unfold eqD at h
 split at h
 ·split at h
  ·cases h
  ·rename_i d
   cases r with
   | @tup _ p vs h1 l1 r1=>
   cases q with
   | @tup _ p2 vs2 h2 l2 r2=>
   cases rx
   cases ry
   obtain ⟨its,ri,pl,_⟩:=I.tuple h1
   obtain ⟨its2,ri2,pl2,_⟩:=I.tuple h2
   obtain ⟨e,he,eb⟩:=at_ (A:=A.in1) (by show A.units + 1 + d < cLine;omega) ⟨l1,r1⟩ ⟨l2,r2⟩ ri ri2 h
   rw [eb]
   exact ⟨SeqAt.RcAt.tuples pl pl2 (by omega) he,SeqAt.RcNeAt.tuples pl pl2 (by omega) he⟩
 ·split at h
  ·rename_i hs
   rw [Bool.and_eq_true] at hs
   cases h
   rw [zeO r q hs.1 hs.2]
   exact ⟨zn4 rx ry (zP r hs.1) (zP q hs.2),zlv rx ry (zP r hs.1) (zP q hs.2)⟩
  ·split at h
   ·rename_i d' xs ys q1 q2
    obtain ⟨p,vs,e1,hq1,s1⟩:=zI m r q1
    obtain ⟨p2,vs2,e2,hq2,s2⟩:=zI m q q2
    subst e1
    subst e2
    cases rx
    cases ry
    obtain ⟨its,ri,pl,_⟩:=I.list hq1
    obtain ⟨its2,ri2,pl2,_⟩:=I.list hq2
    have lz:its.length = xs.length:=by rw [← ri.length,s1.1]
    have lz2:its2.length = ys.length:=by rw [← ri2.length,s2.1]
    by_cases hl:xs.length = ys.length
    ·rw [if_pos hl] at h
     obtain ⟨e,he,eb⟩:=at_ (A:=A.in1) (by show A.units + 1 + d' < cLine;omega) s1 s2 ri ri2 h
     have hsz:its.toArray.size = its2.toArray.size:=by simp [lz,lz2,hl]
     rw [eb,hsz,Nat.min_self,beq_self_eq_true,Bool.and_true,← hsz]
     exact ⟨SeqAt.RcAt.lists pl.isList pl2.isList hsz (by omega) he,SeqAt.RcNeAt.lists pl.isList pl2.isList hsz (by omega) he⟩
    ·rw [if_neg hl] at h
     cases h
     exact ⟨SeqAt.RcAt.lists_lengths pl.isList pl2.isList (by simp [lz,lz2,hl]) (by omega),SeqAt.RcNeAt.lists_lengths pl.isList pl2.isList (by simp [lz,lz2,hl]) (by omega)⟩
   ·cases h
theorem zG (hu:X.A.units + 64 < cLine):OpR X (compareOp .Eq) (lR2 XE X.K eqA):=by
 intro pins s σ H x y v u Q I rx ry ⟨S,⟨tx,ty⟩,e,m,⟨r1,r2⟩,fin⟩
 subst e
 replace fin:Fin XE (Rep X.K) X.K S (eqA tx ty S.M) Q:=fin
 unfold eqA at fin
 split at fin
 ·rename_i b q
  exact (zk3 I m 20 (A:=X.A) (by omega) rx ry r1 r2 q).1 _ _ _ _ ⟨.bl b,S.H,I,rfl,fin S _ rfl (.refl m) (.bl _)⟩
 ·exact fin.elim
theorem zce (hu:X.A.units + 64 < cLine):OpR X (compareOp .NotEq) (lR2 XE X.K neA):=by
 intro pins s σ H x y v u Q I rx ry ⟨S,⟨tx,ty⟩,e,m,⟨r1,r2⟩,fin⟩
 subst e
 replace fin:Fin XE (Rep X.K) X.K S (neA tx ty S.M) Q:=fin
 unfold neA at fin
 split at fin
 ·rename_i b q
  exact (zk3 I m 20 (A:=X.A) (by omega) rx ry r1 r2 q).2 _ _ _ _ ⟨.bl (!b),S.H,I,rfl,fin S _ rfl (.refl m) (.bl _)⟩
 ·exact fin.elim
noncomputable def inA:T->T->Mem->Out T:=fun x y M=>match qZ y M with
 | some ys=>if (zbH x && ys.all zbH) = true then .ok (.bl (ys.any fun y=>eqS y x)) M else .bad
 | none=>.bad
theorem zke {K:Frag} {x:T} {v:V} (rx:Rep K S x v) (hx:zbH x = true):∀ {ys:List T} {vs:List V},Reps K S ys vs->ys.all zbH = true->vs.all zap = true/\inV v vs = ys.any fun y=>eqS y x
 | [],vs,r,_=>by rw [r.nilT];exact ⟨rfl,rfl⟩
 | y :: ys,vs,r,h=>by
  obtain ⟨w,ws,rfl,r1,r2⟩:=r.consT
  rw [all_cons,Bool.and_eq_true] at h
  obtain ⟨h1,h2⟩:=zke rx hx r2 h.2
  refine ⟨by rw [all_cons,zP r1 h.1,h1];rfl,?_⟩
  unfold inV at h2 ⊢
  rw [any_cons,any_cons,h2,zeO r1 rx h.1 hx]
theorem zoz:OpR X (compareOp .In) (lR2 XE X.K inA):=by
 intro pins s σ H x y v u Q I rx ry ⟨S,⟨tx,ty⟩,e,m,⟨r1,r2⟩,fin⟩
 subst e
 replace fin:Fin XE (Rep X.K) X.K S (inA tx ty S.M) Q:=fin
 unfold inA at fin
 split at fin
 ·rename_i ys q
  split at fin
  ·rename_i hs
   rw [Bool.and_eq_true] at hs
   obtain ⟨p,vs,e1,hq,rs⟩:=zcc m r2 q
   dsimp only at e1
   subst e1
   obtain ⟨a1,a2⟩:=zke r1 hs.1 rs hs.2
   exact zkF pins s σ S.H _ _ v u Q I rx ry ⟨p,vs,rfl,hq,zP r1 hs.1,a1,by rw [a2];exact fin S _ rfl (.refl m) (.bl _)⟩
  ·exact fin.elim
 ·exact fin.elim
end
section
variable {X:Cx} {XE:XK}
noncomputable def zq6:List T->Option (List Int)
 | []=>some []
 | .int b :: r=>(zq6 r).map (b :: ·)
 | _=>none
noncomputable def getL:T->T->Mem->Out T:=fun x y M=>match y,yz x M with
 | .int i,some xs=>zfn (atI xs i) M
 | _,_=>.bad
theorem zqm:ziz X (lR2 XE X.K getL):=by
 intro pins s σ H x y v u Q I rx ry ⟨S,⟨tx,ty⟩,e,m,⟨r1,r2⟩,fin⟩
 subst e
 replace fin:Fin XE (Rep X.K) X.K S (getL tx ty S.M) Q:=fin
 unfold getL at fin
 split at fin
 ·rename_i i xs q
  obtain ⟨t,et,fin⟩:=zeH fin
  obtain ⟨p,vs,e1,hq,rs⟩:=zI m r1 q
  dsimp only at e1
  subst e1
  cases r2
  obtain ⟨w,ew,rw'⟩:=rs.atI et
  exact zl2 pins s σ S.H _ _ v u Q I rx ry ⟨p,vs,i,w,rfl,rfl,hq,ew,fin S w rfl (.refl m) rw'⟩
 ·exact fin.elim
theorem znr:PIp X .Add (lR2 XE X.K zds):=by
 intro pins s σ H x y v u Q I rx ry ⟨S,⟨tx,ty⟩,e,m,⟨r1,r2⟩,fin⟩
 subst e
 replace fin:Fin XE (Rep X.K) X.K S (zds tx ty S.M) Q:=fin
 unfold zds zao at fin
 split at fin
 ·cases r1;cases r2
  exact zoY pins s σ S.H _ _ v u Q I rx ry ⟨_,_,rfl,rfl,fin S _ rfl (.refl m) (.int _)⟩
 ·exact fin.elim
theorem zny {o i e:Expr} {f g h:Ev->Mem->Out T} {get op:T->T->Mem->Out T} {st:T->T->T->Mem->Out Unit} {bop:Operator} {tpos pos:Pos} (ho:GE X XE o f) (hi:GE X XE i g) (hg:ziz X (lR2 XE X.K get)) (he:GE X XE e h) (hp:PIp X bop (lR2 XE X.K op)) (hs:zd2 X (zgs XE X.K st))
  (ha:∀ ov iv new,augStore i ov iv new = (do holding [new,ov,iv] (setItem ov iv new);release [new,ov,iv] [];pure .next):=by intros;rfl):GS X XE (.AugAssign (.Subscript o i tpos) bop e pos) (zhm get op st f g h):=PS.imp (zmP ho hi hg he hp hs ha) fun D σ H hh=>by
 refine LN.mono (LN.bind (f:=fun _ σ M=>f σ M) (k:=fun _ o σ M1=>(g σ M1).bind fun i M2=>(get o i M2).bind fun x M3=>(h σ M3).bind fun y M4=>(op x y M4).bind fun z M5=>(st o i z M5).bind fun _ M6=>.ok (Fl.nx σ) M6) (RB:=Rep X.K) hh) fun ov H1 h1=>?_
 refine LN.mono (LN.env (f:=g) (LN.bind (f:=fun _ σ M=>g σ M) (k:=fun (a:Unit × T) i σ M2=>(get a.2 i M2).bind fun x M3=>(h σ M3).bind fun y M4=>(op x y M4).bind fun z M5=>(st a.2 i z M5).bind fun _ M6=>.ok (Fl.nx σ) M6) (RB:=Rep X.K) h1)) fun iv H2 h2=>?_
 have h3:=LN.bind (f:=fun (a:(Unit × T) × T) _ M=>get a.1.2 a.2 M) (k:=fun a x σ M3=>(h σ M3).bind fun y M4=>(op x y M4).bind fun z M5=>(st a.1.2 a.2 z M5).bind fun _ M6=>.ok (Fl.nx σ) M6) (RB:=Rep X.K) h2
 obtain ⟨S,a,e,m,ra,fin⟩:=LN.l0 (k:=fun (a:(Unit × T) × T) M=>get a.1.2 a.2 M) h3
 refine ⟨S,(a.1.2,a.2),e,m,⟨ra.1.2,ra.2⟩,fin.mono fun xv H3 h4=>?_⟩
 refine LN.mono (LN.env (f:=h) (LN.bind (f:=fun _ σ M=>h σ M) (k:=fun (a:((Unit × T) × T) × T) y σ M4=>(op a.2 y M4).bind fun z M5=>(st a.1.1.2 a.1.2 z M5).bind fun _ M6=>.ok (Fl.nx σ) M6) (RB:=Rep X.K) h4)) fun yv H4 h5=>?_
 have h6:=LN.bind (f:=fun (a:(((Unit × T) × T) × T) × T) _ M=>op a.1.2 a.2 M) (k:=fun a z σ M5=>(st a.1.1.1.2 a.1.1.2 z M5).bind fun _ M6=>.ok (Fl.nx σ) M6) (RB:=Rep X.K) h5
 obtain ⟨S5,a5,e5,m5,ra5,fin5⟩:=LN.l0 (k:=fun (a:(((Unit × T) × T) × T) × T) M=>op a.1.2 a.2 M) h6
 refine ⟨S5,(a5.1.2,a5.2),e5,m5,⟨ra5.1.2,ra5.2⟩,fin5.mono fun zv H5 h7=>?_⟩
 obtain ⟨S6,στ,a6,e6,m6,ev6,ra6,fin6⟩:=h7
 refine ⟨S6,((a6.1.1.1.1.2,a6.1.1.1.2),a6.2),e6,m6,⟨⟨ra6.1.1.1.1.2,ra6.1.1.1.2⟩,ra6.2⟩,?_⟩
 show Fin XE UnR X.K S6 (st a6.1.1.1.1.2 a6.1.1.1.2 a6.2 S6.M) _
 replace fin6:Fin XE (FlR X.K) X.K S6 ((st a6.1.1.1.1.2 a6.1.1.1.2 a6.2 S6.M).bind fun _ M6=>.ok (Fl.nx στ) M6) (z3 D):=fin6
 cases q:st a6.1.1.1.1.2 a6.1.1.1.2 a6.2 S6.M with
 | bad=>rw [q] at fin6;exact fin6
 | exn C fs M'=>rw [q] at fin6;exact fin6
 | ok b M1=>
  rw [q] at fin6
  intro S7 c e7 s7 _
  exact fin6 S7 (.nx σ) e7 s7 (.nx (Mo.mo m6 s7 ev6))
end
noncomputable def zlu (o:Out Fl):Out T:=match o with
 | .ok (.rt t) M'=>.ok t M'
 | .ok (.nx _) M'=>.ok .non M'
 | _=>.bad
theorem zkw {p n:Nat} {g:Ev->Mem->Out Fl} {ts:List T} {M:Mem} (h:ts.length = p):yh p n g ts M = zlu (g (startT n ts) M):=by
 unfold yh
 rw [if_pos h]
 rfl
theorem zrm {t:T} {M:Mem}:zlu (.ok (.rt t) M) = .ok t M:=rfl
theorem zrn {σ:Ev} {M:Mem}:zlu (.ok (.nx σ) M) = .ok .non M:=rfl
theorem zrF {β:Type} {b:Bool} {M:Mem} {k:Bool->Mem->Out β}:blT (.bl b) M k = k b M:=rfl
theorem yp {k:Ev->Mem->Out Fl} {σ:Ev} {M:Mem}:zb4 k (.nx σ) M = k σ M:=rfl
theorem zqA {k:Ev->Mem->Out Fl} {t:T} {M:Mem}:zb4 k (.rt t) M = .ok (.rt t) M:=rfl
theorem zqC {k:Ev->Mem->Out Fl} {σ:Ev} {M:Mem}:zb4 k (.bk σ) M = .ok (.bk σ) M:=rfl
theorem zqB {k:Ev->Mem->Out Fl} {σ:Ev} {M:Mem}:zb4 k (.ct σ) M = .ok (.ct σ) M:=rfl
theorem zqY {k:Ev->Mem->Out Fl} {σ:Ev} {M:Mem}:zac k (.nx σ) M = k σ M:=rfl
theorem zqX {k:Ev->Mem->Out Fl} {t:T} {M:Mem}:zac k (.rt t) M = .ok (.rt t) M:=rfl
theorem zq0 {k:Ev->Mem->Out Fl} {σ:Ev} {M:Mem}:zac k (.bk σ) M = .ok (.nx σ) M:=rfl
theorem zqZ {k:Ev->Mem->Out Fl} {σ:Ev} {M:Mem}:zac k (.ct σ) M = k σ M:=rfl
theorem zk0 {bd:T->Ev->Mem->Out Ev} {body:Ev->Mem->Out Fl} {x:T} {xs:List T} {σ:Ev} {M:Mem}:forL bd body (x :: xs) σ M = (bd x σ M).bind fun σ1 M1=>(body σ1 M1).bind (zac (forL bd body xs)):=rfl
theorem zrr {k:T->Mem->Out T} {t:T} {M:Mem}:yC k [t] M = k t M:=rfl
theorem zrq {k:T->T->Mem->Out T} {t u:T} {M:Mem}:call2 k [t,u] M = k t u M:=rfl
theorem zrt {i j:Int} {M:Mem}:zJ (.int i) (.int j) M = .ok (.int (i + j)) M:=rfl
theorem zrj {i j:Int} {M:Mem}:zbw (.int i) (.int j) M = .ok (.int (i - j)) M:=rfl
theorem zna {i j:Int} {M:Mem} (h:Mo64 i j):zbd (.int i) (.int j) M = .ok (.int (i * j)) M:=if_pos h
theorem zdD {i j:Int} {M:Mem} (h:j ≠ 0/\j.natAbs < 10 ^ 2000):zcs (.int i) (.int j) M = .ok (.int (i.fdiv j)) M:=if_pos h
theorem zeJ {i j:Int} {M:Mem} (h:j ≠ 0):zbz (.int i) (.int j) M = .ok (.int (i.fmod j)) M:=if_pos h
theorem zro {i j:Int} {M:Mem} (h:0<=j/\j<=1000000/\i.natAbs < 2 ^ 64):zgj (.int i) (.int j) M = .ok (.int (i ^ j.toNat)) M:=if_pos h
theorem zrz {i j:Int} {M:Mem}:ltI (.int i) (.int j) M = .ok (.bl (decide (i < j))) M:=rfl
theorem zrA {i j:Int} {M:Mem}:leI (.int i) (.int j) M = .ok (.bl (decide (i<=j))) M:=rfl
theorem zrC {i j:Int} {M:Mem}:gtI (.int i) (.int j) M = .ok (.bl (decide (j < i))) M:=rfl
theorem zh3 {i j:Int} {M:Mem}:geI (.int i) (.int j) M = .ok (.bl (decide (j<=i))) M:=rfl
theorem zrx {i:Int} {M:Mem}:zqW (.int i) M = .ok (.int (-i)) M:=rfl
theorem znf {i j:Int} {M:Mem}:zgp (.int i) (.int j) M = .ok (.int (if j > i then j else i)) M:=rfl
theorem zrD {i j:Int} {M:Mem}:eqA (.int i) (.int j) M = .ok (.bl (i == j)) M:=rfl
theorem zry {i j:Int} {M:Mem}:neA (.int i) (.int j) M = .ok (.bl (!(i == j))) M:=rfl
theorem zrB {a b:Bool} {M:Mem}:isB (.bl a) (.bl b) M = .ok (.bl (a == b)) M:=rfl
theorem zq4 {a b:Bool} {M:Mem}:zqg (.bl a) (.bl b) M = .ok (.bl (a != b)) M:=rfl
theorem za9 {α:Type} {xs:List α} {n:Nat}:atI xs (n:Int) = xs[n]?:=by
 unfold atI ixN
 by_cases h:n < xs.length
 ·simp [h]
 ·simp [h]
theorem zrQ {α:Type} {x:α} {l:List α}:atI (x :: l) 0 = some x:=by have:=za9 (xs:=x :: l) (n:=0);exact this
theorem zrP {α:Type} {x y:α} {l:List α}:atI (x :: y :: l) 1 = some y:=by have:=za9 (xs:=x :: y :: l) (n:=1);exact this
theorem zrO {α:Type} {x y z:α} {l:List α}:atI (x :: y :: z :: l) 2 = some z:=by have:=za9 (xs:=x :: y :: z :: l) (n:=2);exact this
theorem zrN {α:Type} {x y z w:α} {l:List α}:atI (x :: y :: z :: w :: l) 3 = some w:=by have:=za9 (xs:=x :: y :: z :: w :: l) (n:=3);exact this
theorem zrL {n:Nat}:ixN (n + 1) 0 = some 0:=by unfold ixN;simp
theorem zrK {n:Nat}:ixN (n + 2) 1 = some 1:=by unfold ixN;simp;omega
theorem zrJ {n:Nat}:ixN (n + 3) 2 = some 2:=by unfold ixN;simp;omega
theorem yV {a:Nat} {xs:List T} {t:T} {M:Mem} (e:M[a]? = some (.lst xs)) (h:xs.length < sizeLine):qV (.ref a) [t] M = .ok .non (M.set a (.lst (xs ++ [t]))):=by
 unfold qV
 simp only [e,if_pos h]
theorem qJ {a:Nat} {xs:List T} {M:Mem} (e:M[a]? = some (.lst xs)):yG (.ref a) M = .ok (.ref a) M:=by
 unfold yG yz
 simp only [e]
theorem zbG {a:Nat} {xs:List T} {M:Mem} (e:M[a]? = some (.lst xs)):zaf (.ref a) M = .ok (.tup xs) M:=by
 unfold zaf qZ yz
 simp only [e]
theorem zn3 {j:Int} {M:Mem} (h:-(2 ^ 62)<=j/\j < 2 ^ 62):zfl [.int j] M = .ok (zeh 0 j.toNat) M:=if_pos h
theorem zrE {i:Int} {M:Mem}:zcs (.int i) (.int 8) M = .ok (.int (i.fdiv 8)) M:=zdD ⟨by decide,Nat.lt_of_lt_of_le (show (8:Int).natAbs < 10 ^ 1 by decide) (Nat.pow_le_pow_right (by decide) (by decide))⟩
theorem zek {i j:Int} {M:Mem} (h:-(2 ^ 64) < i/\i < 2 ^ 64):zbd (.int i) (.int j) M = .ok (.int (i * j)) M:=zna (.inr (.inl h))
theorem zhs {j:Int} (n:Nat) (hn:n<=2000) (h0:j ≠ 0) (h:j.natAbs < 10 ^ n):j ≠ 0/\j.natAbs < 10 ^ 2000:=⟨h0,Nat.lt_of_lt_of_le h (Nat.pow_le_pow_right (by decide) hn)⟩
structure Po where
 a:Int
 b:Int
 c:Int
noncomputable def Po.cell (p:Po):Cell:=.lst [.int p.a,.int p.b,.int p.c]
noncomputable def Po.dig (p:Po) (base:Int):Int:=if 0 < p.a then p.a % base else
 let mixed:=(p.b + 7919 * (p.c + 1)) % 1000000007
 let stir:=(mixed + 11) * (mixed + 48271) % 998244353
 (stir * stir % 2147483647 / 8) % base
noncomputable def Po.nxt (p:Po) (base:Int):Po:=if 0 < p.a then ⟨p.a / base,p.b,p.c⟩ else ⟨p.a,p.b,p.c + 1⟩
noncomputable def Po.new (cell:Int):Po:=⟨if cell - 10 ^ 18 > 0 then cell - 10 ^ 18 else 0,cell % 10 ^ 18,0⟩
theorem Po.dig_lo (p:Po) {base:Int} (h:0 < base):0<=p.dig base:=by
 unfold Po.dig
 split
 ·exact Int.emod_nonneg _ (by omega)
 ·exact Int.emod_nonneg _ (by omega)
theorem Po.dig_hi (p:Po) {base:Int} (h:0 < base):p.dig base < base:=by
 unfold Po.dig
 split
 ·exact Int.emod_lt_of_pos _ h
 ·exact Int.emod_lt_of_pos _ h
theorem zlP {xs:List T} {M:Mem}:qC (.tup xs) M = .ok (.int xs.length) M:=rfl
theorem zq1 {xs:List T} {M:Mem}:qC (.lst xs) M = .ok (.int xs.length) M:=rfl
theorem zix {α:Type} {xs:List α} {i:Int} (h0:0<=i) (h1:i < xs.length):∃ x,atI xs i = some x/\x ∈ xs:=by
 obtain ⟨n,rfl⟩:∃ n:Nat,i = n:=⟨i.toNat,by omega⟩
 have hn:n < xs.length:=by omega
 exact ⟨xs[n],by rw [za9];simp [hn],getElem_mem hn⟩
theorem zrs {xs ys:List T} {M:Mem} (h:xs.length + ys.length<=sizeLine):zJ (.tup xs) (.tup ys) M = .ok (.tup (xs ++ ys)) M:=if_pos h
theorem zjx {xs ys:List T} {M:Mem} (h:xs.length + ys.length<=sizeLine):zJ (.lst xs) (.lst ys) M = .ok (.lst (xs ++ ys)) M:=if_pos h
noncomputable def zh0:T->Option Key
 | .int i=>some (.inl i)
 | .str x=>some (.inr x)
 | _=>none
noncomputable def zeQ (t:T) (M:Mem):Option (List (Key × T)):=match t with
 | .ref a=>match M[a]? with
  | some (.dic kvs)=>some kvs
  | _=>none
 | .dct kvs=>some kvs
 | _=>none
noncomputable def qE (kvs:List (Key × T)) (k:Key):Option T:=(kvs.find? fun kv=>decide (kv.1 = k)).map (·.2)
noncomputable def zct (kvs:List (Key × T)) (k:Key) (t:T):List (Key × T):=
 if (kvs.any fun kv=>decide (kv.1 = k)) = true then kvs.map (fun kv=>if kv.1 = k then (kv.1,t) else kv) else kvs ++ [(k,t)]
section
variable {K:Frag} {S:Sit}
theorem zfr {t:T} {v:V} {k:Key} (r:Rep K S t v) (e:zh0 t = some k):v = kV k:=by
 cases r with
 | int i=>have e':some (Sum.inl i) = some k:=e;cases e';rfl
 | str i=>have e':some (Sum.inr i) = some k:=e;cases e';rfl
 | non=>cases e
 | bl b=>cases e
 | ty b=>cases e
 | tup _ _ _=>cases e
 | lst _ _ _=>cases e
 | ref _=>cases e
 | dct _ _ _=>cases e
 | exc _ _ _ _=>cases e
theorem RepK.nilT {us:List (Key × V)} (r:RepK K S [] us):us = []:=by
 have:=r.1
 simpa using this.symm
theorem RepK.nil:RepK K S [] []:=⟨rfl,.nil⟩
theorem RepK.consT {p:Key × T} {kvs:List (Key × T)} {us:List (Key × V)} (r:RepK K S (p :: kvs) us):∃ u us',us = (p.1,u) :: us'/\Rep K S p.2 u/\RepK K S kvs us':=by
 cases us with
 | nil=>have:=r.1;simp at this
 | cons q us=>
  obtain ⟨h1,h2⟩:=r
  rw [map_cons,map_cons] at h1 h2
  injection h1 with e1 e2
  obtain ⟨v,vs,e3,r1,r2⟩:=h2.consT
  injection e3 with e3 e4
  refine ⟨q.2,us,?_,?_,e2,?_⟩
  ·rw [e1]
  ·rw [e3];exact r1
  ·rw [e4];exact r2
theorem RepK.cons {k:Key} {t:T} {u:V} {kvs:List (Key × T)} {us:List (Key × V)} (q:Rep K S t u) (r:RepK K S kvs us):RepK K S ((k,t) :: kvs) ((k,u) :: us):=
 ⟨by rw [map_cons,map_cons,r.1],by rw [map_cons,map_cons];exact r.2.cons q⟩
theorem RepK.length {kvs:List (Key × T)} {us:List (Key × V)} (r:RepK K S kvs us):kvs.length = us.length:=by
 have:=congrArg List.length r.1
 simpa using this
theorem RepK.look (k:Key):∀ {kvs:List (Key × T)} {us:List (Key × V)},RepK K S kvs us->(qE kvs k = none/\zaG us k = none)\/∃ t v,qE kvs k = some t/\zaG us k = some v/\Rep K S t v
 | [],us,r=>by rw [r.nilT];exact .inl ⟨rfl,rfl⟩
 | p :: kvs,us,r=>by
  obtain ⟨u,us',rfl,r1,r2⟩:=r.consT
  by_cases h:p.1 = k
  ·refine .inr ⟨p.2,u,?_,?_,r1⟩
   ·simp [qE,find?_cons,h]
   ·simp [zaG,find?_cons,h]
  ·have e1:qE (p :: kvs) k = qE kvs k:=by simp [qE,find?_cons,h]
   have e2:zaG ((p.1,u) :: us') k = zaG us' k:=by simp [zaG,find?_cons,h]
   rw [e1,e2]
   exact RepK.look k r2
theorem RepK.any (k:Key):∀ {kvs:List (Key × T)} {us:List (Key × V)},RepK K S kvs us->(kvs.any fun kv=>decide (kv.1 = k)) = us.any fun kv=>decide (kv.1 = k)
 | [],us,r=>by rw [r.nilT];rfl
 | p :: kvs,us,r=>by
  obtain ⟨u,us',rfl,r1,r2⟩:=r.consT
  rw [any_cons,any_cons,RepK.any k r2]
theorem RepK.repl (k:Key) {t:T} {v:V} (q:Rep K S t v):∀ {kvs:List (Key × T)} {us:List (Key × V)},RepK K S kvs us->RepK K S (kvs.map (fun kv=>if kv.1 = k then (kv.1,t) else kv)) (us.map (fun kv=>if kv.1 = k then (kv.1,v) else kv))
 | [],us,r=>by rw [r.nilT];exact .nil
 | p :: kvs,us,r=>by
  obtain ⟨u,us',rfl,r1,r2⟩:=r.consT
  rw [map_cons,map_cons]
  by_cases h:p.1 = k
  ·rw [if_pos h,if_pos h]
   exact (RepK.repl k q r2).cons q
  ·rw [if_neg h,if_neg h]
   exact (RepK.repl k q r2).cons r1
theorem RepK.snoc (k:Key) {t:T} {v:V} (q:Rep K S t v):∀ {kvs:List (Key × T)} {us:List (Key × V)},RepK K S kvs us->RepK K S (kvs ++ [(k,t)]) (us ++ [(k,v)])
 | [],us,r=>by rw [r.nilT];exact RepK.nil.cons q
 | p :: kvs,us,r=>by
  obtain ⟨u,us',rfl,r1,r2⟩:=r.consT
  exact (RepK.snoc k q r2).cons r1
theorem RepK.put (k:Key) {t:T} {v:V} (q:Rep K S t v) {kvs:List (Key × T)} {us:List (Key × V)} (r:RepK K S kvs us):RepK K S (zct kvs k t) (putK us k v):=by
 unfold zct putK
 rw [r.any k]
 split
 ·exact r.repl k q
 ·exact r.snoc k q
theorem zex (m:MemOk K S) {t:T} {x:V} {kvs:List (Key × T)} (r:Rep K S t x) (e:zeQ t S.M = some kvs):∃ p us,x = .ref p/\Rd S.H p (.dK us)/\RepK K S kvs us:=by
 unfold zeQ at e
 split at e
 ·split at e
  ·rename_i a _ kvs' q
   cases e
   cases r
   obtain ⟨us,h1,h2⟩:=m.cell _ _ q
   exact ⟨_,us,rfl,.inl h1,h2⟩
  ·cases e
 ·cases e
  cases r with
  | dct h l rr=>
   refine ⟨_,_,rfl,.inr ⟨_,h⟩,l,?_,rr⟩
   have:=congrArg List.length l
   simpa using this
 ·cases e
theorem _root_.L2.DGet.r {H:Hp} {a:Addr} {us:List (Key × V)} {k:Key} (e:Rd H a (.dK us)):DGet H a (kV k) (zaG us k):=.inl ⟨us,k,e,rfl,rfl⟩
theorem RepK.isSome (k:Key) {kvs:List (Key × T)} {us:List (Key × V)} (r:RepK K S kvs us):(zaG us k).isSome = (qE kvs k).isSome:=by
 rcases r.look k with ⟨a,b⟩ | ⟨t,v,a,b,_⟩
 ·rw [a,b];rfl
 ·rw [a,b];rfl
theorem zmJ (m:MemOk K S) {a:Nat} {c:Cell} (e:S.M[a]? = some c) {ts:List (Key × T)} {vs:List (Key × V)} (r:RepK K S ts vs):Stp K S (S.put a (.dK vs) (.dic ts)):=by
 have ha:a < S.M.length:=(List.getElem?_eq_some_iff.mp e).1
 exact Stp.put m ha _ _ ⟨vs,qA,r.grow m (Grow.put m ha _ _)⟩
end
section
variable {X:Cx} {XE:XK}
noncomputable def inD:T->T->Mem->Out T:=fun x y M=>match zeQ y M with
 | some kvs=>match zh0 x with
  | some k=>.ok (.bl (qE kvs k).isSome) M
  | none=>.bad
 | none=>inA x y M
theorem zrw (hu:X.A.units + 64 < cLine):OpR X (compareOp .In) (lR2 XE X.K inD):=by
 intro pins s σ H x y v u Q I rx ry ⟨S,⟨tx,ty⟩,e,m,⟨r1,r2⟩,fin⟩
 replace fin:Fin XE (Rep X.K) X.K S (inD tx ty S.M) Q:=fin
 unfold inD at fin
 split at fin
 ·subst e
  rename_i kvs q
  split at fin
  ·rename_i k qk
   obtain ⟨p,us,e3,e4,rk⟩:=zex m r2 q
   dsimp only at e3
   subst e3
   cases (show u = Value.ref p from ry)
   have ek:=zfr r1 qk
   dsimp only at ek
   subst ek
   refine zrc (by omega) I (.r e4) rx fun s' I'=>⟨.bl _,S.H,I',rfl,?_⟩
   rw [rk.isSome k]
   exact fin S _ rfl (.refl m) (.bl _)
  ·exact fin.elim
 ·exact zoz pins s σ H x y v u Q I rx ry ⟨S,⟨tx,ty⟩,e,m,⟨r1,r2⟩,fin⟩
noncomputable def zhI (o i t:T) (M:Mem):Out Unit:=match o,zh0 i with
 | .ref a,some k=>match M[a]? with
  | some (.dic kvs)=>if kvs.length < sizeLine then .ok () (M.set a (.dic (zct kvs k t))) else .bad
  | _=>zdG o i t M
 | _,_=>zdG o i t M
theorem zpQ (hu:X.A.units + 64 < cLine):zd2 X (zgs XE X.K zhI):=by
 intro pins s σ H o i v ov iv u Q I ro ri rv ⟨S,⟨⟨to,ti⟩,tv⟩,e,m,⟨⟨r1,r2⟩,r3⟩,fin⟩
 replace fin:Fin XE UnR X.K S (zhI to ti tv S.M) (fun _ H'=>Q H'):=fin
 unfold zhI at fin
 split at fin
 ·split at fin
  ·rename_i a k qk _ kvs q
   split at fin
   ·rename_i hz
    subst e
    obtain ⟨us,h4,rk⟩:=m.cell _ _ q
    cases r1
    cases (show ov = Value.ref (S.α a) from ro)
    have ek:=zfr r2 qk
    dsimp only at ek
    subst ek
    refine zk6 (by omega) I (.k h4 (by rw [← rk.length];exact hz)) ri rv fun s' I'=>⟨_,I',?_⟩
    exact fin (S.put a (.dK (putK us k v)) (.dic (zct kvs k tv))) () rfl (zmJ m q (rk.put k r3)) trivial
   ·exact fin.elim
  ·exact zfF pins s σ H o i v ov iv u Q I ro ri rv ⟨S,⟨⟨_,ti⟩,tv⟩,e,m,⟨⟨r1,r2⟩,r3⟩,fin⟩
 ·exact zfF pins s σ H o i v ov iv u Q I ro ri rv ⟨S,⟨⟨_,ti⟩,tv⟩,e,m,⟨⟨r1,r2⟩,r3⟩,fin⟩
noncomputable def ixD:T->T->Mem->Out T:=fun x y M=>match zeQ x M with
 | some kvs=>match zh0 y with
  | some k=>zfn (qE kvs k) M
  | none=>.bad
 | none=>ixT x y M
theorem zbe (hu:X.A.units + 64 < cLine):IxR X (lR2 XE X.K ixD):=by
 intro va sl pins s σ H x y v u Q I rx ry ⟨S,⟨tx,ty⟩,e,m,⟨r1,r2⟩,fin⟩ hs
 replace fin:Fin XE (Rep X.K) X.K S (ixD tx ty S.M) Q:=fin
 unfold ixD at fin
 split at fin
 ·subst e
  rename_i kvs q
  split at fin
  ·rename_i k qk
   obtain ⟨t,et,fin⟩:=zeH fin
   obtain ⟨p,us,e3,e4,rk⟩:=zex m r1 q
   dsimp only at e3
   subst e3
   cases (show v = Value.ref p from rx)
   have ek:=zfr r2 qk
   dsimp only at ek
   subst ek
   rcases rk.look k with ⟨a1,_⟩ | ⟨t',w,a1,b1,rw'⟩
   ·rw [a1] at et;cases et
   ·rw [a1] at et
    cases et
    have hT:=ziO I (DGet.r (k:=k) e4)
    have h2:wpAny (model X.prog X.w) X.A (getItem (.ref p) u) (EP X pins σ Q) X.xe s:=zk7 (by omega) I (b1 ▸ DGet.r e4) ry fun w' s3 I3 rw2=>⟨w,S.H,I3,rw2,fin S w rfl (.refl m) rw'⟩
    unfold subscriptTail
    refine wpAny_bind ?_
    rw [getitemInPython_of_ne hT.not_modules]
    refine wpAny_bind (wpAny_specialOf hT PySem.F.slot_dict_getitem.lookup ?_)
    have f2:wpAny (model X.prog X.w) X.A (subscripted sl false (.ref p) u) (fun r s₃=>wpAny (model X.prog X.w) X.A (letTemporaryGo va (.ref p) r >>= fun _=>pure r) (EP X pins σ Q) X.xe s₃) X.xe s:=by
     rw [hs]
     exact wpAny_operating (wpAny_mono h2 (fun r s₃ h₃=>wpAny_bind (wpAny_letTemporaryGo (wpAny_pure h₃))) fun _ _ x=>x)
    first
     | exact wpAny_pure (wpAny_bind f2)
     | exact wpAny_bind (wpAny_pure (wpAny_bind f2))
     | exact wpAny_bind f2
  ·exact fin.elim
 ·exact qg va sl pins s σ H x y v u Q I rx ry ⟨S,⟨tx,ty⟩,e,m,⟨r1,r2⟩,fin⟩ hs
noncomputable def zgq:T->Mem->Out T:=fun t M=>match zeQ t M with
 | some kvs=>.ok (.int kvs.length) M
 | none=>qC t M
theorem zg9:CallR X (.builtin "len") (lRN XE X.K (yC zgq)):=zfw fun pins s σ S t x v Q I rx m r fin=>by
 unfold zgq at fin
 split at fin
 ·rename_i kvs q
  obtain ⟨p,us,e3,e4,rk⟩:=zex m r q
  subst e3
  cases (show v = Value.ref p from rx)
  refine zqx I e4 fun t' s' I'=>⟨.int us.length,S.H,I',⟨_,rfl⟩,?_⟩
  rw [← rk.length]
  exact fin S _ rfl (.refl m) (.int _)
 ·exact yB pins s σ S.H _ _ Q I (.cons rx .nil) ⟨S,[t],rfl,m,Reps.nil.cons r,fin⟩
noncomputable def zmb:Ev->Mem->Out T:=fun _ M=>.ok (.ref M.length) (M ++ [.dic []])
theorem zpo {pos:Pos}:GE X XE (.Dict [] [] pos) zmb:=PE.imp zlD fun σ H Q ⟨S,στ,_,e,m,ev,_,fin⟩ p hp=>by
 subst e
 have s1:Stp X.K S (S.more p (.dK []) (.dic [])):=Stp.more m hp _ _ ⟨[],qA,.nil⟩
 have r1:Rep X.K (S.more p (.dK []) (.dic [])) (.ref S.M.length) (.ref p):=by
  have h0:S.M.length < (S.M ++ [Cell.dic []]).length:=by simp
  have:=Rep.ref (K:=X.K) (S:=S.more p (.dK []) (.dic [])) (a:=S.M.length) h0
  have e1:(S.more p (.dK []) (.dic [])).α S.M.length = p:=if_pos rfl
  rw [e1] at this
  exact this
 exact fin (S.more p (.dK []) (.dic [])) (.ref p) rfl s1 r1
noncomputable def lMt (XE:XK) (K:Frag) (F:T->List T->Mem->Out T):V->List V->Hp->VK->Prop:=fun x xs H Q=>L0 XE (Rep K) K (PrR (Rep K) (Reps K)) (fun a M=>F a.1 a.2 M) (x,xs) H Q
noncomputable def zci (chk:T->Mem->Bool) (F:T->List T->Mem->Out T) (f:Ev->Mem->Out T) (g:Ev->Mem->Out (List T)):Ev->Mem->Out T:=fun σ M=>(f σ M).bind fun x M1=>if chk x M1 = true then (g σ M1).bind fun ts M2=>F x ts M2 else .bad
theorem znH {o e:Expr} {es:List Expr} {n:Str} {Ty:String} {f:Ev->Mem->Out T} {ga:Ev->Mem->Out (List T)} {chk:T->Mem->Bool} {F:T->List T->Mem->Out T} {apos cpos:Pos}
  (hc:∀ {K:Frag} {S:Sit},MemOk K S->∀ {t:T} {x:V},Rep K S t x->chk t S.M = true->tyV K Ty x S.H)
  (h:PE X (.Call (.Attribute o n apos) (e :: es) [] cpos) (tBM X.K Ty (lMt XE X.K F) (lE XE X.K f) (lA XE X.K ga))):GE X XE (.Call (.Attribute o n apos) (e :: es) [] cpos) (zci chk F f ga):=PE.imp h fun σ H Q hh=>by
 obtain ⟨S,στ,_,e0,m,ev,_,fin⟩:=hh
 replace fin:Fin XE (Rep X.K) X.K S ((f στ S.M).bind fun x M1=>if chk x M1 = true then (ga στ M1).bind fun ts M2=>F x ts M2 else .bad) Q:=fin
 refine ⟨S,στ,(),e0,m,ev,trivial,?_⟩
 show Fin XE (Rep X.K) X.K S (f στ S.M) _
 cases o1:f στ S.M with
 | bad=>rw [o1] at fin;exact fin
 | exn C fs M'=>rw [o1] at fin;exact fin
 | ok x M1=>
  rw [o1] at fin
  intro S1 v e1 s1 r1
  replace fin:Fin XE (Rep X.K) X.K S (if chk x M1 = true then (ga στ M1).bind fun ts M2=>F x ts M2 else .bad) Q:=fin
  split at fin
  ·rename_i hk
   refine ⟨hc s1.mok r1 (by rw [e1];exact hk),S1,στ,(),rfl,s1.mok,Mo.mo m s1 ev,trivial,?_⟩
   show Fin XE (Reps X.K) X.K S1 (ga στ S1.M) _
   rw [e1]
   cases o2:ga στ M1 with
   | bad=>rw [o2] at fin;exact fin
   | exn C fs M'=>rw [o2] at fin;exact Fin.later s1 fin
   | ok ts M2=>
    rw [o2] at fin
    intro S2 ws e2 s2 r2
    replace fin:Fin XE (Rep X.K) X.K S (F x ts M2) Q:=fin
    have fin2:=Fin.later (s1.trans s2) fin
    exact ⟨S2,(x,ts),rfl,s2.mok,⟨r1.grow s1.mok s2.toGrow,r2⟩,by show Fin XE (Rep X.K) X.K S2 (F x ts S2.M) Q;rw [e2];exact fin2⟩
  ·exact fin.elim
end
noncomputable def insI (x:Int):List Int->List Int
 | []=>[x]
 | y :: ys=>if x<=y then x :: y :: ys else y :: insI x ys
theorem insI_perm (x:Int):∀ ys,(insI x ys).Perm (x :: ys)
 | []=>.refl _
 | y :: ys=>by
  unfold insI
  split
  ·exact .refl _
  ·exact ((insI_perm x ys).cons y).trans (.swap x y ys)
theorem Reps.ints {K:Frag} {S:Sit}:∀ ns:List Int,Reps K S (ns.map T.int) (ns.map V.int)
 | []=>.nil
 | n :: ns=>(Reps.ints ns).cons (.int n)
noncomputable def tK:Key->T
 | .inl i=>.int i
 | .inr x=>.str x
theorem znV {K:Frag} {S:Sit} (k:Key):Rep K S (tK k) (kV k):=by
 cases k with
 | inl i=>exact .int i
 | inr x=>exact .str x
theorem Reps.keys {K:Frag} {S:Sit}:∀ ks:List Key,Reps K S (ks.map tK) (ks.map kV)
 | []=>.nil
 | k :: ks=>(Reps.keys ks).cons (znV k)
noncomputable def SubL (m:List (Str × Addr)):List (Str × Addr)->Prop
 | []=>True
 | c :: l=>m.lookup c.1 = some c.2/\SubL m l
theorem zhY:∀ {l m:List (Str × Addr)},SubL m l->∀ x a,l.lookup x = some a->m.lookup x = some a
 | [],_,_,_,_,h=>by cases h
 | (y,b) :: l,m,g,x,a,h=>by
  rw [lookup_cons] at h
  split at h
  ·rename_i e
   cases h
   rw [eq_of_beq e]
   exact g.1
  ·exact zhY g.2 x a h
noncomputable def zk8 (kvs prs:List (Key × T)):List (Key × T):=prs.foldl (fun acc kv=>zct acc kv.1 kv.2) kvs
theorem RepK.merge {K:Frag} {S:Sit}:∀ {prs:List (Key × T)} {us:List (Key × V)} {kvs:List (Key × T)} {ws:List (Key × V)},RepK K S prs us->RepK K S kvs ws->RepK K S (zk8 kvs prs) (zkI ws us)
 | [],us,kvs,ws,r,q=>by rw [r.nilT];exact q
 | p :: prs,us,kvs,ws,r,q=>by
  obtain ⟨u,us',rfl,r1,r2⟩:=r.consT
  show RepK K S (zk8 (zct kvs p.1 p.2) prs) (zkI (putK ws p.1 u) us')
  exact RepK.merge r2 (q.put p.1 r1)
section
variable {X:Cx} {XE:XK} {e:Expr} {f:Ev->Mem->Out T} {pos:Pos}
theorem znq:PIp X .Mult (lR2 XE X.K zhX):=by
 intro pins s σ H x y v u Q I rx ry ⟨S,⟨tx,ty⟩,e,m,⟨r1,r2⟩,fin⟩
 subst e
 replace fin:Fin XE (Rep X.K) X.K S (zhX tx ty S.M) Q:=fin
 unfold zhX zao at fin
 split at fin
 ·rename_i i j
  cases r1;cases r2
  replace fin:Fin XE (Rep X.K) X.K S (if Mo64 i j then .ok (.int (i * j)) S.M else .bad) Q:=fin
  by_cases h:Mo64 i j
  ·rw [if_pos h] at fin
   obtain ⟨t,rfl⟩:=rx
   obtain ⟨t',rfl⟩:=ry
   exact imul_int ⟨.int _,S.H,I.tok _,⟨_,rfl⟩,fin S _ rfl (.refl m) (.int _)⟩ h.ok.ok
  ·rw [if_neg h] at fin;exact fin.elim
 ·exact fin.elim
theorem zpd {i:Nat} {x:Str} {op:T->T->Mem->Out T} {bop:Operator} {pos':Pos} (hN:X.N.Nodup) (hi:X.N[i]? = some x) (hx:Loc X.env.scope x) (he:GE X XE e f) (ho:PIp X bop (lR2 XE X.K op)) (hf:X.fn x = true\/X.env.scope.names.lookup x = some .local:=by first | exact .inl rfl | exact .inr rfl | assumption) :
  GS X XE (.AugAssign (.Name x pos') bop e pos) (zjR i op f):=PS.imp (zoh hN hi hx he ho hf) fun D σ H hh=>by
 obtain ⟨S,στ,_,e,m,ev,_,fin⟩:=hh
 replace fin:Fin XE (FlR X.K) X.K S ((yb i στ S.M).bind fun x M0=>(f στ M0).bind fun y M1=>(op x y M1).bind fun z M2=>.ok (Fl.nx (στ.set i (some z))) M2) (z3 D):=fin
 unfold yb at fin
 split at fin
 case h_2=>exact fin.elim
 rename_i t et
 obtain ⟨v,e2,rv⟩:=ev.2 i t et
 refine ⟨v,e2,?_⟩
 have h1:LN XE (FlR X.K) X.K (Rep X.K) (fun t σ M=>(f σ M).bind fun y M1=>(op t y M1).bind fun z M2=>.ok (Fl.nx (σ.set i (some z))) M2) v σ H (z3 D):=⟨S,στ,t,e,m,ev,rv,fin⟩
 refine LN.mono (LN.env (f:=f) (LN.bind (f:=fun _ σ M=>f σ M) (k:=fun (a:T) y σ M1=>(op a y M1).bind fun z M2=>.ok (Fl.nx (σ.set i (some z))) M2) (RB:=Rep X.K) h1)) fun yv H1 h2=>?_
 have h6:=LN.bind (f:=fun (a:T × T) _ M=>op a.1 a.2 M) (k:=fun a z σ M2=>.ok (Fl.nx (σ.set i (some z))) M2) (RB:=Rep X.K) h2
 obtain ⟨S5,a5,e5,m5,ra5,fin5⟩:=LN.l0 (k:=fun (a:T × T) M=>op a.1 a.2 M) h6
 refine ⟨S5,(a5.1,a5.2),e5,m5,⟨ra5.1,ra5.2⟩,fin5.mono fun zv H2 h7=>?_⟩
 obtain ⟨S6,στ6,a6,e6,m6,ev6,ra6,fin6⟩:=h7
 show D.nx (σ.set i (some zv)) H2
 rw [← e6];exact fin6 S6 (.nx _) rfl (.refl m6) (.nx (ev6.set ra6.2 i))
end
noncomputable def forR (bd:T->Ev->Mem->Out Ev) (body:Ev->Mem->Out Fl) (a:Nat):Nat->Nat->Ev->Mem->Out Fl
 | 0,i,σ,M=>match M[a]? with
  | some (.lst xs)=>if xs.length<=i then .ok (.nx σ) M else .bad
  | _=>.bad
 | n + 1,i,σ,M=>match M[a]? with
  | some (.lst xs)=>match xs[i]? with
   | some x=>(bd x σ M).bind fun σ1 M1=>(body σ1 M1).bind (zac (forR bd body a n (i + 1)))
   | none=>.ok (.nx σ) M
  | _=>.bad
noncomputable def zrG (bd:T->Ev->Mem->Out Ev) (body:Ev->Mem->Out Fl) (t:T) (σ:Ev) (M:Mem):Out Fl:=match t with
 | .ref a=>match M[a]? with
  | some (.lst xs)=>forR bd body a xs.length 0 σ M
  | _=>.bad
 | _=>.bad
theorem zl7 {bd:T->Ev->Mem->Out Ev} {body:Ev->Mem->Out Fl} {a:Nat} {xs:List T} (P:Nat->Ev->Mem->Prop) (hP:∀ k σ M,P k σ M->M[a]? = some (.lst xs))
  (t:∀ k x σ M,xs[k]? = some x->P k σ M->∃ σ' M',((bd x σ M).bind fun σ1 M1=>body σ1 M1) = .ok (.nx σ') M'/\P (k + 1) σ' M'):∀ n i,i + n = xs.length->∀ σ M,P i σ M->∃ σ' M',forR bd body a n i σ M = .ok (.nx σ') M'/\P xs.length σ' M'
 | 0,i,hi,σ,M,h=>by
  have hM:=hP i σ M h
  refine ⟨σ,M,?_,by rw [← hi];exact h⟩
  unfold forR
  rw [hM]
  exact if_pos (by omega)
 | n + 1,i,hi,σ,M,h=>by
  have hM:=hP i σ M h
  have hx:xs[i]? = some xs[i]:=by simp [show i < xs.length by omega]
  obtain ⟨σ1,M1,e1,h1⟩:=t i _ σ M hx h
  obtain ⟨σ2,M2,e2,h2⟩:=zl7 P hP t n (i + 1) (by omega) σ1 M1 h1
  refine ⟨σ2,M2,?_,h2⟩
  unfold forR
  rw [hM]
  simp only [hx]
  cases q:bd xs[i] σ M with
  | bad=>rw [q] at e1;cases e1
  | exn C fs M'=>rw [q] at e1;cases e1
  | ok σ3 M3=>
   rw [q] at e1
   replace e1:body σ3 M3 = .ok (.nx σ1) M1:=e1
   show (body σ3 M3).bind (zac (forR bd body a n (i + 1))) = _
   rw [e1]
   exact e2
noncomputable def zcx (t:T) (M:Mem):Bool:=(yz t M).isSome
theorem zhB {K:Frag} {S:Sit} (m:MemOk K S) {t:T} {x:V} (r:Rep K S t x) (h:zcx t S.M = true):tyV K "list" x S.H:=by
 unfold zcx at h
 cases q:yz t S.M with
 | none=>rw [q] at h;cases h
 | some xs=>
  obtain ⟨p,vs,rfl,hq,_⟩:=zI m r q
  exact .inl ⟨rfl,vs,hq⟩
end FT
namespace L2
open PySem PySem.Spec PySem.W PyProof.Rows
theorem KV.get_val {κ:Type}:∀ {kvs:List (κ × V)} {vs:List (κ × Value)} {i:Nat} {k:κ} {v:Value},KV kvs vs->vs[i]? = some (k,v)->∃ u,(kvs.map (·.2))[i]? = some u/\RelV u v
 | _,_,_,_,_,.nil,e=>by simp at e
 | _,_,0,_,_,.cons r _,e=>by simp at e;subst e;exact ⟨_,rfl,r.2⟩
 | _,_,i + 1,k,v,.cons _ t,e=>by
  obtain ⟨u,h1,h2⟩:=KV.get_val (i:=i) (k:=k) (v:=v) t (by simpa using e)
  exact ⟨u,by simpa using h1,h2⟩
section
variable {X:Cx} {pins:List (Addr × Obj)} {σ:St} {H:Hp} {s:Shared} {h':Heap}
theorem Inv.turned2 {t':Nat} {e it:Addr} (I:Inv X pins σ H s) (k:∀ b o,b ≠ e->b ≠ it->s.heap.get? b = some o->h'.get? b = some o) (fe:zdu X pins H e) (fi:zdu X pins H it):Inv X pins σ H { s with heap:=h',toks:=t' }:=by
 have ne:∀ b u,H b = some u->b ≠ e:=fun b u q z=>by rw [z,fe.1] at q;cases q
 have ni:∀ b u,H b = some u->b ≠ it:=fun b u q z=>by rw [z,fi.1] at q;cases q
 have kk:∀ b o,b ∉ [e,it]->s.heap.get? b = some o->h'.get? b = some o:=fun b o hc q=>k b o (fun z=>hc (by simp [z])) (fun z=>hc (by simp [z])) q
 refine I.step (g':=s.gens) (d':=s.drawn) (ch:=[e,it]) (fun b hb=>?_) (fun b o _ _ hc q _=>kk b o hc q) (fun b o _ _ hc q _=>⟨o.slots,kk b o hc q⟩) (fun _ _ _ _ n=>n)
  (fun b o hc q=>⟨o,kk b o hc q⟩) (fun _ _ q=>q) (fun _ _ _ q=>q) (fun b ps q=>⟨#[],by rw [q];simp⟩) (fun m hm=>?_) (fun b u q=>?_) I.bare
 ·rcases mem_cons.mp hb with z | z
  ·subst z;exact ⟨fe.2.2.2.1,fe.2.1,fe.2.2.2.2.1,fe.2.2.2.2.2⟩
  ·have z:=mem_singleton.mp z
   subst z;exact ⟨fi.2.2.2.1,fi.2.1,fi.2.2.2.2.1,fi.2.2.2.2.2⟩
 ·obtain ⟨o,es,ep,ho,r⟩:=hm
  exact ⟨o,es,ep,k _ o (Ne.symm fe.2.1) (Ne.symm fi.2.1) ho,r⟩
 ·refine (I.hok b u q).stay (fun c v hc z=>k c v ?_ ?_ z) (fun _ z=>z) fun _ _ z=>z
  ·rcases hc with z | z
   ·rw [z];exact ne b u q
   ·exact ne c _ z
  ·rcases hc with z | z
   ·rw [z];exact ni b u q
   ·exact ni c _ z
end
end L2
namespace FT
open PySem PySem.Spec PyProof.Rows L2
noncomputable def enT (ts:List T):List T:=ts.mapIdx fun i t=>.tup [.int (i:Int),t]
noncomputable def zde (M:Mem) (x:T):List T->Option (List Bool)
 | []=>some []
 | t :: ts=>match eqD M 20 t x,zde M x ts with
  | some b,some bs=>some (b :: bs)
  | _,_=>none
noncomputable def inN:T->T->Mem->Out T:=fun x y M=>match qZ y M with
 | some ys=>match zde M x ys with
  | some bs=>.ok (.bl (bs.any id)) M
  | none=>.bad
 | none=>.bad
theorem zg5 {M:Mem} {x:T}:∀ {ts:List T} {bs:List Bool},zde M x ts = some bs->bs.length = ts.length/\∀ (i:Nat) t b,ts[i]? = some t->bs[i]? = some b->eqD M 20 t x = some b
 | [],bs,h=>by cases h;exact ⟨rfl,fun i t b e=>by simp at e⟩
 | t :: ts,bs,h=>by
  unfold zde at h
  split at h
  ·rename_i b bs' q1 q2
   cases h
   obtain ⟨l,g⟩:=zg5 q2
   refine ⟨by simp [l],fun i u c e1 e2=>?_⟩
   cases i with
   | zero=>cases (show some t = some u from e1);cases (show some b = some c from e2);exact q1
   | succ i=>exact g i u c (by simpa using e1) (by simpa using e2)
  ·cases h
section
variable {X:Cx} {XE:XK} {pins:List (Addr × Obj)} {s:Shared} {σ:L2.St} {S:Sit}
open Classical in
theorem zif (I:L2.Inv X pins σ S.H s) (m:MemOk X.K S) (hu:X.A.units + 64 < cLine) {x:T} {v:V} {u:Value} (rx:RelV v u) (r:Rep X.K S x v) {ts:List T} {vs:List V} {its:List Value} (rs:Reps X.K S ts vs) (rv:Vals vs its) {bs:List Bool} (h:zde S.M x ts = some bs) :
  ∃ e:Value->Bool,(∀ y,y ∈ its.toArray->SeqAt.EqAt X.A.in1 s y u (e y))/\its.toArray.any e = bs.any id:=by
 obtain ⟨hl,g⟩:=zg5 h
 have l1:its.length = bs.length:=by rw [← rv.length,← rs.1,hl]
 have at_:∀ (j:Nat) (y:Value) (b:Bool),its[j]? = some y->bs[j]? = some b->SeqAt.EqAt X.A.in1 s y u b:=fun j y b e1 e2=>by
  have hj:j < ts.length:=by rw [← hl];exact (List.getElem?_eq_some_iff.mp e2).1
  have et:ts[j]? = some ts[j]:=by simp [hj]
  obtain ⟨w,ew,rw'⟩:=rs.get et
  obtain ⟨y',ey,ry⟩:=rv.get ew
  rw [e1] at ey
  cases ey
  exact zk4 I m 20 (A:=X.A.in1) (by show X.A.units + 1 + 20 < cLine;omega) ry rx rw' r (g j _ b et e2)
 refine ⟨fun y=>decide (∃ j:Nat,its[j]? = some y/\bs[j]? = some true),fun y hy=>?_,?_⟩
 ·by_cases hc:∃ j:Nat,its[j]? = some y/\bs[j]? = some true
  ·show SeqAt.EqAt X.A.in1 s y u (decide (∃ j:Nat,its[j]? = some y/\bs[j]? = some true))
   rw [decide_eq_true hc]
   obtain ⟨j,e1,e2⟩:=hc
   exact at_ j y true e1 e2
  ·show SeqAt.EqAt X.A.in1 s y u (decide (∃ j:Nat,its[j]? = some y/\bs[j]? = some true))
   rw [decide_eq_false hc]
   obtain ⟨j,hj,e1⟩:=getElem_of_mem (show y ∈ its by simpa using hy)
   have ej:its[j]? = some y:=by rw [getElem?_eq_getElem hj,e1]
   have hb:bs[j]? = some bs[j]:=by simp [show j < bs.length by omega]
   cases q:bs[j]'(by omega) with
   | true=>exact absurd ⟨j,ej,by rw [hb,q]⟩ hc
   | false=>exact at_ j y false ej (by rw [hb,q])
 ·rw [Bool.eq_iff_iff]
  simp only [List.any_toArray,List.any_eq_true,id,decide_eq_true_eq]
  constructor
  ·rintro ⟨y,_,j,_,e2⟩
   exact ⟨true,mem_of_getElem? e2,rfl⟩
  ·rintro ⟨b,hb,rfl⟩
   obtain ⟨j,hj,e1⟩:=getElem_of_mem hb
   have hj2:j < its.length:=by omega
   exact ⟨its[j],getElem_mem hj2,j,by simp [hj2],by simp [hj,e1]⟩
theorem zoy (hu:X.A.units + 64 < cLine):OpR X (compareOp .In) (lR2 XE X.K inN):=by
 intro pins s σ H x y v u Q I rx ry ⟨S,⟨tx,ty⟩,e,m,⟨r1,r2⟩,fin⟩
 subst e
 replace fin:Fin XE (Rep X.K) X.K S (inN tx ty S.M) Q:=fin
 unfold inN at fin
 split at fin
 ·rename_i ys q
  split at fin
  ·rename_i bs qb
   obtain ⟨p,vs,e1,hq,rs⟩:=zcc m r2 q
   dsimp only at e1
   subst e1
   cases ry
   rcases hq with hq | hq
   ·obtain ⟨its,rv,pl,hz⟩:=I.list hq
    obtain ⟨e,h1,h2⟩:=zif I m hu rx r1 rs rv qb
    exact SeqAt.in_listAt e pl.isList h1 ⟨.bl _,S.H,I,rfl,by rw [h2];exact fin S _ rfl (.refl m) (.bl _)⟩
   ·obtain ⟨its,rv,pl,hz⟩:=I.tuple hq
    obtain ⟨e,h1,h2⟩:=zif I m hu rx r1 rs rv qb
    exact SeqAt.in_tupleAt e pl h1 ⟨.bl _,S.H,I,rfl,by rw [h2];exact fin S _ rfl (.refl m) (.bl _)⟩
  ·exact fin.elim
 ·exact fin.elim
end
end FT
namespace L2
open PySem PySem.Spec PySem.W PyProof.Rows
section
variable {X:Cx} {pins:List (Addr × Obj)} {σ:St} {H:Hp} {s:Shared} {l:Addr} {us:List (Key × V)}
theorem Inv.freeze (I:Inv X pins σ H s) (e:H l = some (.dK us)):∃ ob,Inv X pins σ (upd H l (.frz ob (.dK us))) s:=by
 obtain ⟨z,hs,vs,rel,o,es,ep,ho,r⟩:=(show ObjOk X.prog X.w H s.heap l (.dK us) from I.hok l _ e)
 exact ⟨o,I.write (x:=l) (e:=l) (o:=.frz o (.dK us)) (h':=s.heap) (t':=s.toks) (by rw [e];trivial) (.inl rfl) (fun b u _ q=>q) ⟨o,ho⟩ ⟨ho,z,hs,vs,rel,o,es,ep,ho,r⟩⟩
end
noncomputable def zrb (Q:VK):VK:=fun v H'=>∃ l us,v = .ref l/\H' l = some (.dK us)/\∀ ob,Q v (upd H' l (.frz ob (.dK us)))
theorem CallR.frz {X:Cx} {f:Value} {r:List V->Hp->VK->Prop} (h:CallR X f r):CallR X f (fun xs H Q=>r xs H (zrb Q)):=by
 intro pins s σ H xs us Q I rv hr
 refine wpAny_mono (h pins s σ H xs us _ I rv hr) (fun v s' ⟨x,H',I',r',l,us',ex,e,q⟩=>?_) fun _ _ z=>z
 obtain ⟨ob,I2⟩:=I'.freeze e
 exact ⟨x,_,I2,r',q ob⟩
end L2
namespace FT
open PySem PySem.Spec PyProof.Rows L2
noncomputable def zcT (f:Str) (v:T):List (Str × T)->List (Str × T)
 | []=>[(f,v)]
 | (g,x) :: r=>if g = f then (g,v) :: r else (g,x) :: zcT f v r
section
variable {K:Frag} {S:Sit}
theorem RepF.nil:RepF K S [] []:=⟨rfl,.nil⟩
theorem RepF.nilT {us:List (Str × V)} (r:RepF K S [] us):us = []:=by
 have:=r.1
 simpa using this.symm
theorem RepF.consT {p:Str × T} {fs:List (Str × T)} {us:List (Str × V)} (r:RepF K S (p :: fs) us):∃ u us',us = (p.1,u) :: us'/\Rep K S p.2 u/\RepF K S fs us':=by
 cases us with
 | nil=>have:=r.1;simp at this
 | cons q us'=>
  have h1:=r.1
  simp only [map_cons,List.cons.injEq] at h1
  obtain ⟨v,vs,e,r1,r2⟩:=(show Reps K S (p.2 :: fs.map (·.2)) (q.2 :: us'.map (·.2)) from r.2).consT
  cases e
  exact ⟨q.2,us',by rw [h1.1],r1,h1.2,r2⟩
theorem RepF.cons {g:Str} {t:T} {u:V} {fs:List (Str × T)} {us:List (Str × V)} (q:Rep K S t u) (r:RepF K S fs us):RepF K S ((g,t) :: fs) ((g,u) :: us):=⟨by simp [r.1],r.2.cons q⟩
theorem RepF.look (f:Str):∀ {fs:List (Str × T)} {us:List (Str × V)},RepF K S fs us->∀ {t:T},fs.lookup f = some t->∃ v,us.lookup f = some v/\Rep K S t v
 | [],us,r,t,e=>by cases e
 | (g,x) :: fs,us,r,t,e=>by
  obtain ⟨u,us',rfl,r1,r2⟩:=r.consT
  rw [lookup_cons] at e ⊢
  cases h:f == g with
  | true=>rw [h] at e;cases e;exact ⟨u,rfl,r1⟩
  | false=>rw [h] at e;exact RepF.look f r2 e
theorem RepF.put (f:Str) {t:T} {v:V} (q:Rep K S t v):∀ {fs:List (Str × T)} {us:List (Str × V)},RepF K S fs us->RepF K S (zcT f t fs) (yZ f v us)
 | [],us,r=>by rw [r.nilT];exact RepF.cons q .nil
 | (g,x) :: fs,us,r=>by
  obtain ⟨u,us',rfl,r1,r2⟩:=r.consT
  unfold zcT yZ
  by_cases h:g = f
  ·rw [if_pos h,if_pos h];exact RepF.cons q r2
  ·rw [if_neg h,if_neg h];exact RepF.cons r1 (RepF.put f q r2)
theorem RepF.len {fs:List (Str × T)} {us:List (Str × V)} (r:RepF K S fs us):fs.length = us.length:=by
 have:=congrArg List.length r.1
 simpa using this
end
noncomputable def zaI (Cs:List Addr) (f:Str) (x:T) (M:Mem):Out T:=match x with
 | .ref a=>match M[a]? with
  | some (.ins C fs)=>if C ∈ Cs then zfn (fs.lookup f) M else .bad
  | _=>.bad
 | _=>.bad
noncomputable def zj (Cs:List Addr) (f:Str) (g:Ev->Mem->Out T):Ev->Mem->Out T:=fun σ M=>(g σ M).bind fun x M1=>zaI Cs f x M1
noncomputable def zaJ (Cs:List Addr) (f:Str) (x y:T) (M:Mem):Out Unit:=match x with
 | .ref a=>match M[a]? with
  | some (.ins C fs)=>if C ∈ Cs/\fs.length < 1000 then .ok () (M.set a (.ins C (zcT f y fs))) else .bad
  | _=>.bad
 | _=>.bad
noncomputable def yD (Cs:List Addr) (f:Str) (fo fv:Ev->Mem->Out T):Ev->Mem->Out Fl:=fun σ M=>(fv σ M).bind fun y M1=>(fo σ M1).bind fun x M2=>(zaJ Cs f x y M2).bind fun _ M3=>.ok (.nx σ) M3
section
variable {X:Cx} {XE:XK} {Cs:List Addr} {f:Str}
theorem zpn {e:Expr} {g:Ev->Mem->Out T} {pos:Pos} (hC:∀ C ∈ Cs,Cls X.K C/\NoAttr X.K C f) (he:GE X XE e g) (hb:attributeBase e f X.env (eval e X.env) = eval e X.env:=by rfl):GE X XE (.Attribute e f pos) (zj Cs f g):=PE.imp (zor he hb) fun σ H Q hh=>
 LN.mono (LN.bind (f:=fun _ σ M=>g σ M) (k:=fun _ x σ M1=>zaI Cs f x M1) (RB:=Rep X.K) hh) fun v H1 h9=>by
  obtain ⟨S,στ,a,e,m,ev,ra,fin⟩:=h9
  obtain ⟨u0,t⟩:=a
  subst e
  have rt:Rep X.K S t v:=ra.2
  replace fin:Fin XE (Rep X.K) X.K S (zaI Cs f t S.M) Q:=fin
  unfold zaI at fin
  split at fin
  ·rename_i a
   split at fin
   ·rename_i C fs q
    split at fin
    ·rename_i hc
     obtain ⟨t,et,fin⟩:=zeH fin
     cases rt
     obtain ⟨dx,us,h1,rf⟩:=m.cell _ _ q
     obtain ⟨w,ew,rw'⟩:=rf.look f et
     exact ⟨S.α a,C,dx,us,w,rfl,h1,(hC C hc).1,(hC C hc).2,ew,fin S w rfl (.refl m) rw'⟩
    ·exact fin.elim
   ·exact fin.elim
  ·exact fin.elim
theorem zpa {o value:Expr} {fo fv:Ev->Mem->Out T} {pos pos':Pos} (hC:∀ C ∈ Cs,Cls X.K C/\NoAttr X.K C f) (ho:GE X XE o fo) (hv:GE X XE value fv) (hs:swapsWith value (some (.Attribute o f pos')) pos.line X.env = pure false:=by rfl) :
  GS X XE (.Assign [.Attribute o f pos'] value pos) (yD Cs f fo fv):=PS.imp (zog ho hv hs) fun D σ H hh=>by
 refine LN.mono (LN.bind (f:=fun _ σ M=>fv σ M) (k:=fun _ y σ M1=>(fo σ M1).bind fun x M2=>(zaJ Cs f x y M2).bind fun _ M3=>.ok (Fl.nx σ) M3) (RB:=Rep X.K) hh) fun yv H1 h1=>?_
 refine LN.mono (LN.env (f:=fo) (LN.bind (f:=fun _ σ M=>fo σ M) (k:=fun (a:Unit × T) x σ M2=>(zaJ Cs f x a.2 M2).bind fun _ M3=>.ok (Fl.nx σ) M3) (RB:=Rep X.K) h1)) fun xv H2 h2=>?_
 obtain ⟨S,στ,⟨⟨u0,y⟩,x⟩,e,m,ev,⟨⟨hu0,ry⟩,rx⟩,fin⟩:=h2
 subst e
 dsimp only at ry rx
 replace fin:Fin XE (FlR X.K) X.K S ((zaJ Cs f x y S.M).bind fun _ M3=>.ok (Fl.nx στ) M3) (z3 D):=fin
 unfold zaJ at fin
 split at fin
 ·rename_i a
  split at fin
  ·rename_i C fs q
   split at fin
   ·rename_i hc
    cases rx
    obtain ⟨dx,us,h3,rf⟩:=m.cell _ _ q
    have ha:a < S.M.length:=(List.getElem?_eq_some_iff.mp q).1
    refine ⟨S.α a,C,dx,us,rfl,h3,(hC C hc.1).1,(hC C hc.1).2,by rw [← rf.len];exact hc.2,?_⟩
    have s1:=Stp.put m ha (.ins C dx (yZ f yv us)) (.ins C (zcT f y fs)) ⟨dx,_,qA,(rf.put f ry).grow m (Grow.put m ha _ _)⟩
    exact fin (S.put a (.ins C dx (yZ f yv us)) (.ins C (zcT f y fs))) (.nx σ) rfl s1 (.nx (Mo.mo m s1 ev))
   ·exact fin.elim
  ·exact fin.elim
 ·exact fin.elim
end
structure MakT (P:Program) (w:World) (K:Frag) (mg:Str->Option Value) (base:Heap) (k:Nat) (x:Str) (C:Addr) (ps:List Str) (f:List T->Mem->Out T):Prop where
 ex:∃ (fI:Addr) (fd:FuncData),Mk K C fI/\FnOk P w K mg base CX0 k fI fd ps (spT K f)/\Binds K fd ps []/\mg x = some (.ref C)
 nox:∀ ts M C fs M',f ts M ≠ .exn C fs M'
structure Di (K:Frag) (mg:Str->Option Value) (x qual:Str) (C:Addr) (st:Stmt) (ps:List Str):Prop where
 ex:∃ (fI:Addr) (fd:FuncData),Mk K C fI/\Fun K "__init__" qual st fI fd/\Binds K fd ps []/\mg x = some (.ref C)
theorem zoH {P:Program} {w:World} {K:Frag} {mg:Str->Option Value} {base:Heap} {x qual:Str} {C:Addr} {st:Stmt} {N ps:List Str} {k p n:Nat} {g:Ev->Mem->Out Fl} (D:Di K mg x qual C st ps) (Sc:FnScope N ps (zf st)) (hp:ps.length = p) (hn:N.length = n)
  (hb:∀ (f:Addr) (cdv:Value) (A:Around) (outer:List PySem.Env) (s:Shared) (H:Hp) (E:XK),Room k (A.deeper (envOfC qual (zf st) s.heap.objs.size f cdv))->GSs (zb1 CX0 P w K mg base N qual (zf st) f cdv A outer s H E).nox E0 (yK st) g) :
  MakT P w K mg base (k + 1) x C ps (yh p n g):=by
 obtain ⟨fI,fd,M,F,b,e⟩:=D.ex
 exact ⟨⟨fI,fd,M,F.ok Sc (zhG hp) fun cdv A outer s H vs Q E hr h=>zfx hn rfl h (hb fI cdv A outer s H E hr),b,e⟩,zfJ _ _ _⟩
noncomputable def zlJ (a:Nat) (t:T) (M:Mem):Out T:=match t with
 | .non=>.ok (.ref a) M
 | _=>.bad
noncomputable def zcy (C:Addr) (F:List T->Mem->Out T) (ga:Ev->Mem->Out (List T)):Ev->Mem->Out T:=fun σ M=>(ga σ M).bind fun ts M1=>(F (.ref M1.length :: ts) (M1 ++ [.ins C []])).bind fun t M2=>zlJ M1.length t M2
section
variable {X:Cx} {XE:XK} {k:Nat} {ps:List Str} {x:Str} {C:Addr} {p pos:Pos} {e:Expr} {es:List Expr} {ga:Ev->Mem->Out (List T)} {F:List T->Mem->Out T}
theorem znI (M:MakT X.prog X.w X.K X.mg X.base k x C ps F) (hr:Room (k + 1) X.A) (hg:Gl X x) (ha:GA X XE (e :: es) ga) (hdb:(x == ("__debug__":Str)) = false:=by decide) (he:noStar e = true:=by rfl) (hpl:es.all noStar = true:=by rfl) :
  GE X XE (.Call (.Name x p) (e :: es) [] pos) (zcy C F ga):=by
 obtain ⟨fI,fd,Mk1,Fo,b,hm⟩:=M.ex
 refine PE.imp (zmT Mk1 Fo hr hg hm b .nil zml ha hdb (zaj he) (zcM hpl)) fun σ H Q hh=>?_
 refine LN.mono (LN.bind (f:=fun _ σ M=>ga σ M) (k:=fun _ ts σ M1=>(F (T.ref M1.length :: ts) (M1 ++ [Cell.ins C []])).bind fun t M2=>zlJ M1.length t M2) (RB:=Reps X.K) (R:=Rep X.K) hh) fun vs H1 ⟨S,στ,a,e,m,ev,ra,fin⟩=>?_
 obtain ⟨u0,ts⟩:=a
 subst e
 intro y dx hy hdx hne
 rw [append_nil]
 replace ra:Reps X.K S ts vs:=ra.2
 replace fin:Fin XE (Rep X.K) X.K S ((F (.ref S.M.length :: ts) (S.M ++ [.ins C []])).bind fun t M2=>zlJ S.M.length t M2) Q:=fin
 have s1:=Stp.new m hdx (.own y)
 have hy1:(upd S.H dx (.own y)) y = none:=by rw [yk (Ne.symm hne)];exact hy
 have s2:Stp X.K ⟨S.α,S.M,upd S.H dx (.own y),S.hid⟩ (Sit.more ⟨S.α,S.M,upd S.H dx (.own y),S.hid⟩ y (.ins C dx []) (.ins C [])):=Stp.more s1.mok hy1 _ _ ⟨dx,[],qA,.nil⟩
 have s12:=s1.trans s2
 have al:(Sit.more ⟨S.α,S.M,upd S.H dx (.own y),S.hid⟩ y (.ins C dx []) (.ins C [])).α S.M.length = y:=if_pos rfl
 have h0:S.M.length < (S.M ++ [Cell.ins C []]).length:=by simp
 have r0:Rep X.K (Sit.more ⟨S.α,S.M,upd S.H dx (.own y),S.hid⟩ y (.ins C dx []) (.ins C [])) (.ref S.M.length) (.ref y):=by
  have:=Rep.ref (K:=X.K) (S:=Sit.more ⟨S.α,S.M,upd S.H dx (.own y),S.hid⟩ y (.ins C dx []) (.ins C [])) (a:=S.M.length) h0
  rw [al] at this
  exact this
 refine ⟨_,.ref S.M.length :: ts,rfl,s2.mok,(ra.grow m s12.toGrow).cons r0,?_⟩
 show Fin E0 (Rep X.K) X.K _ (F (.ref S.M.length :: ts) (S.M ++ [.ins C []])) _
 cases o:F (.ref S.M.length :: ts) (S.M ++ [.ins C []]) with
 | bad=>rw [o] at fin;exact fin.elim
 | exn C' fs M'=>exact absurd o (M.nox _ _ _ _ _)
 | ok t M2=>
  rw [o] at fin
  intro S3 c e3 s3 r3
  cases t with
  | non=>
   cases r3
   exact ⟨rfl,fin S3 (.ref y) e3 (s12.trans s3) (r0.grow s2.mok s3.toGrow)⟩
  | _=>exact fin.elim
end
theorem qf {P:Addr->Prop}:∀ C ∈ ([]:List Addr),P C:=fun C h=>by simp at h
theorem ye {P:Addr->Prop} {a:Addr} {l:List Addr} (h:P a) (r:∀ C ∈ l,P C):∀ C ∈ a :: l,P C:=fun C hc=>by
 rcases mem_cons.mp hc with rfl | hc
 ·exact h
 ·exact r C hc
noncomputable def zQ (K:Frag) (x:Str):Addr:=match PySem.W.nsIn K mainGlobals x with
 | some (some (.ref a))=>a
 | _=>0
theorem zgG {K:Frag} {x:Str} {C:Addr} (a:PySem.W.nsIn K mainGlobals x = some (some (.ref C))):zQ K x = C:=by
 unfold zQ
 rw [a]
theorem zbt {K:Frag} {x f:Str} {C:Addr} (a:PySem.W.nsIn K mainGlobals x = some (some (.ref C))) (n:PySem.W.findIn K (.ref C) f = some none):NoAttr K (zQ K x) f:=by
 rw [zgG a];exact n
theorem zk9 {K:Frag} {x:Str} {C:Addr} (a:PySem.W.nsIn K mainGlobals x = some (some (.ref C))) (pg:PySem.W.plainGet K C Str.empty = true) (hd:PySem.W.hasDictIn K C = true) (po:PySem.W.plainOver K C = true)
  (sa:PySem.W.findIn K (.ref C) "__setattr__" = some (some (.builtin "object.__setattr__"))):Cls K (zQ K x):=by
 rw [zgG a];exact ⟨pg,hd,po,sa⟩
theorem zmr {K:Frag} {mg:Str->Option Value} {h:Heap} (X:K.In h) (G:h.Ns mainGlobals mg) {x qual:Str} {st:Stmt} {ps:List Str} {C fI:Addr} {od an:Option Addr} {sl:Array (Option Value)} {oc kV dc pm cd ct:Value}
  (a:PySem.W.nsIn K mainGlobals x = some (some (.ref C))) (a1:PySem.W.findIn K (.ref C) "__init__" = some (some (.ref fI))) (i1:PySem.W.isFn K (.ref fI) = true)
  (l1:K.lookup fI = some ⟨oc,od,.func (PySem.W.fnOf "__init__" qual (zaD st) (yK st) (zf st) .none kV dc pm an cd ct),sl⟩) (c1:PySem.W.codeIn K cd qual = true) (k1:PySem.W.keepIn K (.ref fI) = true) (mk:PySem.W.makesIn K C = true) (kc:PySem.W.keepIn K (.ref C) = true)
  (hb:∀ (kV doc pm:Value) (an:Option Addr) (cdv ct:Value) (us:List Value),us.length = ps.length->bindArgs (PySem.W.fnOf "__init__" qual (zaD st) (yK st) (zf st) .none kV doc pm an cdv ct) ⟨us,[]⟩ = pure (ps.zip us)):Di K mg x qual (zQ K x) st ps:=by
 have F:=zh9 (st:=st) l1 c1 k1
 rw [zgG a]
 exact ⟨⟨fI,_,⟨mk,a1,i1,kc⟩,F,F.binds hb,PySem.W.mg_of X G a⟩⟩
end FT
namespace L2
open PySem PySem.Spec PySem.W PyProof.Rows
section
variable {prog:Program} {w:World} {A:Around} {E:Value->Shared->Prop} {s:Shared}
theorem ziN (hh:A.handled = none) (q t:Addr) (hne:t ≠ q) (items:Array Value):Draws prog w A q [q,t] items.size (fun i v=>items[i]? = some v) (fun i h=>h.IsListIter q t i/\h.IsList t items) where
 live:=fun _ _ st=>let ⟨o,ho,_⟩:=st.1;⟨o,ho⟩
 frame:=fun _ _ _ st hk=>⟨st.1.at fun o e=>hk q (by simp) o e,let ⟨o,ho,r⟩:=st.2;⟨o,hk t (by simp) o ho,r⟩⟩
 item:=fun i s Q E hi st hQ=>wpAny_nextOf_list_item st.1 st.2 (x:=items[i]) (by simp [hi]) fun k a b=>hQ _ k s.toks (by simp [hi]) ⟨a,let ⟨o,ho,r⟩:=st.2;⟨o,(b.2 t hne).trans ho,r⟩⟩ b
 done:=fun s Q E st hE=>wpAny_nextOf_list_end hh st.1 st.2 (by simp) hE
end
section
variable {prog:Program} {w:World} {A:Around} {E:Value->Shared->Prop} {s:Shared}
theorem zkd {l:Addr} {items:Array Value} {Q:Value->Shared->Prop} (hl:s.heap.IsList l items)
  (h:∀ k,IsEnum k (s.heap.objs.size + 1) s.heap.objs.size 0 .none->k.IsListIter s.heap.objs.size l 0->k.objs.size = s.heap.objs.size + 2->(∀ b o,s.heap.get? b = some o->k.get? b = some o)->Q (.ref (s.heap.objs.size + 1)) { s with heap:=k }) :
  wpAny (model prog w) A (call (.type "enumerate") [.ref l]) Q E s:=call_enumerate_list hl h
end
noncomputable def ItL (K:Frag) (a:Addr):It:=
 ⟨fun i H=>∃ xs x,SqL K H a xs/\xs[i]? = some x,fun i H y H'=>∃ p x,H p = none/\y = .ref p/\H' = upd H p (.tup [.int (i:Int),x])/\∀ xs,SqL K H a xs->xs[i]? = some x,fun i H=>∃ xs,SqL K H a xs/\xs.length<=i⟩
theorem zjD {P:Program} {w:World} {K:Frag} {elts:List Expr} {x1} {pos:Pos} (a e it:Addr) (hne:e ≠ it) (hae:a ≠ e) (hai:a ≠ it) :
  Turn P w K (.Tuple elts x1 pos) (ItL K a) [e,it] e (fun i h=>(∃ old,IsEnum h e it i old)/\h.IsListIter it a i) where
 mem:=by simp
 obj:=fun i h st b hb=>by
  rcases mem_cons.mp hb with z | z
  ·subst z
   obtain ⟨old,q⟩:=st.1
   exact ⟨_,q,fun v z=>by cases z⟩
  ·have z:=mem_singleton.mp z
   subst z
   obtain ⟨o,q,c,d⟩:=st.2
   exact ⟨o,q,fun v z=>by rw [d] at z;cases z⟩
 keep:=fun i h k st kk=>⟨let ⟨old,q⟩:=st.1;⟨old,kk e (by simp) _ q⟩,st.2.at fun o q=>kk it (by simp) o q⟩
 item:=by
  intro X hP hw hK hc i pins s σ H E I hf st hg
  subst hP hw hK
  obtain ⟨xs,x,hq,hx⟩:=hg
  obtain ⟨its,rv,p,hz⟩:=I.list hq
  obtain ⟨u,hu,ru⟩:=rv.get hx
  obtain ⟨⟨old,he⟩,hi⟩:=st
  have hl:i < its.toArray.size:=by simpa using (List.getElem?_eq_some_iff.mp hu).1
  have D:=ziN (prog:=X.prog) (w:=X.w) (A:=X.A.in1) (by exact I.ok.hd hc) it a hai its.toArray
  refine wpAny_pyNext_enum_itemD D he ⟨hi,p.isList⟩ hl hne (by simp [hne,Ne.symm hae]) fun y k tk hy out st' htup hsz hk=>?_
  have hy':y = u:=by
   have:its[i]? = some y:=by simpa using hy
   rw [hu] at this
   exact (Option.some.inj this).symm
  subst hy'
  refine ⟨.ref s.heap.objs.size,rfl,wpAny_letOwnedTupleGo_enum (s:={ s with heap:=k,toks:=tk + 1 }) out fun k2 en2 sb=>?_⟩
  have fe:=hf e (by simp)
  have fi:=hf it (by simp)
  have eS:e ≠ s.heap.objs.size:=Nat.ne_of_lt (Heap.lt_size he)
  have iS:it ≠ s.heap.objs.size:=by
   obtain ⟨o,q,_⟩:=hi
   exact Nat.ne_of_lt (Heap.lt_size q)
  have IA:=I.laid (h':=s.heap.push { cls:=.type "tuple",data:=.seq #[.int i tk,y] }) (t':=tk + 1) (a:=s.heap.objs.size) (o:=.tup [.int (i:Int),x]) (fun b o q=>Heap.get?_push_of_some _ q) (Nat.le_refl _) (show ObjOk X.prog X.w _ _ _ (.tup [.int (i:Int),x]) from ⟨by show 2<=sizeLine;rw [sizeLine_eq];omega,[.int i tk,y],.cons ⟨tk,rfl⟩ (.cons ru .nil),by have:=IsTup.new s.heap #[.int i tk,y];simpa using this,NoDict.new⟩)
  have up:∀ b,b ≠ s.heap.objs.size->(upd H s.heap.objs.size (.tup [.int (i:Int),x])) b = H b:=fun b hb=>if_neg hb
  have IB:=IA.turned2 (t':=tk + 1) (h':=k2) (e:=e) (it:=it) (fun b o hbe hbi q=>by
   rcases Heap.get?_push_cases q with ⟨z1,z2⟩ | q
   ·subst z1;subst z2
    exact (sb.2 _ (Ne.symm eS)).trans htup
   ·exact (sb.2 b hbe).trans (hk b o hbe hbi q)) ⟨by rw [up e eS];exact fe.1,fe.2⟩ ⟨by rw [up it iS];exact fi.1,fi.2⟩
  refine ⟨.ref s.heap.objs.size,_,IB,rfl,⟨s.heap.objs.size,x,I.hok.fresh (Nat.le_refl _),rfl,rfl,fun ys hys=>by rw [I.list_inj hys hq];exact hx⟩,⟨⟨_,by push_cast at en2 ⊢;exact en2⟩,?_⟩,fun b hb=>?_⟩
  ·obtain ⟨o,q,r⟩:=st'.1
   exact ⟨o,(sb.2 it (Ne.symm hne)).trans q,r⟩
  ·rcases mem_cons.mp hb with z | z
   ·subst z;rw [up _ eS];exact fe.1
   ·have z:=mem_singleton.mp z
    subst z;rw [up _ iS];exact fi.1
 done:=by
  intro X hP hw hK hc i pins s σ H E I hf st hg
  subst hP hw hK
  obtain ⟨xs,hq,hx⟩:=hg
  obtain ⟨its,rv,p,hz⟩:=I.list hq
  obtain ⟨⟨old,he⟩,hi⟩:=st
  obtain ⟨f0,f1,f2,f3,f4,f5⟩:=hf it (by simp)
  have hl:=rv.length
  have D:Draws X.prog X.w X.A.in1 it [it,a] i (fun _ _=>True) (fun j h=>j = i/\h.IsListIter it a i/\h.IsList a its.toArray):={
   live:=fun _ _ st=>let ⟨o,ho,_⟩:=st.2.1;⟨o,ho⟩
   frame:=fun _ _ _ st hk=>⟨st.1,st.2.1.at fun o q=>hk it (by simp) o q,let ⟨o,ho,r⟩:=st.2.2;⟨o,hk a (by simp) o ho,r⟩⟩
   item:=fun j s Q E hj st hQ=>absurd st.1 (Nat.ne_of_lt hj)
   done:=fun s Q E st hE=>wpAny_nextOf_list_end (by exact I.ok.hd hc) st.2.1 st.2.2 (by simp;omega) hE }
  exact wpAny_pyNext_enum_endD D he ⟨rfl,hi,p.isList⟩ fun k eb=>⟨rfl,I.turned (t':=s.toks) (fun b o hb q=>eb b o hb q) f0 f1 f3 f4 f5⟩
 self:=fun _ _ _ _ _ st h=>let ⟨_,q⟩:=st.1;wpAny_pyIter_enum q h
section
variable {X:Cx}
noncomputable def zq8 (K:Frag) (tl:TE):TI:=fun σ H R=>tl σ H fun x H1=>∃ a,x = .ref a/\(∃ xs,SqL K H1 a xs)/\R (ItL K a) H1
theorem zlA {l:Expr} {tl:TE} {elts:List Expr} {x1} {tp p pos:Pos} (hg:Gl X "enumerate") (hm:X.mg "enumerate" = none) (hl:PE X l tl) (hs:starEach [l] X.env = [(false,eval l X.env)]:=by rfl) :
  PI X (.Tuple elts x1 tp) (.Call (.Name "enumerate" p) [l] [] pos) (zq8 X.K tl):=by
 intro pins s σ H R I h
 refine Call_ (zen I hg hm (show bootBuiltins "enumerate" = some (.type "enumerate") by decide +kernel) (PyProof.Rows.callWith_type1 ?_ hs rfl))
 rw [hs]
 refine Calls.spliced_cons (thn (hl pins s σ H _ I h) fun v s1 ⟨x,H1,I1,r1,q1⟩=>Calls.spliced_nil ?_)
 obtain ⟨a,e,⟨xs,hq⟩,q⟩:=q1
 subst e
 cases r1
 obtain ⟨its,rv,pt,hz⟩:=I1.list hq
 have ha:a < s1.heap.objs.size:=by
  obtain ⟨o,ho,_⟩:=pt.isList
  exact Heap.lt_size ho
 refine zkd pt.isList fun k en ti hsz hk=>?_
 refine wpAny_pyIter_enum en ?_
 refine ⟨s1.heap.objs.size + 1,[s1.heap.objs.size + 1,s1.heap.objs.size],_,_,H1,rfl,I1.kept (t':=s1.toks) hk,zjD a _ _ (Nat.ne_of_gt (Nat.lt_succ_self _)) (Nat.ne_of_lt (Nat.lt_succ_of_lt ha)) (Nat.ne_of_lt ha),⟨⟨_,en⟩,ti⟩,fun b hb=>?_,q⟩
 rcases mem_cons.mp hb with z | z
 ·subst z;exact I1.fpOk (Nat.le_succ _) (I1.hok.fresh (Nat.le_succ _))
 ·have z:=mem_singleton.mp z
  subst z;exact I1.fpOk (Nat.le_refl _) (I1.hok.fresh (Nat.le_refl _))
end
end L2
namespace FT
open PySem PySem.Spec PyProof.Rows L2
noncomputable def zdB (f:Ev->Mem->Out T):Ev->Mem->Out (List T):=fun σ M=>(f σ M).bind fun t M1=>match t with
 | .lst ts=>.ok (enT ts) M1
 | _=>.bad
section
variable {X:Cx} {XE:XK}
theorem zl0 {l:Expr} {f:Ev->Mem->Out T} {elts:List Expr} {x1} {tp p pos:Pos} (hg:Gl X "enumerate") (hm:X.mg "enumerate" = none) (he:GE X XE l f) (hs:noStar l = true:=by rfl) :
  GI X XE (.Tuple elts x1 tp) (.Call (.Name "enumerate" p) [l] [] pos) (zdB f):=PI.imp (zlA hg hm he (zaj hs)) fun σ H R h9=>by
 obtain ⟨S,στ,_,e,m,ev,_,fin⟩:=h9
 replace fin:Fin XE (zdt X.K) X.K S ((f στ S.M).bind fun t M1=>match t with | .lst ts=>.ok (enT ts) M1 | _=>.bad) R:=fin
 refine ⟨S,στ,(),e,m,ev,trivial,?_⟩
 show Fin XE (Rep X.K) X.K S (f στ S.M) _
 cases o:f στ S.M with
 | bad=>rw [o] at fin;exact fin.elim
 | exn C fs M'=>rw [o] at fin;exact fin
 | ok t M1=>
  rw [o] at fin
  cases t with
  | lst ts=>
   intro S1 v e1 s1 r1
   cases r1 with
   | @lst _ p vs h l r=>
    have r1:Reps X.K S1 ts vs:=⟨l,r⟩
    refine ⟨p,rfl,⟨vs,zcV h⟩,fin S1 _ e1 s1 fun S3 s3=>?_⟩
    have g3:SqL X.K S3.H p vs:=by
     rcases h with ⟨h2,f2⟩ | h2
     ·exact .inl (s3.toGrow.rd h2 f2).1
     ·exact .inr h2
    refine ⟨fun i t et=>?_,fun i hi=>⟨vs,g3,by rw [← l];simpa [enT] using hi⟩⟩
    unfold enT at et
    rw [List.getElem?_mapIdx] at et
    obtain ⟨t0,et0,rfl⟩:=Option.map_eq_some_iff.mp et
    obtain ⟨v2,ev3,r3⟩:=r1.get et0
    refine ⟨⟨vs,v2,g3,ev3⟩,fun x H' hy=>?_⟩
    obtain ⟨q,y,hq,rfl,rfl,hy⟩:=hy
    have:=hy vs g3
    rw [ev3] at this
    cases this
    have s4:=Stp.new s3.mok hq (.tup [.int (i:Int),v2])
    have r4:=(r3.grow s1.mok s3.toGrow).grow s3.mok s4.toGrow
    refine ⟨⟨S3.α,S3.M,upd S3.H q (.tup [.int (i:Int),v2]),S3.hid⟩,rfl,rfl,s4,?_⟩
    have rr:Reps X.K ⟨S3.α,S3.M,upd S3.H q (.tup [.int (i:Int),v2]),S3.hid⟩ [.int (i:Int),t0] [.int (i:Int),v2]:=.cons (.int _) (.cons r4 .nil)
    exact .tup (.inl (.inl qA)) rr.1 rr.2
  | _=>exact fin.elim
end
noncomputable def znS:List T->List T->List T
 | x :: xs,y :: ys=>.tup [x,y] :: znS xs ys
 | _,_=>[]
noncomputable def zp (ts:List T) (M:Mem):Out (List T):=match ts with
 | [.lst xs,.lst ys]=>.ok (znS xs ys) M
 | _=>.bad
section
variable {X:Cx} {XE:XK}
theorem zkJ {K:Frag} {S1 S3:Sit} (s3:Stp K S1 S3) {p:Addr} {vs:List V} (h:(Rd S1.H p (.lst vs)/\S1.off p)\/KL K p vs):SqL K S3.H p vs:=by
 rcases h with ⟨h2,f2⟩ | h2
 ·exact .inl (s3.toGrow.rd h2 f2).1
 ·exact .inr h2
end
noncomputable abbrev Gd:=List (Nat × List T)
def zdr (G:Gd) (M:Mem):Prop:=∀ g ∈ G,M[g.1]? = some (.lst g.2)
noncomputable def gdK {β:Type} (G:Gd) (M:Mem) (o:Out β):Out β:=@ite _ (zdr G M) (Classical.propDecidable _) o .bad
theorem zep {β:Type} {G:Gd} {M:Mem} {o:Out β} (h:zdr G M):gdK G M o = o:=if_pos h
theorem zfs {a:Nat} {xs:List T} {M:Mem} (h:M[a]? = some (.lst xs)):zdr [(a,xs)] M:=fun g hg=>by rw [mem_singleton.mp hg];exact h
def ItG (K:Frag) (S:Sit) (items:List T × Gd) (J:It):Prop:=∀ S',Stp K S S'->zdr items.2 S'.M->
 (∀ (i:Nat) t,items.1[i]? = some t->J.go i S'.H/\∀ x H',J.yld i S'.H x H'->∃ S'',S''.H = H'/\S''.M = S'.M/\Stp K S' S''/\Rep K S'' t x)/\∀ i,items.1.length<=i->J.stop i S'.H
instance (K):Mo K (ItG K):=⟨fun _ s r=>fun S' s'=>r S' (s.trans s')⟩
noncomputable def lIG (XE:XK) (K:Frag) (f:Ev->Mem->Out (List T × Gd)):TI:=fun σ H R=>LN XE (ItG K) K UnR (fun _ σ M=>f σ M) () σ H R
def GIG (X:Cx) (XE:XK) (tg iter:Expr) (f:Ev->Mem->Out (List T × Gd)):Prop:=PI X tg iter (lIG XE X.K f)
noncomputable def zgz (G:Gd) (bd:T->Ev->Mem->Out Ev) (body:Ev->Mem->Out Fl):List T->Ev->Mem->Out Fl
 | [],σ,M=>gdK G M (.ok (.nx σ) M)
 | x :: xs,σ,M=>gdK G M ((bd x σ M).bind fun σ1 M1=>(body σ1 M1).bind (zac (zgz G bd body xs)))
noncomputable def zN (G:Gd) (bd:T->Ev->Mem->Out Ev) (cond:Ev->Mem->Out Bool) (el:Ev->Mem->Out T):List T->Ev->Mem->List T->Out (List T)
 | [],_,M,acc=>gdK G M (.ok acc M)
 | x :: xs,σ,M,acc=>gdK G M ((bd x σ M).bind fun σ1 M1=>(cond σ1 M1).bind fun b M2=>if b = true then (el σ1 M2).bind fun t M3=>if acc.length < sizeLine then zN G bd cond el xs σ1 M3 (acc ++ [t]) else .bad else zN G bd cond el xs σ1 M2 acc)
noncomputable def zS (it:Ev->Mem->Out (List T × Gd)) (bd:T->Ev->Mem->Out Ev) (cond:Ev->Mem->Out Bool) (el:Ev->Mem->Out T) (tgs:List Str) (caps:List (Str × Nat)):Ev->Mem->Out (List T):=fun σ M=>(it σ M).bind fun xs M1=>zN xs.2 bd cond el xs.1 (zb3 tgs caps σ) M1 []
theorem FinL.gd {XE:XK} {K:Frag} {S:Sit} {G:Gd} {M:Mem} {o:Out (List T)} {Q:VK} (h:FinL XE K S (gdK G M o) Q):zdr G M/\FinL XE K S o Q:=by
 by_cases g:zdr G M
 ·rw [zep g] at h;exact ⟨g,h⟩
 ·rw [show gdK G M o = .bad from if_neg g] at h;exact h.elim
theorem zka {XE:XK} {K:Frag} {S:Sit} {G:Gd} {bd:T->Ev->Mem->Out Ev} {c:Ev->Mem->Out Bool} {f:Ev->Mem->Out T} {xs acc:List T} {σ:Ev} {M:Mem} {Q:VK} (h:FinL XE K S (zN G bd c f xs σ M acc) Q):zdr G M:=by
 cases xs with
 | nil=>exact (FinL.gd h).1
 | cons x xs=>exact (FinL.gd h).1
section
variable {X:Cx} {XE:XK} {a b c e iter tg:Expr} {es:List Expr} {pos pp:Pos} {sts:List Stmt} {p:Ev->Mem->Out Fl} {ga:Ev->Mem->Out (List T × Gd)}
theorem zg7 {tgs:List Str} {caps:List (Str × Nat)} {ga:Ev->Mem->Out (List T × Gd)} {bd:T->Ev->Mem->Out Ev} {cond:Ev->Mem->Out Bool} {f:Ev->Mem->Out T} {σ:L2.St} {H:Hp} {Q:VK} (hh:lL XE X.K (zS ga bd cond f tgs caps) σ H Q) :
  zhl (lIG XE X.K ga) (lG XE X.K bd) (lT XE X.K cond) (lE XE X.K f) (zaS tgs caps) σ H Q:=by
 obtain ⟨S,στ,e,m,ev,fin⟩:=hh
 replace fin:FinL XE X.K S ((ga στ S.M).bind fun xs M1=>zN xs.2 bd cond f xs.1 (zb3 tgs caps στ) M1 []) Q:=fin
 refine ⟨S,στ,(),e,m,ev,trivial,?_⟩
 show Fin XE (ItG X.K) X.K S (ga στ S.M) _
 cases o:ga στ S.M with
 | bad=>rw [o] at fin;exact fin
 | exn C fs M'=>rw [o] at fin;exact fin
 | ok items M1=>
  rw [o] at fin
  replace fin:FinL XE X.K S (zN items.2 bd cond f items.1 (zb3 tgs caps στ) M1 []) Q:=fin
  intro S0 J e0 s0 it0 D hD
  have m0:=s0.mok
  have fin0:=fin.later s0
  have s1:=Stp.hide (K:=X.K) m0 hD []
  refine ⟨fun i n σ' H'=>∃ S στ acc vs,S.H = H'/\EvR X.K S στ σ'/\n = items.1.length - i/\i<=items.1.length/\D ∈ S.hid/\S.H D = some (.lst vs)/\Reps X.K S acc vs/\Stp X.K S0 S/\FinL XE X.K S0 (zN items.2 bd cond f (items.1.drop i) στ S.M acc) Q,
   ⟨items.1.length - 0,S0.hide D [],zb3 tgs caps στ,[],[],rfl,(Mo.mo (K:=X.K) m0 s1 (Mo.mo (K:=X.K) m s0 ev)).cap tgs caps,rfl,Nat.zero_le _,.head _,qA,.nil,s1,by show FinL XE X.K S0 (zN items.2 bd cond f items.1 (zb3 tgs caps στ) S0.M []) Q;rw [e0];exact fin0⟩,?_⟩
  rintro i n σ1 H1 ⟨S2,στ2,acc,vs,e2,ev2,en,hi2,hid2,hD2,racc,s2,fin2⟩
  subst e2
  have m2:=s2.mok
  have hgd:=zka fin2
  obtain ⟨itg,its⟩:=it0 S2 s2 hgd
  by_cases hl:i < items.1.length
  ·have eq:items.1.drop i = items.1[i] :: items.1.drop (i + 1):=List.drop_eq_getElem_cons hl
   rw [eq] at fin2
   replace fin2:=(FinL.gd fin2).2
   obtain ⟨go,yl⟩:=itg i items.1[i] (by simp [hl])
   refine .inr ⟨go,fun σ' H'=>∃ S στ acc vs,S.H = H'/\EvR X.K S στ σ'/\D ∈ S.hid/\S.H D = some (.lst vs)/\Reps X.K S acc vs/\Stp X.K S0 S/\FinL XE X.K S0 (zN items.2 bd cond f (items.1.drop (i + 1)) στ S.M acc) Q,?_,fun x H' hy=>?_⟩
   ·rintro σ' H' ⟨S,στ,acc,vs,a1,a2,a3,a4,a5,a6,a7⟩
    exact ⟨items.1.length - (i + 1),by omega,S,στ,acc,vs,a1,a2,rfl,hl,a3,a4,a5,a6,a7⟩
   ·obtain ⟨S3,e3,eM,s3,r3⟩:=yl x H' hy
    replace fin2:FinL XE X.K S0 ((bd items.1[i] στ2 S2.M).bind fun σ1 M1=>(cond σ1 M1).bind fun b M2=>if b = true then (f σ1 M2).bind fun t M3=>if acc.length < sizeLine then zN items.2 bd cond f (items.1.drop (i + 1)) σ1 M3 (acc ++ [t]) else .bad else zN items.2 bd cond f (items.1.drop (i + 1)) σ1 M2 acc) Q:=fin2
    refine ⟨S3,στ2,items.1[i],e3,s3.mok,Mo.mo m2 s3 ev2,r3,?_⟩
    show Fin XE (EvR X.K) X.K S3 (bd items.1[i] στ2 S3.M) _
    rw [eM]
    cases o1:bd items.1[i] στ2 S2.M with
    | bad=>rw [o1] at fin2;exact fin2
    | exn C fs M'=>rw [o1] at fin2;exact fun S' od a1 a2 a3=>fin2 S' od a1 ((s2.trans s3).trans a2) a3
    | ok σ4 M4=>
     rw [o1] at fin2
     intro S4 σ4v e4 s4 ev4
     have t4:=s3.trans s4
     replace fin2:FinL XE X.K S0 ((cond σ4 M4).bind fun b M2=>if b = true then (f σ4 M2).bind fun t M3=>if acc.length < sizeLine then zN items.2 bd cond f (items.1.drop (i + 1)) σ4 M3 (acc ++ [t]) else .bad else zN items.2 bd cond f (items.1.drop (i + 1)) σ4 M2 acc) Q:=fin2
     refine ⟨S4,σ4,(),rfl,s4.mok,ev4,trivial,?_⟩
     show Fin XE EqR X.K S4 (cond σ4 S4.M) _
     rw [e4]
     cases o2:cond σ4 M4 with
     | bad=>rw [o2] at fin2;exact fin2
     | exn C fs M'=>rw [o2] at fin2;exact fun S' od a1 a2 a3=>fin2 S' od a1 ((s2.trans t4).trans a2) a3
     | ok b M5=>
      rw [o2] at fin2
      intro S5 b5 e5 s5 eb
      have eb':b = b5:=eb
      subst eb'
      have t5:=t4.trans s5
      replace fin2:FinL XE X.K S0 (if b = true then (f σ4 M5).bind fun t M3=>if acc.length < sizeLine then zN items.2 bd cond f (items.1.drop (i + 1)) σ4 M3 (acc ++ [t]) else .bad else zN items.2 bd cond f (items.1.drop (i + 1)) σ4 M5 acc) Q:=fin2
      cases b with
      | false=>
       rw [if_neg Bool.false_ne_true] at fin2
       refine (if_neg Bool.false_ne_true).mpr ⟨S5,σ4,acc,vs,rfl,Mo.mo s4.mok s5 ev4,(t5.hk D hid2).1,by rw [(t5.hk D hid2).2];exact hD2,racc.grow m2 t5.toGrow,s2.trans t5,by rw [e5];exact fin2⟩
      | true=>
       rw [if_pos rfl] at fin2
       refine (if_pos rfl).mpr ⟨S5,σ4,(),rfl,s5.mok,Mo.mo s4.mok s5 ev4,trivial,?_⟩
       show Fin XE (Rep X.K) X.K S5 (f σ4 S5.M) _
       rw [e5]
       cases o3:f σ4 M5 with
       | bad=>rw [o3] at fin2;exact fin2
       | exn C fs M'=>rw [o3] at fin2;exact fun S' od a1 a2 a3=>fin2 S' od a1 ((s2.trans t5).trans a2) a3
       | ok t M6=>
        rw [o3] at fin2
        replace fin2:FinL XE X.K S0 (if acc.length < sizeLine then zN items.2 bd cond f (items.1.drop (i + 1)) σ4 M6 (acc ++ [t]) else .bad) Q:=fin2
        intro S6 v6 e6 s6 r6
        have t6:=t5.trans s6
        have hz:acc.length < sizeLine:=by
         by_cases hz:acc.length < sizeLine
         ·exact hz
         ·rw [if_neg hz] at fin2;exact fin2.elim
        rw [if_pos hz] at fin2
        have hid6:=(t6.hk D hid2).1
        have hD6:S6.H D = some (.lst vs):=by rw [(t6.hk D hid2).2];exact hD2
        refine ⟨vs,hD6,by rw [← racc.1];exact hz,S6.hput D (vs ++ [v6]),σ4,acc ++ [t],vs ++ [v6],rfl,?_,hid6,qA,?_,(s2.trans t6).hput hid6 hD m0,by show FinL XE X.K S0 (zN items.2 bd cond f (items.1.drop (i + 1)) σ4 S6.M (acc ++ [t])) Q;rw [e6];exact fin2⟩
        ·have ev6:EvR X.K S6 σ4 σ4v:=Mo.mo s4.mok (s5.trans s6) ev4
         exact ⟨ev6.1,fun i t e=>let ⟨v,e',q⟩:=ev6.2 i t e;⟨v,e',q.hput s6.mok hid6⟩⟩
        ·exact ((racc.grow m2 t6.toGrow).app (.cons r6 .nil)).hput s6.mok hid6
  ·rw [List.drop_eq_nil_of_le (by omega)] at fin2
   replace fin2:=(FinL.gd fin2).2
   refine .inl ⟨its i (by omega),?_⟩
   exact fin2 S2 D vs rfl s2 hD hid2 hD2 racc
theorem zlZ {tg elt iter:Expr} {ifs:List Expr} {scope:Scope} {cl:List (Str × Addr)} {pos:Pos} {tgs:List Str} {caps:List (Str × Nat)} {ga:Ev->Mem->Out (List T × Gd)} {bd:T->Ev->Mem->Out Ev} {cond:Ev->Mem->Out Bool} {f:Ev->Mem->Out T}
  (hi:GIG X XE tg iter ga) (cb:CB X scope cl caps)
  (hg:∀ ex s0 H0,GG (X.block scope cl (tgs ++ caps.map (·.1)) ex s0 H0) XE tg bd) (hif:∀ ex s0 H0,PTs (X.block scope cl (tgs ++ caps.map (·.1)) ex s0 H0) ifs (lT XE X.K cond)) (hel:∀ ex s0 H0,GE (X.block scope cl (tgs ++ caps.map (·.1)) ex s0 H0) XE elt f)
  (hs:∀ x,foldedSetIterable iter X.env x = pure x:=by intro _;rfl) :
  GL X XE (.ListComp elt [⟨tg,iter,ifs,0⟩] scope pos) (zS ga bd cond f tgs caps):=PE.imp (zi7 (tgs:=tgs) (g:=lG XE X.K bd) (tc:=lT XE X.K cond) (te:=lE XE X.K f) cb.hc hi cb.hclos cb.hcell cb.hkind cb.hnames cb.hcl cb.hhas cb.hcap hg hif hel hs) fun σ H Q hh=>zg7 hh
theorem zh2 {i0:Nat} {y0:Str} {py spos:Pos} {tg elt iter:Expr} {ifs:List Expr} {scope:Scope} {cl:List (Str × Addr)} {pos:Pos} {tgs:List Str} {caps:List (Str × Nat)} {ga:Ev->Mem->Out (List T × Gd)} {bd:T->Ev->Mem->Out Ev} {cond:Ev->Mem->Out Bool} {f:Ev->Mem->Out T}
  (hi:GIG X XE tg iter ga) (cb:CB X scope cl caps)
  (hg:∀ ex s0 H0,GG (X.block scope cl (tgs ++ caps.map (·.1)) ex s0 H0) XE tg bd) (hif:∀ ex s0 H0,PTs (X.block scope cl (tgs ++ caps.map (·.1)) ex s0 H0) ifs (lT XE X.K cond)) (hel:∀ ex s0 H0,GE (X.block scope cl (tgs ++ caps.map (·.1)) ex s0 H0) XE elt f)
  (hN0:X.N.Nodup) (hi0:X.N[i0]? = some y0) (hx0:Loc X.env.scope y0)
  (hsw:swapsWith (.ListComp elt [⟨tg,iter,ifs,0⟩] scope pos) (some (.Name y0 py)) spos.line X.env = pure true:=by rfl)
  (hf0:X.fn y0 = true\/X.env.scope.names.lookup y0 = some .local:=by first | exact .inl rfl | exact .inr rfl | assumption)
  (hs:∀ x,foldedSetIterable iter X.env x = pure x:=by intro _;rfl) :
  GS X XE (.Assign [.Name y0 py] (.ListComp elt [⟨tg,iter,ifs,0⟩] scope pos) spos) (zm i0 (eFz (zS ga bd cond f tgs caps))):=PS.imp (zfK (tgs:=tgs) (g:=lG XE X.K bd) (tc:=lT XE X.K cond) (te:=lE XE X.K f) cb.hc hi cb.hclos cb.hcell cb.hkind cb.hnames cb.hcl cb.hhas cb.hcap hg hif hel hN0 hi0 hx0 hsw hf0 hs) fun D σ H ⟨S,στ,_,e,m,ev,_,fin⟩=>zg7 ⟨S,στ,e,m,ev,by
 show FinL XE X.K S (zS ga bd cond f tgs caps στ S.M) _
 replace fin:Fin XE (FlR X.K) X.K S (((zS ga bd cond f tgs caps στ S.M).bind fun xs M1=>.ok (T.lst xs) M1).bind fun t M1=>.ok (.nx (στ.set i0 (some t))) M1) (z3 D):=fin
 cases q:zS ga bd cond f tgs caps στ S.M with
 | bad=>rw [q] at fin;exact fin
 | exn C fs M'=>rw [q] at fin;exact fin
 | ok xs M1=>
  rw [q] at fin
  intro S1 p vs e1 s1 hn hp hv r
  exact fin (S1.show S.hid) (.nx (σ.set i0 (some (.ref p)))) e1 s1.show (.nx ((Mo.mo (K:=X.K) m s1.show ev).set (zgw s1 hn m hp hv r) i0))⟩
end
noncomputable def zem (t:T) (M:Mem):Option (List T × Gd):=match t with
 | .lst xs=>some (xs,[])
 | .ref a=>match M[a]? with
  | some (.lst xs)=>some (xs,[(a,xs)])
  | _=>none
 | _=>none
theorem zng {K:Frag} {S:Sit} (m:MemOk K S) {t:T} {v:V} (r:Rep K S t v) {xs:List T} {G:Gd} (e:zem t S.M = some (xs,G)):∃ p vs,v = .ref p/\SqL K S.H p vs/\∀ S3,Stp K S S3->zdr G S3.M->∃ vs3,SqL K S3.H p vs3/\Reps K S3 xs vs3:=by
 unfold zem at e
 split at e
 ·cases e
  cases r with
  | @lst _ p vs h l rr=>
   refine ⟨p,vs,rfl,zcV h,fun S3 s3 _=>⟨vs,zkJ s3 h,?_⟩⟩
   exact (show Reps K S xs vs from ⟨l,rr⟩).grow m s3.toGrow
 ·rename_i a
  split at e
  ·rename_i ys q
   cases e
   cases r with
   | ref ha=>
    obtain ⟨vs,h1,r1⟩:=m.cell a _ q
    refine ⟨S.α a,vs,rfl,.inl (.inl h1),fun S3 s3 g=>?_⟩
    obtain ⟨vs3,h3,r3⟩:=s3.mok.cell a _ (g (a,xs) (.head _))
    rw [s3.al a ha] at h3
    exact ⟨vs3,.inl (.inl h3),r3⟩
  ·cases e
 ·cases e
noncomputable def zbM (f:Ev->Mem->Out T):Ev->Mem->Out (List T × Gd):=fun σ M=>(f σ M).bind fun t M1=>match zem t M1 with
 | some g=>.ok g M1
 | none=>.bad
section
variable {X:Cx} {XE:XK}
theorem znD {e tg:Expr} {f:Ev->Mem->Out T} (he:GE X XE e f):GIG X XE tg e (zbM f):=PI.imp (zi5 he) fun σ H R hh=>
 LN.mono (LN.bind (f:=fun _ σ M=>f σ M) (k:=fun _ t σ M1=>match zem t M1 with | some g=>.ok g M1 | none=>.bad) (RB:=Rep X.K) hh) fun v H1 h9=>by
  obtain ⟨S,στ,a,e,m,ev,ra,fin⟩:=h9
  obtain ⟨u,t⟩:=a
  subst e
  have rt:Rep X.K S t v:=ra.2
  replace fin:Fin XE (ItG X.K) X.K S (match zem t S.M with | some g=>.ok g S.M | none=>.bad) R:=fin
  cases q:zem t S.M with
  | none=>rw [q] at fin;exact fin.elim
  | some g=>
   rw [q] at fin
   obtain ⟨xs,G⟩:=g
   obtain ⟨p,vs,rfl,h1,h2⟩:=zng m rt q
   refine ⟨p,rfl,⟨vs,h1⟩,fin S _ rfl (.refl m) fun S3 s3 gd=>?_⟩
   obtain ⟨vs3,g3,r3⟩:=h2 S3 s3 gd
   refine ⟨fun i t et=>?_,fun i hi=>⟨vs3,g3,by rw [← r3.1];exact hi⟩⟩
   obtain ⟨v2,ev3,rv⟩:=r3.get et
   refine ⟨⟨vs3,v2,g3,ev3⟩,fun x H' hy=>?_⟩
   obtain ⟨ey,hy⟩:=hy
   have:=hy vs3 g3
   rw [ev3] at this
   cases this
   exact ⟨S3,ey.symm,rfl,.refl s3.mok,rv⟩
end
end FT
namespace L2
open PySem PySem.Spec PySem.W PyProof.Rows
def SI (b:Bool) (h:Heap) (q t:Addr) (k:Nat):Prop:=match b with
 | true=>h.IsTupleIter q t k
 | false=>h.IsListIter q t k
def SS (b:Bool) (h:Heap) (t:Addr) (xs:Array Value):Prop:=match b with
 | true=>h.IsTuple t xs
 | false=>h.IsList t xs
def SqX (K:Frag) (H:Hp) (b:Bool) (a:Addr) (xs:List V):Prop:=match b with
 | true=>SqT K H a xs
 | false=>SqL K H a xs
noncomputable abbrev TSl:=V->Option Int->Option Int->V->Hp->(Hp->Prop)->Prop
end L2
namespace FT
open PySem PySem.Spec PyProof.Rows L2
noncomputable def zdf (f:List T->Mem->Out T):List T->Mem->Out T:=fun ts M=>match f ts M with
 | .ok v M'=>@ite _ (M'.take M.length = M/\T.lt 0 v) (Classical.propDecidable _) (.ok v M) .bad
 | _=>.bad
theorem zii (f:List T->Mem->Out T):Refines (zdf f) f:=by
 intro ts M t' M1 _ e
 unfold zdf at e
 split at e
 ·rename_i v M' q
  split at e
  ·rename_i hc
   cases e
   have hl:M.length<=M'.length:=by
    have:=congrArg List.length hc.1
    rw [length_take] at this
    omega
   exact ⟨_,_,q,Nat.le_refl _,hl,hc.1.symm,fun i c e=>.inl e,.same (hc.2.mono (Nat.zero_le _))⟩
  ·cases e
 ·cases e
theorem zij (f:List T->Mem->Out T):∀ ts M C fs M',zdf f ts M ≠ .exn C fs M':=by
 intro ts M C fs M' e
 unfold zdf at e
 split at e
 ·split at e <;> cases e
 ·cases e
structure CalX (P:Program) (w:World) (K:Frag) (mg:Str->Option Value) (base:Heap) (k:Nat) (x:Str) (ps:List Str) (f:List T->Mem->Out T):Prop where
 ex:∃ (fa:Addr) (fd:FuncData),FnOk P w K mg base (CXX P w) k fa fd ps (spT K f)/\PySem.W.keepIn K (.ref fa) = true/\Binds K fd ps []/\mg x = some (.ref fa)
section
variable {X:Cx} {XE:XK} {k i j:Nat} {ps:List Str} {x y v nm:Str} {p pos pos2 np hp tp vp cpos:Pos} {e:Expr} {es:List Expr} {ga:Ev->Mem->Out (List T)} {F:List T->Mem->Out T} {C:Addr} {b0:Stmt} {suite sts:List Stmt} {g gs:Ev->Mem->Out Fl}
structure XcF (P:Program) (w:World) (K:Frag) (mg:Str->Option Value) (base:Heap) (x:Str) (C:Addr):Prop where
 ex:∃ f fd,XcAt K mg x C f/\FnOk P w K mg base CX0 1 f fd ["self","at"] (fun vs H Q E=>(∃ e t v,vs = [.ref e,v]/\H e = some (.ext (ExN e C t none))/\∀ d,H d = none->d ≠ e->Q .non (upd (upd H e (.ext (ExN e C t (some d)))) d (.xd [("at",v)]))))/\Binds K fd ["self","at"] []
theorem XcF.at {P:Program} {w:World} {K:Frag} {mg:Str->Option Value} {base:Heap} {x:Str} {C:Addr} (O:XcF P w K mg base x C):∃ nm fI,XcAt K mg nm C fI:=let ⟨f,_,h,_⟩:=O.ex;⟨x,f,h⟩
def GX (X:Cx) (sts:List Stmt) (g:Ev->Mem->Out Fl):Prop:=PX X sts fun E=>lS E X.K g
noncomputable def zjQ:Ev->Mem->Out Fl:=fun _ _=>.bad
theorem zpc {st:Stmt}:GS X XE st zjQ:=fun _ _ _ _ _ _ ⟨_,_,_,_,_,_,_,fin⟩=>fin.elim
noncomputable def noX (o:Out Fl):Out Fl:=match o with
 | .exn _ _ _=>.bad
 | o=>o
noncomputable def zrR (cs:List Addr) (g gs:Ev->Mem->Out Fl):Ev->Mem->Out Fl:=fun σ M=>match g σ M with
 | .exn C _ M'=>if cs.contains C = true then noX (gs σ M') else .bad
 | o=>o
noncomputable def clr (j:Nat) (fl:Fl) (M:Mem):Out Fl:=match fl with
 | .nx σ=>.ok (.nx (σ.set j none)) M
 | .rt t=>.ok (.rt t) M
 | .bk σ=>.ok (.bk (σ.set j none)) M
 | .ct σ=>.ok (.ct (σ.set j none)) M
noncomputable def zrH (j:Nat) (cs:List Addr) (g gs:Ev->Mem->Out Fl):Ev->Mem->Out Fl:=fun σ M=>match g σ M with
 | .exn C fs M'=>if cs.contains C = true then (noX (gs (σ.set j (some (.exc C fs))) M')).bind (clr j) else .bad
 | o=>o
end
theorem zlm {K:Frag} {mg:Str->Option Value} {x:Str} {C f:Addr} (O:XcAt K mg x C f):Sup K mg x C C:=⟨O.bound,fun h X=>by
 obtain ⟨bm,N,nm,q,bs,sn,sub,ab,col,dd,k0,k1,k2,k3,k5,mN,hC,_,_,_,T⟩:=O.obj h X
 exact ⟨⟨bm,N,nm,q,bs,true,sn,sub,ab,col,dd,k0,k1,k2,k3,k5,hC,(T.tail (by decide)).hasType PySem.F.excBase_ValueError.hasBase⟩,bm,N,nm,q,bs,true,sn,sub,ab,col,dd,k0,k1,k2,k3,k5,hC,by simp⟩⟩
theorem XcF.sup {P:Program} {w:World} {K:Frag} {mg:Str->Option Value} {base:Heap} {x:Str} {C:Addr} (O:XcF P w K mg base x C):Sup K mg x C C:=let ⟨_,_,h,_⟩:=O.ex;zlm h
end FT
namespace L2
open PySem
noncomputable def subs:Nat->List (List Nat)
 | 0=>[[]]
 | n + 1=>subs n ++ (subs n).map (· ++ [n])
theorem ziY:∀ (n:Nat) (ks:List Nat),ks ∈ subs n->ks.Pairwise (· < ·)/\∀ k ∈ ks,k < n
 | 0,ks,h=>by rw [show ks = [] from mem_singleton.mp h];exact ⟨.nil,fun _ h=>by cases h⟩
 | n + 1,ks,h=>by
  unfold subs at h
  rcases mem_append.mp h with h | h
  ·have:=ziY n ks h
   exact ⟨this.1,fun k hk=>Nat.lt_succ_of_lt (this.2 k hk)⟩
  ·obtain ⟨l,hl,rfl⟩:=mem_map.mp h
   have:=ziY n l hl
   refine ⟨List.pairwise_append.mpr ⟨this.1,List.pairwise_singleton _ _,fun a ha b hb=>by rw [mem_singleton.mp hb];exact this.2 a ha⟩,fun k hk=>?_⟩
   rcases mem_append.mp hk with hk | hk
   ·exact Nat.lt_succ_of_lt (this.2 k hk)
   ·rw [mem_singleton.mp hk];exact Nat.lt_succ_self _
noncomputable def zrg:Bool:=(subs 6).all fun ks=>(List.range 7).all fun h=>SetTable.below ks.toArray h == (ks.filter (· < h)).length
theorem znO:zrg = true:=by decide +kernel
theorem zis {ks:List Nat} (hk:ks ∈ subs 6) {h:Nat} (hh:h < 7):SetTable.below ks.toArray h = (ks.filter (· < h)).length:=by
 have:=all_eq_true.mp (all_eq_true.mp znO ks hk) h (mem_range.mpr hh)
 exact eq_of_beq this
noncomputable def zoK (mask:Nat) (hashes:Array Int):Option (List Nat × List Nat):=(SetTable.layClean mask hashes).map fun owner=>
 let live:=(List.range (mask + 1)).filterMap fun j=>(owner.getD j none).map (j,·)
 (live.map (·.1),live.map (·.2))
noncomputable def hsh (ks:List Nat):List Int:=ks.map fun k:Nat=>(k:Int)
noncomputable def layB:Bool:=(subs 6).all fun ks=>[7,15,31].all fun m=>zoK m (hsh ks).toArray == some (ks,List.range ks.length)
theorem znk:layB = true:=by decide +kernel
theorem znm {ks:List Nat} (hk:ks ∈ subs 6) {m:Nat} (hm:m ∈ [7,15,31]) (f mv:Nat) (l p:Bool) :
  SetTable.laid m f mv l p (hsh ks).toArray = some ({ mask:=m,place:=ks.toArray,dummies:=#[],finger:=f,led:=l,moves:=mv,plain:=p },(List.range ks.length).toArray):=by
 have:=eq_of_beq (all_eq_true.mp (all_eq_true.mp znk ks hk) m hm)
 unfold zoK at this
 unfold SetTable.laid
 cases q:SetTable.layClean m (hsh ks).toArray with
 | none=>rw [q] at this;cases this
 | some owner=>
  rw [q] at this
  have h:=Prod.mk.inj (Option.some.inj this)
  show some _ = some _
  rw [h.1,h.2]
end L2
namespace L2
open PySem PySem.Spec
noncomputable def zpC (w:World):Bool:=w.params.followText "set-order"
structure DTab (w:World) (es:Array (Int × Value)) (t:SetTable) (ks:List Nat) (m:Nat):Prop where
 keys:es.toList.map (·.1) = hsh ks
 vals:∀ e ∈ es.toList,∃ tk,e.2 = .int e.1 tk
 mask:t.mask = m
 place:t.place = ks.toArray
 dumm:t.dummies = #[]
 plain:t.plain = true
 led:zpC w = true\/t.led = true
 sub:ks ∈ subs 6
 ms:m ∈ [7,15,31]
theorem DTab.size {w:World} {es:Array (Int × Value)} {t:SetTable} {ks:List Nat} {m:Nat} (d:DTab w es t ks m):es.size = ks.length:=by
 have:=congrArg List.length d.keys
 unfold hsh at this
 simpa using this
theorem zhF {ks:List Nat} (h:ks ∈ subs 6):ks.length<=6:=by
 have:((subs 6).all fun ks=>ks.length<=6) = true:=by decide +kernel
 simpa using all_eq_true.mp this ks h
theorem DTab.fits {w:World} {es:Array (Int × Value)} {t:SetTable} {ks:List Nat} {m:Nat} (d:DTab w es t ks m):t.fits es.size = true:=by
 have:=zhF d.sub
 have hm:=d.ms
 unfold SetTable.fits SetTable.fill
 rw [d.size,d.place,d.dumm,d.mask]
 simp at hm ⊢
 omega
theorem znR {k:Nat} (h:k < 6):hashInt (k:Int) = k:=by
 have:((List.range 6).all fun k:Nat=>hashInt (k:Int) == (k:Int)) = true:=by decide +kernel
 exact eq_of_beq (all_eq_true.mp this k (mem_range.mpr h))
section
variable {prog:Program} {w:World} {A:Around} {E:Value->Shared->Prop} {s:Shared} {a:Addr} {ks:List Nat} {m:Nat}
noncomputable def zj3 (k:Nat) (ks:List Nat):List Nat:=if k ∈ ks then ks else ks.take (ks.filter (· < k)).length ++ k :: ks.drop (ks.filter (· < k)).length
theorem zlV {k:Nat} (hk:k < 6) {ks:List Nat} (h:ks ∈ subs 6):zj3 k ks ∈ subs 6:=by
 have:((List.range 6).all fun k=>(subs 6).all fun ks=>(subs 6).contains (zj3 k ks)) = true:=by decide +kernel
 have:=all_eq_true.mp (all_eq_true.mp this k (mem_range.mpr hk)) ks h
 simpa using this
theorem ziK {t:SetTable} {ks:List Nat} {k:Nat} (hp:t.place = ks.toArray) (hd:t.dummies = #[]) (hm:k<=t.mask) (hs:k < 2 ^ 64) (hn:k ∉ ks):t.freeSlot (k:Int) = some (k,false):=by
 have hb:SetTable.bits (k:Int) = k:=by
  unfold SetTable.bits
  rw [Int.emod_eq_of_lt (by omega) (by omega)]
  rfl
 have hsl:t.slot k = .empty:=by
  unfold SetTable.slot SetTable.has
  rw [hp,hd]
  dsimp only
  rw [if_neg (by
   intro e
   have e:=eq_of_beq e
   rw [List.getElem?_toArray] at e
   exact hn (mem_of_getElem? e)),if_neg (by simp)]
 have hj:(t.probeStart (k:Int)).j = k/\(t.probeStart (k:Int)).dummy = none:=by
  unfold SetTable.probeStart
  rw [hb]
  exact ⟨Nat.mod_eq_of_lt (by omega),rfl⟩
 unfold SetTable.freeSlot SetTable.probe
 rw [show 10 * SetTable.turns t.mask = (10 * t.mask + 149) + 1 by unfold SetTable.turns;omega]
 unfold SetTable.probe.go
 rw [hj.1,hsl,hj.2]
 rfl
theorem DTab.ins {w:World} {es:Array (Int × Value)} {t:SetTable} {ks:List Nat} {m k:Nat} {tk:Tok} (d:DTab w es t ks m) (hk:k < 6) (hn:k ∉ ks):DTab w (SetTable.insertAt es (t.put k).2 ((k:Int),.int (k:Int) tk)) (t.put k).1 (zj3 k ks) m:=by
 have hp:(t.put k).2 = (ks.filter (· < k)).length:=by
  unfold SetTable.put
  rw [d.place]
  exact zis d.sub (by omega)
 have hi:zj3 k ks = ks.take (ks.filter (· < k)).length ++ k :: ks.drop (ks.filter (· < k)).length:=if_neg hn
 refine ⟨?_,?_,d.mask,?_,?_,d.plain,d.led,zlV hk d.sub,d.ms⟩
 ·rw [hp,SetTable.toList_insertAt,hi]
  unfold hsh
  rw [map_append,map_cons,map_append,map_cons,map_take,map_take,map_drop,map_drop]
  have:=d.keys
  unfold hsh at this
  rw [this]
 ·intro e he
  rw [SetTable.toList_insertAt] at he
  rcases mem_append.mp he with he | he
  ·exact d.vals e (List.mem_of_mem_take he)
  ·rcases mem_cons.mp he with rfl | he
   ·exact ⟨tk,rfl⟩
   ·exact d.vals e (List.mem_of_mem_drop he)
 ·show SetTable.insertAt t.place (SetTable.below t.place k) k = _
  rw [d.place,zis d.sub (by omega),hi]
  apply Array.toList_inj.mp
  rw [SetTable.toList_insertAt]
 ·show (if SetTable.has t.dummies k then _ else t.dummies) = #[]
  rw [d.dumm]
  rfl
theorem DTab.lay {w:World} {es:Array (Int × Value)} {t:SetTable} {ks:List Nat} {m k:Nat} {tk:Tok} (d:DTab w es t ks m) (hk:k < 6) (hn:k ∉ ks):layNew t es (k:Int) (.int (k:Int) tk) = (SetTable.insertAt es (t.put k).2 ((k:Int),.int (k:Int) tk),(t.put k).1,false,false):=by
 have hm:=d.ms
 have hf:=(d.ins (tk:=tk) hk hn).fits
 unfold layNew
 rw [ziK d.place d.dumm (by rw [d.mask];simp at hm;omega) (by omega) hn]
 dsimp only
 unfold SetTable.orStandIn
 rw [if_pos hf,hf]
 rfl
theorem DTab.full {w:World} {es:Array (Int × Value)} {t:SetTable} {ks:List Nat} {m:Nat} (d:DTab w es t ks m):∃ t' m',relayAll t es (SetTable.grown es.size) = (es,t',false)/\DTab w es t' ks m':=by
 have h6:=zhF d.sub
 have hw:∀ n,n<=6->SetTable.sizeAbove (SetTable.grown n) - 1 ∈ [7,15,31]:=by decide +kernel
 have hms:=hw _ h6
 have e1:es.map (·.1) = (hsh ks).toArray:=by
  rw [← d.keys]
  apply Array.toList_inj.mp
  rw [Array.toList_map]
 have e3:Array.filterMap (fun x=>es[x]?) (List.range ks.length).toArray = es:=by
  apply Array.toList_inj.mp
  rw [← d.size]
  simpa using filterMap_getElem?_range es
 have hc:∀ n,n<=6->coversAll (List.range n).toArray n = true:=by decide +kernel
 have d':DTab w es { mask:=SetTable.sizeAbove (SetTable.grown es.size) - 1,place:=ks.toArray,dummies:=#[],finger:=t.finger,led:=t.led,moves:=t.movedTo (SetTable.sizeAbove (SetTable.grown es.size) - 1),plain:=t.plain } ks (SetTable.sizeAbove (SetTable.grown es.size) - 1):=⟨d.keys,d.vals,rfl,rfl,rfl,d.plain,d.led,d.sub,by rw [d.size];exact hms⟩
 refine ⟨_,_,?_,d'⟩
 unfold relayAll SetTable.relaid
 rw [e1,znm d.sub (by rw [d.size];exact hms)]
 dsimp only
 rw [e3,d'.fits,d.size,hc _ h6]
 rfl
end
end L2
namespace L2
open PySem PySem.Spec PyProof.Rows
section
variable {prog:Program} {w:World} {A:Around} {E:Value->Shared->Prop} {s:Shared} {a:Addr} {ks:List Nat} {m:Nat}
structure DictN (prog:Program) (w:World) (h:Heap) (d:Addr) (ns:List Nat) (od:Obj) (es:Array DictEntry) (ep:Nat):Prop where
 at_:h.get? d = some od
 exact_:od.ExactDict
 data:od.data = .dict es ep
 size:es.size = ns.length
 keys:∀ (i:Nat) n,ns[i]? = some n->∃ e tk,es[i]? = some e/\e.key = .int (n:Int) tk/\e.hash = (n:Int)
 small:∀ n ∈ ns,n < 6
end
end L2
namespace FT
open PySem PySem.Spec PyProof.Rows L2
noncomputable def zeu (f:List T->Mem->Out T):List T->Mem->Out T:=fun ts M=>match f ts M with
 | .ok (.ref a) M'=>match M'[a]? with
  | some (.lst xs)=>@ite _ (M'.take M.length = M/\M.length<=a/\∀ x ∈ xs,T.lt 0 x) (Classical.propDecidable _) (.ok (.lst xs) M) .bad
  | _=>.bad
 | _=>.bad
theorem zjo (f:List T->Mem->Out T):Refines (zeu f) f:=by
 intro ts M t' M1 _ e
 unfold zeu at e
 split at e
 ·rename_i a M' q
  split at e
  ·rename_i xs qa
   split at e
   ·rename_i hc
    cases e
    have hl:M.length<=M'.length:=by
     have:=congrArg List.length hc.1
     rw [length_take] at this
     omega
    refine ⟨_,_,q,Nat.le_refl _,hl,hc.1.symm,fun i c e=>.inl e,.ref qa hc.2.1 rfl fun i t u e1 e2=>?_⟩
    rw [e1] at e2
    cases e2
    exact .same ((hc.2.2 t (mem_of_getElem? e1)).mono (Nat.zero_le _))
   ·cases e
  ·cases e
 ·cases e
theorem zjp (f:List T->Mem->Out T):∀ ts M C fs M',zeu f ts M ≠ .exn C fs M':=by
 intro ts M C fs M' e
 unfold zeu at e
 split at e
 ·split at e
  ·split at e <;> cases e
  ·cases e
 ·cases e
section
variable {P:Program} {w:World} {K:Frag} {mg:Str->Option Value} {base:Heap}
theorem Refines.bad (g:List T->Mem->Out T):Refines (fun _ _=>.bad) g:=fun _ _ _ _ _ e=>by cases e
theorem CalT.bad {x:Str} {st:Stmt} {N ps:List Str} {k:Nat} (D:Df K mg x st ps) (Sc:FnScope N ps (zf st)):CalT P w K mg base (k + 1) x ps (fun _ _=>.bad):=
 CalT.refine (g:=yh ps.length N.length (fun _ _=>.bad)) (zlf D Sc rfl rfl fun f cdv A outer s H E hr=>fun _ _ _ _ _ _ ⟨_,_,_,_,_,_,_,fin⟩=>fin.elim) (Refines.bad _) (fun _ _ _ _ _ z=>by cases z)
end
def KTu (K:Frag) (a:Addr) (xs:List V):Prop:=∃ (o:Obj) (its:Array Value) (n:Nat),K.lookup a = some o/\o.cls = .type "tuple"/\o.dict = none/\o.data = .seq its n/\its.size<=sizeLine/\Vals xs its.toList
theorem zoO {K:Frag} {a:Addr} {x:Str} {t:Tok} {n:Nat} {sl:Array (Option Value)} (h:K.lookup a = some ⟨.type "tuple",none,.seq #[.str x t] n,sl⟩):KTu K a [.str x]:=
 ⟨_,_,n,h,rfl,rfl,rfl,(by rw [sizeLine_eq];exact Nat.le_of_ble_eq_true rfl),.cons ⟨t,rfl⟩ .nil⟩
noncomputable def zfI (Cs:List Addr) (f:Str) (fo:Ev->Mem->Out T) (n:Int):Ev->Mem->Out Fl:=fun σ M=>(fo σ M).bind fun x M1=>(zaI Cs f x M1).bind fun v M2=>(zds v (.int n) M2).bind fun z M3=>(zaJ Cs f x z M3).bind fun _ M4=>.ok (.nx σ) M4
noncomputable def zev:T->List T->Mem->Out T:=fun x ts M=>match x,ts with
 | .ref a,[.lst ys]=>match M[a]? with
  | some (.lst xs)=>if xs.length + ys.length < 1000000 then .ok .non (M.set a (.lst (xs ++ ys))) else .bad
  | _=>.bad
 | .ref a,[.ref b]=>match M[a]?,M[b]? with
  | some (.lst xs),some (.lst ys)=>if xs.length + ys.length < 1000000 then .ok .non (M.set a (.lst (xs ++ ys))) else .bad
  | _,_=>.bad
 | _,_=>.bad
noncomputable def zgt (x:T):List T->Nat->Option Nat
 | [],_=>none
 | y :: ys,n=>if eqS y x = true then some n else zgt x ys (n + 1)
noncomputable def zgv:T->List T->Mem->Out T:=fun x ts M=>match ts with
 | [y]=>match yz x M with
  | some xs=>if (zbH y && xs.all zbH) = true then (match zgt y xs 0 with
   | some n=>.ok (.int (n:Int)) M
   | none=>.bad) else .bad
  | none=>.bad
 | _=>.bad
theorem zgY {x:T}:∀ {ys:List T} {k n:Nat},zgt x ys k = some n->k<=n/\n - k < ys.length/\(∀ y,ys[n - k]? = some y->eqS y x = true)/\∀ (m:Nat) y,m < n - k->ys[m]? = some y->eqS y x = false
 | [],k,n,h=>by cases h
 | y :: ys,k,n,h=>by
  unfold zgt at h
  split at h
  ·rename_i e
   cases h
   refine ⟨Nat.le_refl _,by simp,fun z hz=>?_,fun m z hm=>absurd hm (by omega)⟩
   simp at hz
   rw [← hz];exact e
  ·rename_i e
   obtain ⟨h1,h2,h3,h4⟩:=zgY h
   refine ⟨by omega,by rw [length_cons];omega,fun z hz=>?_,fun m z hm hz=>?_⟩
   ·rw [show n - k = n - (k + 1) + 1 by omega,getElem?_cons_succ] at hz
    exact h3 z hz
   ·cases m with
    | zero=>simp at hz;rw [← hz];simpa using e
    | succ m=>rw [getElem?_cons_succ] at hz;exact h4 m z (by omega) hz
section
variable {X:Cx} {XE:XK} {Cs:List Addr} {f:Str}
theorem zl3 {x:Str} {ss:List Str} {pos:Pos} (hg:Gl X x) (hm:∃ a,X.mg x = some (.ref a)/\KTu X.K a (ss.map .str)) (hd:(x == ("__debug__":Str)) = false:=by decide):GE X XE (.Name x pos) (eC (.tup (ss.map .str))):=by
 obtain ⟨a,hm,o,its,n,h⟩:=hm
 refine zbX (zmU (v:=.ref a) hg hm rfl hd) fun S=>.tup (.inr ⟨o,its,n,h⟩) (by simp) fun i t v e1 e2=>?_
 rw [getElem?_map] at e1 e2
 cases q:ss[i]? with
 | none=>rw [q] at e1;cases e1
 | some z=>rw [q] at e1 e2;cases e1;cases e2;exact .str _
theorem znx {o:Expr} {n:Int} {j} {fo:Ev->Mem->Out T} {tpos pos cpos:Pos} (hC:∀ C ∈ Cs,Cls X.K C/\NoAttr X.K C f) (ho:GE X XE o fo) :
  GS X XE (.AugAssign (.Attribute o f tpos) .Add (.Constant (.int n) j cpos) pos) (zfI Cs f fo n):=PS.imp (zkz ho zkD zo0) fun D σ H hh=>by
 refine LN.mono (LN.bind (f:=fun _ σ M=>fo σ M) (k:=fun _ x σ M1=>(zaI Cs f x M1).bind fun v M2=>(zds v (.int n) M2).bind fun z M3=>(zaJ Cs f x z M3).bind fun _ M4=>.ok (Fl.nx σ) M4) (RB:=Rep X.K) hh) fun xv H1 h1=>?_
 obtain ⟨S,στ,⟨u0,x⟩,e,m,ev,⟨hu0,rx⟩,fin⟩:=h1
 subst e
 dsimp only at rx
 replace fin:Fin XE (FlR X.K) X.K S ((zaI Cs f x S.M).bind fun v M2=>(zds v (.int n) M2).bind fun z M3=>(zaJ Cs f x z M3).bind fun _ M4=>.ok (Fl.nx στ) M4) (z3 D):=fin
 cases x with
 | ref a=>
  unfold zaI at fin
  dsimp only at fin
  cases q:S.M[a]? with
  | none=>rw [q] at fin;exact fin.elim
  | some c=>
   rw [q] at fin
   cases c with
   | ins C fs=>
    dsimp only at fin
    by_cases hc:C ∈ Cs
    ·rw [if_pos hc] at fin
     cases l:fs.lookup f with
     | none=>rw [l] at fin;exact fin.elim
     | some v=>
      rw [l] at fin
      replace fin:Fin XE (FlR X.K) X.K S ((zds v (.int n) S.M).bind fun z M3=>(zaJ Cs f (.ref a) z M3).bind fun _ M4=>.ok (Fl.nx στ) M4) (z3 D):=fin
      cases v with
      | int i=>
       replace fin:Fin XE (FlR X.K) X.K S ((zaJ Cs f (.ref a) (.int (i + n)) S.M).bind fun _ M4=>.ok (Fl.nx στ) M4) (z3 D):=fin
       unfold zaJ at fin
       simp only [q] at fin
       split at fin
       ·rename_i hl
        cases rx
        obtain ⟨dx,us,h3,rf⟩:=m.cell _ _ q
        have ha:a < S.M.length:=(List.getElem?_eq_some_iff.mp q).1
        obtain ⟨w,ew,rw'⟩:=rf.look f l
        cases rw'
        refine ⟨S.α a,C,dx,us,_,rfl,h3,(hC C hc).1,(hC C hc).2,ew,?_⟩
        refine ⟨i,n,rfl,rfl,dx,us,h3,by rw [← rf.len];exact hl.2,?_⟩
        have s1:=Stp.put m ha (.ins C dx (yZ f (.int (i + n)) us)) (.ins C (zcT f (.int (i + n)) fs)) ⟨dx,_,qA,(rf.put f (.int _)).grow m (Grow.put m ha _ _)⟩
        exact fin (S.put a (.ins C dx (yZ f (.int (i + n)) us)) (.ins C (zcT f (.int (i + n)) fs))) (.nx σ) rfl s1 (.nx (Mo.mo m s1 ev))
       ·exact fin.elim
      | _=>exact fin.elim
    ·rw [if_neg hc] at fin;exact fin.elim
   | _=>exact fin.elim
 | _=>exact fin.elim
theorem zoF (hu:X.A.units + 64 < cLine):MtR X "list.index" (lMt XE X.K zgv):=by
 intro pins s σ H x xs v us Q I rx rs ⟨S,⟨tx,ts⟩,e,m,⟨r1,r2⟩,fin⟩
 subst e
 replace r1:Rep X.K S tx x:=r1
 replace r2:Reps X.K S ts xs:=r2
 replace fin:Fin XE (Rep X.K) X.K S (zgv tx ts S.M) Q:=fin
 unfold zgv at fin
 split at fin
 ·rename_i y
  split at fin
  ·rename_i ys q
   split at fin
   ·rename_i hs
    split at fin
    ·rename_i n hn
     rw [Bool.and_eq_true] at hs
     obtain ⟨p,vs,rfl,hq,rs'⟩:=zI m r1 q
     obtain ⟨w1,ws,rfl,h1,h2⟩:=r2.consT
     cases h2.nilT
     cases rs with | cons a1 a2=>
     cases a2
     cases rx
     obtain ⟨its,rv,pl,hz⟩:=I.list hq
     obtain ⟨i1,i2,i3,i4⟩:=zgY hn
     rw [Nat.sub_zero] at i2 i3 i4
     obtain ⟨b1,b2⟩:=zke h1 hs.1 rs' hs.2
     have fx:=zP h1 hs.1
     have hlen:=rv.length
     have hys:=rs'.1
     have val:∀ (k:Nat) (hk:k < its.length),∃ y',ys[k]? = some y'/\eqU w1 its[k] = eqS y' y:=fun k hk=>by
      obtain ⟨y',hy'⟩:∃ y',ys[k]? = some y':=⟨ys[k],getElem?_eq_getElem (by omega)⟩
      obtain ⟨v',hv',rv'⟩:=rs'.get hy'
      obtain ⟨u',hu',ru'⟩:=rv.get hv'
      rw [getElem?_eq_getElem hk] at hu'
      cases hu'
      have sy:zbH y' = true:=all_eq_true.mp hs.2 y' (mem_of_getElem? hy')
      exact ⟨y',hy',by rw [zid ru' (zP rv' sy),zeO rv' h1 sy hs.1]⟩
     obtain ⟨o,c,ho,hcl,hdi,hda⟩:=pl
     obtain ⟨cls,dict,data,slots⟩:=o
     dsimp only at hcl hdi hda
     subst hcl;subst hdi;subst hda
     have hnl:n < its.length:=by omega
     refine call_meets PySem.F.slot_list_index ⟨_,ho,rfl⟩ PySem.F.entry_list_index (PySem.F.args_list_index_2 _ _) (SeqAt.list_indexAt p its.toArray c none slots _ (eqU w1) n (by simpa using hnl) (by have:=zcg;rw [hlen] at hz;omega) ?_ ?_) ⟨ho,fun w hw=>zdT a1 fx rv b1 w (by simpa using hw),⟨.int (n:Int),S.H,I.tok _,⟨_,rfl⟩,fin S _ rfl (.refl m) (.int _)⟩⟩
     ·obtain ⟨y',hy',e'⟩:=val n hnl
      simp only [getElem_toArray]
      rw [e'];exact i3 y' hy'
     ·intro k hk hk2
      have hk':k < its.length:=by simpa using hk
      obtain ⟨y',hy',e'⟩:=val k hk'
      simp only [getElem_toArray]
      rw [e'];exact i4 k y' hk2 hy'
    ·exact fin.elim
   ·exact fin.elim
  ·exact fin.elim
 ·exact fin.elim
end
theorem zkL (l:Addr) (items:Array Value) (n:Nat) (b:Addr) (items2:Array Value) (n2:Nat) (dd:Option Addr) (sl:Array (Option Value)) (hc0:¬(!items.isEmpty && Builtin.List.listTooLong (items.size + items2.size)) = true) (hc1:items.size<=sizeLine) (hs2:items.size + items2.size<=sizeLine + 1) :
  Meets (Builtin.«list.extend» ⟨[.ref l,.ref b],[]⟩) (fun _ R s=>s.heap.get? l = some { cls:=.type "list",dict:=none,data:=.seq items n,slots:=#[] }/\s.heap.get? b = some { cls:=.type "list",dict:=dd,data:=.seq items2 n2,slots:=sl }/\R (.ok (.ret Value.none)) { s with heap:=s.heap.update l (Obj.mapSeq fun x=>x ++ items2),toks:=s.toks }):=
 .of_wp fun prog w A R s h=>by
  obtain ⟨hp,g,d,tk,os⟩:=s;obtain ⟨hl,hb,h⟩:=h;have f1:=AutoSeq1.idx_int;have f2:=AutoSeq1.sub_tuple_tuple;have f3:=AutoSeq1.sub_list_list;have f4:=AutoSeq1.sub_tuple_list;have f5:=AutoSeq1.sub_list_tuple
  have hz':(items ++ items2).size<=sizeLine + 1:=by rw [Array.size_append];exact hs2
  wp_walk using (wpAny_updateSeq hl rfl (hz:=hc1) (_hz':=hz')),AutoSeq1.wpAny_loadPart' hl,AutoSeq1.wpAny_loadPart' hb;exact ⟨_,rfl,h⟩
section
variable {X:Cx} {XE:XK}
noncomputable def zpX (K:Frag):V->List V->Hp->VK->Prop:=fun x vs H Q=>∃ l b xs zs,x = .ref l/\vs = [.ref b]/\H l = some (.lst xs)/\SqL K H b zs/\xs.length + zs.length<=sizeLine/\Q .non (upd H l (.lst (xs ++ zs)))
theorem zja:MtM X "list.extend" (zpX X.K):=by
 intro pins s σ H x vs v us Q I rx rv h
 obtain ⟨l,b,xs,zs,rfl,rfl,hH,hB,hz,q⟩:=h
 cases rx
 obtain ⟨u,rfl,ru⟩:=rv.one
 cases ru
 obtain ⟨z,its,n,r,hl,e⟩:=I.lstM hH
 obtain ⟨its2,r2,pl2,z2⟩:=I.list hB
 obtain ⟨⟨cls2,dd2,data2,sl2⟩,n2,ho2,hc2,hdi2,hd2⟩:=pl2
 simp only at hc2 hd2
 subst hc2 hd2
 have hl2:=r2.length
 have hsz:its.toArray.size + its2.toArray.size<=sizeLine:=by rw [size_toArray,size_toArray];omega
 have hlong:¬ (!its.toArray.isEmpty && Builtin.List.listTooLong (its.toArray.size + its2.toArray.size)) = true:=by
  rw [zlH hsz,Bool.and_false]
  exact Bool.false_ne_true
 refine call_meets F.slot_list_extend ⟨_,e,rfl⟩ F.entry_list_extend (F.args_list_extend_2 _ _)
  (zkL l its.toArray n b its2.toArray n2 dd2 sl2 hlong (by rw [size_toArray];omega) (by omega)) ⟨e,ho2,?_⟩
 refine ⟨.non,_,I.lset (its':=its ++ its2) hH e (by simp) (r.append r2) ?_,rfl,q⟩
 rw [length_append]
 omega
theorem zi9:MtR X "list.extend" (lMt XE X.K zev):=by
 intro pins s σ H x xs v us Q I rx rs ⟨S,⟨tx,ts⟩,e,m,⟨r1,r2⟩,fin⟩
 subst e
 replace r1:Rep X.K S tx x:=r1
 replace r2:Reps X.K S ts xs:=r2
 replace fin:Fin XE (Rep X.K) X.K S (zev tx ts S.M) Q:=fin
 have hsl:(1000000:Nat)<=sizeLine:=by rw [sizeLine_eq];exact Nat.le_of_ble_eq_true rfl
 unfold zev at fin
 split at fin
 ·rename_i a ys
  split at fin
  ·rename_i xs0 q
   split at fin
   ·rename_i hlt
    cases r1 with
    | ref ha=>
    obtain ⟨w1,ws,rfl,h1,h2⟩:=r2.consT
    cases h2.nilT
    obtain ⟨us4,h4,rr⟩:=m.cell _ _ q
    cases h1 with
    | @lst _ p vs h l r=>
    have rr2:Reps X.K S ys vs:=⟨l,r⟩
    have st:=zeG m q (rr.app rr2)
    refine zja pins s σ S.H (.ref (S.α a)) [.ref p] v us Q I rx rs ⟨S.α a,p,us4,vs,rfl,rfl,h4,zcV h,by rw [← rr.1,← l];omega,?_⟩
    exact fin (S.put a (.lst (us4 ++ vs)) (.lst (xs0 ++ ys))) .non rfl st .non
   ·exact fin.elim
  ·exact fin.elim
 ·rename_i a b
  split at fin
  ·rename_i xs0 ys q qb
   split at fin
   ·rename_i hlt
    cases r1 with
    | ref ha=>
    obtain ⟨w1,ws,rfl,h1,h2⟩:=r2.consT
    cases h2.nilT
    obtain ⟨us4,h4,rr⟩:=m.cell _ _ q
    obtain ⟨us5,h5,rr5⟩:=m.cell _ _ qb
    cases h1 with
    | ref hb=>
    have st:=zeG m q (rr.app rr5)
    refine zja pins s σ S.H (.ref (S.α a)) [.ref (S.α b)] v us Q I rx rs ⟨S.α a,S.α b,us4,us5,rfl,rfl,h4,.inl (.inl h5),by rw [← rr.1,← rr5.1];omega,?_⟩
    exact fin (S.put a (.lst (us4 ++ us5)) (.lst (xs0 ++ ys))) .non rfl st .non
   ·exact fin.elim
  ·exact fin.elim
 ·exact fin.elim
end
structure WE (X:Cx) (XE:XK) (e:Expr) (f:Ev->Mem->Out T):Prop where
 pe:GE X XE e f
structure WT (X:Cx) (XE:XK) (e:Expr) (f:Ev->Mem->Out Bool):Prop where
 pe:GT X XE e f
structure WW (X:Cx) (XE:XK) (e:Expr) (f:Ev->Mem->Out Bool):Prop where
 pe:GW X XE e f
structure WA (X:Cx) (XE:XK) (e:List Expr) (f:Ev->Mem->Out (List T)):Prop where
 pe:GA X XE e f
structure WSs (X:Cx) (XE:XK) (e:List Stmt) (f:Ev->Mem->Out Fl):Prop where
 pe:GSs X XE e f
structure WS (X:Cx) (XE:XK) (e:Stmt) (f:Ev->Mem->Out Fl):Prop where
 pe:GS X XE e f
structure WL (X:Cx) (XE:XK) (e:Expr) (f:Ev->Mem->Out (List T)):Prop where
 pe:GL X XE e f
structure WGs (X:Cx) (XE:XK) (e:List Expr) (f:List T->Ev->Mem->Out Ev):Prop where
 pe:GGs X XE e f
structure WG (X:Cx) (XE:XK) (e:Expr) (f:T->Ev->Mem->Out Ev):Prop where
 pe:GG X XE e f
structure WO (X:Cx) (XE:XK) (e:Option Expr) (f:Ev->Mem->Out (Option Int)):Prop where
 pe:GO X XE e f
structure WI (X:Cx) (XE:XK) (tg iter:Expr) (f:Ev->Mem->Out (List T)):Prop where
 pe:GI X XE tg iter f
structure WX (X:Cx) (e:List Stmt) (f:Ev->Mem->Out Fl):Prop where
 pe:GX X e f
structure WIG (X:Cx) (XE:XK) (tg iter:Expr) (f:Ev->Mem->Out (List T × Gd)):Prop where
 pe:GIG X XE tg iter f
section
variable {X:Cx} {XE:XK} {a b c e:Expr} {es:List Expr} {f g h:Ev->Mem->Out T} {pos:Pos} {ga:Ev->Mem->Out (List T)}
theorem za {i:Nat} (h:PE X e (zjG i)):WE X XE e (yb i):=⟨zpi h⟩
theorem yc {i j}:WE X XE (.Constant (.int i) j pos) (eC (.int i)):=⟨ge_int ⟩
theorem zbF {i j}:WE X XE (.Constant (.bool i) j pos) (eC (.bl i)):=⟨zqt ⟩
theorem zae {j}:WE X XE (.Constant .none j pos) (eC .non):=⟨zpm ⟩
theorem qo {i j}:WE X XE (.Constant (.str i) j pos) (eC (.str i)):=⟨ge_str ⟩
theorem zcL {x:Str} {n:String} (hg:Gl X x) (hm:X.mg x = none) (hv:bootBuiltins x = some (.type n)) (hn:x ≠ "__name__":=by decide) (hd:(x == ("__debug__":Str)) = false:=by decide):WE X XE (.Name x pos) (eC (.ty n)):=⟨znJ hg hm hv hn hd⟩
theorem yi {op:Operator} {o:T->T->Mem->Out T} (ho:OpR X (binaryOp op) (lR2 XE X.K o)) (ha:WE X XE a f) (hb:WE X XE b g):WE X XE (.BinOp a op b pos) (eOp o f g):=⟨zqq ho ha.pe hb.pe⟩
theorem zaY {op:CmpOp} {o:T->T->Mem->Out T} (ho:OpR X (compareOp op) (lR2 XE X.K o)) (ha:WE X XE a f) (hb:WE X XE b g) (hm:behindInMarks op b = false):WE X XE (.Compare a [op] [b] pos) (eOp o f g):=⟨zpp ho ha.pe hb.pe hm⟩
theorem yd {o:T->T->Mem->Out T} (ho:IxR X (lR2 XE X.K o)) (ha:WE X XE a f) (hb:WE X XE b g) (hs:zgL b):WE X XE (.Subscript a b pos) (eOp o f g):=⟨zqr ho ha.pe hb.pe hs⟩
theorem y3 (ha:WE X XE e f) (he:∀ whole,isTrue e X.env whole = (do let v ← whole;standAt e.pos;holding [v] (truthy v)):=by intro _;rfl):WT X XE e (zu f):=⟨zo4 ha.pe he⟩
theorem yo {op:CmpOp} {o:T->T->Mem->Out T} (ho:OpR X (compareOp op) (lR2 XE X.K o)) (ha:WE X XE a f) (hb:WE X XE b g) (hm:behindInMarks op b = false):WT X XE (.Compare a [op] [b] pos) (zu (eOp o f g)):=⟨zo6 ho ha.pe hb.pe hm⟩
variable {tf tg:Ev->Mem->Out Bool} {rest:List Expr}
theorem zbv (ha:WT X XE a tf):WW X XE (.BoolOp .And [a] pos) tf:=⟨zns ha.pe⟩
theorem zaA (ha:WT X XE a tf):WW X XE (.BoolOp .Or [a] pos) tf:=⟨zo2 ha.pe⟩
theorem zbU (ha:WT X XE a tf) (hb:WW X XE (.BoolOp .And (b :: rest) pos) tg):WW X XE (.BoolOp .And (a :: b :: rest) pos) (zcv tf tg):=⟨zo3 ha.pe hb.pe⟩
theorem zad (ha:WT X XE a tf) (hb:WW X XE (.BoolOp .Or (b :: rest) pos) tg):WW X XE (.BoolOp .Or (a :: b :: rest) pos) (zba tf tg):=⟨zqk ha.pe hb.pe⟩
theorem WW.gt (h:WW X XE e tf):WT X XE e tf:=⟨GW.gt h.pe⟩
theorem zcA (ha:WT X XE a tf):WT X XE (.UnaryOp .Not a pos) (zc5 tf):=⟨zo5 ha.pe⟩
theorem zdv {op} (h:WE X XE a f):WE X XE (.BoolOp op [a] pos) f:=⟨zpk h.pe⟩
theorem zf6 (ha:WE X XE a f) (hb:WE X XE (.BoolOp .And (b :: rest) pos) g):WE X XE (.BoolOp .And (a :: b :: rest) pos) (zih f g):=⟨zpr ha.pe hb.pe⟩
theorem zkj (ha:WE X XE a f) (hb:WE X XE (.BoolOp .Or (b :: rest) pos) g):WE X XE (.BoolOp .Or (a :: b :: rest) pos) (eOr f g):=⟨zqp ha.pe hb.pe⟩
theorem ziT (ha:WE X XE a f):WE X XE (.UnaryOp .Not a pos) (zj8 f):=⟨zpl ha.pe⟩
theorem znT (hc:WT X XE c tf) (ha:WE X XE a f) (hb:WE X XE b g):WE X XE (.IfExp c a b pos) (eIf tf f g):=⟨ge_if hc.pe ha.pe hb.pe⟩
theorem zc :WA X XE [] zd:=⟨zps ⟩
theorem ya (ha:WE X XE e f) (hr:WA X XE es ga) (hs:noStar e = true:=by rfl):WA X XE (e :: es) (zb f ga):=⟨znK ha.pe hr.pe hs⟩
theorem yy {x1} (h:WA X XE es ga):WE X XE (.Tuple es x1 pos) (zK ga):=⟨zpj h.pe⟩
theorem zr (h:WA X XE es ga):WL X XE (.List es pos) (qx ga):=⟨znB h.pe⟩
theorem zC (h:WL X XE e ga):WE X XE e (eFz ga):=⟨zqs h.pe⟩
theorem zW (h:WL X XE e ga):WE X XE e (eTk ga):=⟨zqn h.pe⟩
theorem zkk {op op':CmpOp} {o o':T->T->Mem->Out T} (ho:OpR X (compareOp op) (lR2 XE X.K o)) (ho':OpR X (compareOp op') (lR2 XE X.K o')) (ha:WE X XE a f) (hb:WE X XE b g) (hc:WE X XE c h) (hm:lastMarks [op,op'] [b,c] = false:=by with_unfolding_all rfl):WE X XE (.Compare a [op,op'] [b,c] pos) (zfY o o' f g h):=⟨zl4 ho ho' ha.pe hb.pe hc.pe hm⟩
end
section
variable {X:Cx} {XE:XK} {a b c e iter tg:Expr} {es:List Expr} {f g h:Ev->Mem->Out T} {pos:Pos} {ga:Ev->Mem->Out (List T)} {st:Stmt} {sts rest:List Stmt} {p q r:Ev->Mem->Out Fl} {tf:Ev->Mem->Out Bool}
theorem zx :WSs X XE [] yO:=⟨znw ⟩
theorem qc (h1:WS X XE st p) (h2:WSs X XE rest q):WSs X XE (st :: rest) (yg p q):=⟨zlX h1.pe h2.pe⟩
theorem qd (h1:WS X XE st p):WSs X XE [st] p:=⟨znv h1.pe⟩
theorem ym (he:WE X XE e f):WS X XE (.Return (some e) pos) (qB f):=⟨zo8 he.pe⟩
theorem qr (he:WE X XE e f) (hs:swapsWith e none pos.line X.env = pure false:=by rfl):WS X XE (.Expr e pos) (zF f):=⟨zpb he.pe hs⟩
theorem zA (hc:WT X XE c tf) (ha:WSs X XE sts p) (hb:WSs X XE rest q):WS X XE (.If c sts rest pos) (sIf tf p q):=⟨zql hc.pe ha.pe hb.pe⟩
theorem zh {i:Nat} {x:Str} {pos':Pos} (hN:X.N.Nodup) (hi:X.N[i]? = some x) (hx:Loc X.env.scope x) (he:WE X XE e f) (hs:swapsWith e (some (.Name x pos')) pos.line X.env = pure false:=by rfl) (hf:X.fn x = true\/X.env.scope.names.lookup x = some .local:=by first | exact .inl rfl | exact .inr rfl | assumption):WS X XE (.Assign [.Name x pos'] e pos) (zm i f):=⟨zo7 hN hi hx he.pe hs hf⟩
theorem yj {i:Nat} (h:PG X tg (zhq i)):WG X XE tg (zi i):=⟨znF h⟩
theorem qU :WGs X XE [] zau:=⟨znE ⟩
theorem yt {bd:T->Ev->Mem->Out Ev} {bs:List T->Ev->Mem->Out Ev} (h:PGs X (e :: es) (zj6 (lG XE X.K bd) (lGs XE X.K bs))):WGs X XE (e :: es) (qz bd bs):=⟨zl1 h⟩
theorem z4 {n:Nat} {bs:List T->Ev->Mem->Out Ev} (h:PG X tg (zl6 X.K n (lGs XE X.K bs))):WG X XE tg (zat n bs):=⟨zpg h⟩
theorem zcB {bd:T->Ev->Mem->Out Ev} (he:WE X XE e f) (hg:WG X XE tg bd) (hs:swapsWithSole [tg] e pos.line X.env = pure false:=by rfl) (hw:swappedStores [tg] e X.env = pure none:=by rfl) (h1:(assignEach [tg] X.env).map (·.2) = [assign tg X.env]:=by rfl):WS X XE (.Assign [tg] e pos) (zeg f bd):=⟨zpe he.pe hg.pe hs hw h1⟩
theorem qX {bd:T->Ev->Mem->Out Ev} (hp:PassesOwn (model X.prog X.w) X.A X.env X.xe) (hc:X.calm = true) (hi:WI X XE tg iter ga) (hg:WG X XE tg bd) (hb:WSs X XE sts p) (hs:∀ x,foldedSetIterable iter X.env x = pure x:=by intro _;rfl):WS X XE (.For tg iter sts [] pos) (zby ga bd p):=⟨zo9 hp hc hi.pe hg.pe hb.pe hs⟩
end
section
variable {X:Cx} {XE:XK} {k:Nat} {ps:List Str} {x:Str} {p pos:Pos} {e:Expr} {es:List Expr} {ga:Ev->Mem->Out (List T)} {F:List T->Mem->Out T}
theorem yf (C:CalT X.prog X.w X.K X.mg X.base k x ps F) (hr:Room k X.A) (hg:Gl X x) (ha:WA X XE (e :: es) ga) (hdb:(x == ("__debug__":Str)) = false:=by decide) (he:noStar e = true:=by rfl) (hpl:es.all noStar = true:=by rfl):WE X XE (.Call (.Name x p) (e :: es) [] pos) (ze F ga):=⟨zpq C hr hg ha.pe hdb he hpl⟩
theorem yq {id:String} (hc:CallR X (.builtin id) (lRN XE X.K F)) (hg:Gl X x) (hm:X.mg x = none) (hv:bootBuiltins x = some (.builtin id)) (ha:WA X XE (e :: es) ga) (hn:x ≠ "__name__":=by decide) (hdb:(x == ("__debug__":Str)) = false:=by decide) (he:noStar e = true:=by rfl) (hpl:es.all noStar = true:=by rfl):WE X XE (.Call (.Name x p) (e :: es) [] pos) (ze F ga):=⟨zl5 hc hg hm hv ha.pe hn hdb he hpl⟩
theorem zaZ {id:String} (hc:CallR X (.type id) (lRN XE X.K F)) (hg:Gl X x) (hm:X.mg x = none) (hv:bootBuiltins x = some (.type id)) (ha:WA X XE (e :: es) ga) (hn:x ≠ "__name__":=by decide) (hdb:(x == ("__debug__":Str)) = false:=by decide) (he:noStar e = true:=by rfl) (hpl:es.all noStar = true:=by rfl):WE X XE (.Call (.Name x p) (e :: es) [] pos) (ze F ga):=⟨zkY hc hg hm hv ha.pe hn hdb he hpl⟩
end
section
variable {X:Cx} {XE:XK} {a b c e iter tg:Expr} {es:List Expr} {f g h:Ev->Mem->Out T} {pos p:Pos} {ga:Ev->Mem->Out (List T)}
theorem zY (he:WE X XE e f):WI X XE tg e (zaH f):=⟨zpf he.pe⟩
theorem y4 (hg:Gl X "range") (hm:X.mg "range" = none) (ha:WA X XE [a] ga) (hs:starEach [a] X.env = [(false,eval a X.env)]:=by rfl):WI X XE tg (.Call (.Name "range" p) [a] [] pos) (zaB ga):=⟨zkX hg hm ha.pe hs⟩
end
section
variable {X:Cx} {XE:XK}
theorem zam {tg elt iter:Expr} {ifs:List Expr} {scope:Scope} {cl:List (Str × Addr)} {pos:Pos} {tgs:List Str} {caps:List (Str × Nat)} {ga:Ev->Mem->Out (List T)} {bd:T->Ev->Mem->Out Ev} {cond:Ev->Mem->Out Bool} {f:Ev->Mem->Out T} (hi:WI X XE tg iter ga) (cb:CB X scope cl caps) (hg:∀ ex s0 H0,WG (X.block scope cl (tgs ++ caps.map (·.1)) ex s0 H0) XE tg bd) (hif:∀ ex s0 H0,PTs (X.block scope cl (tgs ++ caps.map (·.1)) ex s0 H0) ifs (lT XE X.K cond)) (hel:∀ ex s0 H0,WE (X.block scope cl (tgs ++ caps.map (·.1)) ex s0 H0) XE elt f) (hs:∀ x,foldedSetIterable iter X.env x = pure x:=by intro _;rfl):WL X XE (.ListComp elt [⟨tg,iter,ifs,0⟩] scope pos) (yU ga bd cond f tgs caps):=⟨znC hi.pe cb (fun ex s0 H0=>(hg ex s0 H0).pe) hif (fun ex s0 H0=>(hel ex s0 H0).pe) hs⟩
theorem zhy {i0:Nat} {y0:Str} {py spos:Pos} {tg elt iter:Expr} {ifs:List Expr} {scope:Scope} {cl:List (Str × Addr)} {pos:Pos} {tgs:List Str} {caps:List (Str × Nat)} {ga:Ev->Mem->Out (List T)} {bd:T->Ev->Mem->Out Ev} {cond:Ev->Mem->Out Bool} {f:Ev->Mem->Out T} (hi:WI X XE tg iter ga) (cb:CB X scope cl caps) (hg:∀ ex s0 H0,WG (X.block scope cl (tgs ++ caps.map (·.1)) ex s0 H0) XE tg bd) (hif:∀ ex s0 H0,PTs (X.block scope cl (tgs ++ caps.map (·.1)) ex s0 H0) ifs (lT XE X.K cond)) (hel:∀ ex s0 H0,WE (X.block scope cl (tgs ++ caps.map (·.1)) ex s0 H0) XE elt f) (hN0:X.N.Nodup) (hi0:X.N[i0]? = some y0) (hx0:Loc X.env.scope y0) (hsw:swapsWith (.ListComp elt [⟨tg,iter,ifs,0⟩] scope pos) (some (.Name y0 py)) spos.line X.env = pure true:=by rfl) (hf0:X.fn y0 = true\/X.env.scope.names.lookup y0 = some .local:=by first | exact .inl rfl | exact .inr rfl | assumption) (hs:∀ x,foldedSetIterable iter X.env x = pure x:=by intro _;rfl):WS X XE (.Assign [.Name y0 py] (.ListComp elt [⟨tg,iter,ifs,0⟩] scope pos) spos) (zm i0 (eFz (yU ga bd cond f tgs caps))):=⟨ziJ hi.pe cb (fun ex s0 H0=>(hg ex s0 H0).pe) hif (fun ex s0 H0=>(hel ex s0 H0).pe) hN0 hi0 hx0 hsw hf0 hs⟩
theorem qO :PTs X [] (lT XE X.K qH):=znu 
theorem zhx {c:Expr} {tf:Ev->Mem->Out Bool} (h:WT X XE c tf):PTs X [c] (lT XE X.K tf):=znt h.pe
end
section
variable {X:Cx} {XE:XK} {a b e:Expr} {es:List Expr} {f g:Ev->Mem->Out T} {pos p:Pos} {ga:Ev->Mem->Out (List T)} {x:Str}
theorem zjA {id:String} {F:List T->Mem->Out (List T)} (hc:CallR X (.type id) (zlR XE X.K F)) (hg:Gl X x) (hm:X.mg x = none) (hv:bootBuiltins x = some (.type id)) (ha:WA X XE (e :: es) ga) (hn:x ≠ "__name__":=by decide) (hdb:(x == ("__debug__":Str)) = false:=by decide) (he:noStar e = true:=by rfl) (hpl:es.all noStar = true:=by rfl):WL X XE (.Call (.Name x p) (e :: es) [] pos) (zj2 F ga):=⟨zkW hc hg hm hv ha.pe hn hdb he hpl⟩
end
section
variable {X:Cx} {XE:XK}
theorem zf5 {o i:Expr} {f g:Ev->Mem->Out T} {pos:Pos} {st:T->T->T->Mem->Out Unit} (ho:WE X XE o f) (hi:WE X XE i g) (hs:zd2 X (zgs XE X.K st)) (ha:∀ v,assign (.Subscript o i pos) X.env v = (do
   let ov ← holding [v] (eval o X.env)
   let iv ← holding [v,ov] (eval i X.env)
   standAt pos
   holding [v,ov,iv] (setItem ov iv v)
   release [v,ov,iv] []):=by intro _;rfl):WG X XE (.Subscript o i pos) (ziu st f g):=⟨zph ho.pe hi.pe hs ha⟩
theorem zU {o e:Expr} {f:Ev->Mem->Out T} {ga:Ev->Mem->Out (List T)} {apos cpos:Pos} (h:PE X (.Call (.Attribute o "append" apos) [e] [] cpos) (tBM X.K "list" zgi (lE XE X.K f) (lA XE X.K ga))):WE X XE (.Call (.Attribute o "append" apos) [e] [] cpos) (z7 qV (eUn yG f) ga):=⟨ge_app h⟩
end
section
variable {X:Cx} {XE:XK}
theorem zfa :WO X XE none zfL:=⟨znA ⟩
theorem zcJ {e:Expr} {f:Ev->Mem->Out T} (h:WE X XE e f):WO X XE (some e) (zdS f):=⟨znz h.pe⟩
theorem zfA {e:Expr} {lo hi:Option Expr} {f:Ev->Mem->Out T} {p q:Ev->Mem->Out (Option Int)} {p2 pos:Pos} (he:WE X XE e f) (hl:WO X XE lo p) (hu:WO X XE hi q):WE X XE (.Subscript e (.Slice lo hi none p2) pos) (eSl f p q):=⟨zqo he.pe hl.pe hu.pe⟩
end
section
variable {X:Cx} {XE:XK}
theorem zlh {o i e:Expr} {f g h:Ev->Mem->Out T} {get op:T->T->Mem->Out T} {st:T->T->T->Mem->Out Unit} {bop:Operator} {tpos pos:Pos} (ho:WE X XE o f) (hi:WE X XE i g) (hg:ziz X (lR2 XE X.K get)) (he:WE X XE e h) (hp:PIp X bop (lR2 XE X.K op)) (hs:zd2 X (zgs XE X.K st)) (ha:∀ ov iv new,augStore i ov iv new = (do holding [new,ov,iv] (setItem ov iv new);release [new,ov,iv] [];pure .next):=by intros;rfl):WS X XE (.AugAssign (.Subscript o i tpos) bop e pos) (zhm get op st f g h):=⟨zny ho.pe hi.pe hg he.pe hp hs ha⟩
end
section
variable {X:Cx} {XE:XK}
theorem zmu {pos:Pos}:WE X XE (.Dict [] [] pos) zmb:=⟨zpo ⟩
theorem zfb {o e:Expr} {es:List Expr} {n:Str} {Ty:String} {f:Ev->Mem->Out T} {ga:Ev->Mem->Out (List T)} {chk:T->Mem->Bool} {F:T->List T->Mem->Out T} {apos cpos:Pos} (hc:∀ {K:Frag} {S:Sit},MemOk K S->∀ {t:T} {x:V},Rep K S t x->chk t S.M = true->tyV K Ty x S.H) (h:PE X (.Call (.Attribute o n apos) (e :: es) [] cpos) (tBM X.K Ty (lMt XE X.K F) (lE XE X.K f) (lA XE X.K ga))):WE X XE (.Call (.Attribute o n apos) (e :: es) [] cpos) (zci chk F f ga):=⟨znH hc h⟩
end
section
variable {X:Cx} {XE:XK} {e:Expr} {f:Ev->Mem->Out T} {pos:Pos}
theorem zmt {i:Nat} {x:Str} {op:T->T->Mem->Out T} {bop:Operator} {pos':Pos} (hN:X.N.Nodup) (hi:X.N[i]? = some x) (hx:Loc X.env.scope x) (he:WE X XE e f) (ho:PIp X bop (lR2 XE X.K op)) (hf:X.fn x = true\/X.env.scope.names.lookup x = some .local:=by first | exact .inl rfl | exact .inr rfl | assumption):WS X XE (.AugAssign (.Name x pos') bop e pos) (zjR i op f):=⟨zpd hN hi hx he.pe ho hf⟩
end
section
variable {X:Cx} {XE:XK} {Cs:List Addr} {f:Str}
theorem qh {e:Expr} {g:Ev->Mem->Out T} {pos:Pos} (hC:∀ C ∈ Cs,Cls X.K C/\NoAttr X.K C f) (he:WE X XE e g) (hb:attributeBase e f X.env (eval e X.env) = eval e X.env:=by rfl):WE X XE (.Attribute e f pos) (zj Cs f g):=⟨zpn hC he.pe hb⟩
theorem qL {o value:Expr} {fo fv:Ev->Mem->Out T} {pos pos':Pos} (hC:∀ C ∈ Cs,Cls X.K C/\NoAttr X.K C f) (ho:WE X XE o fo) (hv:WE X XE value fv) (hs:swapsWith value (some (.Attribute o f pos')) pos.line X.env = pure false:=by rfl):WS X XE (.Assign [.Attribute o f pos'] value pos) (yD Cs f fo fv):=⟨zpa hC ho.pe hv.pe hs⟩
end
section
variable {X:Cx} {XE:XK} {k:Nat} {ps:List Str} {x:Str} {C:Addr} {p pos:Pos} {e:Expr} {es:List Expr} {ga:Ev->Mem->Out (List T)} {F:List T->Mem->Out T}
theorem zfc (M:MakT X.prog X.w X.K X.mg X.base k x C ps F) (hr:Room (k + 1) X.A) (hg:Gl X x) (ha:WA X XE (e :: es) ga) (hdb:(x == ("__debug__":Str)) = false:=by decide) (he:noStar e = true:=by rfl) (hpl:es.all noStar = true:=by rfl):WE X XE (.Call (.Name x p) (e :: es) [] pos) (zcy C F ga):=⟨znI M hr hg ha.pe hdb he hpl⟩
end
section
variable {X:Cx} {XE:XK}
theorem zgN {l:Expr} {f:Ev->Mem->Out T} {elts:List Expr} {x1} {tp p pos:Pos} (hg:Gl X "enumerate") (hm:X.mg "enumerate" = none) (he:WE X XE l f) (hs:noStar l = true:=by rfl):WI X XE (.Tuple elts x1 tp) (.Call (.Name "enumerate" p) [l] [] pos) (zdB f):=⟨zl0 hg hm he.pe hs⟩
end
section
variable {X:Cx} {XE:XK} {a b c e iter tg:Expr} {es:List Expr} {pos pp:Pos} {sts:List Stmt} {p:Ev->Mem->Out Fl} {ga:Ev->Mem->Out (List T × Gd)}
theorem zc4 {tg elt iter:Expr} {ifs:List Expr} {scope:Scope} {cl:List (Str × Addr)} {pos:Pos} {tgs:List Str} {caps:List (Str × Nat)} {ga:Ev->Mem->Out (List T × Gd)} {bd:T->Ev->Mem->Out Ev} {cond:Ev->Mem->Out Bool} {f:Ev->Mem->Out T} (hi:WIG X XE tg iter ga) (cb:CB X scope cl caps) (hg:∀ ex s0 H0,WG (X.block scope cl (tgs ++ caps.map (·.1)) ex s0 H0) XE tg bd) (hif:∀ ex s0 H0,PTs (X.block scope cl (tgs ++ caps.map (·.1)) ex s0 H0) ifs (lT XE X.K cond)) (hel:∀ ex s0 H0,WE (X.block scope cl (tgs ++ caps.map (·.1)) ex s0 H0) XE elt f) (hs:∀ x,foldedSetIterable iter X.env x = pure x:=by intro _;rfl):WL X XE (.ListComp elt [⟨tg,iter,ifs,0⟩] scope pos) (zS ga bd cond f tgs caps):=⟨zlZ hi.pe cb (fun ex s0 H0=>(hg ex s0 H0).pe) hif (fun ex s0 H0=>(hel ex s0 H0).pe) hs⟩
theorem zhf {i0:Nat} {y0:Str} {py spos:Pos} {tg elt iter:Expr} {ifs:List Expr} {scope:Scope} {cl:List (Str × Addr)} {pos:Pos} {tgs:List Str} {caps:List (Str × Nat)} {ga:Ev->Mem->Out (List T × Gd)} {bd:T->Ev->Mem->Out Ev} {cond:Ev->Mem->Out Bool} {f:Ev->Mem->Out T} (hi:WIG X XE tg iter ga) (cb:CB X scope cl caps) (hg:∀ ex s0 H0,WG (X.block scope cl (tgs ++ caps.map (·.1)) ex s0 H0) XE tg bd) (hif:∀ ex s0 H0,PTs (X.block scope cl (tgs ++ caps.map (·.1)) ex s0 H0) ifs (lT XE X.K cond)) (hel:∀ ex s0 H0,WE (X.block scope cl (tgs ++ caps.map (·.1)) ex s0 H0) XE elt f) (hN0:X.N.Nodup) (hi0:X.N[i0]? = some y0) (hx0:Loc X.env.scope y0) (hsw:swapsWith (.ListComp elt [⟨tg,iter,ifs,0⟩] scope pos) (some (.Name y0 py)) spos.line X.env = pure true:=by rfl) (hf0:X.fn y0 = true\/X.env.scope.names.lookup y0 = some .local:=by first | exact .inl rfl | exact .inr rfl | assumption) (hs:∀ x,foldedSetIterable iter X.env x = pure x:=by intro _;rfl):WS X XE (.Assign [.Name y0 py] (.ListComp elt [⟨tg,iter,ifs,0⟩] scope pos) spos) (zm i0 (eFz (zS ga bd cond f tgs caps))):=⟨zh2 hi.pe cb (fun ex s0 H0=>(hg ex s0 H0).pe) hif (fun ex s0 H0=>(hel ex s0 H0).pe) hN0 hi0 hx0 hsw hf0 hs⟩
end
section
variable {X:Cx} {XE:XK}
theorem zcK {e tg:Expr} {f:Ev->Mem->Out T} (he:WE X XE e f):WIG X XE tg e (zbM f):=⟨znD he.pe⟩
end
section
variable {X:Cx} {XE:XK} {k i j:Nat} {ps:List Str} {x y v nm:Str} {p pos pos2 np hp tp vp cpos:Pos} {e:Expr} {es:List Expr} {ga:Ev->Mem->Out (List T)} {F:List T->Mem->Out T} {C:Addr} {b0:Stmt} {suite sts:List Stmt} {g gs:Ev->Mem->Out Fl}
theorem ziS {st:Stmt}:WS X XE st zjQ:=⟨zpc ⟩
end
section
variable {P:Program} {w:World} {K:Frag} {mg:Str->Option Value} {base:Heap}
theorem zn {x:Str} {st:Stmt} {N ps:List Str} {k p n:Nat} {g:Ev->Mem->Out Fl} (D:Df K mg x st ps) (Sc:FnScope N ps (zf st)) (hp:ps.length = p) (hn:N.length = n)
  (hb:∀ (f:Addr) (cdv:Value) (A:Around) (outer:List PySem.Env) (s:Shared) (H:Hp) (E:XK),Room k (A.deeper (envOfC x (zf st) s.heap.objs.size f cdv))->WSs (zb1 CX0 P w K mg base N x (zf st) f cdv A outer s H E).nox E0 (yK st) g) :
  CalT P w K mg base (k + 1) x ps (yh p n g):=zlf D Sc hp hn fun f cdv A outer s H E hr=>(hb f cdv A outer s H E hr).pe
theorem zms {st:Stmt} {N ps:List Str} {x qual:Str} {f:Addr} {fd:FuncData} {k p n:Nat} {g:Ev->Mem->Out Fl} (F:Fun K x qual st f fd) (Sc:FnScope N ps (zf st)) (hp:ps.length = p) (hn:N.length = n)
  (hb:∀ (cdv:Value) (A:Around) (outer:List PySem.Env) (s:Shared) (H:Hp) (E:XK),Room k (A.deeper (envOfC qual (zf st) s.heap.objs.size f cdv))->WSs (zb1 CX0 P w K mg base N qual (zf st) f cdv A outer s H E).nox E0 (yK st) g) :
  FnOk P w K mg base CX0 (k + 1) f fd ps (spT K (yh p n g)):=zoL F Sc hp hn fun cdv A outer s H E hr=>(hb cdv A outer s H E hr).pe
theorem ziR {x qual:Str} {C:Addr} {st:Stmt} {N ps:List Str} {k p n:Nat} {g:Ev->Mem->Out Fl} (D:Di K mg x qual C st ps) (Sc:FnScope N ps (zf st)) (hp:ps.length = p) (hn:N.length = n)
  (hb:∀ (f:Addr) (cdv:Value) (A:Around) (outer:List PySem.Env) (s:Shared) (H:Hp) (E:XK),Room k (A.deeper (envOfC qual (zf st) s.heap.objs.size f cdv))->WSs (zb1 CX0 P w K mg base N qual (zf st) f cdv A outer s H E).nox E0 (yK st) g) :
  MakT P w K mg base (k + 1) x C ps (yh p n g):=zoH D Sc hp hn fun f cdv A outer s H E hr=>(hb f cdv A outer s H E hr).pe
end
section
variable {X:Cx} {XE:XK} {Cs:List Addr} {f:Str}
theorem zgO {x:Str} {ss:List Str} {pos:Pos} (hg:Gl X x) (hm:∃ a,X.mg x = some (.ref a)/\KTu X.K a (ss.map .str)) (hd:(x == ("__debug__":Str)) = false:=by decide):WE X XE (.Name x pos) (eC (.tup (ss.map .str))):=⟨zl3 hg hm hd⟩
theorem zlg {o:Expr} {n:Int} {j} {fo:Ev->Mem->Out T} {tpos pos cpos:Pos} (hC:∀ C ∈ Cs,Cls X.K C/\NoAttr X.K C f) (ho:WE X XE o fo):WS X XE (.AugAssign (.Attribute o f tpos) .Add (.Constant (.int n) j cpos) pos) (zfI Cs f fo n):=⟨znx hC ho.pe⟩
end
def Ok {β:Type} (o:Out β) (Q:β->Mem->Prop):Prop:=∃ b M,o = .ok b M/\Q b M
theorem Ok.ret {β:Type} {b:β} {M:Mem} {Q:β->Mem->Prop} (h:Q b M):Ok (.ok b M) Q:=⟨b,M,rfl,h⟩
theorem Ok.of {β:Type} {o:Out β} {b:β} {M:Mem} {Q:β->Mem->Prop} (e:o = .ok b M) (h:Q b M):Ok o Q:=⟨b,M,e,h⟩
theorem Ok.bind {β γ:Type} {o:Out β} {k:β->Mem->Out γ} {P:β->Mem->Prop} {Q:γ->Mem->Prop} (h:Ok o P) (g:∀ b M,P b M->Ok (k b M) Q):Ok (o.bind k) Q:=by
 obtain ⟨b,M,e,p⟩:=h
 rw [e]
 exact g b M p
theorem Ok.mono {β:Type} {o:Out β} {P Q:β->Mem->Prop} (h:Ok o P) (g:∀ b M,P b M->Q b M):Ok o Q:=by
 obtain ⟨b,M,e,p⟩:=h
 exact ⟨b,M,e,g b M p⟩
theorem zme {β γ δ:Type} {o:Out β} {k:β->Mem->Out γ} {l:γ->Mem->Out δ}:(o.bind k).bind l = o.bind fun b M=>(k b M).bind l:=by cases o <;> rfl
theorem zre {β γ:Type} {p:Prop} [Decidable p] {x y:Out β} {k:β->Mem->Out γ}:(if p then x else y).bind k = if p then x.bind k else y.bind k:=by split <;> rfl
theorem zrd {β γ:Type} {t:T} {M:Mem} {k:Bool->Mem->Out β} {l:β->Mem->Out γ}:(blT t M k).bind l = blT t M fun b M=>(k b M).bind l:=by cases t <;> rfl
noncomputable def zcS (fl:Fl) (M:Mem):Out T:=match fl with
 | .rt t=>.ok t M
 | .nx _=>.ok .non M
 | _=>.bad
theorem zrk {t:T} {M:Mem}:zcS (.rt t) M = .ok t M:=rfl
theorem zrl {σ:Ev} {M:Mem}:zcS (.nx σ) M = .ok .non M:=rfl
theorem qu {p n:Nat} {g:Ev->Mem->Out Fl} {ts:List T} {M:Mem} {Q:T->Mem->Prop} (h:ts.length = p) (k:Ok ((g (startT n ts) M).bind zcS) Q):Ok (yh p n g ts M) Q:=by
 obtain ⟨b,M1,e,q⟩:=k
 refine ⟨b,M1,?_,q⟩
 rw [zkw h]
 cases r:g (startT n ts) M with
 | bad=>rw [r] at e;cases e
 | exn C fs M'=>rw [r] at e;cases e
 | ok fl M'=>
  rw [r] at e
  cases fl with
  | rt t=>exact e
  | nx σ=>exact e
  | bk σ=>cases e
  | ct σ=>cases e
def Fr (S:List Nat) (M M':Mem):Prop:=M.length<=M'.length/\∀ i,i < M.length->i ∉ S->M'[i]? = M[i]?
theorem Fr.refl (S:List Nat) (M:Mem):Fr S M M:=⟨Nat.le_refl _,fun _ _ _=>rfl⟩
theorem Fr.trans {S:List Nat} {A B C:Mem} (h:Fr S A B) (g:Fr S B C):Fr S A C:=⟨Nat.le_trans h.1 g.1,fun i hi hs=>by rw [g.2 i (Nat.lt_of_lt_of_le hi h.1) hs,h.2 i hi hs]⟩
theorem Fr.tr {S S':List Nat} {A B C:Mem} (h:Fr S A B) (g:Fr S' B C) (s:∀ i ∈ S',i ∈ S\/A.length<=i):Fr S A C:=⟨Nat.le_trans h.1 g.1,fun i hi hs=>by
 rw [g.2 i (Nat.lt_of_lt_of_le hi h.1) (fun z=>by rcases s i z with a | a;exact hs a;omega),h.2 i hi hs]⟩
theorem Fr.get {S:List Nat} {M M':Mem} (h:Fr S M M') {i:Nat} {c:Cell} (e:M[i]? = some c) (hs:i ∉ S):M'[i]? = some c:=by
 rw [h.2 i (List.getElem?_eq_some_iff.mp e).1 hs];exact e
theorem Fr.sub {S S':List Nat} {M M':Mem} (h:Fr S M M') (s:∀ i ∈ S,i ∈ S'\/M.length<=i):Fr S' M M':=⟨h.1,fun i hi hs=>h.2 i hi fun z=>by
 rcases s i z with a | a
 ·exact hs a
 ·omega⟩
theorem Fr.app (M:Mem) (l:List Cell):Fr [] M (M ++ l):=⟨by simp,fun i hi _=>by rw [getElem?_append_left hi]⟩
theorem Fr.set (M:Mem) (a:Nat) (c:Cell):Fr [a] M (M.set a c):=⟨by simp,fun i _ hs=>by rw [getElem?_set,if_neg (by simp at hs;omega)]⟩
theorem Fr.mono {S:List Nat} {M M':Mem} (h:Fr [] M M'):Fr S M M':=h.sub (fun i hi=>by simp at hi)
theorem qK {M:Mem} {i:Nat} {c:Cell} (e:M[i]? = some c):i < M.length:=(List.getElem?_eq_some_iff.mp e).1
theorem yN {M:Mem} {c:Cell}:(M ++ [c])[M.length]? = some c:=List.getElem?_concat_length
theorem get_set {M:Mem} {a:Nat} {c c':Cell} (e:M[a]? = some c):(M.set a c')[a]? = some c':=by
 rw [getElem?_set,if_pos rfl,if_pos (qK e)]
theorem Ok.loop {bd:T->Ev->Mem->Out Ev} {body:Ev->Mem->Out Fl} {α:Type} {r:α->T} (P:Nat->Ev->Mem->Prop) {R:T->Mem->Prop}:∀ (xs:List α) (i:Nat) {σ:Ev} {M:Mem},
  P i σ M->(∀ (k:Nat) x σ M,xs[k]? = some x->P (i + k) σ M->Ok ((bd (r x) σ M).bind fun σ1 M1=>body σ1 M1) fun fl M'=>(∃ σ',(fl = .nx σ'\/fl = .ct σ')/\P (i + k + 1) σ' M')\/(∃ σ',fl = .bk σ'/\P (i + xs.length) σ' M')\/∃ t,fl = .rt t/\R t M')->
  Ok (forL bd body (xs.map r) σ M) fun fl M'=>(∃ σ',fl = .nx σ'/\P (i + xs.length) σ' M')\/∃ t,fl = .rt t/\R t M'
 | [],i,σ,M,h,_=>⟨.nx σ,M,rfl,.inl ⟨σ,rfl,h⟩⟩
 | x :: xs,i,σ,M,h,t=>by
  obtain ⟨fl,M1,e1,h1⟩:=t 0 x σ M rfl h
  rw [map_cons,zk0]
  cases q:bd (r x) σ M with
  | bad=>rw [q] at e1;cases e1
  | exn C fs M'=>rw [q] at e1;cases e1
  | ok σ3 M3=>
   rw [q] at e1
   replace e1:body σ3 M3 = .ok fl M1:=e1
   show Ok ((body σ3 M3).bind (zac (forL bd body (xs.map r)))) _
   rw [e1]
   have go:∀ σ1,P (i + 1) σ1 M1->Ok (forL bd body (xs.map r) σ1 M1) fun fl M'=>(∃ σ',fl = .nx σ'/\P (i + (x :: xs).length) σ' M')\/∃ t,fl = .rt t/\R t M':=fun σ1 h1=>by
    have ih:=Ok.loop (R:=R) P xs (i + 1) (bd:=bd) (body:=body) h1 (fun k y σ M hk hp=>by
     have:=t (k + 1) y σ M (by simpa using hk) (by rw [show i + (k + 1) = i + 1 + k by omega];exact hp)
     rw [show i + (k + 1) + 1 = i + 1 + k + 1 by omega,length_cons,show i + (xs.length + 1) = i + 1 + xs.length by omega] at this
     exact this)
    rw [length_cons,show i + (xs.length + 1) = i + 1 + xs.length by omega]
    exact ih
   rcases h1 with ⟨σ1,h1 | h1,h2⟩ | ⟨σ1,h1,h2⟩ | ⟨u,h1,h2⟩
   ·rw [h1];exact go σ1 h2
   ·rw [h1];exact go σ1 h2
   ·rw [h1];exact ⟨.nx σ1,M1,rfl,.inl ⟨σ1,rfl,h2⟩⟩
   ·rw [h1];exact ⟨.rt u,M1,rfl,.inr ⟨u,rfl,h2⟩⟩
theorem Ok.for {bd:T->Ev->Mem->Out Ev} {body:Ev->Mem->Out Fl} {α:Type} {r:α->T} (P:Nat->Ev->Mem->Prop) {xs:List α} {σ:Ev} {M:Mem}
  (h:P 0 σ M) (t:∀ (k:Nat) x σ M,xs[k]? = some x->P k σ M->Ok ((bd (r x) σ M).bind fun σ1 M1=>body σ1 M1) fun fl M'=>∃ σ',fl = .nx σ'/\P (k + 1) σ' M') :
  Ok (forL bd body (xs.map r) σ M) fun fl M'=>∃ σ',fl = .nx σ'/\P xs.length σ' M':=by
 refine (Ok.loop (R:=fun _ _=>False) P xs 0 h (fun k x σ M hk hp=>?_)).mono ?_
 ·rw [Nat.zero_add] at hp
  refine (t k x σ M hk hp).mono ?_
  rintro fl M' ⟨σ',e,q⟩
  exact .inl ⟨σ',.inl e,by rw [Nat.zero_add];exact q⟩
 ·rintro fl M' (⟨σ',e,q⟩ | ⟨t,_,f⟩)
  ·exact ⟨σ',e,by rw [Nat.zero_add] at q;exact q⟩
  ·exact f.elim
theorem Ok.comp {bd:T->Ev->Mem->Out Ev} {cond:Ev->Mem->Out Bool} {el:Ev->Mem->Out T} {α:Type} {r:α->T} (P:Nat->List T->Ev->Mem->Prop):∀ (xs:List α) {σ:Ev} {M:Mem} (i:Nat) (acc:List T),
  P i acc σ M->acc.length + xs.length<=sizeLine->(∀ (k:Nat) x σ M acc,xs[k]? = some x->P (i + k) acc σ M->Ok ((bd (r x) σ M).bind fun σ1 M1=>(cond σ1 M1).bind fun b M2=>if b = true then (el σ1 M2).bind fun t M3=>.ok (some t,σ1) M3 else .ok (none,σ1) M2) fun o M'=>P (i + k + 1) (match o.1 with | some t=>acc ++ [t] | none=>acc) o.2 M')->
  Ok (zy bd cond el (xs.map r) σ M acc) fun ts M'=>∃ σ',P (i + xs.length) ts σ' M'
 | [],σ,M,i,acc,h,_,_=>⟨acc,M,by simp [zy],σ,h⟩
 | x :: xs,σ,M,i,acc,h,hl,t=>by
  obtain ⟨o,M1,e1,h1⟩:=t 0 x σ M acc rfl h
  rw [length_cons] at hl
  rw [map_cons]
  unfold zy
  have go:∀ acc σ1 M1,acc.length + xs.length<=sizeLine->P (i + 1) acc σ1 M1->Ok (zy bd cond el (xs.map r) σ1 M1 acc) fun ts M'=>∃ σ',P (i + (x :: xs).length) ts σ' M':=fun acc σ1 M1 hl h1=>by
   have ih:=Ok.comp P xs (i + 1) acc (bd:=bd) (cond:=cond) (el:=el) h1 hl (fun k y σ M acc hk hp=>by
    have:=t (k + 1) y σ M acc (by simpa using hk) (by rw [show i + (k + 1) = i + 1 + k by omega];exact hp)
    rw [show i + (k + 1) + 1 = i + 1 + k + 1 by omega] at this
    exact this)
   rw [length_cons,show i + (xs.length + 1) = i + 1 + xs.length by omega]
   exact ih
  cases q:bd (r x) σ M with
  | bad=>rw [q] at e1;cases e1
  | exn C fs M'=>rw [q] at e1;cases e1
  | ok σ3 M3=>
   rw [q] at e1
   replace e1:((cond σ3 M3).bind fun b M2=>if b = true then (el σ3 M2).bind fun t M3=>.ok (some t,σ3) M3 else .ok (none,σ3) M2) = .ok o M1:=e1
   show Ok ((cond σ3 M3).bind _) _
   cases q2:cond σ3 M3 with
   | bad=>rw [q2] at e1;cases e1
   | exn C fs M'=>rw [q2] at e1;cases e1
   | ok b M4=>
    rw [q2] at e1
    cases b with
    | false=>
     replace e1:(Out.ok (none,σ3) M4:Out (Option T × Ev)) = .ok o M1:=e1
     cases e1
     exact go acc σ3 _ (by omega) h1
    | true=>
     replace e1:((el σ3 M4).bind fun t M3=>.ok (some t,σ3) M3) = .ok o M1:=e1
     show Ok ((el σ3 M4).bind _) _
     cases q3:el σ3 M4 with
     | bad=>rw [q3] at e1;cases e1
     | exn C fs M'=>rw [q3] at e1;cases e1
     | ok u M5=>
      rw [q3] at e1
      replace e1:(Out.ok (some u,σ3) M5:Out (Option T × Ev)) = .ok o M1:=e1
      cases e1
      show Ok (if acc.length < sizeLine then _ else _) _
      rw [if_pos (by omega)]
      exact go (acc ++ [u]) σ3 _ (by rw [length_append,length_cons,length_nil];omega) h1
theorem Ok.whileN {c:Ev->Mem->Out Bool} {body:Ev->Mem->Out Fl} (P:Ev->Mem->Prop) (μ:Ev->Mem->Nat) {Q:Ev->Mem->Prop} {R:T->Mem->Prop}
  (t:∀ σ M,P σ M->Ok (c σ M) fun b M1=>(b = true/\Ok (body σ M1) fun fl M2=>(∃ σ',(fl = .nx σ'\/fl = .ct σ')/\P σ' M2/\μ σ' M2 < μ σ M)\/(∃ σ',fl = .bk σ'/\Q σ' M2)\/∃ t,fl = .rt t/\R t M2)\/(b = false/\Q σ M1)) :
  ∀ (n:Nat) (σ:Ev) (M:Mem),μ σ M < n->P σ M->Ok (whileN c body n σ M) fun fl M'=>(∃ σ',fl = .nx σ'/\Q σ' M')\/∃ t,fl = .rt t/\R t M'
 | 0,_,_,hn,_=>absurd hn (by omega)
 | n + 1,σ,M,hn,h=>by
  obtain ⟨b,M1,e,r⟩:=t σ M h
  unfold FT.whileN
  rw [e]
  rcases r with ⟨rfl,fl,M2,e2,r⟩ | ⟨rfl,q⟩
  ·show Ok ((body σ M1).bind _) _
   rw [e2]
   rcases r with ⟨σ1,h1 | h1,h2,h3⟩ | ⟨σ1,h1,h2⟩ | ⟨u,h1,h2⟩
   ·rw [h1];exact Ok.whileN P μ t n σ1 M2 (by omega) h2
   ·rw [h1];exact Ok.whileN P μ t n σ1 M2 (by omega) h2
   ·rw [h1];exact ⟨.nx σ1,M2,rfl,.inl ⟨σ1,rfl,h2⟩⟩
   ·rw [h1];exact ⟨.rt u,M2,rfl,.inr ⟨u,rfl,h2⟩⟩
  ·exact ⟨.nx σ,M1,rfl,.inl ⟨σ,rfl,q⟩⟩
theorem Ok.while {c:Ev->Mem->Out Bool} {body:Ev->Mem->Out Fl} {σ:Ev} {M:Mem} (P:Ev->Mem->Prop) (μ:Ev->Mem->Nat) {Q:Ev->Mem->Prop} {R:T->Mem->Prop} (h:P σ M)
  (t:∀ σ M,P σ M->Ok (c σ M) fun b M1=>(b = true/\Ok (body σ M1) fun fl M2=>(∃ σ',(fl = .nx σ'\/fl = .ct σ')/\P σ' M2/\μ σ' M2 < μ σ M)\/(∃ σ',fl = .bk σ'/\Q σ' M2)\/∃ t,fl = .rt t/\R t M2)\/(b = false/\Q σ M1)) :
  Ok (zhP c body σ M) fun fl M'=>(∃ σ',fl = .nx σ'/\Q σ' M')\/∃ t,fl = .rt t/\R t M':=by
 obtain ⟨fl,M',e,r⟩:=Ok.whileN P μ t (μ σ M + 1) σ M (by omega) h
 exact ⟨fl,M',zku _ e (by simp),r⟩
noncomputable def rgI (n:Nat):List Int:=(List.range n).map fun (k:Nat)=>(k:Int)
theorem zdy (n:Nat):(rgI n).length = n:=by simp [rgI]
theorem zgh {n k:Nat} {x:Int} (h:(rgI n)[k]? = some x):k < n/\x = k:=by
 unfold rgI at h
 rw [getElem?_map] at h
 cases q:(List.range n)[k]? with
 | none=>rw [q] at h;cases h
 | some j=>
  rw [q] at h
  have hk:k < n:=by have:=(List.getElem?_eq_some_iff.mp q).1;simpa using this
  rw [getElem?_range hk] at q
  cases q
  exact ⟨hk,(Option.some.inj h).symm⟩
theorem zlt (n:Nat):zeh 0 n = (rgI n).map .int:=by
 unfold zeh rgI
 rw [map_map]
 congr 1
 funext k
 simp
theorem za3 {j:Int} {M:Mem} (h:-(2 ^ 62)<=j/\j < 2 ^ 62):zfl [.int j] M = .ok ((rgI j.toNat).map .int) M:=by rw [zn3 h,zlt]
theorem zoX {n:Nat} {x:Int} (h:0<=x/\x < n):ixN n x = some x.toNat:=by
 unfold ixN
 rw [if_pos (by omega)]
 simp
 try omega
theorem Ok.filt {bd:T->Ev->Mem->Out Ev} {cond:Ev->Mem->Out Bool} {el:Ev->Mem->Out T} {M:Mem} {α:Type} {r:α->T} (I:Ev->Prop) (c:α->Bool) (f:α->T) {xs:List α} {σ:Ev} (h:I σ) (hl:xs.length<=1000000)
  (t:∀ x σ,x ∈ xs->I σ->∃ σ1,bd (r x) σ M = .ok σ1 M/\I σ1/\cond σ1 M = .ok (c x) M/\(c x = true->el σ1 M = .ok (f x) M)):zy bd cond el (xs.map r) σ M [] = .ok ((xs.filter c).map f) M:=by
 have key:∀ (xs:List α) (σ:Ev) (acc:List T),(∀ x σ,x ∈ xs->I σ->∃ σ1,bd (r x) σ M = .ok σ1 M/\I σ1/\cond σ1 M = .ok (c x) M/\(c x = true->el σ1 M = .ok (f x) M))->I σ->acc.length + xs.length<=sizeLine->zy bd cond el (xs.map r) σ M acc = .ok (acc ++ (xs.filter c).map f) M:=by
  intro xs
  induction xs with
  | nil=>intro σ acc _ _ _;simp [zy]
  | cons x xs ih=>
   intro σ acc t h hl
   obtain ⟨σ1,e1,h1,e2,e3⟩:=t x σ (.head _) h
   rw [length_cons] at hl
   rw [map_cons]
   unfold zy
   rw [e1]
   show ((cond σ1 M).bind _) = _
   rw [e2]
   cases hc:c x with
   | true=>
    have ih:=ih σ1 (acc ++ [f x]) (fun y σ hy=>t y σ (.tail _ hy)) h1 (by rw [length_append,length_cons,length_nil];omega)
    show ((el σ1 M).bind _) = _
    rw [e3 hc]
    show (if acc.length < sizeLine then zy bd cond el (xs.map r) σ1 M (acc ++ [f x]) else .bad) = _
    rw [if_pos (by omega),ih,List.filter_cons_of_pos hc]
    simp
   | false=>
    have ih:=ih σ1 acc (fun y σ hy=>t y σ (.tail _ hy)) h1 (by omega)
    show zy bd cond el (xs.map r) σ1 M acc = _
    rw [ih,List.filter_cons_of_neg (by rw [hc];exact Bool.false_ne_true)]
 have:=key xs σ [] t h (by rw [length_nil,Nat.zero_add];exact Nat.le_trans hl (by decide))
 rw [this,nil_append]
theorem Ok.mapc {bd:T->Ev->Mem->Out Ev} {el:Ev->Mem->Out T} {M:Mem} {α:Type} {r:α->T} (I:Ev->Prop) (f:α->T) {xs:List α} {σ:Ev} (h:I σ) (hl:xs.length<=1000000)
  (t:∀ x σ,x ∈ xs->I σ->∃ σ1,bd (r x) σ M = .ok σ1 M/\I σ1/\el σ1 M = .ok (f x) M):zy bd qH el (xs.map r) σ M [] = .ok (xs.map f) M:=by
 have:=Ok.filt (cond:=qH) I (fun _=>true) f h hl (fun x σ hx hs=>by
  obtain ⟨σ1,a,b,c⟩:=t x σ hx hs
  exact ⟨σ1,a,b,rfl,fun _=>c⟩)
 rw [this,List.filter_eq_self.mpr (fun _ _=>rfl)]
theorem zcf {a:Nat} {xs:List T} {M:Mem} (e:M[a]? = some (.lst xs)):yz (.ref a) M = some xs:=by
 unfold yz
 simp only [e]
theorem Ok.loopG {G:Gd} {bd:T->Ev->Mem->Out Ev} {body:Ev->Mem->Out Fl} {α:Type} {r:α->T} (P:Nat->Ev->Mem->Prop) {R:T->Mem->Prop} (hG:∀ i σ M,P i σ M->zdr G M):∀ (xs:List α) (i:Nat) {σ:Ev} {M:Mem},
  P i σ M->(∀ (k:Nat) x σ M,xs[k]? = some x->P (i + k) σ M->Ok ((bd (r x) σ M).bind fun σ1 M1=>body σ1 M1) fun fl M'=>(∃ σ',(fl = .nx σ'\/fl = .ct σ')/\P (i + k + 1) σ' M')\/(∃ σ',fl = .bk σ'/\P (i + xs.length) σ' M')\/∃ t,fl = .rt t/\R t M')->
  Ok (zgz G bd body (xs.map r) σ M) fun fl M'=>(∃ σ',fl = .nx σ'/\P (i + xs.length) σ' M')\/∃ t,fl = .rt t/\R t M'
 | [],i,σ,M,h,_=>⟨.nx σ,M,by rw [map_nil];unfold zgz;exact zep (hG _ _ _ h),.inl ⟨σ,rfl,h⟩⟩
 | x :: xs,i,σ,M,h,t=>by
  obtain ⟨fl,M1,e1,h1⟩:=t 0 x σ M rfl h
  rw [map_cons]
  unfold zgz
  rw [zep (hG _ _ _ h)]
  cases q:bd (r x) σ M with
  | bad=>rw [q] at e1;cases e1
  | exn C fs M'=>rw [q] at e1;cases e1
  | ok σ3 M3=>
   rw [q] at e1
   replace e1:body σ3 M3 = .ok fl M1:=e1
   show Ok ((body σ3 M3).bind (zac (zgz G bd body (xs.map r)))) _
   rw [e1]
   have go:∀ σ1,P (i + 1) σ1 M1->Ok (zgz G bd body (xs.map r) σ1 M1) fun fl M'=>(∃ σ',fl = .nx σ'/\P (i + (x :: xs).length) σ' M')\/∃ t,fl = .rt t/\R t M':=fun σ1 h1=>by
    have ih:=Ok.loopG (R:=R) P hG xs (i + 1) (bd:=bd) (body:=body) h1 (fun k y σ M hk hp=>by
     have:=t (k + 1) y σ M (by simpa using hk) (by rw [show i + (k + 1) = i + 1 + k by omega];exact hp)
     rw [show i + (k + 1) + 1 = i + 1 + k + 1 by omega,length_cons,show i + (xs.length + 1) = i + 1 + xs.length by omega] at this
     exact this)
    rw [length_cons,show i + (xs.length + 1) = i + 1 + xs.length by omega]
    exact ih
   rcases h1 with ⟨σ1,h1 | h1,h2⟩ | ⟨σ1,h1,h2⟩ | ⟨u,h1,h2⟩
   ·rw [h1];exact go σ1 h2
   ·rw [h1];exact go σ1 h2
   ·rw [h1];exact ⟨.nx σ1,M1,rfl,.inl ⟨σ1,rfl,h2⟩⟩
   ·rw [h1];exact ⟨.rt u,M1,rfl,.inr ⟨u,rfl,h2⟩⟩
def OkX {β:Type} (o:Out β) (Q:β->Mem->Prop) (E:Addr->List (Str × T)->Mem->Prop):Prop:=match o with
 | .ok b M=>Q b M
 | .exn C fs M=>E C fs M
 | .bad=>False
theorem OkX.ok {β:Type} {o:Out β} {Q:β->Mem->Prop} {E:Addr->List (Str × T)->Mem->Prop} (h:Ok o Q):OkX o Q E:=by
 obtain ⟨b,M,rfl,q⟩:=h
 exact q
theorem OkX.bind {β γ:Type} {o:Out β} {k:β->Mem->Out γ} {P:β->Mem->Prop} {Q:γ->Mem->Prop} {E:Addr->List (Str × T)->Mem->Prop} (h:OkX o P E) (g:∀ b M,P b M->OkX (k b M) Q E):OkX (o.bind k) Q E:=by
 cases o with
 | ok b M=>exact g b M h
 | exn C fs M=>exact h
 | bad=>exact h.elim
end FT
namespace My
open PySem L2 FT
noncomputable def top (i:Nat):Stmt:=PySem.Challenge.pw_tryweir_k60_timed_runs_told.main.body.getD i (.Pass ⟨0,0,0,0⟩)
noncomputable abbrev zfi:Stmt:=top 48
noncomputable abbrev zfh:Stmt:=top 49
noncomputable abbrev zgc:Stmt:=top 50
noncomputable abbrev zec:Stmt:=top 51
noncomputable abbrev zee:Stmt:=top 54
noncomputable abbrev zfj:Stmt:=top 53
noncomputable abbrev zdP:Stmt:=inClass (top 13) 0
noncomputable abbrev zef:Stmt:=top 14
noncomputable abbrev zcn:Stmt:=top 23
noncomputable abbrev zbx:Stmt:=top 24
noncomputable abbrev zbc:Stmt:=top 26
noncomputable abbrev zdm:Stmt:=top 8
noncomputable abbrev zdI:Stmt:=top 15
noncomputable abbrev zcR:Stmt:=top 16
noncomputable abbrev zcQ:Stmt:=top 17
noncomputable abbrev zdM:Stmt:=top 25
noncomputable abbrev zdp:Stmt:=top 27
noncomputable abbrev zdL:Stmt:=top 4
noncomputable abbrev zdo:Stmt:=top 6
noncomputable abbrev zdN:Stmt:=top 28
noncomputable abbrev zco:Stmt:=top 33
noncomputable abbrev zdO:Stmt:=top 9
noncomputable abbrev zcp:Stmt:=inClass (top 12) 0
noncomputable abbrev zb7:Stmt:=top 19
noncomputable abbrev za2:Stmt:=top 20
noncomputable abbrev zbK:Stmt:=top 21
noncomputable abbrev zfH:Stmt:=top 22
noncomputable abbrev zhO:Stmt:=top 29
noncomputable abbrev zdk:Stmt:=top 18
noncomputable abbrev zdi:Stmt:=top 30
noncomputable abbrev zge:Stmt:=top 31
noncomputable abbrev zdK:Stmt:=top 32
noncomputable abbrev zfg:Stmt:=top 34
noncomputable abbrev zdJ:Stmt:=top 37
noncomputable abbrev zea:Stmt:=top 35
noncomputable abbrev zjO:Stmt:=top 36
noncomputable abbrev zgd:Stmt:=top 52
noncomputable abbrev zed:Stmt:=top 55
noncomputable abbrev zdl:Stmt:=top 39
noncomputable abbrev zdh:Stmt:=top 40
noncomputable abbrev zcP:Stmt:=top 42
noncomputable abbrev zdj:Stmt:=top 43
noncomputable abbrev zgb:Stmt:=top 44
noncomputable abbrev zdn:Stmt:=top 56
noncomputable abbrev zeb:Stmt:=top 45
noncomputable abbrev zfk:Stmt:=top 47
noncomputable abbrev zjP:Stmt:=top 57
structure Txt (K:Frag) (mg:Str->Option Value) (kE kR:Addr):Prop where
 cls_Errand:Cls K kE
 cls_Run:Cls K kR
 na_Errand_asked:NoAttr K kE "asked"
 na_Errand_caller:NoAttr K kE "caller"
 na_Errand_house:NoAttr K kE "house"
 na_Errand_is_lost:NoAttr K kE "is_lost"
 na_Errand_state:NoAttr K kE "state"
 na_Errand_stood:NoAttr K kE "stood"
 na_Run_came:NoAttr K kR "came"
 na_Run_errands:NoAttr K kR "errands"
 na_Run_net:NoAttr K kR "net"
 na_Run_payments:NoAttr K kR "payments"
 na_Run_puts:NoAttr K kR "puts"
 na_Run_taken:NoAttr K kR "taken"
 n_max:mg "max" = none
 n_range:mg "range" = none
 n_len:mg "len" = none
 n_tuple:mg "tuple" = none
 n_enumerate:mg "enumerate" = none
 n_int:mg "int" = none
 n_isinstance:mg "isinstance" = none
 n_bool:mg "bool" = none
 n_min:mg "min" = none
 n_list:mg "list" = none
 c_FRESH:∃ a,mg "FRESH" = some (.ref a)/\KTu K a [.str "fresh"]
theorem boot_max:bootBuiltins "max" = some (.builtin "max"):=by decide +kernel
theorem boot_range:bootBuiltins "range" = some (.type "range"):=by decide +kernel
theorem boot_len:bootBuiltins "len" = some (.builtin "len"):=by decide +kernel
theorem boot_tuple:bootBuiltins "tuple" = some (.type "tuple"):=by decide +kernel
theorem boot_int:bootBuiltins "int" = some (.type "int"):=by decide +kernel
theorem boot_isinstance:bootBuiltins "isinstance" = some (.builtin "isinstance"):=by decide +kernel
theorem boot_bool:bootBuiltins "bool" = some (.type "bool"):=by decide +kernel
theorem boot_min:bootBuiltins "min" = some (.builtin "min"):=by decide +kernel
theorem boot_list:bootBuiltins "list" = some (.type "list"):=by decide +kernel
end My
theorem FT.nc_l {k:PySem.NameKind} {P:Prop} (e:(k == .cell || k == .free) = false) (h:k = .cell\/k = .free):P:=by
 rcases h with rfl | rfl
 ·exact absurd e (by decide)
 ·exact absurd e (by decide)
open PySem L2 FT in
local macro_rules | `(tactic| bv_omega) => `(tactic| exact ⟨rfl, rfl, by decide +kernel, rfl, by decide +kernel, by first | exact (fun _ _ h => h) | exact zhY (by repeat (first | exact True.intro | refine ⟨rfl, ?_⟩)), fun _ => zo1 (by repeat (first | exact True.intro | (refine ⟨?_, ?_⟩; first | exact (fun _ => ⟨_, rfl⟩) | exact nc_l rfl | exact (fun h => h.elim (fun h => nomatch h) (fun h => nomatch h))))), by repeat (first | exact List.forall_mem_nil _ | refine List.forall_mem_cons.mpr ⟨⟨rfl, rfl, by first | exact .inl rfl | exact .inr rfl⟩, ?_⟩)⟩)
namespace My
open PySem L2 FT
noncomputable def zh6 (kE kR:Addr):Ev->Mem->Out Fl:=
 (qB (eTk (qx (zb (ze (call2 zgp) (zb (eC (.int 0)) (zb (eOp zbw (yb 0) (eOp zgj (eC (.int 10)) (eC (.int 18)))) zd))) (zb (eOp zbz (yb 0) (eOp zgj (eC (.int 10)) (eC (.int 18)))) (zb (eC (.int 0)) zd))))))
noncomputable def zbA (kE kR:Addr):List FT.T->Mem->Out FT.T:=yh 1 1 (zh6 kE kR)
section
variable {P:Program} {w:World} {K:Frag} {mg:Str->Option Value} {base:Heap} {kE kR:Addr}
theorem zks:FnScope ["cell"] ["cell"] (zf zfi):=by ac_rfl
theorem zaW (D:Df K mg "_law_left" zfi ["cell"]) (T:Txt K mg kE kR)  :CalT P w K mg base 1 "_law_left" ["cell"] (zbA kE kR):=
 zn D zks rfl rfl (fun f cdv A outer s H E hr=>(qd (ym (zW (zr (ya (yq (zey rfl) rfl T.n_max boot_max (ya yc (ya (yi yY (za (pv 0)) (yi zeI yc yc)) zc))) (ya (yi za4 (za (pv 0)) (yi zeI yc yc)) (ya yc zc))))))))
end
noncomputable def zh5 (kE kR:Addr):Ev->Mem->Out Fl:=
 (yg (sIf (zu (eOp gtI (eOp ixT (yb 0) (eC (.int 0))) (eC (.int 0)))) (yg (zm 2 (eOp zbz (eOp ixT (yb 0) (eC (.int 0))) (yb 1)))
 (yg (zeg (eOp zcs (eOp ixT (yb 0) (eC (.int 0))) (yb 1)) (ziu zdG (yb 0) (eC (.int 0))))
 (qB (yb 2)))) yO)
 (yg (zeg (eOp zJ (eOp ixT (yb 0) (eC (.int 2))) (eC (.int 1))) (ziu zdG (yb 0) (eC (.int 2))))
 (yg (zm 3 (eOp zbz (eOp zJ (eOp ixT (yb 0) (eC (.int 1))) (eOp zbd (eC (.int 7919)) (eOp ixT (yb 0) (eC (.int 2))))) (eC (.int 1000000007))))
 (yg (zm 4 (eOp zbz (eOp zbd (eOp zJ (yb 3) (eC (.int 11))) (eOp zJ (yb 3) (eC (.int 48271)))) (eC (.int 998244353))))
 (qB (eOp zbz (eOp zcs (eOp zbz (eOp zbd (yb 4) (yb 4)) (eC (.int 2147483647))) (eC (.int 8))) (yb 1)))))))
noncomputable def yu (kE kR:Addr):List FT.T->Mem->Out FT.T:=yh 2 5 (zh5 kE kR)
section
variable {P:Program} {w:World} {K:Frag} {mg:Str->Option Value} {base:Heap} {kE kR:Addr}
theorem zc8:FnScope ["pool","base","digit","mixed","stir"] ["pool","base"] (zf zfh):=by ac_rfl
theorem yr (D:Df K mg "_law_next" zfh ["pool","base"]) (T:Txt K mg kE kR)  :CalT P w K mg base 1 "_law_next" ["pool","base"] (yu kE kR):=
 zn D zc8 rfl rfl (fun f cdv A outer s H E hr=>(qc (zA (yo zej (yd qg (za (pv 0)) yc (fun _ _=>rfl)) yc (yn _)) (qc (zh (i:=2) zc8.nd rfl (Or.inl rfl) (yi za4 (yd qg (za (pv 0)) yc (fun _ _=>rfl)) (za (pv 1))))
  (qc (zcB (yi zdA (yd qg (za (pv 0)) yc (fun _ _=>rfl)) (za (pv 1))) (zf5 (za (pv 0)) yc zfF))
  (qd (ym (za (pv 2)))))) zx)
  (qc (zcB (yi zB (yd qg (za (pv 0)) yc (fun _ _=>rfl)) yc) (zf5 (za (pv 0)) yc zfF))
  (qc (zh (i:=3) zc8.nd rfl (Or.inl rfl) (yi za4 (yi zB (yd qg (za (pv 0)) yc (fun _ _=>rfl)) (yi zcF yc (yd qg (za (pv 0)) yc (fun _ _=>rfl)))) yc))
  (qc (zh (i:=4) zc8.nd rfl (Or.inl rfl) (yi za4 (yi zcF (yi zB (za (pv 3)) yc) (yi zB (za (pv 3)) yc)) yc))
  (qd (ym (yi za4 (yi zdA (yi za4 (yi zcF (za (pv 4)) (za (pv 4))) yc) yc) (za (pv 1))))))))))
end
noncomputable def ziv (kE kR:Addr):Ev->Mem->Out Fl:=
 (zF (z7 qV (eUn yG (yb 4)) (zb (zK (zb (eOp ixT (eFz (qx (zb (eC (.str "p")) (zb (eC (.str "a")) zd)))) (yb 5)) (zb (eOp ixT (eFz (qx (zb (eC (.str "first")) (zb (eC (.str "any")) zd)))) (ze (yu kE kR) (zb (yb 0) (zb (eC (.int 2)) zd)))) (zb (eOp zJ (eC (.int 1)) (ze (yu kE kR) (zb (yb 0) (zb (eC (.int 3)) zd)))) zd)))) zd)))
noncomputable def zfz (kE kR:Addr):Ev->Mem->Out Fl:=
 (yg (zm 8 (ze (yu kE kR) (zb (yb 0) (zb (eOp zbw (yb 2) (eC (.int 1))) zd))))
 (yg (zm 9 (eOp ixT (yb 3) (eOp zJ (eOp zJ (yb 8) (eC (.int 1))) (ze (yu kE kR) (zb (yb 0) (zb (eOp zbw (eOp zbw (yb 2) (eC (.int 1))) (yb 8)) zd))))))
 (yg (zm 10 (eOp ixT (eOp zJ (eFz (qx (zb (eC .non) zd))) (eFz (zS (zbM (yb 4)) (zi 0) qH (eOp ixT (yb 0) (eC (.int 0))) ["one"] []))) (ze (yu kE kR) (zb (yb 0) (zb (eOp zJ (ze (yC qC) (zb (yb 4) zd)) (eC (.int 1))) zd)))))
 (yg (zm 11 (zK (zb (yb 9) (zb (eOp ixT (eFz (qx (zb (eC (.int 1)) (zb (eC (.int 2)) (zb (eC (.int 3)) (zb (eC (.int 0)) zd)))))) (ze (yu kE kR) (zb (yb 0) (zb (eC (.int 4)) zd)))) (zb (yb 10) (zb (eOp ixT (eFz (qx (zb (eC (.str "bad")) (zb (eC (.str "spent")) zd)))) (ze (yu kE kR) (zb (yb 0) (zb (eC (.int 2)) zd)))) zd))))))
 (sIf (zu (eOp ltI (ze (yC qC) (zb (eOp ixT (yb 6) (yb 8)) zd)) (eC (.int 3)))) (zF (z7 qV (eUn yG (eOp ixT (yb 6) (yb 8))) (zb (eOp zJ (yb 11) (zK (zb (eOp eqA (ze (yu kE kR) (zb (yb 0) (zb (eC (.int 2)) zd))) (eC (.int 0))) (zb (eOp eqA (ze (yu kE kR) (zb (yb 0) (zb (eC (.int 2)) zd))) (eC (.int 0))) zd)))) zd))) yO)))))
noncomputable def zjl (kE kR:Addr):Ev->Mem->Out Fl:=
 (yg (zm 2 (eOp zJ (eC (.int 2)) (ze (yu kE kR) (zb (yb 0) (zb (eC (.int 2)) zd)))))
 (yg (zm 3 (eOp ixT (eFz (qx (zb (eFz (qx (zb (eC (.str "gate")) (zb (eC (.str "desk")) (zb (eC (.str "mill")) zd))))) (zb (eFz (qx (zb (eC (.str "a")) (zb (eC (.str "aa")) (zb (eC (.str "b")) zd))))) zd)))) (ze (yu kE kR) (zb (yb 0) (zb (eC (.int 2)) zd)))))
 (yg (zm 4 (eTk (qx zd)))
 (yg (zby (zaB (zb (ze (yu kE kR) (zb (yb 0) (zb (eC (.int 3)) zd))) zd)) (zi 5) (ziv kE kR))
 (yg (zm 6 (eFz (yU (zaB (zb (yb 2) zd)) (zi 0) qH (eTk (qx zd)) ["k"] [])))
 (yg (zby (zaB (zb (eOp zJ (eC (.int 1)) (ze (yu kE kR) (zb (yb 0) (zb (yb 1) zd)))) zd)) (zi 7) (zfz kE kR))
 (qB (zK (zb (ze (yC zaf) (zb (eFz (yU (zaB (zb (yb 2) zd)) (zi 0) qH (zK (zb (eOp ixT (yb 1) (yb 0)) (zb (ze (yC zaf) (zb (eOp ixT (yb 2) (yb 0)) zd)) zd))) ["k"] [("names",3),("found",6)])) zd)) (zb (ze (yC zaf) (zb (yb 4) zd)) zd))))))))))
noncomputable def zeM (kE kR:Addr):List FT.T->Mem->Out FT.T:=yh 2 12 (zjl kE kR)
section
variable {P:Program} {w:World} {K:Frag} {mg:Str->Option Value} {base:Heap} {kE kR:Addr}
theorem zZ:FnScope ["pool","most","many","names","purses","k","found","turn","at","to","purse","ask"] ["pool","most"] (zf zgc):=by ac_rfl
theorem zdE (D:Df K mg "_law_net" zgc ["pool","most"]) (T:Txt K mg kE kR)  (yr:CalT P w K mg base 1 "_law_next" ["pool","base"] (yu kE kR)):CalT P w K mg base 2 "_law_net" ["pool","most"] (zeM kE kR):=
 zn D zZ rfl rfl (fun f cdv A outer s H E hr=>(qc (zh (i:=2) zZ.nd rfl (Or.inl rfl) (yi zB yc (yf yr (hr.mono (by decide)) rfl (ya (za (pv 0)) (ya yc zc)))))
  (qc (zh (i:=3) zZ.nd rfl (Or.inr rfl) (yd qg (zC (zr (ya (zC (zr (ya qo (ya qo (ya qo zc))))) (ya (zC (zr (ya qo (ya qo (ya qo zc))))) zc)))) (yf yr (hr.mono (by decide)) rfl (ya (za (pv 0)) (ya yc zc))) (fun _ _=>rfl)))
  (qc (zh (i:=4) zZ.nd rfl (Or.inl rfl) (zW (zr zc)))
  (qc (qX PassesOwn.never rfl (y4 rfl T.n_range (ya (yf yr (hr.mono (by decide)) rfl (ya (za (pv 0)) (ya yc zc))) zc)) (yj (zl (i:=5) zZ.nd rfl (by first | exact Or.inl rfl | exact Or.inr rfl))) (qd (qr (zU (z5 PySem.F.plainAttrs_list PySem.F.slot_list_append PySem.F.type_list_append qF (WE.pe (za (pv 4))) (WA.pe (ya (yy (ya (yd qg (zC (zr (ya qo (ya qo zc)))) (za (pv 5)) (fun _ _=>rfl)) (ya (yd qg (zC (zr (ya qo (ya qo zc)))) (yf yr (hr.mono (by decide)) rfl (ya (za (pv 0)) (ya yc zc))) (fun _ _=>rfl)) (ya (yi zB yc (yf yr (hr.mono (by decide)) rfl (ya (za (pv 0)) (ya yc zc)))) zc)))) zc)))))))
  (qc (zh (i:=6) zZ.nd rfl (Or.inr rfl) (zC (zam (tgs:=["k"]) (caps:=[]) (y4 rfl T.n_range (ya (za (pv 2)) zc)) (by bv_omega) (fun _ _ _=>(yj (zl (i:=0) (show (["k"]:List Str).Nodup by decide +kernel) rfl (by first | exact Or.inl rfl | exact Or.inr rfl)))) (fun _ _ _=>qO) (fun _ _ _=>(zW (zr zc))))))
  (qc (qX PassesOwn.never rfl (y4 rfl T.n_range (ya (yi zB yc (yf yr (hr.mono (by decide)) rfl (ya (za (pv 0)) (ya (za (pv 1)) zc)))) zc)) (yj (zl (i:=7) zZ.nd rfl (by first | exact Or.inl rfl | exact Or.inr rfl))) (qc (zh (i:=8) zZ.nd rfl (Or.inl rfl) (yf yr (hr.mono (by decide)) rfl (ya (za (pv 0)) (ya (yi yY (za (pv 2)) yc) zc))))
  (qc (zh (i:=9) zZ.nd rfl (Or.inl rfl) (yd qg (za (pv 3)) (yi zB (yi zB (za (pv 8)) yc) (yf yr (hr.mono (by decide)) rfl (ya (za (pv 0)) (ya (yi yY (yi yY (za (pv 2)) yc) (za (pv 8))) zc)))) (fun _ _=>rfl)))
  (qc (zh (i:=10) zZ.nd rfl (Or.inl rfl) (yd qg (yi zB (zC (zr (ya zae zc))) (zC (zc4 (tgs:=["one"]) (caps:=[]) (zcK (za (pv 4))) (by bv_omega) (fun _ _ _=>(yj (zl (i:=0) (show (["one"]:List Str).Nodup by decide +kernel) rfl (by first | exact Or.inl rfl | exact Or.inr rfl)))) (fun _ _ _=>qO) (fun _ _ _=>(yd qg (za (pv 0)) yc (fun _ _=>rfl)))))) (yf yr (hr.mono (by decide)) rfl (ya (za (pv 0)) (ya (yi zB (yq yB rfl T.n_len boot_len (ya (za (pv 4)) zc)) yc) zc))) (fun _ _=>rfl)))
  (qc (zh (i:=11) zZ.nd rfl (Or.inl rfl) (yy (ya (za (pv 9)) (ya (yd qg (zC (zr (ya yc (ya yc (ya yc (ya yc zc)))))) (yf yr (hr.mono (by decide)) rfl (ya (za (pv 0)) (ya yc zc))) (fun _ _=>rfl)) (ya (za (pv 10)) (ya (yd qg (zC (zr (ya qo (ya qo zc)))) (yf yr (hr.mono (by decide)) rfl (ya (za (pv 0)) (ya yc zc))) (fun _ _=>rfl)) zc))))))
  (qd (zA (yo zcU (yq yB rfl T.n_len boot_len (ya (yd qg (za (pv 6)) (za (pv 8)) (fun _ _=>rfl)) zc)) yc (yn _)) (qd (qr (zU (z5 PySem.F.plainAttrs_list PySem.F.slot_list_append PySem.F.type_list_append qF (WE.pe (yd qg (za (pv 6)) (za (pv 8)) (fun _ _=>rfl))) (WA.pe (ya (yi zB (za (pv 11)) (yy (ya (zaY (zG hr.units) (yf yr (hr.mono (by decide)) rfl (ya (za (pv 0)) (ya yc zc))) yc (yn _)) (ya (zaY (zG hr.units) (yf yr (hr.mono (by decide)) rfl (ya (za (pv 0)) (ya yc zc))) yc (yn _)) zc)))) zc)))))) zx)))))))
  (qd (ym (yy (ya (zaZ zaE rfl T.n_tuple boot_tuple (ya (zC (zam (tgs:=["k"]) (caps:=[("names",3),("found",6)]) (y4 rfl T.n_range (ya (za (pv 2)) zc)) (by bv_omega) (fun _ _ _=>(yj (zl (i:=0) (show (["k","names","found"]:List Str).Nodup by decide +kernel) rfl (by first | exact Or.inl rfl | exact Or.inr rfl)))) (fun _ _ _=>qO) (fun _ _ _=>(yy (ya (yd qg (za (pv 1)) (za (pv 0)) (fun _ _=>rfl)) (ya (zaZ zaE rfl T.n_tuple boot_tuple (ya (yd qg (za (pv 2)) (za (pv 0)) (fun _ _=>rfl)) zc)) zc)))))) zc)) (ya (zaZ zaE rfl T.n_tuple boot_tuple (ya (za (pv 4)) zc)) zc))))))))))))
end
noncomputable def zcz (kE kR:Addr):Ev->Mem->Out Fl:=
 (yg (zm 10 (ze (yu kE kR) (zb (yb 0) (zb (eOp ixT (eFz (qx (zb (eC (.int 1)) (zb (eC (.int 3)) (zb (eC (.int 12)) (zb (eOp zJ (eOp zgj (eC (.int 10)) (eC (.int 6))) (eC (.int 1))) zd)))))) (ze (yu kE kR) (zb (yb 0) (zb (eC (.int 4)) zd)))) zd))))
 (zF (z7 qV (eUn yG (yb 8)) (zb (zK (zb (yb 10) (zb (eOp zJ (eC (.int 1)) (ze (yu kE kR) (zb (yb 0) (zb (eOp ixT (eFz (qx (zb (eC (.int 1)) (zb (eC (.int 2)) (zb (eC (.int 4)) (zb (eC (.int 1000)) zd)))))) (ze (yu kE kR) (zb (yb 0) (zb (eC (.int 4)) zd)))) zd)))) zd))) zd))))
noncomputable def zf4 (kE kR:Addr):Ev->Mem->Out Fl:=
 (yg (zm 7 (eOp zbw (eOp ixT (yb 6) (eC (.int 1))) (eC (.int 1))))
 (yg (sIf (zu (eOp eqA (eOp ixT (yb 6) (eC (.int 1))) (eC (.int 0)))) (zm 7 (eOp zJ (eC (.int 1)) (ze (yu kE kR) (zb (yb 0) (zb (eC (.int 6)) zd))))) yO)
 (yg (zm 8 (eTk (qx zd)))
 (yg (zby (zaB (zb (yb 7) zd)) (zi 9) (zcz kE kR))
 (zF (z7 qV (eUn yG (yb 5)) (zb (ze (yC zaf) (zb (yb 8) zd)) zd)))))))
noncomputable def zf3 (kE kR:Addr):Ev->Mem->Out Fl:=
 (yg (zm 5 (eTk (qx zd)))
 (yg (zby (zaH (yb 4)) (zi 6) (zf4 kE kR))
 (zF (z7 qV (eUn yG (yb 2)) (zb (ze (yC zaf) (zb (yb 5) zd)) zd)))))
noncomputable def zg1 (kE kR:Addr):Ev->Mem->Out Fl:=
 (yg (zm 2 (eTk (qx zd)))
 (yg (zby (zaH (eOp ixT (yb 1) (eC (.int 0)))) (zat 2 (qz (zi 3) (qz (zi 4) zau))) (zf3 kE kR))
 (qB (ze (yC zaf) (zb (yb 2) zd)))))
noncomputable def zdb (kE kR:Addr):List FT.T->Mem->Out FT.T:=yh 2 11 (zg1 kE kR)
section
variable {P:Program} {w:World} {K:Frag} {mg:Str->Option Value} {base:Heap} {kE kR:Addr}
theorem qM:FnScope ["pool","net","found","name","asks","row","ask","many","pairs","k","wait"] ["pool","net"] (zf zec):=by ac_rfl
theorem zcj (D:Df K mg "_law_waits" zec ["pool","net"]) (T:Txt K mg kE kR)  (yr:CalT P w K mg base 1 "_law_next" ["pool","base"] (yu kE kR)):CalT P w K mg base 2 "_law_waits" ["pool","net"] (zdb kE kR):=
 zn D qM rfl rfl (fun f cdv A outer s H E hr=>(qc (zh (i:=2) qM.nd rfl (Or.inl rfl) (zW (zr zc)))
  (qc (qX PassesOwn.never rfl (zY (yd qg (za (pv 1)) yc (fun _ _=>rfl))) (z4 (zax rfl (WGs.pe (yt (zw (WG.pe (yj (zl (i:=3) qM.nd rfl (by first | exact Or.inl rfl | exact Or.inr rfl)))) (WGs.pe (yt (zw (WG.pe (yj (zl (i:=4) qM.nd rfl (by first | exact Or.inl rfl | exact Or.inr rfl)))) (WGs.pe qU))))))))) (qc (zh (i:=5) qM.nd rfl (Or.inl rfl) (zW (zr zc)))
  (qc (qX PassesOwn.never rfl (zY (za (pv 4))) (yj (zl (i:=6) qM.nd rfl (by first | exact Or.inl rfl | exact Or.inr rfl))) (qc (zh (i:=7) qM.nd rfl (Or.inl rfl) (yi yY (yd qg (za (pv 6)) yc (fun _ _=>rfl)) yc))
  (qc (zA (yo (zG hr.units) (yd qg (za (pv 6)) yc (fun _ _=>rfl)) yc (yn _)) (qd (zh (i:=7) qM.nd rfl (Or.inl rfl) (yi zB yc (yf yr (hr.mono (by decide)) rfl (ya (za (pv 0)) (ya yc zc)))))) zx)
  (qc (zh (i:=8) qM.nd rfl (Or.inl rfl) (zW (zr zc)))
  (qc (qX PassesOwn.never rfl (y4 rfl T.n_range (ya (za (pv 7)) zc)) (yj (zl (i:=9) qM.nd rfl (by first | exact Or.inl rfl | exact Or.inr rfl))) (qc (zh (i:=10) qM.nd rfl (Or.inl rfl) (yf yr (hr.mono (by decide)) rfl (ya (za (pv 0)) (ya (yd qg (zC (zr (ya yc (ya yc (ya yc (ya (yi zB (yi zeI yc yc) yc) zc)))))) (yf yr (hr.mono (by decide)) rfl (ya (za (pv 0)) (ya yc zc))) (fun _ _=>rfl)) zc))))
  (qd (qr (zU (z5 PySem.F.plainAttrs_list PySem.F.slot_list_append PySem.F.type_list_append qF (WE.pe (za (pv 8))) (WA.pe (ya (yy (ya (za (pv 10)) (ya (yi zB yc (yf yr (hr.mono (by decide)) rfl (ya (za (pv 0)) (ya (yd qg (zC (zr (ya yc (ya yc (ya yc (ya yc zc)))))) (yf yr (hr.mono (by decide)) rfl (ya (za (pv 0)) (ya yc zc))) (fun _ _=>rfl)) zc)))) zc))) zc))))))))
  (qd (qr (zU (z5 PySem.F.plainAttrs_list PySem.F.slot_list_append PySem.F.type_list_append qF (WE.pe (za (pv 5))) (WA.pe (ya (zaZ zaE rfl T.n_tuple boot_tuple (ya (za (pv 8)) zc)) zc)))))))))))
  (qd (qr (zU (z5 PySem.F.plainAttrs_list PySem.F.slot_list_append PySem.F.type_list_append qF (WE.pe (za (pv 2))) (WA.pe (ya (zaZ zaE rfl T.n_tuple boot_tuple (ya (za (pv 5)) zc)) zc)))))))))
  (qd (ym (zaZ zaE rfl T.n_tuple boot_tuple (ya (za (pv 2)) zc)))))))
end
noncomputable def zg3 (kE kR:Addr):Ev->Mem->Out Fl:=
 (yg (sIf (zcv (zu (eOp gtI (ze (yC qC) (zb (yb 1) zd)) (eC (.int 1)))) (zu (eOp gtI (ze (yu kE kR) (zb (yb 0) (zb (eC (.int 4)) zd))) (eC (.int 0))))) (qB (eOp ixT (yb 1) (eOp zJ (eC (.int 1)) (ze (yu kE kR) (zb (yb 0) (zb (eOp zbw (ze (yC qC) (zb (yb 1) zd)) (eC (.int 1))) zd)))))) yO)
 (qB (eOp ixT (yb 1) (eC (.int 0)))))
noncomputable def zdd (kE kR:Addr):List FT.T->Mem->Out FT.T:=yh 2 2 (zg3 kE kR)
section
variable {P:Program} {w:World} {K:Frag} {mg:Str->Option Value} {base:Heap} {kE kR:Addr}
theorem zjM:FnScope ["own","some"] ["own","some"] (zf zee):=by ac_rfl
theorem zcl (D:Df K mg "_law_drawn" zee ["own","some"]) (T:Txt K mg kE kR)  (yr:CalT P w K mg base 1 "_law_next" ["pool","base"] (yu kE kR)):CalT P w K mg base 2 "_law_drawn" ["own","some"] (zdd kE kR):=
 zn D zjM rfl rfl (fun f cdv A outer s H E hr=>(qc (zA (WW.gt (zbU (yo zej (yq yB rfl T.n_len boot_len (ya (za (pv 1)) zc)) yc (yn _)) (zbv (yo zej (yf yr (hr.mono (by decide)) rfl (ya (za (pv 0)) (ya yc zc))) yc (yn _))))) (qd (ym (yd qg (za (pv 1)) (yi zB yc (yf yr (hr.mono (by decide)) rfl (ya (za (pv 0)) (ya (yi yY (yq yB rfl T.n_len boot_len (ya (za (pv 1)) zc)) yc) zc)))) (fun _ _=>rfl)))) zx)
  (qd (ym (yd qg (za (pv 1)) yc (fun _ _=>rfl))))))
end
noncomputable def zhe (kE kR:Addr):Ev->Mem->Out Fl:=
 (sIf (zcv (zu (eOp eqA (eOp ixD (eOp ixD (yb 5) (eC (.int 2))) (eC (.int 0))) (eC (.str "stands")))) (zba (zu (eOp geI (yb 4) (ze (yC zgq) (zb (yb 0) zd)))) (zu (eOp neA (eOp ixD (eOp ixD (yb 0) (yb 4)) (eC (.int 2))) (eOp ixD (yb 5) (eC (.int 2))))))) (zeg (yb 3) (ziu zhI (yb 2) (yb 4))) yO)
noncomputable def zh7 (kE kR:Addr):Ev->Mem->Out Fl:=
 (zby (zdB (yb 1)) (zat 2 (qz (zi 4) (qz (zi 5) zau))) (zhe kE kR))
noncomputable def zdZ (kE kR:Addr):List FT.T->Mem->Out FT.T:=yh 4 6 (zh7 kE kR)
section
variable {P:Program} {w:World} {K:Frag} {mg:Str->Option Value} {base:Heap} {kE kR:Addr}
theorem zd9:FnScope ["ahead","errands","stood","tick","n","errand"] ["ahead","errands","stood","tick"] (zf zfj):=by ac_rfl
theorem zc0 (D:Df K mg "_law_kept" zfj ["ahead","errands","stood","tick"]) (T:Txt K mg kE kR)  :CalT P w K mg base 1 "_law_kept" ["ahead","errands","stood","tick"] (zdZ kE kR):=
 zn D zd9 rfl rfl (fun f cdv A outer s H E hr=>(qd (qX PassesOwn.never rfl (zgN rfl T.n_enumerate (za (pv 1))) (z4 (zax rfl (WGs.pe (yt (zw (WG.pe (yj (zl (i:=4) zd9.nd rfl (by first | exact Or.inl rfl | exact Or.inr rfl)))) (WGs.pe (yt (zw (WG.pe (yj (zl (i:=5) zd9.nd rfl (by first | exact Or.inl rfl | exact Or.inr rfl)))) (WGs.pe qU))))))))) (qd (zA (WW.gt (zbU (yo (zG hr.units) (yd (zbe hr.units) (yd (zbe hr.units) (za (pv 5)) yc (fun _ _=>rfl)) yc (fun _ _=>rfl)) qo (yn _)) (zbv (WW.gt (zad (yo zoA (za (pv 4)) (yq zg9 rfl T.n_len boot_len (ya (za (pv 0)) zc)) (yn _)) (zaA (yo (zce hr.units) (yd (zbe hr.units) (yd (zbe hr.units) (za (pv 0)) (za (pv 4)) (fun _ _=>rfl)) yc (fun _ _=>rfl)) (yd (zbe hr.units) (za (pv 5)) yc (fun _ _=>rfl)) (yn _)))))))) (qd (zcB (za (pv 3)) (zf5 (za (pv 2)) (za (pv 4)) (zpQ hr.units)))) zx)))))
end
noncomputable def zfV (kE kR:Addr):Ev->Mem->Out Fl:=
 (yg (yD [kR] "net" (yb 0) (yb 1))
 (yg (yD [kR] "came" (yb 0) (eC (.int 0)))
 (yg (yD [kR] "errands" (yb 0) (eTk (qx zd)))
 (yg (yD [kR] "puts" (yb 0) (eTk (yU (zaH (eOp ixT (yb 1) (eC (.int 1)))) (zi 0) qH (eTk (qx zd)) ["purse"] [])))
 (yg (yD [kR] "payments" (yb 0) (eTk (qx zd)))
 (yD [kR] "taken" (yb 0) (eTk (yU (zaH (eOp ixT (yb 1) (eC (.int 1)))) (zi 0) qH (eC (.int 0)) ["purse"] []))))))))
noncomputable def y6 (kE kR:Addr):List FT.T->Mem->Out FT.T:=yh 2 2 (zfV kE kR)
section
variable {P:Program} {w:World} {K:Frag} {mg:Str->Option Value} {base:Heap} {kE kR:Addr}
theorem ziF:FnScope ["self","net"] ["self","net"] (zf zdP):=by ac_rfl
theorem zc9 (D:Di K mg "Run" "Run.__init__" kR zdP ["self","net"]) (T:Txt K mg kE kR)  :MakT P w K mg base 1 "Run" kR ["self","net"] (y6 kE kR):=
 ziR D ziF rfl rfl (fun f cdv A outer s H E hr=>(qc (qL (ye ⟨T.cls_Run,T.na_Run_net⟩ qf) (za (pv 0)) (za (pv 1)))
  (qc (qL (ye ⟨T.cls_Run,T.na_Run_came⟩ qf) (za (pv 0)) yc)
  (qc (qL (ye ⟨T.cls_Run,T.na_Run_errands⟩ qf) (za (pv 0)) (zW (zr zc)))
  (qc (qL (ye ⟨T.cls_Run,T.na_Run_puts⟩ qf) (za (pv 0)) (zW (zam (tgs:=["purse"]) (caps:=[]) (zY (yd qg (za (pv 1)) yc (fun _ _=>rfl))) (by bv_omega) (fun _ _ _=>(yj (zl (i:=0) (show (["purse"]:List Str).Nodup by decide +kernel) rfl (by first | exact Or.inl rfl | exact Or.inr rfl)))) (fun _ _ _=>qO) (fun _ _ _=>(zW (zr zc))))))
  (qc (qL (ye ⟨T.cls_Run,T.na_Run_payments⟩ qf) (za (pv 0)) (zW (zr zc)))
  (qd (qL (ye ⟨T.cls_Run,T.na_Run_taken⟩ qf) (za (pv 0)) (zW (zam (tgs:=["purse"]) (caps:=[]) (zY (yd qg (za (pv 1)) yc (fun _ _=>rfl))) (by bv_omega) (fun _ _ _=>(yj (zl (i:=0) (show (["purse"]:List Str).Nodup by decide +kernel) rfl (by first | exact Or.inl rfl | exact Or.inr rfl)))) (fun _ _ _=>qO) (fun _ _ _=>yc)))))))))))
end
noncomputable def zg4 (kE kR:Addr):Ev->Mem->Out Fl:=
 (qB (eOp ixT (eOp ixT (eOp ixT (zj [kR] "net" (yb 0)) (eC (.int 0))) (zj [kE] "house" (eOp ixT (zj [kR] "errands" (yb 0)) (yb 1)))) (eC (.int 1))))
noncomputable def yA (kE kR:Addr):List FT.T->Mem->Out FT.T:=yh 2 2 (zg4 kE kR)
section
variable {P:Program} {w:World} {K:Frag} {mg:Str->Option Value} {base:Heap} {kE kR:Addr}
theorem zjN:FnScope ["run","number"] ["run","number"] (zf zef):=by ac_rfl
theorem zq (D:Df K mg "asks_of" zef ["run","number"]) (T:Txt K mg kE kR)  :CalT P w K mg base 1 "asks_of" ["run","number"] (yA kE kR):=
 zn D zjN rfl rfl (fun f cdv A outer s H E hr=>(qd (ym (yd qg (yd qg (yd qg (qh (ye ⟨T.cls_Run,T.na_Run_net⟩ qf) (za (pv 0))) yc (fun _ _=>rfl)) (qh (ye ⟨T.cls_Errand,T.na_Errand_house⟩ qf) (yd qg (qh (ye ⟨T.cls_Run,T.na_Run_errands⟩ qf) (za (pv 0))) (za (pv 1)) (fun _ _=>rfl))) (fun _ _=>rfl)) yc (fun _ _=>rfl)))))
end
noncomputable def zd4 (kE kR:Addr):Ev->Mem->Out Fl:=
 (yg (zm 2 (eOp ixT (zj [kR] "errands" (yb 0)) (yb 1)))
 (yg (sIf (zba (zu (eOp isN (zj [kE] "caller" (yb 2)) (eC .non))) (zba (zu (zj [kE] "is_lost" (yb 2))) (zu (eOp eqA (eOp ixT (zj [kE] "state" (yb 2)) (eC (.int 0))) (eC (.str "ended")))))) (qB (eC (.bl false))) yO)
 (qB (zj8 (eOp ixT (eOp ixT (ze (yA kE kR) (zb (yb 0) (zb (eOp ixT (zj [kE] "caller" (yb 2)) (eC (.int 0))) zd))) (eOp ixT (zj [kE] "caller" (yb 2)) (eC (.int 1)))) (eC (.int 5)))))))
noncomputable def zay (kE kR:Addr):List FT.T->Mem->Out FT.T:=yh 2 3 (zd4 kE kR)
section
variable {P:Program} {w:World} {K:Frag} {mg:Str->Option Value} {base:Heap} {kE kR:Addr}
theorem zdw:FnScope ["run","number","errand"] ["run","number"] (zf zcn):=by ac_rfl
theorem zaz (D:Df K mg "may_be_lost" zcn ["run","number"]) (T:Txt K mg kE kR)  (zq:CalT P w K mg base 1 "asks_of" ["run","number"] (yA kE kR)):CalT P w K mg base 2 "may_be_lost" ["run","number"] (zay kE kR):=
 zn D zdw rfl rfl (fun f cdv A outer s H E hr=>(qc (zh (i:=2) zdw.nd rfl (Or.inl rfl) (yd qg (qh (ye ⟨T.cls_Run,T.na_Run_errands⟩ qf) (za (pv 0))) (za (pv 1)) (fun _ _=>rfl)))
  (qc (zA (WW.gt (zad (yo zgl (qh (ye ⟨T.cls_Errand,T.na_Errand_caller⟩ qf) (za (pv 2))) zae (yn _)) (zad (y3 (qh (ye ⟨T.cls_Errand,T.na_Errand_is_lost⟩ qf) (za (pv 2)))) (zaA (yo (zG hr.units) (yd qg (qh (ye ⟨T.cls_Errand,T.na_Errand_state⟩ qf) (za (pv 2))) yc (fun _ _=>rfl)) qo (yn _)))))) (qd (ym zbF)) zx)
  (qd (ym (ziT (yd qg (yd qg (yf zq (hr.mono (by decide)) rfl (ya (za (pv 0)) (ya (yd qg (qh (ye ⟨T.cls_Errand,T.na_Errand_caller⟩ qf) (za (pv 2))) yc (fun _ _=>rfl)) zc))) (yd qg (qh (ye ⟨T.cls_Errand,T.na_Errand_caller⟩ qf) (za (pv 2))) yc (fun _ _=>rfl)) (fun _ _=>rfl)) yc (fun _ _=>rfl))))))))
end
noncomputable def zcW (kE kR:Addr):Ev->Mem->Out Fl:=
 (yg (zm 2 (zj [kE] "state" (eOp ixT (zj [kR] "errands" (yb 0)) (yb 1))))
 (yg (sIf (zu (eOp neA (eOp ixT (yb 2) (eC (.int 0))) (eC (.str "stands")))) (qB (eC (.bl false))) yO)
 (yg (zm 3 (eOp ixT (eOp ixT (ze (yA kE kR) (zb (yb 0) (zb (yb 1) zd))) (eOp ixT (yb 2) (eC (.int 1)))) (eC (.int 1))))
 (qB (eOr (eOp eqA (yb 3) (eC (.int 0))) (eOp ltI (eOp ixT (yb 2) (eC (.int 2))) (yb 3)))))))
noncomputable def yI (kE kR:Addr):List FT.T->Mem->Out FT.T:=yh 2 4 (zcW kE kR)
section
variable {P:Program} {w:World} {K:Frag} {mg:Str->Option Value} {base:Heap} {kE kR:Addr}
theorem zbb:FnScope ["run","number","state","tries"] ["run","number"] (zf zbx):=by ac_rfl
theorem qI (D:Df K mg "has_tries_left" zbx ["run","number"]) (T:Txt K mg kE kR)  (zq:CalT P w K mg base 1 "asks_of" ["run","number"] (yA kE kR)):CalT P w K mg base 2 "has_tries_left" ["run","number"] (yI kE kR):=
 zn D zbb rfl rfl (fun f cdv A outer s H E hr=>(qc (zh (i:=2) zbb.nd rfl (Or.inl rfl) (qh (ye ⟨T.cls_Errand,T.na_Errand_state⟩ qf) (yd qg (qh (ye ⟨T.cls_Run,T.na_Run_errands⟩ qf) (za (pv 0))) (za (pv 1)) (fun _ _=>rfl))))
  (qc (zA (yo (zce hr.units) (yd qg (za (pv 2)) yc (fun _ _=>rfl)) qo (yn _)) (qd (ym zbF)) zx)
  (qc (zh (i:=3) zbb.nd rfl (Or.inl rfl) (yd qg (yd qg (yf zq (hr.mono (by decide)) rfl (ya (za (pv 0)) (ya (za (pv 1)) zc))) (yd qg (za (pv 2)) yc (fun _ _=>rfl)) (fun _ _=>rfl)) yc (fun _ _=>rfl)))
  (qd (ym (zkj (zaY (zG hr.units) (za (pv 3)) yc (yn _)) (zdv (zaY zcU (yd qg (za (pv 2)) yc (fun _ _=>rfl)) (za (pv 3)) (yn _))))))))))
end
noncomputable def zcu (kE kR:Addr):Ev->Mem->Out Fl:=
 (yg (zm 2 (eOp ixT (zj [kE] "state" (eOp ixT (zj [kR] "errands" (yb 0)) (yb 1))) (eC (.int 0))))
 (yg (zm 3 (eTk (qx zd)))
 (yg (sIf (zu (eOp eqA (yb 2) (eC (.str "works")))) (zF (zci zcx zev (yb 3) (zb (eFz (qx (zb (zK (zb (eC (.str "ends")) (zb (yb 1) (zb (eC (.str "bad")) zd)))) (zb (zK (zb (eC (.str "ends")) (zb (yb 1) (zb (eC (.str "spent")) zd)))) (zb (zK (zb (eC (.str "ends")) (zb (yb 1) (zb (eC (.str "well")) zd)))) zd))))) zd))) yO)
 (yg (sIf (zu (ze (zay kE kR) (zb (yb 0) (zb (yb 1) zd)))) (zF (z7 qV (eUn yG (yb 3)) (zb (zK (zb (eC (.str "lost")) (zb (yb 1) zd))) zd))) yO)
 (yg (sIf (zu (ze (yI kE kR) (zb (yb 0) (zb (yb 1) zd)))) (zF (z7 qV (eUn yG (yb 3)) (zb (zK (zb (eC (.str "again")) (zb (yb 1) zd))) zd))) yO)
 (yg (sIf (zu (eOp eqA (yb 2) (eC (.str "stands")))) (zF (z7 qV (eUn yG (yb 3)) (zb (zK (zb (eC (.str "up")) (zb (yb 1) zd))) zd))) yO)
 (qB (yb 3))))))))
noncomputable def zbf (kE kR:Addr):List FT.T->Mem->Out FT.T:=yh 2 4 (zcu kE kR)
noncomputable def zab (kE kR:Addr):List FT.T->Mem->Out FT.T:=zeu (zbf kE kR)
section
variable {P:Program} {w:World} {K:Frag} {mg:Str->Option Value} {base:Heap} {kE kR:Addr}
theorem zaL:FnScope ["run","number","word","events"] ["run","number"] (zf zbc):=by ac_rfl
theorem zL (D:Df K mg "events_by_tries" zbc ["run","number"]) (T:Txt K mg kE kR)  (zaz:CalT P w K mg base 2 "may_be_lost" ["run","number"] (zay kE kR)) (qI:CalT P w K mg base 2 "has_tries_left" ["run","number"] (yI kE kR)):CalT P w K mg base 3 "events_by_tries" ["run","number"] (zbf kE kR):=
 zn D zaL rfl rfl (fun f cdv A outer s H E hr=>(qc (zh (i:=2) zaL.nd rfl (Or.inl rfl) (yd qg (qh (ye ⟨T.cls_Errand,T.na_Errand_state⟩ qf) (yd qg (qh (ye ⟨T.cls_Run,T.na_Run_errands⟩ qf) (za (pv 0))) (za (pv 1)) (fun _ _=>rfl))) yc (fun _ _=>rfl)))
  (qc (zh (i:=3) zaL.nd rfl (Or.inl rfl) (zW (zr zc)))
  (qc (zA (yo (zG hr.units) (za (pv 2)) qo (yn _)) (qd (qr (zfb zhB (z5 PySem.F.plainAttrs_list PySem.F.slot_list_extend PySem.F.type_list_extend zi9 (WE.pe (za (pv 3))) (WA.pe (ya (zC (zr (ya (yy (ya qo (ya (za (pv 1)) (ya qo zc)))) (ya (yy (ya qo (ya (za (pv 1)) (ya qo zc)))) (ya (yy (ya qo (ya (za (pv 1)) (ya qo zc)))) zc))))) zc)))))) zx)
  (qc (zA (y3 (yf zaz (hr.mono (by decide)) rfl (ya (za (pv 0)) (ya (za (pv 1)) zc)))) (qd (qr (zU (z5 PySem.F.plainAttrs_list PySem.F.slot_list_append PySem.F.type_list_append qF (WE.pe (za (pv 3))) (WA.pe (ya (yy (ya qo (ya (za (pv 1)) zc))) zc)))))) zx)
  (qc (zA (y3 (yf qI (hr.mono (by decide)) rfl (ya (za (pv 0)) (ya (za (pv 1)) zc)))) (qd (qr (zU (z5 PySem.F.plainAttrs_list PySem.F.slot_list_append PySem.F.type_list_append qF (WE.pe (za (pv 3))) (WA.pe (ya (yy (ya qo (ya (za (pv 1)) zc))) zc)))))) zx)
  (qc (zA (yo (zG hr.units) (za (pv 2)) qo (yn _)) (qd (qr (zU (z5 PySem.F.plainAttrs_list PySem.F.slot_list_append PySem.F.type_list_append qF (WE.pe (za (pv 3))) (WA.pe (ya (yy (ya qo (ya (za (pv 1)) zc))) zc)))))) zx)
  (qd (ym (za (pv 3)))))))))))
end
noncomputable def ze4 (kE kR:Addr):Ev->Mem->Out Fl:=
 (qB (zci zcx zgv (eFz (yU (zaH (yb 0)) (zi 0) qH (eOp ixT (yb 0) (eC (.int 0))) ["one"] [])) (zb (yb 1) zd)))
noncomputable def z9 (kE kR:Addr):List FT.T->Mem->Out FT.T:=yh 2 2 (ze4 kE kR)
section
variable {P:Program} {w:World} {K:Frag} {mg:Str->Option Value} {base:Heap} {kE kR:Addr}
theorem zhL:FnScope ["named","name"] ["named","name"] (zf zdm):=by ac_rfl
theorem zX (D:Df K mg "number_of" zdm ["named","name"]) (T:Txt K mg kE kR)  :CalT P w K mg base 1 "number_of" ["named","name"] (z9 kE kR):=
 zn D zhL rfl rfl (fun f cdv A outer s H E hr=>(qd (ym (zfb zhB (z5 PySem.F.plainAttrs_list PySem.F.slot_list_index PySem.F.type_list_index (zoF hr.units) (WE.pe (zC (zam (tgs:=["one"]) (caps:=[]) (zY (za (pv 0))) (by bv_omega) (fun _ _ _=>(yj (zl (i:=0) (show (["one"]:List Str).Nodup by decide +kernel) rfl (by first | exact Or.inl rfl | exact Or.inr rfl)))) (fun _ _ _=>qO) (fun _ _ _=>(yd qg (za (pv 0)) yc (fun _ _=>rfl)))))) (WA.pe (ya (za (pv 1)) zc)))))))
end
noncomputable def zfP (kE kR:Addr):Ev->Mem->Out Fl:=
 (qB (eIf (zu (eOp isN (eOp ixT (yb 1) (eC (.int 2))) (eC .non))) (eC .non) (ze (z9 kE kR) (zb (eOp ixT (zj [kR] "net" (yb 0)) (eC (.int 1))) (zb (eOp ixT (yb 1) (eC (.int 2))) zd)))))
noncomputable def zR (kE kR:Addr):List FT.T->Mem->Out FT.T:=yh 2 2 (zfP kE kR)
section
variable {P:Program} {w:World} {K:Frag} {mg:Str->Option Value} {base:Heap} {kE kR:Addr}
theorem ziA:FnScope ["run","ask"] ["run","ask"] (zf zdI):=by ac_rfl
theorem yH (D:Df K mg "purse_of" zdI ["run","ask"]) (T:Txt K mg kE kR)  (zX:CalT P w K mg base 1 "number_of" ["named","name"] (z9 kE kR)):CalT P w K mg base 2 "purse_of" ["run","ask"] (zR kE kR):=
 zn D ziA rfl rfl (fun f cdv A outer s H E hr=>(qd (ym (znT (yo zgl (yd qg (za (pv 1)) yc (fun _ _=>rfl)) zae (yn _)) zae (yf zX (hr.mono (by decide)) rfl (ya (yd qg (qh (ye ⟨T.cls_Run,T.na_Run_net⟩ qf) (za (pv 0))) yc (fun _ _=>rfl)) (ya (yd qg (za (pv 1)) yc (fun _ _=>rfl)) zc)))))))
end
noncomputable def zet (kE kR:Addr):Ev->Mem->Out Fl:=
 (qB (eOp zcs (ze (yC qC) (zb (eOp ixT (zj [kR] "puts" (yb 0)) (yb 1)) zd)) (eOp ixT (eOp ixT (eOp ixT (zj [kR] "net" (yb 0)) (eC (.int 1))) (yb 1)) (eC (.int 2)))))
noncomputable def zaR (kE kR:Addr):List FT.T->Mem->Out FT.T:=yh 2 2 (zet kE kR)
section
variable {P:Program} {w:World} {K:Frag} {mg:Str->Option Value} {base:Heap} {kE kR:Addr}
theorem zhi:FnScope ["run","purse"] ["run","purse"] (zf zcR):=by ac_rfl
theorem zaX (D:Df K mg "coins_made" zcR ["run","purse"]) (T:Txt K mg kE kR)  :CalT P w K mg base 1 "coins_made" ["run","purse"] (zaR kE kR):=
 zn D zhi rfl rfl (fun f cdv A outer s H E hr=>(qd (ym (yi zdA (yq yB rfl T.n_len boot_len (ya (yd qg (qh (ye ⟨T.cls_Run,T.na_Run_puts⟩ qf) (za (pv 0))) (za (pv 1)) (fun _ _=>rfl)) zc)) (yd qg (yd qg (yd qg (qh (ye ⟨T.cls_Run,T.na_Run_net⟩ qf) (za (pv 0))) yc (fun _ _=>rfl)) (za (pv 1)) (fun _ _=>rfl)) yc (fun _ _=>rfl))))))
end
noncomputable def zer (kE kR:Addr):Ev->Mem->Out Fl:=
 (qB (zK (zb (eOp zbz (ze (yC qC) (zb (eOp ixT (zj [kR] "puts" (yb 0)) (yb 1)) zd)) (eOp ixT (eOp ixT (eOp ixT (zj [kR] "net" (yb 0)) (eC (.int 1))) (yb 1)) (eC (.int 2)))) (zb (eOp zbw (ze (zaR kE kR) (zb (yb 0) (zb (yb 1) zd))) (eOp ixT (zj [kR] "taken" (yb 0)) (yb 1))) zd))))
noncomputable def qS (kE kR:Addr):List FT.T->Mem->Out FT.T:=yh 2 2 (zer kE kR)
section
variable {P:Program} {w:World} {K:Frag} {mg:Str->Option Value} {base:Heap} {kE kR:Addr}
theorem zhh:FnScope ["run","purse"] ["run","purse"] (zf zcQ):=by ac_rfl
theorem qT (D:Df K mg "purse_told" zcQ ["run","purse"]) (T:Txt K mg kE kR)  (zaX:CalT P w K mg base 1 "coins_made" ["run","purse"] (zaR kE kR)):CalT P w K mg base 2 "purse_told" ["run","purse"] (qS kE kR):=
 zn D zhh rfl rfl (fun f cdv A outer s H E hr=>(qd (ym (yy (ya (yi za4 (yq yB rfl T.n_len boot_len (ya (yd qg (qh (ye ⟨T.cls_Run,T.na_Run_puts⟩ qf) (za (pv 0))) (za (pv 1)) (fun _ _=>rfl)) zc)) (yd qg (yd qg (yd qg (qh (ye ⟨T.cls_Run,T.na_Run_net⟩ qf) (za (pv 0))) yc (fun _ _=>rfl)) (za (pv 1)) (fun _ _=>rfl)) yc (fun _ _=>rfl))) (ya (yi yY (yf zaX (hr.mono (by decide)) rfl (ya (za (pv 0)) (ya (za (pv 1)) zc))) (yd qg (qh (ye ⟨T.cls_Run,T.na_Run_taken⟩ qf) (za (pv 0))) (za (pv 1)) (fun _ _=>rfl))) zc))))))
end
noncomputable def zfT (kE kR:Addr):Ev->Mem->Out Fl:=
 (yg (zm 2 (ze (zR kE kR) (zb (yb 0) (zb (eOp ixT (ze (yA kE kR) (zb (yb 0) (zb (yb 1) zd))) (eOp ixT (zj [kE] "state" (eOp ixT (zj [kR] "errands" (yb 0)) (yb 1))) (eC (.int 1)))) zd))))
 (qB (eOr (eOp isN (yb 2) (eC .non)) (eOp gtI (eOp ixT (ze (qS kE kR) (zb (yb 0) (zb (yb 2) zd))) (eC (.int 1))) (eC (.int 0))))))
noncomputable def za7 (kE kR:Addr):List FT.T->Mem->Out FT.T:=yh 2 3 (zfT kE kR)
section
variable {P:Program} {w:World} {K:Frag} {mg:Str->Option Value} {base:Heap} {kE kR:Addr}
theorem zeV:FnScope ["run","number","purse"] ["run","number"] (zf zdM):=by ac_rfl
theorem zbS (D:Df K mg "has_coin" zdM ["run","number"]) (T:Txt K mg kE kR)  (yH:CalT P w K mg base 2 "purse_of" ["run","ask"] (zR kE kR)) (zq:CalT P w K mg base 1 "asks_of" ["run","number"] (yA kE kR)) (qT:CalT P w K mg base 2 "purse_told" ["run","purse"] (qS kE kR)):CalT P w K mg base 3 "has_coin" ["run","number"] (za7 kE kR):=
 zn D zeV rfl rfl (fun f cdv A outer s H E hr=>(qc (zh (i:=2) zeV.nd rfl (Or.inl rfl) (yf yH (hr.mono (by decide)) rfl (ya (za (pv 0)) (ya (yd qg (yf zq (hr.mono (by decide)) rfl (ya (za (pv 0)) (ya (za (pv 1)) zc))) (yd qg (qh (ye ⟨T.cls_Errand,T.na_Errand_state⟩ qf) (yd qg (qh (ye ⟨T.cls_Run,T.na_Run_errands⟩ qf) (za (pv 0))) (za (pv 1)) (fun _ _=>rfl))) yc (fun _ _=>rfl)) (fun _ _=>rfl)) zc))))
  (qd (ym (zkj (zaY zgl (za (pv 2)) zae (yn _)) (zdv (zaY zej (yd qg (yf qT (hr.mono (by decide)) rfl (ya (za (pv 0)) (ya (za (pv 2)) zc))) yc (fun _ _=>rfl)) yc (yn _))))))))
end
noncomputable def ze7 (kE kR:Addr):Ev->Mem->Out Fl:=
 (qB (eFz (yU (zaH (ze (zab kE kR) (zb (yb 0) (zb (yb 1) zd)))) (zi 0) (zba (zu (eOp neA (eOp ixT (yb 0) (eC (.int 0))) (eC (.str "again")))) (zu (ze (za7 kE kR) (zb (yb 1) (zb (yb 2) zd))))) (yb 0) ["event"] [("run",0),("number",1)])))
noncomputable def y9 (kE kR:Addr):List FT.T->Mem->Out FT.T:=yh 2 2 (ze7 kE kR)
section
variable {P:Program} {w:World} {K:Frag} {mg:Str->Option Value} {base:Heap} {kE kR:Addr}
theorem zhN:FnScope ["run","number"] ["run","number"] (zf zdp):=by ac_rfl
theorem yX (D:Df K mg "events_at" zdp ["run","number"]) (T:Txt K mg kE kR)  (zL:CalT P w K mg base 3 "events_by_tries" ["run","number"] (zab kE kR)) (zbS:CalT P w K mg base 3 "has_coin" ["run","number"] (za7 kE kR)):CalT P w K mg base 4 "events_at" ["run","number"] (y9 kE kR):=
 zn D zhN rfl rfl (fun f cdv A outer s H E hr=>(qd (ym (zC (zam (tgs:=["event"]) (caps:=[("run",0),("number",1)]) (zY (yf zL (hr.mono (by decide)) rfl (ya (za (pv 0)) (ya (za (pv 1)) zc)))) (by bv_omega) (fun _ _ _=>(yj (zl (i:=0) (show (["event","run","number"]:List Str).Nodup by decide +kernel) rfl (by first | exact Or.inl rfl | exact Or.inr rfl)))) (fun _ _ _=>(zhx (WW.gt (zad (yo (zce hr.units) (yd qg (za (pv 0)) yc (fun _ _=>rfl)) qo (yn _)) (zaA (y3 (yf zbS (hr.mono (by decide)) rfl (ya (za (pv 1)) (ya (za (pv 2)) zc))))))))) (fun _ _ _=>(za (pv 0))))))))
end
noncomputable def zfS (kE kR:Addr):Ev->Mem->Out Fl:=
 (qB (zih (ze (call2 qP) (zb (yb 0) (zb (eC (.ty "int")) zd))) (zj8 (ze (call2 qP) (zb (yb 0) (zb (eC (.ty "bool")) zd))))))
noncomputable def zbP (kE kR:Addr):List FT.T->Mem->Out FT.T:=yh 1 1 (zfS kE kR)
section
variable {P:Program} {w:World} {K:Frag} {mg:Str->Option Value} {base:Heap} {kE kR:Addr}
theorem ziC:FnScope ["thing"] ["thing"] (zf zdL):=by ac_rfl
theorem zbR (D:Df K mg "is_whole" zdL ["thing"]) (T:Txt K mg kE kR)  :CalT P w K mg base 1 "is_whole" ["thing"] (zbP kE kR):=
 zn D ziC rfl rfl (fun f cdv A outer s H E hr=>(qd (ym (zf6 (yq zaT rfl T.n_isinstance boot_isinstance (ya (za (pv 0)) (ya (zcL rfl T.n_int boot_int) zc))) (zdv (ziT (yq zaT rfl T.n_isinstance boot_isinstance (ya (za (pv 0)) (ya (zcL rfl T.n_bool boot_bool) zc)))))))))
end
noncomputable def ze6 (kE kR:Addr):Ev->Mem->Out Fl:=
 (qB (zih (ze (zbP kE kR) (zb (yb 0) zd)) (zfY leI leI (yb 1) (yb 0) (yb 2))))
noncomputable def zbk (kE kR:Addr):List FT.T->Mem->Out FT.T:=yh 3 3 (ze6 kE kR)
section
variable {P:Program} {w:World} {K:Frag} {mg:Str->Option Value} {base:Heap} {kE kR:Addr}
theorem zhM:FnScope ["thing","low","high"] ["thing","low","high"] (zf zdo):=by ac_rfl
theorem zbq (D:Df K mg "is_within" zdo ["thing","low","high"]) (T:Txt K mg kE kR)  (zbR:CalT P w K mg base 1 "is_whole" ["thing"] (zbP kE kR)):CalT P w K mg base 2 "is_within" ["thing","low","high"] (zbk kE kR):=
 zn D zhM rfl rfl (fun f cdv A outer s H E hr=>(qd (ym (zf6 (yf zbR (hr.mono (by decide)) rfl (ya (za (pv 0)) zc)) (zdv (zkk zkE zkE (za (pv 1)) (za (pv 0)) (za (pv 2))))))))
end
noncomputable def zdX (kE kR:Addr):Ev->Mem->Out Fl:=
 (yg (sIf (zu (eOp eqA (yb 1) (eC (.tup [.str "fresh"])))) (qB (eC (.bl true))) yO)
 (yg (sIf (zba (zc5 (zu (ze (call2 qP) (zb (yb 1) (zb (eC (.ty "tuple")) zd))))) (zba (zu (eOp ltI (ze (yC qC) (zb (yb 1) zd)) (eC (.int 2)))) (zc5 (zu (ze (zbk kE kR) (zb (eOp ixT (yb 1) (eC (.int 1))) (zb (eC (.int 0)) (zb (eOp zbw (ze (yC qC) (zb (zj [kR] "errands" (yb 0)) zd)) (eC (.int 1))) zd)))))))) (qB (eC (.bl false))) yO)
 (qB (eOp inN (yb 1) (ze (y9 kE kR) (zb (yb 0) (zb (eOp ixT (yb 1) (eC (.int 1))) zd)))))))
noncomputable def zaq (kE kR:Addr):List FT.T->Mem->Out FT.T:=yh 2 2 (zdX kE kR)
section
variable {P:Program} {w:World} {K:Frag} {mg:Str->Option Value} {base:Heap} {kE kR:Addr}
theorem ziD:FnScope ["run","event"] ["run","event"] (zf zdN):=by ac_rfl
theorem zbT (D:Df K mg "can_come" zdN ["run","event"]) (T:Txt K mg kE kR)  (yX:CalT P w K mg base 4 "events_at" ["run","number"] (y9 kE kR)) (zbq:CalT P w K mg base 2 "is_within" ["thing","low","high"] (zbk kE kR)):CalT P w K mg base 5 "can_come" ["run","event"] (zaq kE kR):=
 zn D ziD rfl rfl (fun f cdv A outer s H E hr=>(qc (zA (yo (zG hr.units) (za (pv 1)) (zgO (ss:=["fresh"]) rfl T.c_FRESH) (yn _)) (qd (ym zbF)) zx)
  (qc (zA (WW.gt (zad (zcA (y3 (yq zaT rfl T.n_isinstance boot_isinstance (ya (za (pv 1)) (ya (zcL rfl T.n_tuple boot_tuple) zc))))) (zad (yo zcU (yq yB rfl T.n_len boot_len (ya (za (pv 1)) zc)) yc (yn _)) (zaA (zcA (y3 (yf zbq (hr.mono (by decide)) rfl (ya (yd qg (za (pv 1)) yc (fun _ _=>rfl)) (ya yc (ya (yi yY (yq yB rfl T.n_len boot_len (ya (qh (ye ⟨T.cls_Run,T.na_Run_errands⟩ qf) (za (pv 0))) zc)) yc) zc)))))))))) (qd (ym zbF)) zx)
  (qd (ym (zaY (zoy hr.units) (za (pv 1)) (yf yX (hr.mono (by decide)) rfl (ya (za (pv 0)) (ya (yd qg (za (pv 1)) yc (fun _ _=>rfl)) zc))) rfl))))))
end
noncomputable def zcr (kE kR:Addr):Ev->Mem->Out Fl:=
 (sIf (zc5 (zu (ze (zaq kE kR) (zb (yb 0) (zb (yb 1) zd))))) zjQ yO)
noncomputable def yJ (kE kR:Addr):List FT.T->Mem->Out FT.T:=yh 2 2 (zcr kE kR)
section
variable {P:Program} {w:World} {K:Frag} {mg:Str->Option Value} {base:Heap} {kE kR:Addr}
theorem zf9:FnScope ["run","event"] ["run","event"] (zf zco):=by ac_rfl
theorem qN (D:Df K mg "check_event" zco ["run","event"]) (T:Txt K mg kE kR)  (zbT:CalT P w K mg base 5 "can_come" ["run","event"] (zaq kE kR)):CalT P w K mg base 6 "check_event" ["run","event"] (yJ kE kR):=
 zn D zf9 rfl rfl (fun f cdv A outer s H E hr=>(qd (zA (zcA (y3 (yf zbT (hr.mono (by decide)) rfl (ya (za (pv 0)) (ya (za (pv 1)) zc))))) (qd ziS) zx)))
end
noncomputable def zfU (kE kR:Addr):Ev->Mem->Out Fl:=
 (qB (ze (z9 kE kR) (zb (eOp ixT (yb 0) (eC (.int 0))) (zb (eOp ixT (yb 1) (eC (.int 0))) zd))))
noncomputable def zar (kE kR:Addr):List FT.T->Mem->Out FT.T:=yh 2 2 (zfU kE kR)
section
variable {P:Program} {w:World} {K:Frag} {mg:Str->Option Value} {base:Heap} {kE kR:Addr}
theorem ziE:FnScope ["net","ask"] ["net","ask"] (zf zdO):=by ac_rfl
theorem y8 (D:Df K mg "asked_by" zdO ["net","ask"]) (T:Txt K mg kE kR)  (zX:CalT P w K mg base 1 "number_of" ["named","name"] (z9 kE kR)):CalT P w K mg base 2 "asked_by" ["net","ask"] (zar kE kR):=
 zn D ziE rfl rfl (fun f cdv A outer s H E hr=>(qd (ym (yf zX (hr.mono (by decide)) rfl (ya (yd qg (za (pv 0)) yc (fun _ _=>rfl)) (ya (yd qg (za (pv 1)) yc (fun _ _=>rfl)) zc))))))
end
noncomputable def zd5 (kE kR:Addr):Ev->Mem->Out Fl:=
 (yg (yD [kE] "house" (yb 0) (yb 1))
 (yg (yD [kE] "caller" (yb 0) (yb 2))
 (yg (yD [kE] "state" (yb 0) (zK (zb (eC (.str "works")) zd)))
 (yg (yD [kE] "is_lost" (yb 0) (eC (.bl false)))
 (yg (yD [kE] "asked" (yb 0) (eC .non))
 (yD [kE] "stood" (yb 0) (eC .non)))))))
noncomputable def zV (kE kR:Addr):List FT.T->Mem->Out FT.T:=yh 3 3 (zd5 kE kR)
section
variable {P:Program} {w:World} {K:Frag} {mg:Str->Option Value} {base:Heap} {kE kR:Addr}
theorem zga:FnScope ["self","house","caller"] ["self","house","caller"] (zf zcp):=by ac_rfl
theorem zaN (D:Di K mg "Errand" "Errand.__init__" kE zcp ["self","house","caller"]) (T:Txt K mg kE kR)  :MakT P w K mg base 1 "Errand" kE ["self","house","caller"] (zV kE kR):=
 ziR D zga rfl rfl (fun f cdv A outer s H E hr=>(qc (qL (ye ⟨T.cls_Errand,T.na_Errand_house⟩ qf) (za (pv 0)) (za (pv 1)))
  (qc (qL (ye ⟨T.cls_Errand,T.na_Errand_caller⟩ qf) (za (pv 0)) (za (pv 2)))
  (qc (qL (ye ⟨T.cls_Errand,T.na_Errand_state⟩ qf) (za (pv 0)) (yy (ya qo zc)))
  (qc (qL (ye ⟨T.cls_Errand,T.na_Errand_is_lost⟩ qf) (za (pv 0)) zbF)
  (qc (qL (ye ⟨T.cls_Errand,T.na_Errand_asked⟩ qf) (za (pv 0)) zae)
  (qd (qL (ye ⟨T.cls_Errand,T.na_Errand_stood⟩ qf) (za (pv 0)) zae))))))))
end
noncomputable def zbh (kE kR:Addr) (q_begin_try q_begin_errand:List FT.T->Mem->Out FT.T):Ev->Mem->Out Fl:=
 (yg (zm 4 (eOp ixT (ze (yA kE kR) (zb (yb 0) (zb (yb 1) zd))) (yb 2)))
 (yg (zm 5 (ze (yC qC) (zb (zj [kR] "errands" (yb 0)) zd)))
 (yg (yD [kE] "state" (eOp ixT (zj [kR] "errands" (yb 0)) (yb 1)) (zK (zb (eC (.str "waits")) (zb (yb 2) (zb (yb 3) zd)))))
 (yg (yD [kE] "asked" (eOp ixT (zj [kR] "errands" (yb 0)) (yb 1)) (yb 5))
 (yg (zm 6 (ze (zR kE kR) (zb (yb 0) (zb (yb 4) zd))))
 (yg (sIf (zcv (zu (eOp zbu (yb 6) (eC .non))) (zba (zu (eOp eqA (yb 3) (eC (.int 1)))) (zu (eOp eqA (eOp ixT (eOp ixT (eOp ixT (zj [kR] "net" (yb 0)) (eC (.int 1))) (yb 6)) (eC (.int 1))) (eC (.str "any")))))) (zF (z7 qV (eUn yG (eOp ixT (zj [kR] "puts" (yb 0)) (yb 6))) (zb (yb 5) zd))) yO)
 (zF (ze q_begin_errand (zb (yb 0) (zb (ze (zar kE kR) (zb (zj [kR] "net" (yb 0)) (zb (yb 4) zd))) (zb (zK (zb (yb 1) (zb (yb 2) (zb (yb 3) zd)))) zd)))))))))))
section
variable {P:Program} {w:World} {K:Frag} {mg:Str->Option Value} {base:Heap} {kE kR:Addr}
theorem zaM:FnScope ["run","number","at","tried","ask","begun","purse"] ["run","number","at","tried"] (zf zb7):=by ac_rfl
theorem yF {L:Nat} {q_begin_try q_begin_errand:List FT.T->Mem->Out FT.T} (hL:2<=L) (D:Df K mg "begin_try" zb7 ["run","number","at","tried"]) (T:Txt K mg kE kR) (yH:CalT P w K mg base 2 "purse_of" ["run","ask"] (zR kE kR)) (yQ:CalT P w K mg base L "begin_errand" ["run","house","caller"] q_begin_errand) (zq:CalT P w K mg base 1 "asks_of" ["run","number"] (yA kE kR)) (y8:CalT P w K mg base 2 "asked_by" ["net","ask"] (zar kE kR)):CalT P w K mg base (L + 1) "begin_try" ["run","number","at","tried"] (yh 4 7 (zbh kE kR q_begin_try q_begin_errand)):=
 zn D zaM rfl rfl (fun f cdv A outer s H E hr=>(qc (zh (i:=4) zaM.nd rfl (Or.inl rfl) (yd qg (yf zq (hr.mono (by omega)) rfl (ya (za (pv 0)) (ya (za (pv 1)) zc))) (za (pv 2)) (fun _ _=>rfl)))
  (qc (zh (i:=5) zaM.nd rfl (Or.inl rfl) (yq yB rfl T.n_len boot_len (ya (qh (ye ⟨T.cls_Run,T.na_Run_errands⟩ qf) (za (pv 0))) zc)))
  (qc (qL (ye ⟨T.cls_Errand,T.na_Errand_state⟩ qf) (yd qg (qh (ye ⟨T.cls_Run,T.na_Run_errands⟩ qf) (za (pv 0))) (za (pv 1)) (fun _ _=>rfl)) (yy (ya qo (ya (za (pv 2)) (ya (za (pv 3)) zc)))))
  (qc (qL (ye ⟨T.cls_Errand,T.na_Errand_asked⟩ qf) (yd qg (qh (ye ⟨T.cls_Run,T.na_Run_errands⟩ qf) (za (pv 0))) (za (pv 1)) (fun _ _=>rfl)) (za (pv 5)))
  (qc (zh (i:=6) zaM.nd rfl (Or.inl rfl) (yf yH (hr.mono (by omega)) rfl (ya (za (pv 0)) (ya (za (pv 4)) zc))))
  (qc (zA (WW.gt (zbU (yo zei (za (pv 6)) zae (yn _)) (zbv (WW.gt (zad (yo (zG hr.units) (za (pv 3)) yc (yn _)) (zaA (yo (zG hr.units) (yd qg (yd qg (yd qg (qh (ye ⟨T.cls_Run,T.na_Run_net⟩ qf) (za (pv 0))) yc (fun _ _=>rfl)) (za (pv 6)) (fun _ _=>rfl)) yc (fun _ _=>rfl)) qo (yn _)))))))) (qd (qr (zU (z5 PySem.F.plainAttrs_list PySem.F.slot_list_append PySem.F.type_list_append qF (WE.pe (yd qg (qh (ye ⟨T.cls_Run,T.na_Run_puts⟩ qf) (za (pv 0))) (za (pv 6)) (fun _ _=>rfl))) (WA.pe (ya (za (pv 5)) zc)))))) zx)
  (qd (qr (yf yQ (hr.mono (by omega)) rfl (ya (za (pv 0)) (ya (yf y8 (hr.mono (by omega)) rfl (ya (qh (ye ⟨T.cls_Run,T.na_Run_net⟩ qf) (za (pv 0))) (ya (za (pv 4)) zc))) (ya (yy (ya (za (pv 1)) (ya (za (pv 2)) (ya (za (pv 3)) zc)))) zc)))))))))))))
end
noncomputable def za6 (kE kR:Addr) (q_begin_try q_begin_errand:List FT.T->Mem->Out FT.T):Ev->Mem->Out Fl:=
 (yg (zF (z7 qV (eUn yG (zj [kR] "errands" (yb 0))) (zb (zcy kE (zV kE kR) (zb (yb 1) (zb (yb 2) zd))) zd)))
 (yg (zm 3 (eOp zbw (ze (yC qC) (zb (zj [kR] "errands" (yb 0)) zd)) (eC (.int 1))))
 (sIf (zu (eOp gtI (ze (yC qC) (zb (ze (yA kE kR) (zb (yb 0) (zb (yb 3) zd))) zd)) (eC (.int 0)))) (zF (ze q_begin_try (zb (yb 0) (zb (yb 3) (zb (eC (.int 0)) (zb (eC (.int 1)) zd)))))) yO)))
section
variable {P:Program} {w:World} {K:Frag} {mg:Str->Option Value} {base:Heap} {kE kR:Addr}
theorem zbJ:FnScope ["run","house","caller","number"] ["run","house","caller"] (zf za2):=by ac_rfl
theorem yQ {L:Nat} {q_begin_try q_begin_errand:List FT.T->Mem->Out FT.T} (hL:2<=L) (D:Df K mg "begin_errand" za2 ["run","house","caller"]) (T:Txt K mg kE kR) (zaN:MakT P w K mg base 1 "Errand" kE ["self","house","caller"] (zV kE kR)) (yF:CalT P w K mg base L "begin_try" ["run","number","at","tried"] q_begin_try) (zq:CalT P w K mg base 1 "asks_of" ["run","number"] (yA kE kR)):CalT P w K mg base (L + 1) "begin_errand" ["run","house","caller"] (yh 3 4 (za6 kE kR q_begin_try q_begin_errand)):=
 zn D zbJ rfl rfl (fun f cdv A outer s H E hr=>(qc (qr (zU (z5 PySem.F.plainAttrs_list PySem.F.slot_list_append PySem.F.type_list_append qF (WE.pe (qh (ye ⟨T.cls_Run,T.na_Run_errands⟩ qf) (za (pv 0)))) (WA.pe (ya (zfc zaN (hr.mono (by omega)) rfl (ya (za (pv 1)) (ya (za (pv 2)) zc))) zc)))))
  (qc (zh (i:=3) zbJ.nd rfl (Or.inl rfl) (yi yY (yq yB rfl T.n_len boot_len (ya (qh (ye ⟨T.cls_Run,T.na_Run_errands⟩ qf) (za (pv 0))) zc)) yc))
  (qd (zA (yo zej (yq yB rfl T.n_len boot_len (ya (yf zq (hr.mono (by omega)) rfl (ya (za (pv 0)) (ya (za (pv 3)) zc))) zc)) yc (yn _)) (qd (qr (yf yF (hr.mono (by omega)) rfl (ya (za (pv 0)) (ya (za (pv 3)) (ya yc (ya yc zc))))))) zx)))))
noncomputable def qi (kE kR:Addr):Nat->(List FT.T->Mem->Out FT.T) × (List FT.T->Mem->Out FT.T)
 | 0=>(fun _ _=>.bad,fun _ _=>.bad)
 | n + 1=>(yh 4 7 (zbh kE kR (qi kE kR n).1 (qi kE kR n).2),yh 3 4 (za6 kE kR (qi kE kR n).1 (qi kE kR n).2))
noncomputable def zaa (kE kR:Addr):List FT.T->Mem->Out FT.T:=(qi kE kR 12).1
noncomputable def zb0 (kE kR:Addr):List FT.T->Mem->Out FT.T:=(qi kE kR 12).2
theorem zH (D_begin_try:Df K mg "begin_try" zb7 ["run","number","at","tried"]) (D_begin_errand:Df K mg "begin_errand" za2 ["run","house","caller"]) (T:Txt K mg kE kR) (yH:CalT P w K mg base 2 "purse_of" ["run","ask"] (zR kE kR)) (zq:CalT P w K mg base 1 "asks_of" ["run","number"] (yA kE kR)) (y8:CalT P w K mg base 2 "asked_by" ["net","ask"] (zar kE kR)) (zaN:MakT P w K mg base 1 "Errand" kE ["self","house","caller"] (zV kE kR)):∀ n,CalT P w K mg base (2 + n + 1) "begin_try" ["run","number","at","tried"] (qi kE kR n).1/\CalT P w K mg base (2 + n + 1) "begin_errand" ["run","house","caller"] (qi kE kR n).2
 | 0=>⟨CalT.bad D_begin_try zaM,CalT.bad D_begin_errand zbJ⟩
 | n + 1=>by
  have ih:=zH D_begin_try D_begin_errand T yH zq y8 zaN n
  exact ⟨yF (by omega) D_begin_try T yH ih.2 zq y8,yQ (by omega) D_begin_errand T zaN ih.1 zq⟩
end
noncomputable def zbO (kE kR:Addr) (q_end_errand q_hear:List FT.T->Mem->Out FT.T):Ev->Mem->Out Fl:=
 (yg (zm 3 (eOp ixT (zj [kR] "errands" (yb 0)) (yb 1)))
 (yg (yD [kE] "state" (yb 3) (zK (zb (eC (.str "ended")) (zb (yb 2) zd))))
 (sIf (zcv (zu (eOp zbu (zj [kE] "caller" (yb 3)) (eC .non))) (zc5 (zu (zj [kE] "is_lost" (yb 3))))) (zF (ze q_hear (zb (yb 0) (zb (zj [kE] "caller" (yb 3)) (zb (yb 2) zd))))) yO)))
section
variable {P:Program} {w:World} {K:Frag} {mg:Str->Option Value} {base:Heap} {kE kR:Addr}
theorem zcm:FnScope ["run","number","word","errand"] ["run","number","word"] (zf zbK):=by ac_rfl
theorem zM {L:Nat} {q_end_errand q_hear:List FT.T->Mem->Out FT.T} (hL:15<=L) (D:Df K mg "end_errand" zbK ["run","number","word"]) (T:Txt K mg kE kR) (zc2:CalT P w K mg base L "hear" ["run","caller","word"] q_hear):CalT P w K mg base (L + 1) "end_errand" ["run","number","word"] (yh 3 4 (zbO kE kR q_end_errand q_hear)):=
 zn D zcm rfl rfl (fun f cdv A outer s H E hr=>(qc (zh (i:=3) zcm.nd rfl (Or.inl rfl) (yd qg (qh (ye ⟨T.cls_Run,T.na_Run_errands⟩ qf) (za (pv 0))) (za (pv 1)) (fun _ _=>rfl)))
  (qc (qL (ye ⟨T.cls_Errand,T.na_Errand_state⟩ qf) (za (pv 3)) (yy (ya qo (ya (za (pv 2)) zc))))
  (qd (zA (WW.gt (zbU (yo zei (qh (ye ⟨T.cls_Errand,T.na_Errand_caller⟩ qf) (za (pv 3))) zae (yn _)) (zbv (zcA (y3 (qh (ye ⟨T.cls_Errand,T.na_Errand_is_lost⟩ qf) (za (pv 3)))))))) (qd (qr (yf zc2 (hr.mono (by omega)) rfl (ya (za (pv 0)) (ya (qh (ye ⟨T.cls_Errand,T.na_Errand_caller⟩ qf) (za (pv 3))) (ya (za (pv 2)) zc)))))) zx)))))
end
noncomputable def zes (kE kR:Addr) (q_end_errand q_hear:List FT.T->Mem->Out FT.T):Ev->Mem->Out Fl:=
 (yg (zm 3 (eOp ixT (yb 1) (eC (.int 0))))
 (yg (zm 4 (eOp ixT (yb 1) (eC (.int 1))))
 (yg (zm 5 (ze (yA kE kR) (zb (yb 0) (zb (yb 3) zd))))
 (sIf (zcv (zu (eOp eqA (yb 2) (eC (.str "well")))) (zu (eOp ltI (eOp zJ (yb 4) (eC (.int 1))) (ze (yC qC) (zb (yb 5) zd))))) (zF (ze (zaa kE kR) (zb (yb 0) (zb (yb 3) (zb (eOp zJ (yb 4) (eC (.int 1))) (zb (eC (.int 1)) zd)))))) (sIf (zba (zu (eOp eqA (yb 2) (eC (.str "well")))) (zcv (zu (eOp eqA (yb 2) (eC (.str "spent")))) (zu (eOp ixT (eOp ixT (yb 5) (yb 4)) (eC (.int 4)))))) (zF (ze q_end_errand (zb (yb 0) (zb (yb 3) (zb (yb 2) zd))))) (yg (yD [kE] "state" (eOp ixT (zj [kR] "errands" (yb 0)) (yb 3)) (zK (zb (eC (.str "stands")) (zb (yb 4) (zb (eOp ixT (yb 1) (eC (.int 2))) zd)))))
 (yD [kE] "stood" (eOp ixT (zj [kR] "errands" (yb 0)) (yb 3)) (zj [kR] "came" (yb 0)))))))))
section
variable {P:Program} {w:World} {K:Frag} {mg:Str->Option Value} {base:Heap} {kE kR:Addr}
theorem zdx:FnScope ["run","caller","word","number","at","asks"] ["run","caller","word"] (zf zfH):=by ac_rfl
theorem zc2 {L:Nat} {q_end_errand q_hear:List FT.T->Mem->Out FT.T} (hL:15<=L) (D:Df K mg "hear" zfH ["run","caller","word"]) (T:Txt K mg kE kR) (zq:CalT P w K mg base 1 "asks_of" ["run","number"] (yA kE kR)) (yF:CalT P w K mg base 15 "begin_try" ["run","number","at","tried"] (zaa kE kR)) (zM:CalT P w K mg base L "end_errand" ["run","number","word"] q_end_errand):CalT P w K mg base (L + 1) "hear" ["run","caller","word"] (yh 3 6 (zes kE kR q_end_errand q_hear)):=
 zn D zdx rfl rfl (fun f cdv A outer s H E hr=>(qc (zh (i:=3) zdx.nd rfl (Or.inl rfl) (yd qg (za (pv 1)) yc (fun _ _=>rfl)))
  (qc (zh (i:=4) zdx.nd rfl (Or.inl rfl) (yd qg (za (pv 1)) yc (fun _ _=>rfl)))
  (qc (zh (i:=5) zdx.nd rfl (Or.inl rfl) (yf zq (hr.mono (by omega)) rfl (ya (za (pv 0)) (ya (za (pv 3)) zc))))
  (qd (zA (WW.gt (zbU (yo (zG hr.units) (za (pv 2)) qo (yn _)) (zbv (yo zcU (yi zB (za (pv 4)) yc) (yq yB rfl T.n_len boot_len (ya (za (pv 5)) zc)) (yn _))))) (qd (qr (yf yF (hr.mono (by omega)) rfl (ya (za (pv 0)) (ya (za (pv 3)) (ya (yi zB (za (pv 4)) yc) (ya yc zc))))))) (qd (zA (WW.gt (zad (yo (zG hr.units) (za (pv 2)) qo (yn _)) (zaA (WW.gt (zbU (yo (zG hr.units) (za (pv 2)) qo (yn _)) (zbv (y3 (yd qg (yd qg (za (pv 5)) (za (pv 4)) (fun _ _=>rfl)) yc (fun _ _=>rfl))))))))) (qd (qr (yf zM (hr.mono (by omega)) rfl (ya (za (pv 0)) (ya (za (pv 3)) (ya (za (pv 2)) zc)))))) (qc (qL (ye ⟨T.cls_Errand,T.na_Errand_state⟩ qf) (yd qg (qh (ye ⟨T.cls_Run,T.na_Run_errands⟩ qf) (za (pv 0))) (za (pv 3)) (fun _ _=>rfl)) (yy (ya qo (ya (za (pv 4)) (ya (yd qg (za (pv 1)) yc (fun _ _=>rfl)) zc)))))
  (qd (qL (ye ⟨T.cls_Errand,T.na_Errand_stood⟩ qf) (yd qg (qh (ye ⟨T.cls_Run,T.na_Run_errands⟩ qf) (za (pv 0))) (za (pv 3)) (fun _ _=>rfl)) (qh (ye ⟨T.cls_Run,T.na_Run_came⟩ qf) (za (pv 0))))))))))))))
noncomputable def qq (kE kR:Addr):Nat->(List FT.T->Mem->Out FT.T) × (List FT.T->Mem->Out FT.T)
 | 0=>(fun _ _=>.bad,fun _ _=>.bad)
 | n + 1=>(yh 3 4 (zbO kE kR (qq kE kR n).1 (qq kE kR n).2),yh 3 6 (zes kE kR (qq kE kR n).1 (qq kE kR n).2))
noncomputable def zaQ (kE kR:Addr):List FT.T->Mem->Out FT.T:=(qq kE kR 12).1
noncomputable def zia (kE kR:Addr):List FT.T->Mem->Out FT.T:=(qq kE kR 12).2
theorem zT (D_end_errand:Df K mg "end_errand" zbK ["run","number","word"]) (D_hear:Df K mg "hear" zfH ["run","caller","word"]) (T:Txt K mg kE kR) (zq:CalT P w K mg base 1 "asks_of" ["run","number"] (yA kE kR)) (yF:CalT P w K mg base 15 "begin_try" ["run","number","at","tried"] (zaa kE kR)):∀ n,CalT P w K mg base (15 + n + 1) "end_errand" ["run","number","word"] (qq kE kR n).1/\CalT P w K mg base (15 + n + 1) "hear" ["run","caller","word"] (qq kE kR n).2
 | 0=>⟨CalT.bad D_end_errand zcm,CalT.bad D_hear zdx⟩
 | n + 1=>by
  have ih:=zT D_end_errand D_hear T zq yF n
  exact ⟨zM (by omega) D_end_errand T ih.2,zc2 (by omega) D_hear T zq yF ih.1⟩
end
noncomputable def zkZ (kE kR:Addr):Ev->Mem->Out Fl:=
 (yg (zm 2 (eOp ixT (zj [kR] "errands" (yb 0)) (yb 1)))
 (yg (yD [kE] "is_lost" (yb 2) (eC (.bl true)))
 (zF (ze (zia kE kR) (zb (yb 0) (zb (zj [kE] "caller" (yb 2)) (zb (eC (.str "bad")) zd)))))))
noncomputable def zfW (kE kR:Addr):List FT.T->Mem->Out FT.T:=yh 2 3 (zkZ kE kR)
section
variable {P:Program} {w:World} {K:Frag} {mg:Str->Option Value} {base:Heap} {kE kR:Addr}
theorem zi1:FnScope ["run","number","errand"] ["run","number"] (zf zhO):=by ac_rfl
theorem zez (D:Df K mg "lose" zhO ["run","number"]) (T:Txt K mg kE kR)  (zc2:CalT P w K mg base 28 "hear" ["run","caller","word"] (zia kE kR)):CalT P w K mg base 29 "lose" ["run","number"] (zfW kE kR):=
 zn D zi1 rfl rfl (fun f cdv A outer s H E hr=>(qc (zh (i:=2) zi1.nd rfl (Or.inl rfl) (yd qg (qh (ye ⟨T.cls_Run,T.na_Run_errands⟩ qf) (za (pv 0))) (za (pv 1)) (fun _ _=>rfl)))
  (qc (qL (ye ⟨T.cls_Errand,T.na_Errand_is_lost⟩ qf) (za (pv 2)) zbF)
  (qd (qr (yf zc2 (hr.mono (by decide)) rfl (ya (za (pv 0)) (ya (qh (ye ⟨T.cls_Errand,T.na_Errand_caller⟩ qf) (za (pv 2))) (ya qo zc)))))))))
end
noncomputable def ze2 (kE kR:Addr):Ev->Mem->Out Fl:=
 (yg (zF (z7 qV (eUn yG (zj [kR] "payments" (yb 0))) (zb (zK (zb (ze (yC qC) (zb (zj [kR] "errands" (yb 0)) zd)) (zb (yb 1) (zb (eOp ixT (zj [kR] "taken" (yb 0)) (yb 1)) zd)))) zd)))
 (zhm getL zds zdG (zj [kR] "taken" (yb 0)) (yb 1) (eC (.int 1))))
noncomputable def zb9 (kE kR:Addr):List FT.T->Mem->Out FT.T:=yh 2 2 (ze2 kE kR)
section
variable {P:Program} {w:World} {K:Frag} {mg:Str->Option Value} {base:Heap} {kE kR:Addr}
theorem zhK:FnScope ["run","purse"] ["run","purse"] (zf zdk):=by ac_rfl
theorem zbn (D:Df K mg "take_coin" zdk ["run","purse"]) (T:Txt K mg kE kR)  :CalT P w K mg base 1 "take_coin" ["run","purse"] (zb9 kE kR):=
 zn D zhK rfl rfl (fun f cdv A outer s H E hr=>(qc (qr (zU (z5 PySem.F.plainAttrs_list PySem.F.slot_list_append PySem.F.type_list_append qF (WE.pe (qh (ye ⟨T.cls_Run,T.na_Run_payments⟩ qf) (za (pv 0)))) (WA.pe (ya (yy (ya (yq yB rfl T.n_len boot_len (ya (qh (ye ⟨T.cls_Run,T.na_Run_errands⟩ qf) (za (pv 0))) zc)) (ya (za (pv 1)) (ya (yd qg (qh (ye ⟨T.cls_Run,T.na_Run_taken⟩ qf) (za (pv 0))) (za (pv 1)) (fun _ _=>rfl)) zc)))) zc)))))
  (qd (zlh (qh (ye ⟨T.cls_Run,T.na_Run_taken⟩ qf) (za (pv 0))) (za (pv 1)) zqm yc znr zfF))))
end
noncomputable def ze0 (kE kR:Addr):Ev->Mem->Out Fl:=
 (yg (zm 2 (zj [kE] "state" (eOp ixT (zj [kR] "errands" (yb 0)) (yb 1))))
 (yg (zm 3 (ze (zR kE kR) (zb (yb 0) (zb (eOp ixT (ze (yA kE kR) (zb (yb 0) (zb (yb 1) zd))) (eOp ixT (yb 2) (eC (.int 1)))) zd))))
 (yg (sIf (zu (eOp zbu (yb 3) (eC .non))) (zF (ze (zb9 kE kR) (zb (yb 0) (zb (yb 3) zd)))) yO)
 (zF (ze (zaa kE kR) (zb (yb 0) (zb (yb 1) (zb (eOp ixT (yb 2) (eC (.int 1))) (zb (eOp zJ (eOp ixT (yb 2) (eC (.int 2))) (eC (.int 1))) zd)))))))))
noncomputable def zb8 (kE kR:Addr):List FT.T->Mem->Out FT.T:=yh 2 4 (ze0 kE kR)
section
variable {P:Program} {w:World} {K:Frag} {mg:Str->Option Value} {base:Heap} {kE kR:Addr}
theorem zcO:FnScope ["run","number","state","purse"] ["run","number"] (zf zdi):=by ac_rfl
theorem zbm (D:Df K mg "try_again" zdi ["run","number"]) (T:Txt K mg kE kR)  (yH:CalT P w K mg base 2 "purse_of" ["run","ask"] (zR kE kR)) (yF:CalT P w K mg base 15 "begin_try" ["run","number","at","tried"] (zaa kE kR)) (zbn:CalT P w K mg base 1 "take_coin" ["run","purse"] (zb9 kE kR)) (zq:CalT P w K mg base 1 "asks_of" ["run","number"] (yA kE kR)):CalT P w K mg base 16 "try_again" ["run","number"] (zb8 kE kR):=
 zn D zcO rfl rfl (fun f cdv A outer s H E hr=>(qc (zh (i:=2) zcO.nd rfl (Or.inl rfl) (qh (ye ⟨T.cls_Errand,T.na_Errand_state⟩ qf) (yd qg (qh (ye ⟨T.cls_Run,T.na_Run_errands⟩ qf) (za (pv 0))) (za (pv 1)) (fun _ _=>rfl))))
  (qc (zh (i:=3) zcO.nd rfl (Or.inl rfl) (yf yH (hr.mono (by decide)) rfl (ya (za (pv 0)) (ya (yd qg (yf zq (hr.mono (by decide)) rfl (ya (za (pv 0)) (ya (za (pv 1)) zc))) (yd qg (za (pv 2)) yc (fun _ _=>rfl)) (fun _ _=>rfl)) zc))))
  (qc (zA (yo zei (za (pv 3)) zae (yn _)) (qd (qr (yf zbn (hr.mono (by decide)) rfl (ya (za (pv 0)) (ya (za (pv 3)) zc))))) zx)
  (qd (qr (yf yF (hr.mono (by decide)) rfl (ya (za (pv 0)) (ya (za (pv 1)) (ya (yd qg (za (pv 2)) yc (fun _ _=>rfl)) (ya (yi zB (yd qg (za (pv 2)) yc (fun _ _=>rfl)) yc) zc)))))))))))
end
noncomputable def zjn (kE kR:Addr):Ev->Mem->Out Fl:=
 (zF (ze (zaQ kE kR) (zb (yb 0) (zb (yb 1) (zb (eOp ixT (eOp ixT (ze (yA kE kR) (zb (yb 0) (zb (yb 1) zd))) (eOp ixT (zj [kE] "state" (eOp ixT (zj [kR] "errands" (yb 0)) (yb 1))) (eC (.int 1)))) (eC (.int 3))) zd)))))
noncomputable def zeN (kE kR:Addr):List FT.T->Mem->Out FT.T:=yh 2 2 (zjn kE kR)
section
variable {P:Program} {w:World} {K:Frag} {mg:Str->Option Value} {base:Heap} {kE kR:Addr}
theorem zlq:FnScope ["run","number"] ["run","number"] (zf zge):=by ac_rfl
theorem zdF (D:Df K mg "go_up" zge ["run","number"]) (T:Txt K mg kE kR)  (zM:CalT P w K mg base 28 "end_errand" ["run","number","word"] (zaQ kE kR)) (zq:CalT P w K mg base 1 "asks_of" ["run","number"] (yA kE kR)):CalT P w K mg base 29 "go_up" ["run","number"] (zeN kE kR):=
 zn D zlq rfl rfl (fun f cdv A outer s H E hr=>(qd (qr (yf zM (hr.mono (by decide)) rfl (ya (za (pv 0)) (ya (za (pv 1)) (ya (yd qg (yd qg (yf zq (hr.mono (by decide)) rfl (ya (za (pv 0)) (ya (za (pv 1)) zc))) (yd qg (qh (ye ⟨T.cls_Errand,T.na_Errand_state⟩ qf) (yd qg (qh (ye ⟨T.cls_Run,T.na_Run_errands⟩ qf) (za (pv 0))) (za (pv 1)) (fun _ _=>rfl))) yc (fun _ _=>rfl)) (fun _ _=>rfl)) yc (fun _ _=>rfl)) zc)))))))
end
noncomputable def zfR (kE kR:Addr):Ev->Mem->Out Fl:=
 (yg (sIf (zu (eOp eqA (eOp ixT (yb 1) (eC (.int 0))) (eC (.str "fresh")))) (zF (ze (zb0 kE kR) (zb (yb 0) (zb (eC (.int 0)) (zb (eC .non) zd))))) (sIf (zu (eOp eqA (eOp ixT (yb 1) (eC (.int 0))) (eC (.str "ends")))) (zF (ze (zaQ kE kR) (zb (yb 0) (zb (eOp ixT (yb 1) (eC (.int 1))) (zb (eOp ixT (yb 1) (eC (.int 2))) zd))))) (sIf (zu (eOp eqA (eOp ixT (yb 1) (eC (.int 0))) (eC (.str "lost")))) (zF (ze (zfW kE kR) (zb (yb 0) (zb (eOp ixT (yb 1) (eC (.int 1))) zd)))) (sIf (zu (eOp eqA (eOp ixT (yb 1) (eC (.int 0))) (eC (.str "again")))) (zF (ze (zb8 kE kR) (zb (yb 0) (zb (eOp ixT (yb 1) (eC (.int 1))) zd)))) (zF (ze (zeN kE kR) (zb (yb 0) (zb (eOp ixT (yb 1) (eC (.int 1))) zd))))))))
 (zfI [kR] "came" (yb 0) 1))
noncomputable def z6 (kE kR:Addr):List FT.T->Mem->Out FT.T:=yh 2 2 (zfR kE kR)
section
variable {P:Program} {w:World} {K:Frag} {mg:Str->Option Value} {base:Heap} {kE kR:Addr}
theorem ziB:FnScope ["run","event"] ["run","event"] (zf zdK):=by ac_rfl
theorem z8 (D:Df K mg "let_come" zdK ["run","event"]) (T:Txt K mg kE kR)  (yQ:CalT P w K mg base 15 "begin_errand" ["run","house","caller"] (zb0 kE kR)) (zM:CalT P w K mg base 28 "end_errand" ["run","number","word"] (zaQ kE kR)) (zez:CalT P w K mg base 29 "lose" ["run","number"] (zfW kE kR)) (zbm:CalT P w K mg base 16 "try_again" ["run","number"] (zb8 kE kR)) (zdF:CalT P w K mg base 29 "go_up" ["run","number"] (zeN kE kR)):CalT P w K mg base 30 "let_come" ["run","event"] (z6 kE kR):=
 zn D ziB rfl rfl (fun f cdv A outer s H E hr=>(qc (zA (yo (zG hr.units) (yd qg (za (pv 1)) yc (fun _ _=>rfl)) qo (yn _)) (qd (qr (yf yQ (hr.mono (by decide)) rfl (ya (za (pv 0)) (ya yc (ya zae zc)))))) (qd (zA (yo (zG hr.units) (yd qg (za (pv 1)) yc (fun _ _=>rfl)) qo (yn _)) (qd (qr (yf zM (hr.mono (by decide)) rfl (ya (za (pv 0)) (ya (yd qg (za (pv 1)) yc (fun _ _=>rfl)) (ya (yd qg (za (pv 1)) yc (fun _ _=>rfl)) zc)))))) (qd (zA (yo (zG hr.units) (yd qg (za (pv 1)) yc (fun _ _=>rfl)) qo (yn _)) (qd (qr (yf zez (hr.mono (by decide)) rfl (ya (za (pv 0)) (ya (yd qg (za (pv 1)) yc (fun _ _=>rfl)) zc))))) (qd (zA (yo (zG hr.units) (yd qg (za (pv 1)) yc (fun _ _=>rfl)) qo (yn _)) (qd (qr (yf zbm (hr.mono (by decide)) rfl (ya (za (pv 0)) (ya (yd qg (za (pv 1)) yc (fun _ _=>rfl)) zc))))) (qd (qr (yf zdF (hr.mono (by decide)) rfl (ya (za (pv 0)) (ya (yd qg (za (pv 1)) yc (fun _ _=>rfl)) zc))))))))))))
  (qd (zlg (ye ⟨T.cls_Run,T.na_Run_came⟩ qf) (za (pv 0))))))
end
noncomputable def zeC (kE kR:Addr):Ev->Mem->Out Fl:=
 (yg (zF (ze (yJ kE kR) (zb (yb 2) (zb (yb 3) zd))))
 (zF (ze (z6 kE kR) (zb (yb 2) (zb (yb 3) zd)))))
noncomputable def zh4 (kE kR:Addr):Ev->Mem->Out Fl:=
 (yg (zm 2 (zcy kR (y6 kE kR) (zb (yb 0) zd)))
 (yg (zby (zaH (yb 1)) (zi 3) (zeC kE kR))
 (qB (yb 2))))
noncomputable def zbY (kE kR:Addr):List FT.T->Mem->Out FT.T:=yh 2 4 (zh4 kE kR)
section
variable {P:Program} {w:World} {K:Frag} {mg:Str->Option Value} {base:Heap} {kE kR:Addr}
theorem zd8:FnScope ["net","events","run","event"] ["net","events"] (zf zfg):=by ac_rfl
theorem zaV (D:Df K mg "run_of" zfg ["net","events"]) (T:Txt K mg kE kR)  (zc9:MakT P w K mg base 1 "Run" kR ["self","net"] (y6 kE kR)) (qN:CalT P w K mg base 6 "check_event" ["run","event"] (yJ kE kR)) (z8:CalT P w K mg base 30 "let_come" ["run","event"] (z6 kE kR)):CalT P w K mg base 31 "run_of" ["net","events"] (zbY kE kR):=
 zn D zd8 rfl rfl (fun f cdv A outer s H E hr=>(qc (zh (i:=2) zd8.nd rfl (Or.inl rfl) (zfc zc9 (hr.mono (by decide)) rfl (ya (za (pv 0)) zc)))
  (qc (qX PassesOwn.never rfl (zY (za (pv 1))) (yj (zl (i:=3) zd8.nd rfl (by first | exact Or.inl rfl | exact Or.inr rfl))) (qc (qr (yf qN (hr.mono (by decide)) rfl (ya (za (pv 2)) (ya (za (pv 3)) zc))))
  (qd (qr (yf z8 (hr.mono (by decide)) rfl (ya (za (pv 2)) (ya (za (pv 3)) zc)))))))
  (qd (ym (za (pv 2)))))))
end
noncomputable def ze9 (kE kR:Addr):Ev->Mem->Out Fl:=
 (zF (zci zcx zev (yb 3) (zb (ze (y9 kE kR) (zb (yb 2) (zb (yb 4) zd))) zd)))
noncomputable def zfQ (kE kR:Addr):Ev->Mem->Out Fl:=
 (yg (zm 2 (ze (zbY kE kR) (zb (yb 0) (zb (yb 1) zd))))
 (yg (zm 3 (eTk (qx (zb (eC (.tup [.str "fresh"])) zd))))
 (yg (zby (zaB (zb (ze (yC qC) (zb (zj [kR] "errands" (yb 2)) zd)) zd)) (zi 4) (ze9 kE kR))
 (qB (yb 3)))))
noncomputable def zdY (kE kR:Addr):List FT.T->Mem->Out FT.T:=yh 2 5 (zfQ kE kR)
noncomputable def zcw (kE kR:Addr):List FT.T->Mem->Out FT.T:=zeu (zdY kE kR)
section
variable {P:Program} {w:World} {K:Frag} {mg:Str->Option Value} {base:Heap} {kE kR:Addr}
theorem zb6:FnScope ["net","events","run","told","number"] ["net","events"] (zf zdJ):=by ac_rfl
theorem zas (D:Df K mg "may_come" zdJ ["net","events"]) (T:Txt K mg kE kR)  (zaV:CalT P w K mg base 31 "run_of" ["net","events"] (zbY kE kR)) (yX:CalT P w K mg base 4 "events_at" ["run","number"] (y9 kE kR)):CalT P w K mg base 32 "may_come" ["net","events"] (zdY kE kR):=
 zn D zb6 rfl rfl (fun f cdv A outer s H E hr=>(qc (zh (i:=2) zb6.nd rfl (Or.inl rfl) (yf zaV (hr.mono (by decide)) rfl (ya (za (pv 0)) (ya (za (pv 1)) zc))))
  (qc (zh (i:=3) zb6.nd rfl (Or.inl rfl) (zW (zr (ya (zgO (ss:=["fresh"]) rfl T.c_FRESH) zc))))
  (qc (qX PassesOwn.never rfl (y4 rfl T.n_range (ya (yq yB rfl T.n_len boot_len (ya (qh (ye ⟨T.cls_Run,T.na_Run_errands⟩ qf) (za (pv 2))) zc)) zc)) (yj (zl (i:=4) zb6.nd rfl (by first | exact Or.inl rfl | exact Or.inr rfl))) (qd (qr (zfb zhB (z5 PySem.F.plainAttrs_list PySem.F.slot_list_extend PySem.F.type_list_extend zi9 (WE.pe (za (pv 3))) (WA.pe (ya (yf yX (hr.mono (by decide)) rfl (ya (za (pv 2)) (ya (za (pv 4)) zc))) zc)))))))
  (qd (ym (za (pv 3))))))))
end
noncomputable def zgZ (kE kR:Addr):Ev->Mem->Out Fl:=
 (yg (zm 1 (eFz (zS (zbM (zj [kR] "errands" (yb 0))) (zi 0) qH (zK (zb (zj [kE] "house" (yb 0)) (zb (zj [kE] "caller" (yb 0)) (zb (zj [kE] "state" (yb 0)) zd)))) ["errand"] [])))
 (qB (zK (zb (yb 1) (zb (eFz (yU (zaB (zb (ze (yC qC) (zb (eOp ixT (zj [kR] "net" (yb 0)) (eC (.int 1))) zd)) zd)) (zi 0) qH (ze (qS kE kR) (zb (yb 1) (zb (yb 0) zd))) ["purse"] [("run",0)])) zd)))))
noncomputable def zaP (kE kR:Addr):List FT.T->Mem->Out FT.T:=yh 1 2 (zgZ kE kR)
section
variable {P:Program} {w:World} {K:Frag} {mg:Str->Option Value} {base:Heap} {kE kR:Addr}
theorem zfG:FnScope ["run","errands"] ["run"] (zf zea):=by ac_rfl
theorem zal (D:Df K mg "told_of" zea ["run"]) (T:Txt K mg kE kR)  (qT:CalT P w K mg base 2 "purse_told" ["run","purse"] (qS kE kR)):CalT P w K mg base 3 "told_of" ["run"] (zaP kE kR):=
 zn D zfG rfl rfl (fun f cdv A outer s H E hr=>(qc (zhf (i0:=1) (tgs:=["errand"]) (caps:=[]) (zcK (qh (ye ⟨T.cls_Run,T.na_Run_errands⟩ qf) (za (pv 0)))) (by bv_omega) (fun _ _ _=>(yj (zl (i:=0) (show (["errand"]:List Str).Nodup by decide +kernel) rfl (by first | exact Or.inl rfl | exact Or.inr rfl)))) (fun _ _ _=>qO) (fun _ _ _=>(yy (ya (qh (ye ⟨T.cls_Errand,T.na_Errand_house⟩ qf) (za (pv 0))) (ya (qh (ye ⟨T.cls_Errand,T.na_Errand_caller⟩ qf) (za (pv 0))) (ya (qh (ye ⟨T.cls_Errand,T.na_Errand_state⟩ qf) (za (pv 0))) zc))))) zfG.nd rfl (Or.inl rfl))
  (qd (ym (yy (ya (za (pv 1)) (ya (zC (zam (tgs:=["purse"]) (caps:=[("run",0)]) (y4 rfl T.n_range (ya (yq yB rfl T.n_len boot_len (ya (yd qg (qh (ye ⟨T.cls_Run,T.na_Run_net⟩ qf) (za (pv 0))) yc (fun _ _=>rfl)) zc)) zc)) (by bv_omega) (fun _ _ _=>(yj (zl (i:=0) (show (["purse","run"]:List Str).Nodup by decide +kernel) rfl (by first | exact Or.inl rfl | exact Or.inr rfl)))) (fun _ _ _=>qO) (fun _ _ _=>(yf qT (hr.mono (by decide)) rfl (ya (za (pv 1)) (ya (za (pv 0)) zc)))))) zc)))))))
end
noncomputable def zmo (kE kR:Addr):Ev->Mem->Out Fl:=
 (qB (ze (zaP kE kR) (zb (ze (zbY kE kR) (zb (yb 0) (zb (yb 1) zd))) zd)))
noncomputable def zj7 (kE kR:Addr):List FT.T->Mem->Out FT.T:=yh 2 2 (zmo kE kR)
noncomputable def zeF (kE kR:Addr):List FT.T->Mem->Out FT.T:=zdf (zj7 kE kR)
section
variable {P:Program} {w:World} {K:Frag} {mg:Str->Option Value} {base:Heap} {kE kR:Addr}
theorem zn0:FnScope ["net","events"] ["net","events"] (zf zjO):=by ac_rfl
theorem zcb (D:Df K mg "ran" zjO ["net","events"]) (T:Txt K mg kE kR)  (zal:CalT P w K mg base 3 "told_of" ["run"] (zaP kE kR)) (zaV:CalT P w K mg base 31 "run_of" ["net","events"] (zbY kE kR)):CalT P w K mg base 32 "ran" ["net","events"] (zj7 kE kR):=
 zn D zn0 rfl rfl (fun f cdv A outer s H E hr=>(qd (ym (yf zal (hr.mono (by decide)) rfl (ya (yf zaV (hr.mono (by decide)) rfl (ya (za (pv 0)) (ya (za (pv 1)) zc))) zc)))))
end
noncomputable def ziw (kE kR:Addr):Ev->Mem->Out Fl:=
 (yg (zm 10 (eOp zJ (eOp zJ (eOp ixD (yb 2) (yb 3)) (yb 11)) (eOp zbd (yb 9) (eOp zbz (yb 8) (yb 12)))))
 (yg (zm 8 (eOp zcs (yb 8) (yb 12)))
 (zm 9 (eOp zbd (yb 9) (yb 12)))))
noncomputable def zjm (kE kR:Addr):Ev->Mem->Out Fl:=
 (yg (zeg (eOp ixD (yb 1) (yb 3)) (zat 3 (qz (zi 4) (qz (zi 5) (qz (zi 6) zau)))))
 (yg (zm 7 (eOp ixD (eOp ixD (yb 0) (yb 4)) (eOp ixD (yb 6) (eC (.int 1)))))
 (yg (zm 8 (yb 3))
 (yg (zm 9 (eC (.int 1)))
 (yg (zm 10 (eOp ixD (yb 2) (yb 3)))
 (yg (zby (zaH (eSl (yb 7) zfL (zdS (ze (call2 zgn) (zb (eOp ixD (yb 6) (eC (.int 2))) (zb (ze (yC zgq) (zb (yb 7) zd)) zd)))))) (zat 2 (qz (zi 11) (qz (zi 12) zau))) (ziw kE kR))
 (qB (yb 10))))))))
noncomputable def zbZ (kE kR:Addr):List FT.T->Mem->Out FT.T:=yh 4 13 (zjm kE kR)
section
variable {P:Program} {w:World} {K:Frag} {mg:Str->Option Value} {base:Heap} {kE kR:Addr}
theorem yP:FnScope ["waits","errands","stood","n","house","caller","state","strewing","rest","ahead","tick","wait","width"] ["waits","errands","stood","n"] (zf zgd):=by ac_rfl
theorem zbE (D:Df K mg "_law_due" zgd ["waits","errands","stood","n"]) (T:Txt K mg kE kR)  :CalT P w K mg base 1 "_law_due" ["waits","errands","stood","n"] (zbZ kE kR):=
 zn D yP rfl rfl (fun f cdv A outer s H E hr=>(qc (zcB (yd (zbe hr.units) (za (pv 1)) (za (pv 3)) (fun _ _=>rfl)) (z4 (zax rfl (WGs.pe (yt (zw (WG.pe (yj (zl (i:=4) yP.nd rfl (by first | exact Or.inl rfl | exact Or.inr rfl)))) (WGs.pe (yt (zw (WG.pe (yj (zl (i:=5) yP.nd rfl (by first | exact Or.inl rfl | exact Or.inr rfl)))) (WGs.pe (yt (zw (WG.pe (yj (zl (i:=6) yP.nd rfl (by first | exact Or.inl rfl | exact Or.inr rfl)))) (WGs.pe qU)))))))))))))
  (qc (zh (i:=7) yP.nd rfl (Or.inl rfl) (yd (zbe hr.units) (yd (zbe hr.units) (za (pv 0)) (za (pv 4)) (fun _ _=>rfl)) (yd (zbe hr.units) (za (pv 6)) yc (fun _ _=>rfl)) (fun _ _=>rfl)))
  (qc (zh (i:=8) yP.nd rfl (Or.inl rfl) (za (pv 3)))
  (qc (zh (i:=9) yP.nd rfl (Or.inl rfl) yc)
  (qc (zh (i:=10) yP.nd rfl (Or.inl rfl) (yd (zbe hr.units) (za (pv 2)) (za (pv 3)) (fun _ _=>rfl)))
  (qc (qX PassesOwn.never rfl (zY (zfA (za (pv 7)) zfa (zcJ (yq (zg8 rfl) rfl T.n_min boot_min (ya (yd (zbe hr.units) (za (pv 6)) yc (fun _ _=>rfl)) (ya (yq zg9 rfl T.n_len boot_len (ya (za (pv 7)) zc)) zc)))))) (z4 (zax rfl (WGs.pe (yt (zw (WG.pe (yj (zl (i:=11) yP.nd rfl (by first | exact Or.inl rfl | exact Or.inr rfl)))) (WGs.pe (yt (zw (WG.pe (yj (zl (i:=12) yP.nd rfl (by first | exact Or.inl rfl | exact Or.inr rfl)))) (WGs.pe qU))))))))) (qc (zh (i:=10) yP.nd rfl (Or.inl rfl) (yi zB (yi zB (yd (zbe hr.units) (za (pv 2)) (za (pv 3)) (fun _ _=>rfl)) (za (pv 11))) (yi zcF (za (pv 9)) (yi za4 (za (pv 8)) (za (pv 12))))))
  (qc (zh (i:=8) yP.nd rfl (Or.inl rfl) (yi zdA (za (pv 8)) (za (pv 12))))
  (qd (zh (i:=9) yP.nd rfl (Or.inl rfl) (yi zcF (za (pv 9)) (za (pv 12))))))))
  (qd (ym (za (pv 10)))))))))))
end
noncomputable def zd1 (kE kR:Addr):Ev->Mem->Out Fl:=
 (yg (zm 8 (ze (zbA kE kR) (zb (yb 7) zd)))
 (yg (zm 9 (ze (zdd kE kR) (zb (yb 8) (zb (ze (zcw kE kR) (zb (yb 0) (zb (eFz (zS (zbM (yb 3)) (zat 2 (qz (zi 0) (qz (zi 1) zau))) qH (yb 1) ["at","one"] [])) zd))) zd))))
 (yg (zm 6 (eOp zJ (yb 6) (eOp ixD (eFz (qx (zb (eC (.int 0)) (zb (eC (.int 0)) (zb (eC (.int 1)) (zb (eC (.int 1)) (zb (eC (.int 2)) (zb (ze (yu kE kR) (zb (yb 8) (zb (eC (.int 9)) zd))) (zb (eC (.int 0)) (zb (eOp zgj (eC (.int 10)) (eC (.int 40))) zd)))))))))) (ze (yu kE kR) (zb (yb 8) (zb (eC (.int 8)) zd))))))
 (yg (sIf (zu (eOp eqA (eOp ixD (yb 9) (eC (.int 0))) (eC (.str "again")))) (zm 6 (ze (call2 zgp) (zb (yb 6) (zb (ze (zbZ kE kR) (zb (yb 1) (zb (yb 4) (zb (yb 5) (zb (eOp ixD (yb 9) (eC (.int 1))) zd))))) zd)))) yO)
 (yg (zF (z7 qV (eUn yG (yb 3)) (zb (zK (zb (yb 6) (zb (yb 9) zd))) zd)))
 (yg (zm 10 (yb 4))
 (yg (zm 4 (eOp ixD (ze (zeF kE kR) (zb (yb 0) (zb (eFz (zS (zbM (yb 3)) (zat 2 (qz (zi 0) (qz (zi 1) zau))) qH (yb 1) ["at","one"] [])) zd))) (eC (.int 0))))
 (zF (ze (zdZ kE kR) (zb (yb 10) (zb (yb 4) (zb (yb 5) (zb (yb 6) zd)))))))))))))
noncomputable def zg2 (kE kR:Addr):Ev->Mem->Out Fl:=
 (yg (zm 3 (eTk (qx zd)))
 (yg (zm 4 (eFz (qx zd)))
 (yg (zm 5 zmb)
 (yg (zm 6 (eC (.int 0)))
 (yg (zby (zaH (yb 2)) (zi 7) (zd1 kE kR))
 (qB (zK (zb (yb 3) (zb (yb 4) (zb (yb 5) zd))))))))))
noncomputable def zdc (kE kR:Addr):List FT.T->Mem->Out FT.T:=yh 3 11 (zg2 kE kR)
section
variable {P:Program} {w:World} {K:Frag} {mg:Str->Option Value} {base:Heap} {kE kR:Addr}
theorem yM:FnScope ["net","waits","cells","pairs","errands","stood","tick","cell","own","event","ahead"] ["net","waits","cells"] (zf zed):=by ac_rfl
theorem zck (D:Df K mg "_law_timed" zed ["net","waits","cells"]) (T:Txt K mg kE kR)  (zaW:CalT P w K mg base 1 "_law_left" ["cell"] (zbA kE kR)) (zcl:CalT P w K mg base 2 "_law_drawn" ["own","some"] (zdd kE kR)) (zc0:CalT P w K mg base 1 "_law_kept" ["ahead","errands","stood","tick"] (zdZ kE kR)) (zas:CalT P w K mg base 32 "may_come" ["net","events"] (zcw kE kR)) (zcb:CalT P w K mg base 32 "ran" ["net","events"] (zeF kE kR)) (yr:CalT P w K mg base 1 "_law_next" ["pool","base"] (yu kE kR)) (zbE:CalT P w K mg base 1 "_law_due" ["waits","errands","stood","n"] (zbZ kE kR)):CalT P w K mg base 33 "_law_timed" ["net","waits","cells"] (zdc kE kR):=
 zn D yM rfl rfl (fun f cdv A outer s H E hr=>(qc (zh (i:=3) yM.nd rfl (Or.inl rfl) (zW (zr zc)))
  (qc (zh (i:=4) yM.nd rfl (Or.inl rfl) (zC (zr zc)))
  (qc (zh (i:=5) yM.nd rfl (Or.inl rfl) zmu)
  (qc (zh (i:=6) yM.nd rfl (Or.inl rfl) yc)
  (qc (qX PassesOwn.never rfl (zY (za (pv 2))) (yj (zl (i:=7) yM.nd rfl (by first | exact Or.inl rfl | exact Or.inr rfl))) (qc (zh (i:=8) yM.nd rfl (Or.inl rfl) (yf zaW (hr.mono (by decide)) rfl (ya (za (pv 7)) zc)))
  (qc (zh (i:=9) yM.nd rfl (Or.inl rfl) (yf zcl (hr.mono (by decide)) rfl (ya (za (pv 8)) (ya (yf zas (hr.mono (by decide)) rfl (ya (za (pv 0)) (ya (zC (zc4 (tgs:=["at","one"]) (caps:=[]) (zcK (za (pv 3))) (by bv_omega) (fun _ _ _=>(z4 (zax rfl (WGs.pe (yt (zw (WG.pe (yj (zl (i:=0) (show (["at","one"]:List Str).Nodup by decide +kernel) rfl (by first | exact Or.inl rfl | exact Or.inr rfl)))) (WGs.pe (yt (zw (WG.pe (yj (zl (i:=1) (show (["at","one"]:List Str).Nodup by decide +kernel) rfl (by first | exact Or.inl rfl | exact Or.inr rfl)))) (WGs.pe qU)))))))))) (fun _ _ _=>qO) (fun _ _ _=>(za (pv 1))))) zc))) zc))))
  (qc (zh (i:=6) yM.nd rfl (Or.inl rfl) (yi zB (za (pv 6)) (yd (zbe hr.units) (zC (zr (ya yc (ya yc (ya yc (ya yc (ya yc (ya (yf yr (hr.mono (by decide)) rfl (ya (za (pv 8)) (ya yc zc))) (ya yc (ya (yi zeI yc yc) zc)))))))))) (yf yr (hr.mono (by decide)) rfl (ya (za (pv 8)) (ya yc zc))) (fun _ _=>rfl))))
  (qc (zA (yo (zG hr.units) (yd (zbe hr.units) (za (pv 9)) yc (fun _ _=>rfl)) qo (yn _)) (qd (zh (i:=6) yM.nd rfl (Or.inl rfl) (yq (zey rfl) rfl T.n_max boot_max (ya (za (pv 6)) (ya (yf zbE (hr.mono (by decide)) rfl (ya (za (pv 1)) (ya (za (pv 4)) (ya (za (pv 5)) (ya (yd (zbe hr.units) (za (pv 9)) yc (fun _ _=>rfl)) zc))))) zc))))) zx)
  (qc (qr (zU (z5 PySem.F.plainAttrs_list PySem.F.slot_list_append PySem.F.type_list_append qF (WE.pe (za (pv 3))) (WA.pe (ya (yy (ya (za (pv 6)) (ya (za (pv 9)) zc))) zc)))))
  (qc (zh (i:=10) yM.nd rfl (Or.inl rfl) (za (pv 4)))
  (qc (zh (i:=4) yM.nd rfl (Or.inl rfl) (yd (zbe hr.units) (yf zcb (hr.mono (by decide)) rfl (ya (za (pv 0)) (ya (zC (zc4 (tgs:=["at","one"]) (caps:=[]) (zcK (za (pv 3))) (by bv_omega) (fun _ _ _=>(z4 (zax rfl (WGs.pe (yt (zw (WG.pe (yj (zl (i:=0) (show (["at","one"]:List Str).Nodup by decide +kernel) rfl (by first | exact Or.inl rfl | exact Or.inr rfl)))) (WGs.pe (yt (zw (WG.pe (yj (zl (i:=1) (show (["at","one"]:List Str).Nodup by decide +kernel) rfl (by first | exact Or.inl rfl | exact Or.inr rfl)))) (WGs.pe qU)))))))))) (fun _ _ _=>qO) (fun _ _ _=>(za (pv 1))))) zc))) yc (fun _ _=>rfl)))
  (qd (qr (yf zc0 (hr.mono (by decide)) rfl (ya (za (pv 10)) (ya (za (pv 4)) (ya (za (pv 5)) (ya (za (pv 6)) zc)))))))))))))))
  (qd (ym (yy (ya (za (pv 3)) (ya (za (pv 4)) (ya (za (pv 5)) zc))))))))))))
end
noncomputable def zeB (kE kR:Addr):Ev->Mem->Out Fl:=
 (zjR 2 zhX (yb 4))
noncomputable def ze3 (kE kR:Addr):Ev->Mem->Out Fl:=
 (yg (zm 2 (eC (.int 1)))
 (yg (zby (zaH (eSl (yb 0) zfL (zdS (yb 1)))) (zat 2 (qz (zi 3) (qz (zi 4) zau))) (zeB kE kR))
 (qB (yb 2))))
noncomputable def zbj (kE kR:Addr):List FT.T->Mem->Out FT.T:=yh 2 5 (ze3 kE kR)
section
variable {P:Program} {w:World} {K:Frag} {mg:Str->Option Value} {base:Heap} {kE kR:Addr}
theorem zaK:FnScope ["strewing","j","spread","wait","width"] ["strewing","j"] (zf zdl):=by ac_rfl
theorem zbo (D:Df K mg "spread_of" zdl ["strewing","j"]) (T:Txt K mg kE kR)  :CalT P w K mg base 1 "spread_of" ["strewing","j"] (zbj kE kR):=
 zn D zaK rfl rfl (fun f cdv A outer s H E hr=>(qc (zh (i:=2) zaK.nd rfl (Or.inl rfl) yc)
  (qc (qX PassesOwn.never rfl (zY (zfA (za (pv 0)) zfa (zcJ (za (pv 1))))) (z4 (zax rfl (WGs.pe (yt (zw (WG.pe (yj (zl (i:=3) zaK.nd rfl (by first | exact Or.inl rfl | exact Or.inr rfl)))) (WGs.pe (yt (zw (WG.pe (yj (zl (i:=4) zaK.nd rfl (by first | exact Or.inl rfl | exact Or.inr rfl)))) (WGs.pe qU))))))))) (qd (zmt (i:=2) zaK.nd rfl (Or.inl rfl) (za (pv 4)) znq)))
  (qd (ym (za (pv 2)))))))
end
noncomputable def zeZ (kE kR:Addr):Ev->Mem->Out Fl:=
 (yg (zm 3 (ze (zbj kE kR) (zb (yb 0) (zb (eOp zbw (yb 2) (eC (.int 1))) zd))))
 (qB (eOp zJ (eOp ixT (eOp ixT (yb 0) (eOp zbw (yb 2) (eC (.int 1)))) (eC (.int 0))) (eOp zbd (yb 3) (eOp zbz (eOp zcs (yb 1) (yb 3)) (eOp ixT (eOp ixT (yb 0) (eOp zbw (yb 2) (eC (.int 1)))) (eC (.int 1))))))))
noncomputable def zbi (kE kR:Addr):List FT.T->Mem->Out FT.T:=yh 3 4 (zeZ kE kR)
section
variable {P:Program} {w:World} {K:Frag} {mg:Str->Option Value} {base:Heap} {kE kR:Addr}
theorem zd7:FnScope ["strewing","errand","j","ahead"] ["strewing","errand","j"] (zf zdh):=by ac_rfl
theorem zbl (D:Df K mg "waits_for" zdh ["strewing","errand","j"]) (T:Txt K mg kE kR)  (zbo:CalT P w K mg base 1 "spread_of" ["strewing","j"] (zbj kE kR)):CalT P w K mg base 2 "waits_for" ["strewing","errand","j"] (zbi kE kR):=
 zn D zd7 rfl rfl (fun f cdv A outer s H E hr=>(qc (zh (i:=3) zd7.nd rfl (Or.inl rfl) (yf zbo (hr.mono (by decide)) rfl (ya (za (pv 0)) (ya (yi yY (za (pv 2)) yc) zc))))
  (qd (ym (yi zB (yd qg (yd qg (za (pv 0)) (yi yY (za (pv 2)) yc) (fun _ _=>rfl)) yc (fun _ _=>rfl)) (yi zcF (za (pv 3)) (yi za4 (yi zdA (za (pv 1)) (za (pv 3))) (yd qg (yd qg (za (pv 0)) (yi yY (za (pv 2)) yc) (fun _ _=>rfl)) yc (fun _ _=>rfl)))))))))
end
noncomputable def zeq (kE kR:Addr):Ev->Mem->Out Fl:=
 (yg (zm 4 (eOp ixT (zj [kR] "errands" (yb 0)) (yb 3)))
 (yg (zm 5 (eOp ixT (eOp ixT (yb 1) (zj [kE] "house" (yb 4))) (eOp ixT (zj [kE] "state" (yb 4)) (eC (.int 1)))))
 (yg (zm 6 (ze (call2 zgn) (zb (eOp ixT (zj [kE] "state" (yb 4)) (eC (.int 2))) (zb (ze (yC qC) (zb (yb 5) zd)) zd))))
 (qB (eOp zJ (eOp ixT (eOp ixT (yb 2) (zj [kE] "stood" (yb 4))) (eC (.int 0))) (ze (zbi kE kR) (zb (yb 5) (zb (yb 3) (zb (yb 6) zd)))))))))
noncomputable def yS (kE kR:Addr):List FT.T->Mem->Out FT.T:=yh 4 7 (zeq kE kR)
section
variable {P:Program} {w:World} {K:Frag} {mg:Str->Option Value} {base:Heap} {kE kR:Addr}
theorem zbr:FnScope ["run","waits","pairs","number","errand","strewing","j"] ["run","waits","pairs","number"] (zf zcP):=by ac_rfl
theorem yT (D:Df K mg "soonest_of" zcP ["run","waits","pairs","number"]) (T:Txt K mg kE kR)  (zbl:CalT P w K mg base 2 "waits_for" ["strewing","errand","j"] (zbi kE kR)):CalT P w K mg base 3 "soonest_of" ["run","waits","pairs","number"] (yS kE kR):=
 zn D zbr rfl rfl (fun f cdv A outer s H E hr=>(qc (zh (i:=4) zbr.nd rfl (Or.inl rfl) (yd qg (qh (ye ⟨T.cls_Run,T.na_Run_errands⟩ qf) (za (pv 0))) (za (pv 3)) (fun _ _=>rfl)))
  (qc (zh (i:=5) zbr.nd rfl (Or.inl rfl) (yd qg (yd qg (za (pv 1)) (qh (ye ⟨T.cls_Errand,T.na_Errand_house⟩ qf) (za (pv 4))) (fun _ _=>rfl)) (yd qg (qh (ye ⟨T.cls_Errand,T.na_Errand_state⟩ qf) (za (pv 4))) yc (fun _ _=>rfl)) (fun _ _=>rfl)))
  (qc (zh (i:=6) zbr.nd rfl (Or.inl rfl) (yq (zg8 rfl) rfl T.n_min boot_min (ya (yd qg (qh (ye ⟨T.cls_Errand,T.na_Errand_state⟩ qf) (za (pv 4))) yc (fun _ _=>rfl)) (ya (yq yB rfl T.n_len boot_len (ya (za (pv 5)) zc)) zc))))
  (qd (ym (yi zB (yd qg (yd qg (za (pv 2)) (qh (ye ⟨T.cls_Errand,T.na_Errand_stood⟩ qf) (za (pv 4))) (fun _ _=>rfl)) yc (fun _ _=>rfl)) (yf zbl (hr.mono (by decide)) rfl (ya (za (pv 5)) (ya (za (pv 3)) (ya (za (pv 6)) zc)))))))))))
end
noncomputable def zeA (kE kR:Addr):Ev->Mem->Out Fl:=
 (yg (zF (ze (yJ kE kR) (zb (yb 3) (zb (yb 5) zd))))
 (yg (sIf (zcv (zu (eOp eqA (eOp ixT (yb 5) (eC (.int 0))) (eC (.str "again")))) (zu (eOp ltI (yb 4) (ze (yS kE kR) (zb (yb 3) (zb (yb 1) (zb (yb 2) (zb (eOp ixT (yb 5) (eC (.int 1))) zd)))))))) zjQ yO)
 (zF (ze (z6 kE kR) (zb (yb 3) (zb (yb 5) zd))))))
noncomputable def ze1 (kE kR:Addr):Ev->Mem->Out Fl:=
 (yg (zm 3 (zcy kR (y6 kE kR) (zb (yb 0) zd)))
 (yg (zby (zaH (yb 2)) (zat 2 (qz (zi 4) (qz (zi 5) zau))) (zeA kE kR))
 (qB (yb 3))))
noncomputable def zaC (kE kR:Addr):List FT.T->Mem->Out FT.T:=yh 3 6 (ze1 kE kR)
section
variable {P:Program} {w:World} {K:Frag} {mg:Str->Option Value} {base:Heap} {kE kR:Addr}
theorem zbI:FnScope ["net","waits","pairs","run","tick","event"] ["net","waits","pairs"] (zf zdj):=by ac_rfl
theorem qW (D:Df K mg "timed_run" zdj ["net","waits","pairs"]) (T:Txt K mg kE kR)  (zc9:MakT P w K mg base 1 "Run" kR ["self","net"] (y6 kE kR)) (qN:CalT P w K mg base 6 "check_event" ["run","event"] (yJ kE kR)) (z8:CalT P w K mg base 30 "let_come" ["run","event"] (z6 kE kR)) (yT:CalT P w K mg base 3 "soonest_of" ["run","waits","pairs","number"] (yS kE kR)):CalT P w K mg base 31 "timed_run" ["net","waits","pairs"] (zaC kE kR):=
 zn D zbI rfl rfl (fun f cdv A outer s H E hr=>(qc (zh (i:=3) zbI.nd rfl (Or.inl rfl) (zfc zc9 (hr.mono (by decide)) rfl (ya (za (pv 0)) zc)))
  (qc (qX PassesOwn.never rfl (zY (za (pv 2))) (z4 (zax rfl (WGs.pe (yt (zw (WG.pe (yj (zl (i:=4) zbI.nd rfl (by first | exact Or.inl rfl | exact Or.inr rfl)))) (WGs.pe (yt (zw (WG.pe (yj (zl (i:=5) zbI.nd rfl (by first | exact Or.inl rfl | exact Or.inr rfl)))) (WGs.pe qU))))))))) (qc (qr (yf qN (hr.mono (by decide)) rfl (ya (za (pv 3)) (ya (za (pv 5)) zc))))
  (qc (zA (WW.gt (zbU (yo (zG hr.units) (yd qg (za (pv 5)) yc (fun _ _=>rfl)) qo (yn _)) (zbv (yo zcU (za (pv 4)) (yf yT (hr.mono (by decide)) rfl (ya (za (pv 3)) (ya (za (pv 1)) (ya (za (pv 2)) (ya (yd qg (za (pv 5)) yc (fun _ _=>rfl)) zc))))) (yn _))))) (qd ziS) zx)
  (qd (qr (yf z8 (hr.mono (by decide)) rfl (ya (za (pv 3)) (ya (za (pv 5)) zc))))))))
  (qd (ym (za (pv 3)))))))
end
noncomputable def zjk (kE kR:Addr):Ev->Mem->Out Fl:=
 (qB (ze (zaP kE kR) (zb (ze (zaC kE kR) (zb (yb 0) (zb (yb 1) (zb (yb 2) zd)))) zd)))
noncomputable def zgA (kE kR:Addr):List FT.T->Mem->Out FT.T:=yh 3 3 (zjk kE kR)
noncomputable def zbW (kE kR:Addr):List FT.T->Mem->Out FT.T:=zdf (zgA kE kR)
section
variable {P:Program} {w:World} {K:Frag} {mg:Str->Option Value} {base:Heap} {kE kR:Addr}
theorem zlp:FnScope ["net","waits","pairs"] ["net","waits","pairs"] (zf zgb):=by ac_rfl
theorem za8 (D:Df K mg "timed" zgb ["net","waits","pairs"]) (T:Txt K mg kE kR)  (zal:CalT P w K mg base 3 "told_of" ["run"] (zaP kE kR)) (qW:CalT P w K mg base 31 "timed_run" ["net","waits","pairs"] (zaC kE kR)):CalT P w K mg base 32 "timed" ["net","waits","pairs"] (zgA kE kR):=
 zn D zlp rfl rfl (fun f cdv A outer s H E hr=>(qd (ym (yf zal (hr.mono (by decide)) rfl (ya (yf qW (hr.mono (by decide)) rfl (ya (za (pv 0)) (ya (za (pv 1)) (ya (za (pv 2)) zc)))) zc)))))
end
noncomputable def zeD (kE kR:Addr):Ev->Mem->Out Fl:=
 (yg (zeg (yb 6) (zat 3 (qz (zi 7) (qz (zi 8) (qz (zi 9) zau)))))
 (sIf (zu (eOp eqA (eOp ixT (yb 9) (eC (.int 0))) (eC (.str "stands")))) (yg (zm 10 (eOp ixT (eOp ixT (eOp ixT (eOp ixT (eOp ixT (yb 0) (eC (.int 0))) (yb 7)) (eC (.int 1))) (eOp ixT (yb 9) (eC (.int 1)))) (eC (.int 1))))
 (sIf (zba (zu (eOp eqA (yb 10) (eC (.int 0)))) (zu (eOp ltI (eOp ixT (yb 9) (eC (.int 2))) (yb 10)))) (zF (z7 qV (eUn yG (yb 4)) (zb (zK (zb (yb 5) (zb (ze (zbZ kE kR) (zb (yb 1) (zb (yb 2) (zb (yb 3) (zb (yb 5) zd))))) zd))) zd))) yO)) yO))
noncomputable def ze5 (kE kR:Addr):Ev->Mem->Out Fl:=
 (yg (zm 4 (eTk (qx zd)))
 (yg (zby (zdB (yb 2)) (zat 2 (qz (zi 5) (qz (zi 6) zau))) (zeD kE kR))
 (qB (yb 4))))
noncomputable def zca (kE kR:Addr):List FT.T->Mem->Out FT.T:=yh 4 11 (ze5 kE kR)
section
variable {P:Program} {w:World} {K:Frag} {mg:Str->Option Value} {base:Heap} {kE kR:Addr}
theorem qR:FnScope ["net","waits","errands","stood","found","n","errand","house","caller","state","tries"] ["net","waits","errands","stood"] (zf zdn):=by ac_rfl
theorem zbp (D:Df K mg "_law_soonest" zdn ["net","waits","errands","stood"]) (T:Txt K mg kE kR)  (zbE:CalT P w K mg base 1 "_law_due" ["waits","errands","stood","n"] (zbZ kE kR)):CalT P w K mg base 2 "_law_soonest" ["net","waits","errands","stood"] (zca kE kR):=
 zn D qR rfl rfl (fun f cdv A outer s H E hr=>(qc (zh (i:=4) qR.nd rfl (Or.inl rfl) (zW (zr zc)))
  (qc (qX PassesOwn.never rfl (zgN rfl T.n_enumerate (za (pv 2))) (z4 (zax rfl (WGs.pe (yt (zw (WG.pe (yj (zl (i:=5) qR.nd rfl (by first | exact Or.inl rfl | exact Or.inr rfl)))) (WGs.pe (yt (zw (WG.pe (yj (zl (i:=6) qR.nd rfl (by first | exact Or.inl rfl | exact Or.inr rfl)))) (WGs.pe qU))))))))) (qc (zcB (za (pv 6)) (z4 (zax rfl (WGs.pe (yt (zw (WG.pe (yj (zl (i:=7) qR.nd rfl (by first | exact Or.inl rfl | exact Or.inr rfl)))) (WGs.pe (yt (zw (WG.pe (yj (zl (i:=8) qR.nd rfl (by first | exact Or.inl rfl | exact Or.inr rfl)))) (WGs.pe (yt (zw (WG.pe (yj (zl (i:=9) qR.nd rfl (by first | exact Or.inl rfl | exact Or.inr rfl)))) (WGs.pe qU)))))))))))))
  (qd (zA (yo (zG hr.units) (yd qg (za (pv 9)) yc (fun _ _=>rfl)) qo (yn _)) (qc (zh (i:=10) qR.nd rfl (Or.inl rfl) (yd qg (yd qg (yd qg (yd qg (yd qg (za (pv 0)) yc (fun _ _=>rfl)) (za (pv 7)) (fun _ _=>rfl)) yc (fun _ _=>rfl)) (yd qg (za (pv 9)) yc (fun _ _=>rfl)) (fun _ _=>rfl)) yc (fun _ _=>rfl)))
  (qd (zA (WW.gt (zad (yo (zG hr.units) (za (pv 10)) yc (yn _)) (zaA (yo zcU (yd qg (za (pv 9)) yc (fun _ _=>rfl)) (za (pv 10)) (yn _))))) (qd (qr (zU (z5 PySem.F.plainAttrs_list PySem.F.slot_list_append PySem.F.type_list_append qF (WE.pe (za (pv 4))) (WA.pe (ya (yy (ya (za (pv 5)) (ya (yf zbE (hr.mono (by decide)) rfl (ya (za (pv 1)) (ya (za (pv 2)) (ya (za (pv 3)) (ya (za (pv 5)) zc))))) zc))) zc)))))) zx))) zx))))
  (qd (ym (za (pv 4)))))))
end
noncomputable def zg0 (kE kR:Addr):Ev->Mem->Out Fl:=
 (yg (zm 3 (ze (zaC kE kR) (zb (yb 0) (zb (yb 1) (zb (yb 2) zd)))))
 (yg (zm 4 (eFz (yU (zaB (zb (ze (yC qC) (zb (zj [kR] "errands" (yb 3)) zd)) zd)) (zi 0) (zu (ze (yI kE kR) (zb (yb 1) (zb (yb 0) zd)))) (yb 0) ["number"] [("run",3)])))
 (qB (eTk (yU (zaH (yb 4)) (zi 0) qH (zK (zb (yb 0) (zb (ze (yS kE kR) (zb (yb 1) (zb (yb 2) (zb (yb 3) (zb (yb 0) zd))))) zd))) ["number"] [("run",3),("waits",1),("pairs",2)])))))
noncomputable def zbD (kE kR:Addr):List FT.T->Mem->Out FT.T:=yh 3 5 (zg0 kE kR)
section
variable {P:Program} {w:World} {K:Frag} {mg:Str->Option Value} {base:Heap} {kE kR:Addr}
theorem zdH:FnScope ["net","waits","pairs","run","standing"] ["net","waits","pairs"] (zf zeb):=by ac_rfl
theorem zaU (D:Df K mg "soonest" zeb ["net","waits","pairs"]) (T:Txt K mg kE kR)  (qW:CalT P w K mg base 31 "timed_run" ["net","waits","pairs"] (zaC kE kR)) (qI:CalT P w K mg base 2 "has_tries_left" ["run","number"] (yI kE kR)) (yT:CalT P w K mg base 3 "soonest_of" ["run","waits","pairs","number"] (yS kE kR)):CalT P w K mg base 32 "soonest" ["net","waits","pairs"] (zbD kE kR):=
 zn D zdH rfl rfl (fun f cdv A outer s H E hr=>(qc (zh (i:=3) zdH.nd rfl (Or.inr rfl) (yf qW (hr.mono (by decide)) rfl (ya (za (pv 0)) (ya (za (pv 1)) (ya (za (pv 2)) zc)))))
  (qc (zhy (i0:=4) (tgs:=["number"]) (caps:=[("run",3)]) (y4 rfl T.n_range (ya (yq yB rfl T.n_len boot_len (ya (qh (ye ⟨T.cls_Run,T.na_Run_errands⟩ qf) (za (pv 3))) zc)) zc)) (by bv_omega) (fun _ _ _=>(yj (zl (i:=0) (show (["number","run"]:List Str).Nodup by decide +kernel) rfl (by first | exact Or.inl rfl | exact Or.inr rfl)))) (fun _ _ _=>(zhx (y3 (yf qI (hr.mono (by decide)) rfl (ya (za (pv 1)) (ya (za (pv 0)) zc)))))) (fun _ _ _=>(za (pv 0))) zdH.nd rfl (Or.inl rfl))
  (qd (ym (zW (zam (tgs:=["number"]) (caps:=[("run",3),("waits",1),("pairs",2)]) (zY (za (pv 4))) (by bv_omega) (fun _ _ _=>(yj (zl (i:=0) (show (["number","run","waits","pairs"]:List Str).Nodup by decide +kernel) rfl (by first | exact Or.inl rfl | exact Or.inr rfl)))) (fun _ _ _=>qO) (fun _ _ _=>(yy (ya (za (pv 0)) (ya (yf yT (hr.mono (by decide)) rfl (ya (za (pv 1)) (ya (za (pv 2)) (ya (za (pv 3)) (ya (za (pv 0)) zc))))) zc)))))))))))
end
noncomputable def zh8 (kE kR:Addr):Ev->Mem->Out Fl:=
 (yg (sIf (zu (eOp ltI (yb 1) (ze (yC qC) (zb (yb 0) zd)))) (qB (eOp ixT (yb 0) (yb 1))) yO)
 (qB (eC (.int 0))))
noncomputable def zcX (kE kR:Addr):List FT.T->Mem->Out FT.T:=yh 2 2 (zh8 kE kR)
section
variable {P:Program} {w:World} {K:Frag} {mg:Str->Option Value} {base:Heap} {kE kR:Addr}
theorem zkt:FnScope ["script","k"] ["script","k"] (zf zfk):=by ac_rfl
theorem zc1 (D:Df K mg "_law_cell" zfk ["script","k"]) (T:Txt K mg kE kR)  :CalT P w K mg base 1 "_law_cell" ["script","k"] (zcX kE kR):=
 zn D zkt rfl rfl (fun f cdv A outer s H E hr=>(qc (zA (yo zcU (za (pv 1)) (yq yB rfl T.n_len boot_len (ya (za (pv 0)) zc)) (yn _)) (qd (ym (yd qg (za (pv 0)) (za (pv 1)) (fun _ _=>rfl)))) zx)
  (qd (ym yc))))
end
noncomputable def zmp (kE kR:Addr):Ev->Mem->Out Fl:=
 (yg (zm 1 (ze (zbA kE kR) (zb (ze (zcX kE kR) (zb (yb 0) (zb (eC (.int 0)) zd))) zd)))
 (yg (zm 2 (ze (zeM kE kR) (zb (yb 1) (zb (eC (.int 3)) zd))))
 (yg (zm 3 (ze (zdb kE kR) (zb (yb 1) (zb (yb 2) zd))))
 (yg (zm 4 (eOp zJ (eOp zJ (eFz (qx (zb (eC (.int 0)) zd))) (eSl (yb 0) (zdS (eC (.int 1))) (zdS (eC (.int 31))))) (eSl (eFz (qx (zb (eC (.int 1)) (zb (eC (.int 2)) (zb (eC (.int 3)) (zb (eC (.int 4)) (zb (eC (.int 5)) (zb (eC (.int 6)) (zb (eC (.int 7)) (zb (eC (.int 8)) (zb (eC (.int 9)) (zb (eC (.int 10)) (zb (eC (.int 11)) (zb (eC (.int 12)) zd)))))))))))))) zfL (zdS (ze (call2 zgp) (zb (eC (.int 0)) (zb (eOp zbw (eC (.int 12)) (ze (yC qC) (zb (yb 0) zd))) zd)))))))
 (yg (zeg (ze (zdc kE kR) (zb (yb 2) (zb (yb 3) (zb (yb 4) zd)))) (zat 3 (qz (zi 5) (qz (zi 6) (qz (zi 7) zau)))))
 (yg (zm 8 (eFz (zj2 zeK (zb (yb 5) zd))))
 (yg (zm 9 (ze (zbW kE kR) (zb (yb 2) (zb (yb 3) (zb (yb 8) zd)))))
 (yg (sIf (zba (zc5 (zu (ze (call2 qP) (zb (yb 9) (zb (eC (.ty "tuple")) zd))))) (zu (eOp neA (yb 9) (ze (zeF kE kR) (zb (yb 2) (zb (eFz (zS (zbM (yb 5)) (zat 2 (qz (zi 0) (qz (zi 1) zau))) qH (yb 1) ["tick","event"] [])) zd)))))) (qB (eC (.bl false))) yO)
 (yg (zm 10 (ze (zca kE kR) (zb (yb 2) (zb (yb 3) (zb (yb 6) (zb (yb 7) zd))))))
 (yg (zm 11 (ze (zbD kE kR) (zb (yb 2) (zb (yb 3) (zb (yb 8) zd)))))
 (yg (sIf (zba (zc5 (zu (ze (call2 qP) (zb (yb 11) (zb (eC (.ty "list")) zd))))) (zba (zu (eOp neA (yb 11) (yb 10))) (zu (eOp neA (yb 8) (yb 5))))) (qB (eC (.bl false))) yO)
 (yg (zF (z7 qV (eUn yG (yb 11)) (zb (zK (zb (eC (.int 0)) (zb (eC (.int 0)) zd))) zd)))
 (yg (sIf (zba (zu (eOp neA (ze (zbW kE kR) (zb (yb 2) (zb (yb 3) (zb (eFz (qx zd)) zd)))) (zK (zb (eFz (qx zd)) (zb (eFz (yU (zaH (eOp ixT (yb 2) (eC (.int 1)))) (zi 0) qH (zK (zb (eC (.int 0)) (zb (eC (.int 0)) zd))) ["purse"] [])) zd))))) (zu (eOp neA (ze (zbD kE kR) (zb (yb 2) (zb (yb 3) (zb (eFz (qx zd)) zd)))) (eFz (qx zd))))) (qB (eC (.bl false))) yO)
 (qB (zih (eOp eqA (ze (zbD kE kR) (zb (yb 2) (zb (yb 3) (zb (yb 8) zd)))) (yb 10)) (eOp eqA (ze (zbW kE kR) (zb (yb 2) (zb (yb 3) (zb (yb 8) zd)))) (yb 9)))))))))))))))))
noncomputable def zhr (kE kR:Addr):List FT.T->Mem->Out FT.T:=yh 1 12 (zmp kE kR)
section
variable {P:Program} {w:World} {K:Frag} {mg:Str->Option Value} {base:Heap} {kE kR:Addr}
theorem zaw:FnScope ["script","pool","net","waits","cells","pairs","errands","stood","handed","found","due","told"] ["script"] (zf zjP):=by ac_rfl
theorem zoD {f:Addr} {fd:FuncData} (D:Fun K "law" "law" zjP f fd) (T:Txt K mg kE kR)  (zaW:CalT P w K mg base 1 "_law_left" ["cell"] (zbA kE kR)) (zdE:CalT P w K mg base 2 "_law_net" ["pool","most"] (zeM kE kR)) (zcj:CalT P w K mg base 2 "_law_waits" ["pool","net"] (zdb kE kR)) (zck:CalT P w K mg base 33 "_law_timed" ["net","waits","cells"] (zdc kE kR)) (za8:CalT P w K mg base 32 "timed" ["net","waits","pairs"] (zbW kE kR)) (zbp:CalT P w K mg base 2 "_law_soonest" ["net","waits","errands","stood"] (zca kE kR)) (zaU:CalT P w K mg base 32 "soonest" ["net","waits","pairs"] (zbD kE kR)) (zc1:CalT P w K mg base 1 "_law_cell" ["script","k"] (zcX kE kR)) (zcb:CalT P w K mg base 32 "ran" ["net","events"] (zeF kE kR)):FnOk P w K mg base CX0 34 f fd ["script"] (spT K (zhr kE kR)):=
 zms D zaw rfl rfl (fun cdv A outer s H E hr=>(qc (zh (i:=1) zaw.nd rfl (Or.inl rfl) (yf zaW (hr.mono (by decide)) rfl (ya (yf zc1 (hr.mono (by decide)) rfl (ya (za (pv 0)) (ya yc zc))) zc)))
  (qc (zh (i:=2) zaw.nd rfl (Or.inl rfl) (yf zdE (hr.mono (by decide)) rfl (ya (za (pv 1)) (ya yc zc))))
  (qc (zh (i:=3) zaw.nd rfl (Or.inl rfl) (yf zcj (hr.mono (by decide)) rfl (ya (za (pv 1)) (ya (za (pv 2)) zc))))
  (qc (zh (i:=4) zaw.nd rfl (Or.inl rfl) (yi zB (yi zB (zC (zr (ya yc zc))) (zfA (za (pv 0)) (zcJ yc) (zcJ yc))) (zfA (zC (zr (ya yc (ya yc (ya yc (ya yc (ya yc (ya yc (ya yc (ya yc (ya yc (ya yc (ya yc (ya yc zc)))))))))))))) zfa (zcJ (yq (zey rfl) rfl T.n_max boot_max (ya yc (ya (yi yY yc (yq yB rfl T.n_len boot_len (ya (za (pv 0)) zc))) zc)))))))
  (qc (zcB (yf zck (hr.mono (by decide)) rfl (ya (za (pv 2)) (ya (za (pv 3)) (ya (za (pv 4)) zc)))) (z4 (zax rfl (WGs.pe (yt (zw (WG.pe (yj (zl (i:=5) zaw.nd rfl (by first | exact Or.inl rfl | exact Or.inr rfl)))) (WGs.pe (yt (zw (WG.pe (yj (zl (i:=6) zaw.nd rfl (by first | exact Or.inl rfl | exact Or.inr rfl)))) (WGs.pe (yt (zw (WG.pe (yj (zl (i:=7) zaw.nd rfl (by first | exact Or.inl rfl | exact Or.inr rfl)))) (WGs.pe qU)))))))))))))
  (qc (zh (i:=8) zaw.nd rfl (Or.inl rfl) (zC (zjA zkc rfl T.n_list boot_list (ya (za (pv 5)) zc))))
  (qc (zh (i:=9) zaw.nd rfl (Or.inl rfl) (yf za8 (hr.mono (by decide)) rfl (ya (za (pv 2)) (ya (za (pv 3)) (ya (za (pv 8)) zc)))))
  (qc (zA (WW.gt (zad (zcA (y3 (yq zaT rfl T.n_isinstance boot_isinstance (ya (za (pv 9)) (ya (zcL rfl T.n_tuple boot_tuple) zc))))) (zaA (yo (zce hr.units) (za (pv 9)) (yf zcb (hr.mono (by decide)) rfl (ya (za (pv 2)) (ya (zC (zc4 (tgs:=["tick","event"]) (caps:=[]) (zcK (za (pv 5))) (by bv_omega) (fun _ _ _=>(z4 (zax rfl (WGs.pe (yt (zw (WG.pe (yj (zl (i:=0) (show (["tick","event"]:List Str).Nodup by decide +kernel) rfl (by first | exact Or.inl rfl | exact Or.inr rfl)))) (WGs.pe (yt (zw (WG.pe (yj (zl (i:=1) (show (["tick","event"]:List Str).Nodup by decide +kernel) rfl (by first | exact Or.inl rfl | exact Or.inr rfl)))) (WGs.pe qU)))))))))) (fun _ _ _=>qO) (fun _ _ _=>(za (pv 1))))) zc))) (yn _))))) (qd (ym zbF)) zx)
  (qc (zh (i:=10) zaw.nd rfl (Or.inl rfl) (yf zbp (hr.mono (by decide)) rfl (ya (za (pv 2)) (ya (za (pv 3)) (ya (za (pv 6)) (ya (za (pv 7)) zc))))))
  (qc (zh (i:=11) zaw.nd rfl (Or.inl rfl) (yf zaU (hr.mono (by decide)) rfl (ya (za (pv 2)) (ya (za (pv 3)) (ya (za (pv 8)) zc)))))
  (qc (zA (WW.gt (zad (zcA (y3 (yq zaT rfl T.n_isinstance boot_isinstance (ya (za (pv 11)) (ya (zcL rfl T.n_list boot_list) zc))))) (zad (yo (zce hr.units) (za (pv 11)) (za (pv 10)) (yn _)) (zaA (yo (zce hr.units) (za (pv 8)) (za (pv 5)) (yn _)))))) (qd (ym zbF)) zx)
  (qc (qr (zU (z5 PySem.F.plainAttrs_list PySem.F.slot_list_append PySem.F.type_list_append qF (WE.pe (za (pv 11))) (WA.pe (ya (yy (ya yc (ya yc zc))) zc)))))
  (qc (zA (WW.gt (zad (yo (zce hr.units) (yf za8 (hr.mono (by decide)) rfl (ya (za (pv 2)) (ya (za (pv 3)) (ya (zC (zr zc)) zc)))) (yy (ya (zC (zr zc)) (ya (zC (zam (tgs:=["purse"]) (caps:=[]) (zY (yd qg (za (pv 2)) yc (fun _ _=>rfl))) (by bv_omega) (fun _ _ _=>(yj (zl (i:=0) (show (["purse"]:List Str).Nodup by decide +kernel) rfl (by first | exact Or.inl rfl | exact Or.inr rfl)))) (fun _ _ _=>qO) (fun _ _ _=>(yy (ya yc (ya yc zc)))))) zc))) (yn _)) (zaA (yo (zce hr.units) (yf zaU (hr.mono (by decide)) rfl (ya (za (pv 2)) (ya (za (pv 3)) (ya (zC (zr zc)) zc)))) (zC (zr zc)) (yn _))))) (qd (ym zbF)) zx)
  (qd (ym (zf6 (zaY (zG hr.units) (yf zaU (hr.mono (by decide)) rfl (ya (za (pv 2)) (ya (za (pv 3)) (ya (za (pv 8)) zc)))) (za (pv 10)) (yn _)) (zdv (zaY (zG hr.units) (yf za8 (hr.mono (by decide)) rfl (ya (za (pv 2)) (ya (za (pv 3)) (ya (za (pv 8)) zc)))) (za (pv 9)) (yn _))))))))))))))))))))
end
end My
open Lean in
local macro_rules | `(tactic| simp_arith [$xs,*]) => do
  let ids := ("FT.zkw FT.zrm FT.zrn FT.startT FT.yg FT.qB FT.zm FT.sIf FT.zF FT.zeg FT.yO FT.zby FT.yb FT.eC FT.eOp FT.eUn FT.zih FT.eOr FT.zj8 FT.eIf FT.ze FT.zK FT.eFz FT.eTk FT.qx FT.zj2 FT.zfY FT.lOp FT.eSl FT.zfL FT.zdS FT.zlU FT.zgE FT.zru FT.zrI FT.z7 FT.zd FT.zb FT.zu FT.zcv FT.zba FT.zc5 FT.zrF FT.zcI FT.zrf FT.yp FT.zqA FT.zqC FT.zqB FT.zqY FT.zqX FT.zq0 FT.zqZ FT.zi FT.ziu FT.zat FT.qz FT.zau FT.zaH FT.zaB FT.zrp FT.zhJ FT.ixT FT.zfn FT.zj5 FT.zrQ FT.zrP FT.zrO FT.zrN FT.yU FT.zb3 FT.qH Option.join_some Option.join_none FT.zlP FT.zq1 FT.zdG FT.zrL FT.zrK FT.zrJ map_cons map_nil length_cons length_nil List.cons_append nil_append List.getElem?_cons_zero getElem?_cons_succ List.set_cons_zero List.set_cons_succ List.replicate Nat.zero_add Nat.reduceAdd Nat.reduceSub FT.zrr FT.zrq FT.zrt FT.zrs Int.reduceBEq Int.reduceLT FT.zrj FT.zrz FT.zrA FT.zrC FT.zh3 FT.zrx FT.znf FT.zrD FT.zry FT.zrB FT.zq4 Bool.false_eq_true reduceIte Nat.reduceEqDiff Nat.succ.injEq Bool.not_true Bool.not_false FT.zeJ FT.zro FT.zrE Int.reduceToNat Int.reducePow ne_eq Int.reduceEq not_false_eq_true Int.reduceNeg Bool.bne_true Bool.bne_false Bool.true_bne Bool.false_bne decide_true decide_false FT.zme FT.zre FT.zrd FT.zrk FT.zrl".splitOn " ").toArray.map fun s => Lean.mkIdent s.toName
  `(tactic| simp (config := {decide := true}) only [$[$ids:term],*, $xs,*])
namespace My
open PySem L2 FT
structure Ask where
 to:Str
 tries:Int
 purse:Option Str
 word:Str
 hears:Bool
 sure:Bool
structure Hs where
 name:Str
 asks:List Ask
structure Pu where
 name:Str
 earns:Str
 per:Int
structure Net where
 hs:List Hs
 ps:List Pu
noncomputable def opS (o:Option Str):FT.T:=o.elim .non .str
noncomputable def zD (a:Ask):FT.T:=.tup [.str a.to,.int a.tries,opS a.purse,.str a.word,.bl a.hears,.bl a.sure]
noncomputable def hsT (h:Hs):FT.T:=.tup [.str h.name,.tup (h.asks.map zD)]
noncomputable def puT (p:Pu):FT.T:=.tup [.str p.name,.str p.earns,.int p.per]
noncomputable def zg (n:Net):FT.T:=.tup [.tup (n.hs.map hsT),.tup (n.ps.map puT)]
inductive Ph where
 | works
 | waits (a t:Nat)
 | stands (a t:Nat)
 | ended (w:Str)
noncomputable def phT:Ph->FT.T
 | .works=>.tup [.str "works"]
 | .waits a t=>.tup [.str "waits",.int (a:Int),.int (t:Int)]
 | .stands a t=>.tup [.str "stands",.int (a:Int),.int (t:Int)]
 | .ended w=>.tup [.str "ended",.str w]
structure Er where
 house:Nat
 caller:Option (Nat × Nat × Nat)
 ph:Ph
 lost:Bool
 asked:Option Nat
 stood:Option Nat
noncomputable abbrev nT (n:Nat):FT.T:=.int (n:Int)
noncomputable def clT (o:Option (Nat × Nat × Nat)):FT.T:=o.elim .non fun c=>.tup [nT c.1,nT c.2.1,nT c.2.2]
noncomputable def onT (o:Option Nat):FT.T:=o.elim .non nT
noncomputable def erF (e:Er):List (Str × FT.T):=[("house",nT e.house),("caller",clT e.caller),("state",phT e.ph),("is_lost",.bl e.lost),("asked",onT e.asked),("stood",onT e.stood)]
structure Run where
 came:Nat
 es:List Er
 puts:List (List Nat)
 pays:List (Nat × Nat × Nat)
 taken:List Nat
noncomputable def zfm (p:Nat × Nat × Nat):FT.T:=.tup [nT p.1,nT p.2.1,nT p.2.2]
structure Lay where
 a:Nat
 p:Nat
 q:Nat
 t:Nat
 es:List Nat
 ps:List Nat
noncomputable def zbV (nt:FT.T) (l:Lay) (R:Run):List (Str × FT.T):=[("net",nt),("came",nT R.came),("errands",.ref l.a),("puts",.ref l.p),("payments",.ref l.q),("taken",.ref l.t)]
section
variable (kE kR:Addr)
noncomputable def ezC (es:List Nat) (rs:List Er):List (Nat × Cell):=List.zipWith (fun x e=>(x,Cell.ins kE (erF e))) es rs
noncomputable def pzC (ps:List Nat) (us:List (List Nat)):List (Nat × Cell):=List.zipWith (fun x u=>(x,Cell.lst (u.map nT))) ps us
noncomputable def cells (nt:FT.T) (r:Nat) (l:Lay) (R:Run):List (Nat × Cell):=
 (r,.ins kR (zbV nt l R)) :: (l.a,.lst (l.es.map .ref)) :: (l.p,.lst (l.ps.map .ref)) :: (l.q,.lst (R.pays.map zfm)) :: (l.t,.lst (R.taken.map nT)) :: (ezC kE l.es R.es ++ pzC l.ps R.puts)
def Holds (M:Mem) (L:List (Nat × Cell)):Prop:=∀ p ∈ L,M[p.1]? = some p.2
theorem Holds.set {M:Mem} {L:List (Nat × Cell)} (h:Holds M L) (nd:(L.map (·.1)).Nodup) {k:Nat} {p:Nat × Cell} (hk:L[k]? = some p) (c:Cell):Holds (M.set p.1 c) (L.set k (p.1,c)):=by
 intro q hq
 have hkl:=(List.getElem?_eq_some_iff.mp hk).1
 obtain ⟨i,hi⟩:=mem_iff_getElem?.mp hq
 rw [getElem?_set] at hi
 by_cases e:k = i
 ·rw [if_pos e,if_pos hkl] at hi
  cases hi
  exact get_set (h p (mem_of_getElem? hk))
 ·rw [if_neg e] at hi
  have hne:p.1 ≠ q.1:=fun z=>by
   have h1:(L.map (·.1))[k]? = some p.1:=by rw [getElem?_map,hk];rfl
   have h2:(L.map (·.1))[i]? = some q.1:=by rw [getElem?_map,hi];rfl
   exact e ((List.getElem?_inj (by simpa using hkl) nd).mp (h1.trans (by rw [h2,z])))
  rw [getElem?_set,if_neg hne]
  exact h q (mem_of_getElem? hi)
structure RunAt (nt:FT.T) (b r:Nat) (l:Lay) (M:Mem) (R:Run):Prop where
 ho:Holds M (cells kE kR nt r l R)
 nd:((cells kE kR nt r l R).map (·.1)).Nodup
 lo:∀ p ∈ cells kE kR nt r l R,b<=p.1
 el:l.es.length = R.es.length
 pl:l.ps.length = R.puts.length
 tl:R.taken.length = R.puts.length
def Kp (b:Nat) (M M':Mem):Prop:=M.length<=M'.length/\∀ i,i < b->M'[i]? = M[i]?
theorem Kp.refl (b:Nat) (M:Mem):Kp b M M:=⟨Nat.le_refl _,fun _ _=>rfl⟩
theorem Kp.trans {b:Nat} {A B C:Mem} (h:Kp b A B) (g:Kp b B C):Kp b A C:=⟨Nat.le_trans h.1 g.1,fun i hi=>by rw [g.2 i hi,h.2 i hi]⟩
theorem Kp.set {b x:Nat} (M:Mem) (c:Cell) (hx:b<=x):Kp b M (M.set x c):=⟨by simp,fun i hi=>by rw [getElem?_set,if_neg (by omega)]⟩
theorem Kp.app {b:Nat} (M:Mem) (cs:List Cell) (hb:b<=M.length):Kp b M (M ++ cs):=⟨by simp,fun i hi=>getElem?_append_left (by omega)⟩
theorem Kp.fr {M M':Mem} (h:Kp M.length M M'):Fr [] M M':=⟨h.1,fun i hi _=>h.2 i hi⟩
variable {kE kR} {nt:FT.T} {b r:Nat} {l:Lay} {M:Mem} {R:Run}
theorem zip_get {α β γ:Type} {f:α->β->γ} {as:List α} {bs:List β} {i:Nat} {x:α} {y:β} (h1:as[i]? = some x) (h2:bs[i]? = some y):(List.zipWith f as bs)[i]? = some (f x y):=by
 rw [List.getElem?_zipWith,h1,h2]
theorem RunAt.run (h:RunAt kE kR nt b r l M R):M[r]? = some (.ins kR (zbV nt l R)):=h.ho (r,_) (.head _)
theorem RunAt.er (h:RunAt kE kR nt b r l M R):M[l.a]? = some (.lst (l.es.map .ref)):=h.ho (l.a,_) (.tail _ (.head _))
theorem RunAt.pu (h:RunAt kE kR nt b r l M R):M[l.p]? = some (.lst (l.ps.map .ref)):=h.ho (l.p,_) (.tail _ (.tail _ (.head _)))
theorem RunAt.py (h:RunAt kE kR nt b r l M R):M[l.q]? = some (.lst (R.pays.map zfm)):=h.ho (l.q,_) (.tail _ (.tail _ (.tail _ (.head _))))
theorem RunAt.tk (h:RunAt kE kR nt b r l M R):M[l.t]? = some (.lst (R.taken.map nT)):=h.ho (l.t,_) (.tail _ (.tail _ (.tail _ (.tail _ (.head _)))))
theorem zpt {es:List Nat} {rs:List Er} {i x:Nat} {e:Er} (h1:es[i]? = some x) (h2:rs[i]? = some e):(ezC kE es rs)[i]? = some (x,.ins kE (erF e)):=zip_get h1 h2
theorem zn7 {ps:List Nat} {us:List (List Nat)} {i x:Nat} {u:List Nat} (h1:ps[i]? = some x) (h2:us[i]? = some u):(pzC ps us)[i]? = some (x,.lst (u.map nT)):=zip_get h1 h2
theorem zdC (h:RunAt kE kR nt b r l M R):(ezC kE l.es R.es).length = R.es.length:=by unfold ezC;rw [List.length_zipWith,h.el,Nat.min_self]
theorem zlb (h:RunAt kE kR nt b r l M R) {i x:Nat} {e:Er} (h1:l.es[i]? = some x) (h2:R.es[i]? = some e):(cells kE kR nt r l R)[5 + i]? = some (x,.ins kE (erF e)):=by
 have hi:=(List.getElem?_eq_some_iff.mp h2).1
 rw [Nat.add_comm]
 show (ezC kE l.es R.es ++ pzC l.ps R.puts)[i]? = _
 rw [getElem?_append_left (by rw [zdC h];exact hi)]
 exact zpt h1 h2
theorem zla (h:RunAt kE kR nt b r l M R) {i x:Nat} {u:List Nat} (h1:l.ps[i]? = some x) (h2:R.puts[i]? = some u):(cells kE kR nt r l R)[5 + (R.es.length + i)]? = some (x,.lst (u.map nT)):=by
 rw [Nat.add_comm 5]
 show (ezC kE l.es R.es ++ pzC l.ps R.puts)[R.es.length + i]? = _
 rw [getElem?_append_right (by rw [zdC h];omega),zdC h,show R.es.length + i - R.es.length = i by omega]
 exact zn7 h1 h2
theorem RunAt.at_e (h:RunAt kE kR nt b r l M R) {i:Nat} {e:Er} (h2:R.es[i]? = some e):∃ x,l.es[i]? = some x/\M[x]? = some (.ins kE (erF e)):=by
 have hi:=(List.getElem?_eq_some_iff.mp h2).1
 refine ⟨l.es[i]'(by rw [h.el];exact hi),getElem?_eq_getElem _,?_⟩
 exact h.ho _ (mem_of_getElem? (zlb h (getElem?_eq_getElem (by rw [h.el];exact hi)) h2))
theorem RunAt.at_p (h:RunAt kE kR nt b r l M R) {i:Nat} {u:List Nat} (h2:R.puts[i]? = some u):∃ x,l.ps[i]? = some x/\M[x]? = some (.lst (u.map nT)):=by
 have hi:=(List.getElem?_eq_some_iff.mp h2).1
 refine ⟨l.ps[i]'(by rw [h.pl];exact hi),getElem?_eq_getElem _,?_⟩
 exact h.ho _ (mem_of_getElem? (zla h (getElem?_eq_getElem (by rw [h.pl];exact hi)) h2))
theorem RunAt.write (h:RunAt kE kR nt b r l M R) {k x:Nat} {c0 c:Cell} (hk:(cells kE kR nt r l R)[k]? = some (x,c0)) {R':Run} (e:cells kE kR nt r l R' = (cells kE kR nt r l R).set k (x,c)) (h1:R'.es.length = R.es.length) (h2:R'.puts.length = R.puts.length) (h3:R'.taken.length = R.taken.length):RunAt kE kR nt b r l (M.set x c) R'/\b<=x:=by
 have em:(cells kE kR nt r l R').map (·.1) = (cells kE kR nt r l R).map (·.1):=by
  rw [e,List.map_set]
  refine ext_getElem? fun i=>?_
  rw [getElem?_set]
  by_cases z:k = i
  ·subst z
   have:=(List.getElem?_eq_some_iff.mp hk).1
   rw [if_pos rfl,if_pos (by simpa using this),getElem?_map,hk]
   rfl
  ·rw [if_neg z]
 refine ⟨⟨by rw [e];exact h.ho.set h.nd hk c,by rw [em];exact h.nd,fun p hp=>?_,by rw [h1];exact h.el,by rw [h2];exact h.pl,by rw [h3,h2];exact h.tl⟩,h.lo _ (mem_of_getElem? hk)⟩
 have:p.1 ∈ (cells kE kR nt r l R').map (·.1):=mem_map.mpr ⟨p,hp,rfl⟩
 rw [em] at this
 obtain ⟨q,hq,eq⟩:=mem_map.mp this
 rw [← eq];exact h.lo q hq
theorem zf8 {α β γ:Type} {f:α->β->γ}:∀ {as:List α} {bs:List β} {i:Nat} {x:α} (y:β),as[i]? = some x->List.zipWith f as (bs.set i y) = (List.zipWith f as bs).set i (f x y)
 | [],_,_,_,_,h=>by simp at h
 | a :: as,[],i,x,y,h=>by simp
 | a :: as,b :: bs,0,x,y,h=>by simp at h;simp [h]
 | a :: as,b :: bs,i + 1,x,y,h=>by simp at h;simp [zf8 y h]
noncomputable def Run.setE (R:Run) (i:Nat) (e:Er):Run:={ R with es:=R.es.set i e }
theorem RunAt.setE (h:RunAt kE kR nt b r l M R) {i x:Nat} {e:Er} (h1:l.es[i]? = some x) (h2:R.es[i]? = some e) (e':Er):RunAt kE kR nt b r l (M.set x (.ins kE (erF e'))) (R.setE i e')/\b<=x:=by
 refine h.write (zlb h h1 h2) ?_ (by simp [Run.setE]) rfl rfl
 have hi:=(List.getElem?_eq_some_iff.mp h2).1
 rw [Nat.add_comm 5]
 show _ = _ :: _ :: _ :: _ :: _ :: (ezC kE l.es R.es ++ pzC l.ps R.puts).set i (x,.ins kE (erF e'))
 rw [List.set_append_left _ _ (by rw [zdC h];exact hi),show (ezC kE l.es R.es).set i (x,.ins kE (erF e')) = ezC kE l.es (R.es.set i e') from (zf8 e' h1).symm]
 rfl
noncomputable def Run.setP (R:Run) (i:Nat) (u:List Nat):Run:={ R with puts:=R.puts.set i u }
theorem RunAt.setP (h:RunAt kE kR nt b r l M R) {i x:Nat} {u:List Nat} (h1:l.ps[i]? = some x) (h2:R.puts[i]? = some u) (u':List Nat):RunAt kE kR nt b r l (M.set x (.lst (u'.map nT))) (R.setP i u')/\b<=x:=by
 refine h.write (zla h h1 h2) ?_ rfl (by simp [Run.setP]) rfl
 rw [Nat.add_comm 5]
 show _ = _ :: _ :: _ :: _ :: _ :: (ezC kE l.es R.es ++ pzC l.ps R.puts).set (R.es.length + i) (x,.lst (u'.map nT))
 rw [set_append_right _ _ (by rw [zdC h];omega),zdC h,show R.es.length + i - R.es.length = i by omega,show (pzC l.ps R.puts).set i (x,.lst (u'.map nT)) = pzC l.ps (R.puts.set i u') from (zf8 u' h1).symm]
 rfl
theorem RunAt.setCame (h:RunAt kE kR nt b r l M R) (n:Nat):RunAt kE kR nt b r l (M.set r (.ins kR (zbV nt l { R with came:=n }))) { R with came:=n }/\b<=r:=h.write (k:=0) rfl rfl rfl rfl rfl
theorem RunAt.setPays (h:RunAt kE kR nt b r l M R) (ps:List (Nat × Nat × Nat)):RunAt kE kR nt b r l (M.set l.q (.lst (ps.map zfm))) { R with pays:=ps }/\b<=l.q:=h.write (k:=3) rfl rfl rfl rfl rfl
theorem RunAt.setTaken (h:RunAt kE kR nt b r l M R) (ts:List Nat) (ht:ts.length = R.taken.length):RunAt kE kR nt b r l (M.set l.t (.lst (ts.map nT))) { R with taken:=ts }/\b<=l.t:=h.write (k:=4) rfl rfl rfl rfl ht
theorem RunAt.kept (h:RunAt kE kR nt b r l M R) {M':Mem} (k:∀ (i:Nat) c,M[i]? = some c->M'[i]? = some c):RunAt kE kR nt b r l M' R:=⟨fun p hp=>k _ _ (h.ho p hp),h.nd,h.lo,h.el,h.pl,h.tl⟩
theorem RunAt.app (h:RunAt kE kR nt b r l M R) (cs:List Cell):RunAt kE kR nt b r l (M ++ cs) R:=h.kept fun i c e=>by rw [getElem?_append_left (qK e)];exact e
noncomputable def Run.push (R:Run) (e:Er):Run:={ R with es:=R.es ++ [e] }
theorem RunAt.push (h:RunAt kE kR nt b r l M R) (hb:b<=M.length) (e:Er):RunAt kE kR nt b r { l with es:=l.es ++ [M.length] } ((M ++ [Cell.ins kE (erF e)]).set l.a (.lst ((l.es ++ [M.length]).map .ref))) (R.push e):=by
 have ez:ezC kE (l.es ++ [M.length]) (R.es ++ [e]) = ezC kE l.es R.es ++ [(M.length,.ins kE (erF e))]:=by
  unfold ezC
  rw [List.zipWith_append h.el]
  rfl
 have fresh:∀ p ∈ cells kE kR nt r l R,p.1 < M.length:=fun p hp=>qK (h.ho p hp)
 have hm:∀ p,p ∈ cells kE kR nt r { l with es:=l.es ++ [M.length] } (R.push e)->p = (l.a,.lst ((l.es ++ [M.length]).map .ref))\/p = (M.length,.ins kE (erF e))\/(p ∈ cells kE kR nt r l R/\p.1 ≠ l.a):=by
  intro p hp
  have nd:=h.nd
  have na:∀ q ∈ ezC kE l.es R.es ++ pzC l.ps R.puts,q.1 ≠ l.a:=fun q hq z=>by
   have h2:=(nodup_cons.mp (nodup_cons.mp nd).2).1
   exact h2 (mem_map.mpr ⟨q,.tail _ (.tail _ (.tail _ hq)),z⟩)
  have n0:r ≠ l.a:=fun z=>(nodup_cons.mp nd).1 (mem_map.mpr ⟨(l.a,_),.head _,z.symm⟩)
  have n2:l.p ≠ l.a:=fun z=>(nodup_cons.mp (nodup_cons.mp nd).2).1 (mem_map.mpr ⟨(l.p,_),.head _,z⟩)
  have n3:l.q ≠ l.a:=fun z=>(nodup_cons.mp (nodup_cons.mp nd).2).1 (mem_map.mpr ⟨(l.q,_),.tail _ (.head _),z⟩)
  have n4:l.t ≠ l.a:=fun z=>(nodup_cons.mp (nodup_cons.mp nd).2).1 (mem_map.mpr ⟨(l.t,_),.tail _ (.tail _ (.head _)),z⟩)
  unfold cells at hp
  rcases mem_cons.mp hp with rfl | hp
  ·exact .inr (.inr ⟨.head _,n0⟩)
  rcases mem_cons.mp hp with rfl | hp
  ·exact .inl rfl
  rcases mem_cons.mp hp with rfl | hp
  ·exact .inr (.inr ⟨.tail _ (.tail _ (.head _)),n2⟩)
  rcases mem_cons.mp hp with rfl | hp
  ·exact .inr (.inr ⟨.tail _ (.tail _ (.tail _ (.head _))),n3⟩)
  rcases mem_cons.mp hp with rfl | hp
  ·exact .inr (.inr ⟨.tail _ (.tail _ (.tail _ (.tail _ (.head _)))),n4⟩)
  replace hp:p ∈ ezC kE (l.es ++ [M.length]) (R.es ++ [e]) ++ pzC l.ps R.puts:=hp
  rw [ez] at hp
  rcases mem_append.mp hp with hp | hp
  ·rcases mem_append.mp hp with hp | hp
   ·exact .inr (.inr ⟨.tail _ (.tail _ (.tail _ (.tail _ (.tail _ (mem_append_left _ hp))))),na p (mem_append_left _ hp)⟩)
   ·exact .inr (.inl (mem_singleton.mp hp))
  ·exact .inr (.inr ⟨.tail _ (.tail _ (.tail _ (.tail _ (.tail _ (mem_append_right _ hp))))),na p (mem_append_right _ hp)⟩)
 have la:=h.er
 have hla:=qK la
 refine ⟨fun p hp=>?_,?_,fun p hp=>?_,by simp [Run.push,h.el],h.pl,h.tl⟩
 ·rcases hm p hp with rfl | rfl | ⟨hp,hne⟩
  ·exact get_set (by rw [getElem?_append_left hla];exact la)
  ·show (List.set _ _ _)[M.length]? = _
   rw [getElem?_set,if_neg (by omega)];exact yN
  ·rw [getElem?_set,if_neg (Ne.symm hne),getElem?_append_left (fresh p hp)];exact h.ho p hp
 ·have e2:(cells kE kR nt r { l with es:=l.es ++ [M.length] } (R.push e)).map (·.1) = r :: l.a :: l.p :: l.q :: l.t :: ((ezC kE l.es R.es).map (·.1) ++ [M.length] ++ (pzC l.ps R.puts).map (·.1)):=by
   show _ :: _ :: _ :: _ :: _ :: (ezC kE (l.es ++ [M.length]) (R.es ++ [e]) ++ pzC l.ps R.puts).map (·.1) = _
   rw [ez]
   simp
  have e1:(cells kE kR nt r l R).map (·.1) = r :: l.a :: l.p :: l.q :: l.t :: ((ezC kE l.es R.es).map (·.1) ++ (pzC l.ps R.puts).map (·.1)):=by
   show _ :: _ :: _ :: _ :: _ :: (ezC kE l.es R.es ++ pzC l.ps R.puts).map (·.1) = _
   rw [map_append]
  have pm:List.Perm ((cells kE kR nt r { l with es:=l.es ++ [M.length] } (R.push e)).map (·.1)) (M.length :: (cells kE kR nt r l R).map (·.1)):=by
   rw [e2,e1]
   have:List.Perm ((ezC kE l.es R.es).map (·.1) ++ [M.length] ++ (pzC l.ps R.puts).map (·.1)) (M.length :: ((ezC kE l.es R.es).map (·.1) ++ (pzC l.ps R.puts).map (·.1))):=by
    rw [List.append_assoc]
    exact List.perm_middle
   refine ((((((this.cons _).cons _).cons _).cons _).cons _).trans ?_)
   have sw:∀ (x y:Nat) (L:List Nat),List.Perm (x :: y :: L) (y :: x :: L):=fun x y L=>List.Perm.swap y x L
   refine ((((sw _ _ _).cons _).cons _).cons _).cons _ |>.trans ?_
   refine (((sw _ _ _).cons _).cons _).cons _ |>.trans ?_
   refine ((sw _ _ _).cons _).cons _ |>.trans ?_
   refine (sw _ _ _).cons _ |>.trans ?_
   exact sw _ _ _
  refine pm.nodup_iff.mpr (nodup_cons.mpr ⟨fun z=>?_,h.nd⟩)
  obtain ⟨q,hq,eq⟩:=mem_map.mp z
  have:=fresh q hq
  omega
 ·rcases hm p hp with rfl | rfl | ⟨hp,_⟩
  ·exact h.lo (l.a,.lst (l.es.map .ref)) (.tail _ (.head _))
  ·exact hb
  ·exact h.lo p hp
end
noncomputable def zbL (s:Str):List Str->Nat->Option Nat
 | [],_=>none
 | y :: ys,k=>if (y == s) = true then some k else zbL s ys (k + 1)
theorem zkS (s:Str):∀ (ys:List Str) (k:Nat),zgt (.str s) (ys.map .str) k = zbL s ys k
 | [],_=>rfl
 | y :: ys,k=>by
  show (if (y == s) = true then some k else zgt (.str s) (ys.map .str) (k + 1)) = _
  rw [zkS s ys (k + 1)]
  rfl
theorem zgu {s:Str}:∀ {ys:List Str} {k n:Nat},zbL s ys k = some n->k<=n/\n < k + ys.length
 | [],_,_,h=>by cases h
 | y :: ys,k,n,h=>by
  unfold zbL at h
  split at h
  ·cases h;simp
  ·have:=zgu h
   rw [length_cons]
   omega
noncomputable def Net.hix (n:Net) (s:Str):Nat:=(zbL s (n.hs.map (·.name)) 0).getD 0
noncomputable def Net.pix (n:Net) (s:Str):Nat:=(zbL s (n.ps.map (·.name)) 0).getD 0
noncomputable def Net.asks (n:Net) (h:Nat):List Ask:=((n.hs[h]?).map (·.asks)).getD []
noncomputable def Net.pof (n:Net) (a:Ask):Option Nat:=a.purse.map n.pix
structure WA (n:Net) (i:Nat) (a:Ask):Prop where
 to:zbL a.to (n.hs.map (·.name)) 0 = some (n.hix a.to)
 up:i < n.hix a.to
 pu:∀ s,a.purse = some s->zbL s (n.ps.map (·.name)) 0 = some (n.pix s)
 tr:0<=a.tries
structure WN (n:Net):Prop where
 hl:n.hs.length<=4
 h1:0 < n.hs.length
 pl:n.ps.length<=100
 al:∀ h ∈ n.hs,h.asks.length<=100
 as:∀ i a,a ∈ n.asks i->WA n i a
 pr:∀ p ∈ n.ps,1<=p.per/\p.per<=1000000
theorem WA.lt {n:Net} {i:Nat} {a:Ask} (h:WA n i a):n.hix a.to < n.hs.length:=by
 have:=zgu h.to
 simp at this
 exact this
theorem WA.plt {n:Net} {i:Nat} {a:Ask} (h:WA n i a) {k:Nat} (e:n.pof a = some k):k < n.ps.length:=by
 unfold Net.pof at e
 cases q:a.purse with
 | none=>rw [q] at e;cases e
 | some s=>
  rw [q] at e
  cases e
  have:=zgu (h.pu s q)
  simp at this
  exact this
section
variable (kE kR:Addr)
theorem zgU {α:Type} (xs:List α) (nm:α->Str) (tl:α->List FT.T) {s:Str} {n:Nat} (h:zbL s (xs.map nm) 0 = some n) (hl:xs.length<=1000) (M:Mem):z9 kE kR [.tup (xs.map fun x=>.tup (.str (nm x) :: tl x)),.str s] M = .ok (nT n) M:=by
 unfold z9 ze4
 have c:zy (zi 0) qH (eOp ixT (yb 0) (eC (.int 0))) (xs.map fun x=>FT.T.tup (.str (nm x) :: tl x)) [none] M [] = .ok ((xs.map nm).map .str) M:=by
  rw [map_map]
  exact Ok.mapc (r:=fun x=>FT.T.tup (.str (nm x) :: tl x)) (fun σ=>∃ o,σ = [o]) _ ⟨_,rfl⟩ (by omega) (by
   rintro x σ hx ⟨o,rfl⟩
   exact ⟨[some (.tup (.str (nm x) :: tl x))],rfl,⟨_,rfl⟩,by simp_arith [and_self];rfl⟩)
 have k:zgv (.lst ((xs.map nm).map .str)) [.str s] M = .ok (nT n) M:=by
  unfold zgv yz
  dsimp only
  rw [if_pos,zkS,h]
  ·rw [Bool.and_eq_true]
   refine ⟨rfl,all_eq_true.mpr fun t ht=>?_⟩
   obtain ⟨y,_,rfl⟩:=mem_map.mp ht
   rfl
 have i1:zcx (.lst ((xs.map nm).map .str)) M = true:=rfl
 simp_arith [c,zci,i1,k]
variable {kE kR}
theorem zmg {n:Net} (wn:WN n) {i:Nat} {a:Ask} (w:WA n i a) (M:Mem):zar kE kR [zg n,zD a] M = .ok (nT (n.hix a.to)) M:=by
 unfold zar zfU zg zD
 have h:=fun M=>zgU kE kR n.hs (·.name) (fun h=>[.tup (h.asks.map zD)]) w.to (by have:=wn.hl;omega) M
 rw [show (n.hs.map fun h=>FT.T.tup (.str h.name :: [.tup (h.asks.map zD)])) = n.hs.map hsT from rfl] at h
 simp_arith [h]
variable {b r:Nat} {l:Lay} {M:Mem} {R:Run} {n:Net}
theorem qG {k:Addr} {x:Nat} {fs:List (Str × FT.T)} {f:Str} {t:FT.T} {M:Mem} (h:M[x]? = some (.ins k fs)) (e:fs.lookup f = some t):zaI [k] f (.ref x) M = .ok t M:=by
 unfold zaI
 simp only [h]
 rw [if_pos (by simp),e]
 rfl
theorem za1 {k:Addr} {x:Nat} {fs fs':List (Str × FT.T)} {f:Str} {y:FT.T} {M:Mem} (h:M[x]? = some (.ins k fs)) (e:zcT f y fs = fs') (hl:fs.length < 1000):zaJ [k] f (.ref x) y M = .ok () (M.set x (.ins k fs')):=by
 unfold zaJ
 simp only [h]
 rw [if_pos ⟨by simp,hl⟩,e]
theorem RunAt.net (h:RunAt kE kR (zg n) b r l M R):zaI [kR] "net" (.ref r) M = .ok (zg n) M:=qG h.run rfl
theorem RunAt.came (h:RunAt kE kR (zg n) b r l M R):zaI [kR] "came" (.ref r) M = .ok (nT R.came) M:=qG h.run rfl
theorem RunAt.errands (h:RunAt kE kR (zg n) b r l M R):zaI [kR] "errands" (.ref r) M = .ok (.ref l.a) M:=qG h.run rfl
theorem RunAt.putsF (h:RunAt kE kR (zg n) b r l M R):zaI [kR] "puts" (.ref r) M = .ok (.ref l.p) M:=qG h.run rfl
theorem RunAt.payF (h:RunAt kE kR (zg n) b r l M R):zaI [kR] "payments" (.ref r) M = .ok (.ref l.q) M:=qG h.run rfl
theorem RunAt.takenF (h:RunAt kE kR (zg n) b r l M R):zaI [kR] "taken" (.ref r) M = .ok (.ref l.t) M:=qG h.run rfl
theorem zo {α:Type} {f:α->FT.T} {xs:List α} {i:Nat} {x:α} (e:xs[i]? = some x):atI (xs.map f) (i:Int) = some (f x):=by rw [FT.za9,getElem?_map,e];rfl
theorem yR (h:RunAt kE kR (zg n) b r l M R) {i:Nat} {e:Er} (he:R.es[i]? = some e) (hh:e.house < n.hs.length):yA kE kR [.ref r,nT i] M = .ok (.tup ((n.asks e.house).map zD)) M:=by
 unfold yA zg4
 obtain ⟨x,hx,hc⟩:=h.at_e he
 have h1:=qG (f:="house") hc rfl
 have hn:n.hs[e.house]? = some n.hs[e.house]:=getElem?_eq_getElem hh
 have h2:=zo (f:=hsT) hn
 have h3:n.asks e.house = (n.hs[e.house]).asks:=by unfold Net.asks;rw [hn];rfl
 rw [h3]
 have hnt:=h.net
 unfold zg at hnt
 simp_arith [zj,hnt,h.errands,h.er,zo (f:=FT.T.ref) hx,h1,h2]
 rw [show hsT n.hs[e.house] = .tup [.str n.hs[e.house].name,.tup (n.hs[e.house].asks.map zD)] from rfl]
 simp_arith [and_self]
theorem zdq (h:RunAt kE kR (zg n) b r l M R) (wn:WN n) {i:Nat} {a:Ask} (w:WA n i a):zR kE kR [.ref r,zD a] M = .ok (onT (n.pof a)) M:=by
 unfold zR zfP zD
 have hnt:=h.net
 unfold zg at hnt
 cases q:a.purse with
 | none=>
  have i1:∀ M,isN (opS none) .non M = .ok (.bl true) M:=fun _=>rfl
  have e1:n.pof a = none:=by unfold Net.pof;rw [q];rfl
  rw [e1]
  simp_arith [eIf,i1]
  rfl
 | some s=>
  have i1:∀ M,isN (opS (some s)) .non M = .ok (.bl false) M:=fun _=>rfl
  have e1:n.pof a = some (n.pix s):=by unfold Net.pof;rw [q];rfl
  rw [e1]
  have hk:=zgU kE kR n.ps (·.name) (fun p=>[.str p.earns,.int p.per]) (w.pu s q) (by have:=wn.pl;omega) M
  rw [show (n.ps.map fun p=>FT.T.tup (.str p.name :: [.str p.earns,.int p.per])) = n.ps.map puT from rfl,show FT.T.str s = opS (some s) from rfl] at hk
  simp_arith [eIf,i1,zj,hnt,hk]
  rfl
noncomputable def Run.told (R:Run) (n:Net) (k:Nat):Int × Int:=((((R.puts.getD k []).length:Int) % (n.ps.getD k ⟨"","",1⟩).per),((R.puts.getD k []).length:Int) / (n.ps.getD k ⟨"","",1⟩).per - (R.taken.getD k 0:Nat))
theorem ziX (h:RunAt kE kR (zg n) b r l M R) (wn:WN n) (hp:R.puts.length = n.ps.length) {k:Nat} (hk:k < n.ps.length):qS kE kR [.ref r,nT k] M = .ok (.tup [.int (R.told n k).1,.int (R.told n k).2]) M:=by
 unfold qS zer
 have hpe:n.ps[k]? = some n.ps[k]:=getElem?_eq_getElem hk
 have hu:R.puts[k]? = some (R.puts[k]'(by omega)):=getElem?_eq_getElem _
 obtain ⟨x,hx,hc⟩:=h.at_p hu
 have ht:R.taken[k]? = some (R.taken[k]'(by have:=h.tl;omega)):=getElem?_eq_getElem _
 have hper:=wn.pr n.ps[k] (getElem_mem _)
 have hnt:=h.net
 unfold zg at hnt
 have h2:atI (n.ps.map puT) (k:Int) = some (.tup [.str n.ps[k].name,.str n.ps[k].earns,.int n.ps[k].per]):=zo (f:=puT) hpe
 have ln:qC (.ref x) M = .ok (.int (((R.puts[k]'(by omega)).length:Nat):Int)) M:=by
  unfold qC qZ yz
  simp only [hc]
  simp
 have dv:∀ i M,zcs (.int i) (.int n.ps[k].per) M = .ok (.int (i.fdiv n.ps[k].per)) M:=fun i M=>zdD (zhs 100 (by decide) (by omega) (by
  refine Nat.lt_of_le_of_lt (show n.ps[k].per.natAbs<=10 ^ 7 from by simp only [Nat.reducePow];omega) (Nat.pow_lt_pow_right (by decide) (by decide))))
 have md:∀ i M,zbz (.int i) (.int n.ps[k].per) M = .ok (.int (i.fmod n.ps[k].per)) M:=fun i M=>zeJ (by omega)
 have cm:zaR kE kR [.ref r,nT k] M = .ok (.int ((((R.puts[k]'(by omega)).length:Nat):Int).fdiv n.ps[k].per)) M:=by
  unfold zaR zet
  simp_arith [zj,h.putsF,h.pu,zo (f:=FT.T.ref) hx,ln,hnt,h2,dv]
 simp_arith [zj,h.putsF,h.pu,zo (f:=FT.T.ref) hx,ln,hnt,h2,md,cm,h.takenF,h.tk,zo (f:=nT) ht]
 unfold Run.told
 rw [getD_eq_getElem?_getD,getD_eq_getElem?_getD,getD_eq_getElem?_getD,hu,hpe,ht,Int.fmod_eq_emod_of_nonneg _ (by omega),Int.fdiv_eq_ediv_of_nonneg _ (by omega)]
 rfl
end
noncomputable def yw (h:Nat) (c:Option (Nat × Nat × Nat)):Er:=⟨h,c,.works,false,none,none⟩
noncomputable def Net.any (n:Net) (k:Nat):Bool:=(n.ps.getD k ⟨"","",1⟩).earns == ("any":Str)
noncomputable def Run.share (R:Run) (n:Net) (a:Ask) (tr x:Nat):Run:=match n.pof a with
 | none=>R
 | some k=>if tr = 1\/n.any k = true then R.setP k (R.puts.getD k [] ++ [x]) else R
noncomputable def zag (n:Net) (g:Run->Nat->Option (Nat × Nat × Nat)->Run) (R:Run) (num at' tr:Nat):Run:=match R.es[num]? with
 | none=>R
 | some e=>match (n.asks e.house)[at']? with
  | none=>R
  | some a=>g ((R.setE num { e with ph:=.waits at' tr,asked:=some R.es.length }).share n a tr R.es.length) (n.hix a.to) (some (num,at',tr))
noncomputable def yL (n:Net):Nat->Run->Nat->Option (Nat × Nat × Nat)->Run
 | 0,R,_,_=>R
 | f + 1,R,h,c=>if n.asks h = [] then R.push (yw h c) else zag n (yL n f) (R.push (yw h c)) R.es.length 0 1
structure SB (B:Nat) (R:Run):Prop where
 es:R.es.length<=B
 pu:∀ u ∈ R.puts,u.length<=B
 py:R.pays.length<=B
 tk:∀ v ∈ R.taken,v<=B
theorem SB.mono {B C:Nat} {R:Run} (h:SB B R) (hc:B<=C):SB C R:=⟨Nat.le_trans h.es hc,fun u hu=>Nat.le_trans (h.pu u hu) hc,Nat.le_trans h.py hc,fun v hv=>Nat.le_trans (h.tk v hv) hc⟩
theorem SB.push {B:Nat} {R:Run} (h:SB B R) (e:Er):SB (B + 1) (R.push e):=⟨by simp [Run.push];exact h.es,fun u hu=>Nat.le_succ_of_le (h.pu u hu),Nat.le_succ_of_le h.py,fun v hv=>Nat.le_succ_of_le (h.tk v hv)⟩
theorem SB.setE {B:Nat} {R:Run} (h:SB B R) (i:Nat) (e:Er):SB B (R.setE i e):=⟨by simp [Run.setE];exact h.es,h.pu,h.py,h.tk⟩
theorem mem_set {α:Type} {xs:List α} {k:Nat} {y v:α} (h:v ∈ xs.set k y):v ∈ xs\/v = y:=by
 obtain ⟨i,hi⟩:=mem_iff_getElem?.mp h
 rw [getElem?_set] at hi
 split at hi
 ·split at hi
  ·exact .inr (by cases hi;rfl)
  ·cases hi
 ·exact .inl (mem_of_getElem? hi)
theorem SB.share {B:Nat} {R:Run} (h:SB B R) (n:Net) (a:Ask) (tr x:Nat):SB (B + 1) (R.share n a tr x):=by
 unfold Run.share
 split
 ·exact h.mono (by omega)
 ·rename_i k _
  split
  ·refine ⟨Nat.le_succ_of_le h.es,fun u hu=>?_,Nat.le_succ_of_le h.py,fun v hv=>Nat.le_succ_of_le (h.tk v hv)⟩
   rcases mem_set hu with hu | rfl
   ·exact Nat.le_succ_of_le (h.pu u hu)
   ·rw [length_append,length_singleton]
    by_cases hk:k < R.puts.length
    ·have:=h.pu (R.puts.getD k []) (by rw [getD_eq_getElem?_getD,getElem?_eq_getElem hk];exact getElem_mem _)
     omega
    ·rw [getD_eq_getElem?_getD,getElem?_eq_none (by omega)]
     simp
  ·exact h.mono (by omega)
theorem zbB (R:Run) (n:Net) (a:Ask) (tr x:Nat):(R.share n a tr x).es = R.es/\(R.share n a tr x).puts.length = R.puts.length/\(R.share n a tr x).taken = R.taken/\(R.share n a tr x).pays = R.pays/\(R.share n a tr x).came = R.came:=by
 unfold Run.share
 split
 ·exact ⟨rfl,rfl,rfl,rfl,rfl⟩
 ·split
  ·exact ⟨rfl,by simp [Run.setP],rfl,rfl,rfl⟩
  ·exact ⟨rfl,rfl,rfl,rfl,rfl⟩
section
variable {kE kR:Addr} {n:Net} {b r:Nat}
noncomputable def Lv (kE kR:Addr) (n:Net) (b r:Nat) (R':Run) (M:Mem):FT.T->Mem->Prop:=fun t M'=>t = .non/\Kp b M M'/\∃ l',RunAt kE kR (zg n) b r l' M' R'
theorem any_eq {k:Nat} {p:Pu} (h:n.ps[k]? = some p) (M:Mem):eqA (.str p.earns) (.str "any") M = .ok (.bl (n.any k)) M:=by
 unfold Net.any
 rw [getD_eq_getElem?_getD,h]
 rfl
theorem zkn (wn:WN n) {q1 q2:List FT.T->Mem->Out FT.T} {g:Run->Nat->Option (Nat × Nat × Nat)->Run} {B:Nat} (hB:B < 100000) {num at' tr:Nat} {e:Er} {a:Ask} {l:Lay} {M:Mem} {R:Run}
  (h:RunAt kE kR (zg n) b r l M R) (sb:SB B R) (hp:R.puts.length = n.ps.length) (he:R.es[num]? = some e) (hh:e.house < n.hs.length) (ha:(n.asks e.house)[at']? = some a)
  (hg:∀ (l:Lay) (M:Mem) (R':Run),R' = (R.setE num { e with ph:=.waits at' tr,asked:=some R.es.length }).share n a tr R.es.length->RunAt kE kR (zg n) b r l M R'->Ok (q2 [.ref r,nT (n.hix a.to),clT (some (num,at',tr))] M) (Lv kE kR n b r (g R' (n.hix a.to) (some (num,at',tr))) M)) :
  Ok (yh 4 7 (zbh kE kR q1 q2) [.ref r,nT num,nT at',nT tr] M) (Lv kE kR n b r (zag n g R num at' tr) M):=by
 have w:=wn.as e.house a (mem_of_getElem? ha)
 have e0:zag n g R num at' tr = g ((R.setE num { e with ph:=.waits at' tr,asked:=some R.es.length }).share n a tr R.es.length) (n.hix a.to) (some (num,at',tr)):=by
  unfold zag
  rw [he]
  dsimp only
  rw [ha]
 rw [e0]
 refine qu rfl ?_
 unfold zbh
 obtain ⟨x,hx,hc⟩:=h.at_e he
 have ln:qC (.ref l.a) M = .ok (nT R.es.length) M:=by
  unfold qC qZ yz
  simp only [h.er]
  simp [h.el]
 obtain ⟨h1,bx⟩:=h.setE hx he { e with ph:=.waits at' tr }
 have s1:=za1 (f:="state") (y:=.tup [.str "waits",nT at',nT tr]) (fs':=erF { e with ph:=.waits at' tr }) hc rfl (by simp [erF])
 have he1:(R.setE num { e with ph:=.waits at' tr }).es[num]? = some { e with ph:=.waits at' tr }:=by
  show (R.es.set num _)[num]? = _
  rw [getElem?_set,if_pos rfl,if_pos (List.getElem?_eq_some_iff.mp he).1]
 obtain ⟨h2,_⟩:=h1.setE hx he1 { e with ph:=.waits at' tr,asked:=some R.es.length }
 have ss:(R.setE num { e with ph:=.waits at' tr }).setE num { e with ph:=.waits at' tr,asked:=some R.es.length } = R.setE num { e with ph:=.waits at' tr,asked:=some R.es.length }:=by
  show ({ R with es:=(R.es.set num _).set num _ }:Run) = _
  rw [List.set_set]
  rfl
 rw [ss] at h2
 have hc1:(M.set x (.ins kE (erF { e with ph:=.waits at' tr })))[x]? = some (.ins kE (erF { e with ph:=.waits at' tr })):=get_set hc
 have s2:=za1 (f:="asked") (y:=nT R.es.length) (fs':=erF { e with ph:=.waits at' tr,asked:=some R.es.length }) hc1 rfl (by simp [erF])
 simp_arith [yR h he hh,zo (f:=zD) ha,zj,h.errands,ln,yD,h.er,zo (f:=FT.T.ref) hx,s1,h1.errands,h1.er,s2,zdq h2 wn w]
 generalize hM2:(M.set x (.ins kE (erF { e with ph:=.waits at' tr }))).set x (.ins kE (erF { e with ph:=.waits at' tr,asked:=some R.es.length })) = M2 at h2 ⊢
 have k2:Kp b M M2:=by rw [← hM2];exact (Kp.set _ _ bx).trans (Kp.set _ _ bx)
 have hnt:=h2.net
 have fin:∀ (l3:Lay) (M3:Mem),Kp b M M3->RunAt kE kR (zg n) b r l3 M3 ((R.setE num { e with ph:=.waits at' tr,asked:=some R.es.length }).share n a tr R.es.length)->
   Ok ((zar kE kR [zg n,zD a] M3).bind fun y M=>(q2 [.ref r,y,.tup [nT num,nT at',nT tr]] M).bind fun _ M=>.ok .non M) (Lv kE kR n b r (g ((R.setE num { e with ph:=.waits at' tr,asked:=some R.es.length }).share n a tr R.es.length) (n.hix a.to) (some (num,at',tr))) M):=by
  intro l3 M3 k3 h3
  rw [zmg wn w]
  simp_arith [and_self]
  refine Ok.bind (hg l3 M3 _ rfl h3) ?_
  rintro t M4 ⟨rfl,k4,l4,h4⟩
  try simp_arith [and_self]
  exact Ok.ret ⟨rfl,k3.trans k4,l4,h4⟩
 cases q:n.pof a with
 | none=>
  have i1:∀ M,zbu (onT none) .non M = .ok (.bl false) M:=fun _=>rfl
  have e1:(R.setE num { e with ph:=.waits at' tr,asked:=some R.es.length }).share n a tr R.es.length = R.setE num { e with ph:=.waits at' tr,asked:=some R.es.length }:=by unfold Run.share;rw [q]
  simp_arith [i1,hnt]
  exact fin l M2 k2 (by rw [e1];exact h2)
 | some k=>
  have hk:=w.plt q
  rw [show onT (some k) = .int (k:Int) from rfl]
  have i1:∀ M,zbu (.int (k:Int)) .non M = .ok (.bl true) M:=fun _=>rfl
  have hu:(R.setE num { e with ph:=.waits at' tr,asked:=some R.es.length }).puts[k]? = some (R.puts[k]'(by omega)):=getElem?_eq_getElem (show k < R.puts.length by omega)
  obtain ⟨y,hy,hcy⟩:=h2.at_p hu
  have gd:R.puts.getD k [] = R.puts[k]'(by omega):=by rw [getD_eq_getElem?_getD,getElem?_eq_getElem (show k < R.puts.length by omega)];rfl
  obtain ⟨h3,by3⟩:=h2.setP hy hu (R.puts.getD k [] ++ [R.es.length])
  have ap:=yV (t:=nT R.es.length) hcy (by rw [length_map,sizeLine_eq];have:=sb.pu _ (getElem_mem (show k < R.puts.length by omega));omega)
  have hps:n.ps[k]? = some n.ps[k]:=getElem?_eq_getElem hk
  have hpa:atI (n.ps.map puT) (k:Int) = some (.tup [.str n.ps[k].name,.str n.ps[k].earns,.int n.ps[k].per]):=zo (f:=puT) hps
  have lc:yG (.ref y) M2 = .ok (.ref y) M2:=qJ hcy
  unfold zg at hnt
  by_cases hs:tr = 1\/n.any k = true
  ·have e1:(R.setE num { e with ph:=.waits at' tr,asked:=some R.es.length }).share n a tr R.es.length = (R.setE num { e with ph:=.waits at' tr,asked:=some R.es.length }).setP k (R.puts.getD k [] ++ [R.es.length]):=by
    unfold Run.share
    rw [q]
    dsimp only
    rw [if_pos hs]
    rfl
   have h3':RunAt kE kR (zg n) b r l (M2.set y (.lst (((R.puts[k]'(by omega)).map nT) ++ [nT R.es.length]))) ((R.setE num { e with ph:=.waits at' tr,asked:=some R.es.length }).share n a tr R.es.length):=by
    rw [e1,gd]
    rw [gd,map_append] at h3
    exact h3
   have k3:Kp b M (M2.set y (.lst (((R.puts[k]'(by omega)).map nT) ++ [nT R.es.length]))):=k2.trans (Kp.set _ _ by3)
   have fn:=fin l _ k3 h3'
   have hn3:=h3'.net
   by_cases z:tr = 1
   ·have zt:((tr:Int) == 1) = true:=by rw [z];rfl
    simp_arith [i1,zt,h2.putsF,h2.pu,zo (f:=FT.T.ref) hy,lc,ap,hn3]
    exact fn
   ·have zt:((tr:Int) == 1) = false:=by simp;omega
    have ha':n.any k = true:=hs.resolve_left z
    simp_arith [i1,zt,hnt,hpa,any_eq hps,ha',h2.putsF,h2.pu,zo (f:=FT.T.ref) hy,lc,ap,hn3]
    exact fn
  ·have e1:(R.setE num { e with ph:=.waits at' tr,asked:=some R.es.length }).share n a tr R.es.length = R.setE num { e with ph:=.waits at' tr,asked:=some R.es.length }:=by
    unfold Run.share
    rw [q]
    dsimp only
    rw [if_neg hs]
   have zt:((tr:Int) == 1) = false:=by
    have:¬ tr = 1:=fun z=>hs (.inl z)
    simp;omega
   have ha':n.any k = false:=by
    cases z:n.any k with
    | false=>rfl
    | true=>exact absurd (.inr z) hs
   have fn:=fin l M2 k2 (by rw [e1];exact h2)
   unfold zg at fn
   simp_arith [i1,zt,hnt,hpa,any_eq hps,ha']
   exact fn
theorem zcD (R:Run) (e:Er):(R.push e).es[R.es.length]? = some e:=List.getElem?_concat_length
theorem zit (wn:WN n):∀ (f m:Nat),2 * f<=m->∀ {B:Nat} {h:Nat} {c:Option (Nat × Nat × Nat)} {l:Lay} {M:Mem} {R:Run},B + 2 * f < 100000->RunAt kE kR (zg n) b r l M R->b<=M.length->SB B R->R.puts.length = n.ps.length->h < n.hs.length->n.hs.length<=h + f->
  Ok ((qi kE kR m).2 [.ref r,nT h,clT c] M) (Lv kE kR n b r (yL n f R h c) M)
 | 0,m,_,B,h,c,l,M,R,_,_,_,_,_,hh,hf=>absurd hh (by omega)
 | f + 1,0,hm,B,h,c,l,M,R,_,_,_,_,_,hh,hf=>absurd hm (by omega)
 | f + 1,m + 1,hm,B,h,c,l,M,R,hB,ra,hbM,sb,hp,hh,hf=>by
  show Ok (yh 3 4 (za6 kE kR (qi kE kR m).1 (qi kE kR m).2) [.ref r,nT h,clT c] M) _
  refine qu rfl ?_
  unfold za6
  have i0:zV kE kR [.ref M.length,nT h,clT c] (M ++ [.ins kE []]) = .ok .non (M ++ [.ins kE (erF (yw h c))]):=by
   unfold zV zd5
   have st:∀ (fs fs':List (Str × FT.T)) (f:Str) (y:FT.T),zcT f y fs = fs'->fs.length < 1000->zaJ [kE] f (.ref M.length) y (M ++ [.ins kE fs]) = .ok () (M ++ [.ins kE fs']):=fun fs fs' f y e hl=>by
    rw [za1 (x:=M.length) yN e hl]
    congr 1
    rw [set_append_right _ _ (Nat.le_refl _),Nat.sub_self]
    rfl
   simp_arith [yD,st [] [("house",nT h)] "house" (nT h) rfl (by simp),st [("house",nT h)] [("house",nT h),("caller",clT c)] "caller" (clT c) rfl (by simp),st [("house",nT h),("caller",clT c)] [("house",nT h),("caller",clT c),("state",.tup [.str "works"])] "state" (.tup [.str "works"]) rfl (by simp),st [("house",nT h),("caller",clT c),("state",.tup [.str "works"])] [("house",nT h),("caller",clT c),("state",.tup [.str "works"]),("is_lost",.bl false)] "is_lost" (.bl false) rfl (by simp),st [("house",nT h),("caller",clT c),("state",.tup [.str "works"]),("is_lost",.bl false)] [("house",nT h),("caller",clT c),("state",.tup [.str "works"]),("is_lost",.bl false),("asked",.non)] "asked" .non rfl (by simp),st [("house",nT h),("caller",clT c),("state",.tup [.str "works"]),("is_lost",.bl false),("asked",.non)] (erF (yw h c)) "stood" .non rfl (by simp)]
  have ra1:=ra.push hbM (yw h c)
  have er1:(M ++ [Cell.ins kE (erF (yw h c))])[l.a]? = some (.lst (l.es.map .ref)):=by rw [getElem?_append_left (qK ra.er)];exact ra.er
  have ap:=yV (t:=.ref M.length) er1 (by rw [length_map,sizeLine_eq,ra.el];have:=sb.es;omega)
  rw [show l.es.map FT.T.ref ++ [.ref M.length] = (l.es ++ [M.length]).map .ref from by simp] at ap
  have kp:Kp b M ((M ++ [Cell.ins kE (erF (yw h c))]).set l.a (.lst ((l.es ++ [M.length]).map .ref))):=(Kp.app _ _ hbM).trans (Kp.set _ _ (ra.lo (l.a,.lst (l.es.map .ref)) (.tail _ (.head _))))
  have mk:zcy kE (zV kE kR) (zb (yb 1) (zb (yb 2) zd)) [some (.ref r),some (nT h),some (clT c),none] M = .ok (.ref M.length) (M ++ [.ins kE (erF (yw h c))]):=by
   simp_arith [zcy,i0]
   rfl
  simp_arith [zj,ra.errands,qJ ra.er,mk,ap]
  generalize hM1:(M ++ [Cell.ins kE (erF (yw h c))]).set l.a (.lst ((l.es ++ [M.length]).map .ref)) = M1 at ra1 kp ⊢
  have ln:qC (.ref l.a) M1 = .ok (.int ((R.es.length:Int) + 1)) M1:=by
   unfold qC qZ yz
   have:=ra1.er
   simp only at this
   simp only [this]
   simp [ra.el]
  have sub1:(R.es.length:Int) + 1 - 1 = (R.es.length:Int):=by omega
  have hn1:(R.push (yw h c)).es[R.es.length]? = some (yw h c):=zcD R _
  have as1:=yR ra1 hn1 hh
  simp_arith [ra1.errands,ln,sub1,as1]
  by_cases h0:n.asks h = []
  ·have e1:yL n (f + 1) R h c = R.push (yw h c):=by unfold yL;rw [if_pos h0]
   rw [e1]
   have:(yw h c).house = h:=rfl
   rw [this,h0]
   simp_arith [and_self]
   exact Ok.ret ⟨rfl,kp,_,ra1⟩
  ·have e1:yL n (f + 1) R h c = zag n (yL n f) (R.push (yw h c)) R.es.length 0 1:=by rw [yL,if_neg h0]
   rw [e1]
   obtain ⟨a,as,hq⟩:=List.exists_cons_of_ne_nil h0
   have ha:(n.asks (yw h c).house)[0]? = some a:=by show (n.asks h)[0]? = _;rw [hq];rfl
   have w:=wn.as h a (by rw [hq];exact .head _)
   have hlen:decide ((0:Int) < (((n.asks (yw h c).house).map zD).length:Int)) = true:=decide_eq_true (by
    rw [length_map]
    show (0:Int) < ((n.asks h).length:Int)
    rw [hq];simp)
   simp_arith [hlen]
   obtain ⟨m',rfl⟩:∃ m',m = m' + 1:=⟨m - 1,by omega⟩
   refine Ok.bind (zkn wn (q1:=(qi kE kR m').1) (q2:=(qi kE kR m').2) (g:=yL n f) (B:=B + 1) (by omega) ra1 (sb.push _) hp hn1 hh ha ?_) ?_
   ·intro l3 M3 R3 e3 ra3
    have hM3:b<=M3.length:=Nat.le_trans (ra3.lo _ (.head _)) (Nat.le_of_lt (qK ra3.run))
    have sl:=zbB ((R.push (yw h c)).setE R.es.length { yw h c with ph:=.waits 0 1,asked:=some (R.push (yw h c)).es.length }) n a 1 (R.push (yw h c)).es.length
    refine zit wn f m' (by omega) (B:=B + 2) (by omega) ra3 hM3 ?_ ?_ (by exact w.lt) (by have:=w.up;omega)
    ·rw [e3]
     exact ((sb.push _).setE _ _).share n a 1 _
    ·rw [e3,sl.2.1]
     exact hp
   ·rintro t M2 ⟨rfl,k2,l2,h2⟩
    try simp_arith [and_self]
    exact Ok.ret ⟨rfl,kp.trans k2,l2,h2⟩
end
noncomputable def zbN (n:Net) (g:Run->Nat->Str->Run) (R:Run) (c:Nat × Nat × Nat) (w:Str):Run:=match R.es[c.1]? with
 | none=>R
 | some e=>if (w == ("well":Str)) = true/\c.2.1 + 1 < (n.asks e.house).length then zag n (yL n 4) R c.1 (c.2.1 + 1) 1
  else if (w == ("well":Str)) = true\/((w == ("spent":Str)) = true/\((n.asks e.house)[c.2.1]?).any (·.hears) = true) then g R c.1 w
  else R.setE c.1 { e with ph:=.stands c.2.1 c.2.2,stood:=some R.came }
noncomputable def zai (n:Net):Nat->Run->Nat->Str->Run
 | 0,R,_,_=>R
 | f + 1,R,i,w=>match R.es[i]? with
  | none=>R
  | some e=>match e.caller with
   | none=>R.setE i { e with ph:=.ended w }
   | some c=>if e.lost = true then R.setE i { e with ph:=.ended w } else zbN n (zai n f) (R.setE i { e with ph:=.ended w }) c w
def zdR (n:Net) (e:Er):Prop:=match e.ph with
 | .waits a t=>a < (n.asks e.house).length/\1<=t
 | .stands a t=>a < (n.asks e.house).length/\e.stood.isSome = true/\1<=t
 | _=>True
structure RI (n:Net) (R:Run):Prop where
 hs:∀ (i:Nat) (e:Er),R.es[i]? = some e->e.house < n.hs.length
 cl:∀ (i:Nat) (e:Er) (c:Nat × Nat × Nat),R.es[i]? = some e->e.caller = some c->c.1 < i/\∃ ce,R.es[c.1]? = some ce/\ce.house < e.house/\c.2.1 < (n.asks ce.house).length
 ph:∀ (i:Nat) (e:Er),R.es[i]? = some e->zdR n e
 pl:R.puts.length = n.ps.length
theorem zah {es:List Er} {i j:Nat} {e' q:Er} (h:(es.set i e')[j]? = some q):(j = i/\q = e'/\i < es.length)\/(j ≠ i/\es[j]? = some q):=by
 rw [getElem?_set] at h
 split at h
 ·rename_i z
  split at h
  ·cases h;exact .inl ⟨z.symm,rfl,by omega⟩
  ·cases h
 ·rename_i z
  exact .inr ⟨fun y=>z y.symm,h⟩
theorem RI.setE {n:Net} {R:Run} (h:RI n R) {i:Nat} {e e':Er} (he:R.es[i]? = some e) (h1:e'.house = e.house) (h2:e'.caller = e.caller) (h3:zdR n e'):RI n (R.setE i e'):=by
 have fwd:∀ {j:Nat} {q:Er},R.es[j]? = some q->∃ q',(R.setE i e').es[j]? = some q'/\q'.house = q.house:=fun {j q} hq=>by
  show ∃ q',(R.es.set i e')[j]? = some q'/\_
  rw [getElem?_set]
  by_cases z:i = j
  ·rw [if_pos z,if_pos (List.getElem?_eq_some_iff.mp he).1]
   subst z
   rw [he] at hq
   cases hq
   exact ⟨e',rfl,h1⟩
  ·rw [if_neg z];exact ⟨q,hq,rfl⟩
 refine ⟨fun j q hq=>?_,fun j q c hq hc=>?_,fun j q hq=>?_,h.pl⟩
 ·rcases zah hq with ⟨rfl,rfl,_⟩ | ⟨_,hq⟩
  ·rw [h1];exact h.hs _ _ he
  ·exact h.hs _ _ hq
 ·rcases zah hq with ⟨rfl,rfl,_⟩ | ⟨_,hq⟩
  ·rw [h2] at hc
   obtain ⟨a,ce,b1,b2,b3⟩:=h.cl _ _ _ he hc
   obtain ⟨q',d1,d2⟩:=fwd b1
   exact ⟨a,q',d1,by rw [d2,h1];exact b2,by rw [d2];exact b3⟩
  ·obtain ⟨a,ce,b1,b2,b3⟩:=h.cl _ _ _ hq hc
   obtain ⟨q',d1,d2⟩:=fwd b1
   exact ⟨a,q',d1,by rw [d2];exact b2,by rw [d2];exact b3⟩
 ·rcases zah hq with ⟨rfl,rfl,_⟩ | ⟨_,hq⟩
  ·exact h3
  ·exact h.ph _ _ hq
section
variable {kE kR:Addr} {n:Net} {b r:Nat}
theorem zfX (w s:Str) (M:Mem):eqA (.str w) (.str s) M = .ok (.bl (w == s)) M:=rfl
theorem zmm (w s:Str) (M:Mem):neA (.str w) (.str s) M = .ok (.bl (!(w == s))) M:=rfl
theorem ziV (wn:WN n) {B:Nat} (hB:B < 90000) {num at' tr:Nat} {e:Er} {a:Ask} {l:Lay} {M:Mem} {R:Run}
  (h:RunAt kE kR (zg n) b r l M R) (sb:SB B R) (hp:R.puts.length = n.ps.length) (he:R.es[num]? = some e) (hh:e.house < n.hs.length) (ha:(n.asks e.house)[at']? = some a) :
  Ok (zaa kE kR [.ref r,nT num,nT at',nT tr] M) (Lv kE kR n b r (zag n (yL n 4) R num at' tr) M):=by
 show Ok (yh 4 7 (zbh kE kR (qi kE kR 11).1 (qi kE kR 11).2) [.ref r,nT num,nT at',nT tr] M) _
 have w:=wn.as e.house a (mem_of_getElem? ha)
 refine zkn wn (B:=B) (by omega) h sb hp he hh ha ?_
 intro l3 M3 R3 e3 ra3
 have hM3:b<=M3.length:=Nat.le_trans (ra3.lo _ (.head _)) (Nat.le_of_lt (qK ra3.run))
 have sl:=zbB (R.setE num { e with ph:=.waits at' tr,asked:=some R.es.length }) n a tr R.es.length
 refine zit wn 4 11 (by omega) (B:=B + 1) (by omega) ra3 hM3 (by rw [e3];exact (sb.setE _ _).share n a tr _) (by rw [e3,sl.2.1];exact hp) w.lt (by have:=wn.hl;omega)
theorem zjj (wn:WN n) {q1 q2:List FT.T->Mem->Out FT.T} {g:Run->Nat->Str->Run} {B:Nat} (hB:B < 90000) {c:Nat × Nat × Nat} {w:Str} {e:Er} {l:Lay} {M:Mem} {R:Run}
  (h:RunAt kE kR (zg n) b r l M R) (sb:SB B R) (ri:RI n R) (he:R.es[c.1]? = some e) (hat:c.2.1 < (n.asks e.house).length)
  (hg:Ok (q1 [.ref r,nT c.1,.str w] M) (Lv kE kR n b r (g R c.1 w) M)) :
  Ok (yh 3 6 (zes kE kR q1 q2) [.ref r,clT (some c),.str w] M) (Lv kE kR n b r (zbN n g R c w) M):=by
 have hh:=ri.hs _ _ he
 generalize hR:zbN n g R c w = R'
 have e0:R' = if (w == ("well":Str)) = true/\c.2.1 + 1 < (n.asks e.house).length then zag n (yL n 4) R c.1 (c.2.1 + 1) 1
  else if (w == ("well":Str)) = true\/((w == ("spent":Str)) = true/\((n.asks e.house)[c.2.1]?).any (·.hears) = true) then g R c.1 w
  else R.setE c.1 { e with ph:=.stands c.2.1 c.2.2,stood:=some R.came }:=by
  rw [← hR]
  unfold zbN
  rw [he]
 obtain ⟨x,hx,hc⟩:=h.at_e he
 have ha:(n.asks e.house)[c.2.1]? = some (n.asks e.house)[c.2.1]:=getElem?_eq_getElem hat
 have haa:atI ((n.asks e.house).map zD) (c.2.1:Int) = some (.tup [.str (n.asks e.house)[c.2.1].to,.int (n.asks e.house)[c.2.1].tries,opS (n.asks e.house)[c.2.1].purse,.str (n.asks e.house)[c.2.1].word,.bl (n.asks e.house)[c.2.1].hears,.bl (n.asks e.house)[c.2.1].sure]):=zo (f:=zD) ha
 have a4:∀ (t0 t1 t2 t3 t4 t5:FT.T),atI [t0,t1,t2,t3,t4,t5] 4 = some t4:=fun _ _ _ _ _ _=>rfl
 refine qu rfl ?_
 unfold zes
 rw [show clT (some c) = .tup [nT c.1,nT c.2.1,nT c.2.2] from rfl]
 have hl:(((n.asks e.house).map zD).length:Int) = ((n.asks e.house).length:Int):=by rw [length_map]
 simp_arith [yR h he hh,zfX,hl]
 have s1:=za1 (f:="state") (y:=.tup [.str "stands",nT c.2.1,nT c.2.2]) (fs':=erF { e with ph:=.stands c.2.1 c.2.2 }) hc rfl (by simp [erF])
 obtain ⟨h1,bx⟩:=h.setE hx he { e with ph:=.stands c.2.1 c.2.2 }
 have hc1:(M.set x (.ins kE (erF { e with ph:=.stands c.2.1 c.2.2 })))[x]? = some (.ins kE (erF { e with ph:=.stands c.2.1 c.2.2 })):=get_set hc
 have s2:=za1 (f:="stood") (y:=nT R.came) (fs':=erF { e with ph:=.stands c.2.1 c.2.2,stood:=some R.came }) hc1 rfl (by simp [erF])
 have he1:(R.setE c.1 { e with ph:=.stands c.2.1 c.2.2 }).es[c.1]? = some { e with ph:=.stands c.2.1 c.2.2 }:=by
  show (R.es.set c.1 _)[c.1]? = _
  rw [getElem?_set,if_pos rfl,if_pos (List.getElem?_eq_some_iff.mp he).1]
 obtain ⟨h2,_⟩:=h1.setE hx he1 { e with ph:=.stands c.2.1 c.2.2,stood:=some R.came }
 have ss:(R.setE c.1 { e with ph:=.stands c.2.1 c.2.2 }).setE c.1 { e with ph:=.stands c.2.1 c.2.2,stood:=some R.came } = R.setE c.1 { e with ph:=.stands c.2.1 c.2.2,stood:=some R.came }:=by
  show ({ R with es:=(R.es.set c.1 _).set c.1 _ }:Run) = _
  rw [List.set_set]
  rfl
 rw [ss] at h2
 have k2:Kp b M ((M.set x (.ins kE (erF { e with ph:=.stands c.2.1 c.2.2 }))).set x (.ins kE (erF { e with ph:=.stands c.2.1 c.2.2,stood:=some R.came }))):=(Kp.set _ _ bx).trans (Kp.set _ _ bx)
 have ca:zaI [kR] "came" (.ref r) (M.set x (.ins kE (erF { e with ph:=.stands c.2.1 c.2.2 }))) = .ok (nT R.came) (M.set x (.ins kE (erF { e with ph:=.stands c.2.1 c.2.2 }))):=h1.came
 by_cases hw:(w == ("well":Str)) = true
 ·by_cases hl2:c.2.1 + 1 < (n.asks e.house).length
  ·rw [if_pos ⟨hw,hl2⟩] at e0
   rw [e0]
   have d1:decide ((c.2.1:Int) + 1 < ((n.asks e.house).length:Int)) = true:=decide_eq_true (by omega)
   simp_arith [hw,d1]
   refine Ok.bind (ziV wn hB h sb ri.pl he hh (at':=c.2.1 + 1) (tr:=1) (getElem?_eq_getElem hl2)) ?_
   rintro t M2 ⟨rfl,k2,l2,h2⟩
   try simp_arith [and_self]
   exact Ok.ret ⟨rfl,k2,l2,h2⟩
  ·rw [if_neg fun z=>hl2 z.2,if_pos (.inl hw)] at e0
   rw [e0]
   have d1:decide ((c.2.1:Int) + 1 < ((n.asks e.house).length:Int)) = false:=decide_eq_false (by omega)
   simp_arith [hw,d1]
   refine Ok.bind hg ?_
   rintro t M2 ⟨rfl,k2,l2,h2⟩
   try simp_arith [and_self]
   exact Ok.ret ⟨rfl,k2,l2,h2⟩
 ·have hw':(w == ("well":Str)) = false:=by simpa using hw
  rw [if_neg fun z=>hw z.1] at e0
  by_cases hs:(w == ("spent":Str)) = true
  ·by_cases hh2:(n.asks e.house)[c.2.1].hears = true
   ·rw [if_pos (.inr ⟨hs,by rw [ha];exact hh2⟩)] at e0
    rw [e0]
    simp_arith [hw',hs,haa,a4,hh2]
    refine Ok.bind hg ?_
    rintro t M2 ⟨rfl,k2,l2,h2⟩
    try simp_arith [and_self]
    exact Ok.ret ⟨rfl,k2,l2,h2⟩
   ·have hh3:(n.asks e.house)[c.2.1].hears = false:=by simpa using hh2
    rw [if_neg (by
     rintro (z | ⟨_,z⟩)
     ·exact hw z
     ·rw [ha] at z;exact hh2 z)] at e0
    rw [e0]
    simp_arith [hw',hs,haa,a4,hh3,yD,zj,h.errands,h.er,zo (f:=FT.T.ref) hx,s1,ca,h1.errands,h1.er,s2]
    exact Ok.ret ⟨rfl,k2,l,h2⟩
  ·have hs':(w == ("spent":Str)) = false:=by simpa using hs
   rw [if_neg (by
    rintro (z | ⟨z,_⟩)
    ·exact hw z
    ·exact hs z)] at e0
   rw [e0]
   simp_arith [hw',hs',yD,zj,h.errands,h.er,zo (f:=FT.T.ref) hx,s1,ca,h1.errands,h1.er,s2]
   exact Ok.ret ⟨rfl,k2,l,h2⟩
theorem zig (wn:WN n):∀ (f m:Nat),2 * f<=m->∀ {B i:Nat} {w:Str} {e:Er} {l:Lay} {M:Mem} {R:Run},B < 90000->RunAt kE kR (zg n) b r l M R->SB B R->RI n R->R.es[i]? = some e->e.house < f->
  Ok ((qq kE kR m).1 [.ref r,nT i,.str w] M) (Lv kE kR n b r (zai n f R i w) M)
 | 0,m,_,B,i,w,e,l,M,R,_,_,_,_,_,hf=>absurd hf (by omega)
 | f + 1,0,hm,B,i,w,e,l,M,R,_,_,_,_,_,hf=>absurd hm (by omega)
 | f + 1,m + 1,hm,B,i,w,e,l,M,R,hB,h,sb,ri,he,hf=>by
  show Ok (yh 3 4 (zbO kE kR (qq kE kR m).1 (qq kE kR m).2) [.ref r,nT i,.str w] M) _
  refine qu rfl ?_
  unfold zbO
  obtain ⟨x,hx,hc⟩:=h.at_e he
  have s1:=za1 (f:="state") (y:=.tup [.str "ended",.str w]) (fs':=erF { e with ph:=.ended w }) hc rfl (by simp [erF])
  obtain ⟨h1,bx⟩:=h.setE hx he { e with ph:=.ended w }
  have hc1:(M.set x (.ins kE (erF { e with ph:=.ended w })))[x]? = some (.ins kE (erF { e with ph:=.ended w })):=get_set hc
  have f1:=qG (f:="caller") hc1 rfl
  have f2:=qG (f:="is_lost") hc1 rfl
  have k1:Kp b M (M.set x (.ins kE (erF { e with ph:=.ended w }))):=Kp.set _ _ bx
  generalize hR:zai n (f + 1) R i w = R'
  simp_arith [zj,h.errands,h.er,zo (f:=FT.T.ref) hx,yD,s1,f1]
  generalize hM1:M.set x (.ins kE (erF { e with ph:=.ended w })) = M1 at h1 f1 f2 k1 ⊢
  cases q:e.caller with
  | none=>
   have e1:zai n (f + 1) R i w = R.setE i { e with ph:=.ended w }:=by unfold zai;rw [he];dsimp only;rw [q]
   have i1:∀ M,zbu (clT none) .non M = .ok (.bl false) M:=fun _=>rfl
   rw [← hR,e1]
   have q':({ e with ph:=.ended w }:Er).caller = none:=q
   rw [q] at f1
   simp_arith [i1]
   exact Ok.ret ⟨rfl,k1,l,h1⟩
  | some c=>
   have i1:∀ M,zbu (clT (some c)) .non M = .ok (.bl true) M:=fun _=>rfl
   cases ql:e.lost with
   | true=>
    have e1:zai n (f + 1) R i w = R.setE i { e with ph:=.ended w }:=by unfold zai;rw [he];dsimp only;rw [q];dsimp only;rw [if_pos ql]
    rw [← hR,e1]
    rw [ql] at f2
    simp_arith [i1,f2]
    exact Ok.ret ⟨rfl,k1,l,h1⟩
   | false=>
    have e1:zai n (f + 1) R i w = zbN n (zai n f) (R.setE i { e with ph:=.ended w }) c w:=by rw [zai,he];dsimp only;rw [q];dsimp only;rw [if_neg (by rw [ql];simp)]
    rw [← hR,e1]
    rw [ql] at f2
    rw [q] at f1
    have ri1:RI n (R.setE i { e with ph:=.ended w }):=ri.setE he rfl rfl True.intro
    have hei:(R.setE i { e with ph:=.ended w }).es[i]? = some { e with ph:=.ended w }:=by
     show (R.es.set i _)[i]? = _
     rw [getElem?_set,if_pos rfl,if_pos (List.getElem?_eq_some_iff.mp he).1]
    obtain ⟨_,ce,c1,c2,c3⟩:=ri1.cl i _ c hei q
    obtain ⟨m',rfl⟩:∃ m',m = m' + 1:=⟨m - 1,by omega⟩
    simp_arith [i1,f2,f1]
    refine Ok.bind (zjj wn (q1:=(qq kE kR m').1) (q2:=(qq kE kR m').2) (g:=zai n f) hB h1 (sb.setE _ _) ri1 c1 c3 ?_) ?_
    ·exact zig wn f m' (by omega) hB h1 (sb.setE _ _) ri1 c1 (by have c2':ce.house < e.house:=c2;omega)
    ·rintro t M2 ⟨rfl,k2,l2,h2⟩
     try simp_arith [and_self]
     exact Ok.ret ⟨rfl,k1.trans k2,l2,h2⟩
end
inductive Evt where
 | fresh
 | ends (i:Nat) (w:Str)
 | lost (i:Nat)
 | again (i:Nat)
 | up (i:Nat)
noncomputable def evT:Evt->FT.T
 | .fresh=>.tup [.str "fresh"]
 | .ends i w=>.tup [.str "ends",nT i,.str w]
 | .lost i=>.tup [.str "lost",nT i]
 | .again i=>.tup [.str "again",nT i]
 | .up i=>.tup [.str "up",nT i]
noncomputable def Ph.isW:Ph->Bool
 | .works=>true
 | _=>false
noncomputable def Ph.isS:Ph->Bool
 | .stands _ _=>true
 | _=>false
noncomputable def Ph.isE:Ph->Bool
 | .ended _=>true
 | _=>false
noncomputable def Ph.at1:Ph->Nat
 | .waits a _=>a
 | .stands a _=>a
 | _=>0
noncomputable def Ph.at2:Ph->Nat
 | .waits _ t=>t
 | .stands _ t=>t
 | _=>0
noncomputable def Run.er (R:Run) (i:Nat):Er:=R.es.getD i (yw 0 none)
theorem z0 {R:Run} {i:Nat} {e:Er} (h:R.es[i]? = some e):R.er i = e:=by unfold Run.er;rw [getD_eq_getElem?_getD,h];rfl
noncomputable def Net.ask (n:Net) (h k:Nat):Ask:=(n.asks h).getD k ⟨"",0,none,"",false,false⟩
theorem zc3 {n:Net} {h k:Nat} {a:Ask} (e:(n.asks h)[k]? = some a):n.ask h k = a:=by unfold Net.ask;rw [getD_eq_getElem?_getD,e];rfl
noncomputable def zcG (n:Net) (R:Run) (e:Er):Bool:=match e.caller with
 | none=>false
 | some c=>!(e.lost || e.ph.isE) && !(n.ask (R.er c.1).house c.2.1).sure
noncomputable def yx (n:Net) (e:Er):Bool:=e.ph.isS && ((n.ask e.house e.ph.at1).tries == 0 || decide ((e.ph.at2:Int) < (n.ask e.house e.ph.at1).tries))
noncomputable def zim (n:Net) (R:Run) (e:Er):Bool:=match n.pof (n.ask e.house e.ph.at1) with
 | none=>true
 | some k=>decide (0 < (R.told n k).2)
noncomputable def zaF (n:Net) (R:Run) (i:Nat):List Evt:=(if (R.er i).ph.isW = true then [.ends i "bad",.ends i "spent",.ends i "well"] else []) ++ (if zcG n R (R.er i) = true then [.lost i] else []) ++ (if yx n (R.er i) = true then [.again i] else []) ++ (if (R.er i).ph.isS = true then [.up i] else [])
noncomputable def Evt.isA:Evt->Bool
 | .again _=>true
 | _=>false
noncomputable def zbg (n:Net) (R:Run) (i:Nat):List Evt:=(zaF n R i).filter fun ev=>!ev.isA || zim n R (R.er i)
section
variable {kE kR:Addr} {n:Net} {b r:Nat} {l:Lay} {M:Mem} {R:Run}
theorem phW (p:Ph) (M:Mem):∃ t ts,phT p = .tup (t :: ts)/\eqA t (.str "works") M = .ok (.bl p.isW) M/\eqA t (.str "stands") M = .ok (.bl p.isS) M/\neA t (.str "stands") M = .ok (.bl (!p.isS)) M/\eqA t (.str "ended") M = .ok (.bl p.isE) M:=by
 cases p with
 | works=>exact ⟨_,_,rfl,rfl,rfl,rfl,rfl⟩
 | waits a t=>exact ⟨_,_,rfl,rfl,rfl,rfl,rfl⟩
 | stands a t=>exact ⟨_,_,rfl,rfl,rfl,rfl,rfl⟩
 | ended w=>exact ⟨_,_,rfl,rfl,rfl,rfl,rfl⟩
theorem phS {p:Ph} (h:p.isS = true):phT p = .tup [.str "stands",nT p.at1,nT p.at2]:=by
 cases p with
 | stands a t=>rfl
 | _=>cases h
theorem zcd {n:Net} {e:Er} (h:e.ph.isS = true) (k:zdR n e):e.ph.at1 < (n.asks e.house).length:=by
 unfold zdR at k
 cases q:e.ph with
 | stands a t=>rw [q] at k;exact k.1
 | _=>rw [q] at h;cases h
theorem zcE {n:Net} {e:Er} (h:e.ph.isS = true) (k:zdR n e):1<=e.ph.at2/\e.stood.isSome = true:=by
 unfold zdR at k
 cases q:e.ph with
 | stands a t=>rw [q] at k;exact ⟨k.2.2,k.2.1⟩
 | _=>rw [q] at h;cases h
theorem ziI (h:RunAt kE kR (zg n) b r l M R) (ri:RI n R) {i:Nat} {e:Er} (he:R.es[i]? = some e):zay kE kR [.ref r,nT i] M = .ok (.bl (zcG n R e)) M:=by
 unfold zay zd4
 obtain ⟨x,hx,hc⟩:=h.at_e he
 have f1:=qG (f:="caller") hc rfl
 have f2:=qG (f:="is_lost") hc rfl
 have f3:=qG (f:="state") hc rfl
 obtain ⟨t,ts,p1,_,_,_,p4⟩:=phW e.ph M
 rw [p1] at f3
 unfold zcG
 cases q:e.caller with
 | none=>
  rw [q] at f1
  have i1:∀ M,isN (clT none) .non M = .ok (.bl true) M:=fun _=>rfl
  simp_arith [zj,h.errands,h.er,zo (f:=FT.T.ref) hx,f1,i1]
 | some c=>
  rw [q] at f1
  have i1:∀ M,isN (.tup [nT c.1,nT c.2.1,nT c.2.2]) .non M = .ok (.bl false) M:=fun _=>rfl
  rw [show clT (some c) = .tup [nT c.1,nT c.2.1,nT c.2.2] from rfl] at f1
  obtain ⟨_,ce,c1,c2,c3⟩:=ri.cl i e c he q
  have ha:(n.asks ce.house)[c.2.1]? = some (n.asks ce.house)[c.2.1]:=getElem?_eq_getElem c3
  have haa:atI ((n.asks ce.house).map zD) (c.2.1:Int) = some (.tup [.str (n.asks ce.house)[c.2.1].to,.int (n.asks ce.house)[c.2.1].tries,opS (n.asks ce.house)[c.2.1].purse,.str (n.asks ce.house)[c.2.1].word,.bl (n.asks ce.house)[c.2.1].hears,.bl (n.asks ce.house)[c.2.1].sure]):=zo (f:=zD) ha
  have a5:∀ (t0 t1 t2 t3 t4 t5:FT.T),atI [t0,t1,t2,t3,t4,t5] 5 = some t5:=fun _ _ _ _ _ _=>rfl
  dsimp only
  rw [z0 c1,zc3 ha]
  cases ql:e.lost with
  | true=>
   rw [ql] at f2
   simp_arith [zj,h.errands,h.er,zo (f:=FT.T.ref) hx,f1,i1,f2]
   rfl
  | false=>
   rw [ql] at f2
   cases qe:e.ph.isE with
   | true=>
    rw [qe] at p4
    simp_arith [zj,h.errands,h.er,zo (f:=FT.T.ref) hx,f1,i1,f2,f3,p4]
    rfl
   | false=>
    rw [qe] at p4
    simp_arith [zj,h.errands,h.er,zo (f:=FT.T.ref) hx,f1,i1,f2,f3,p4,yR h c1 (ri.hs _ _ c1),haa,a5]
    cases (n.asks ce.house)[c.2.1].sure <;> rfl
theorem zd3 (h:RunAt kE kR (zg n) b r l M R) (ri:RI n R) {i:Nat} {e:Er} (he:R.es[i]? = some e):yI kE kR [.ref r,nT i] M = .ok (.bl (yx n e)) M:=by
 unfold yI zcW
 obtain ⟨x,hx,hc⟩:=h.at_e he
 have f3:=qG (f:="state") hc rfl
 unfold yx
 cases qs:e.ph.isS with
 | false=>
  obtain ⟨t,ts,p1,_,_,p3,_⟩:=phW e.ph M
  rw [p1] at f3
  rw [qs] at p3
  simp_arith [zj,h.errands,h.er,zo (f:=FT.T.ref) hx,f3,p3]
  rfl
 | true=>
  rw [phS qs] at f3
  have hl:=zcd qs (ri.ph _ _ he)
  have ha:(n.asks e.house)[e.ph.at1]? = some (n.asks e.house)[e.ph.at1]:=getElem?_eq_getElem hl
  have haa:atI ((n.asks e.house).map zD) (e.ph.at1:Int) = some (.tup [.str (n.asks e.house)[e.ph.at1].to,.int (n.asks e.house)[e.ph.at1].tries,opS (n.asks e.house)[e.ph.at1].purse,.str (n.asks e.house)[e.ph.at1].word,.bl (n.asks e.house)[e.ph.at1].hears,.bl (n.asks e.house)[e.ph.at1].sure]):=zo (f:=zD) ha
  rw [zc3 ha]
  have ns:∀ M,neA (.str "stands") (.str "stands") M = .ok (.bl false) M:=fun _=>rfl
  cases q0:(n.asks e.house)[e.ph.at1].tries == 0 with
  | true=>
   simp_arith [zj,h.errands,h.er,zo (f:=FT.T.ref) hx,f3,ns,yR h he (ri.hs _ _ he),haa,q0]
   rfl
  | false=>
   simp_arith [zj,h.errands,h.er,zo (f:=FT.T.ref) hx,f3,ns,yR h he (ri.hs _ _ he),haa,q0]
   rfl
theorem znL (h:RunAt kE kR (zg n) b r l M R) (wn:WN n) (ri:RI n R) {i:Nat} {e:Er} (he:R.es[i]? = some e) (qs:e.ph.isS = true):za7 kE kR [.ref r,nT i] M = .ok (.bl (zim n R e)) M:=by
 unfold za7 zfT
 obtain ⟨x,hx,hc⟩:=h.at_e he
 have f3:=qG (f:="state") hc rfl
 rw [phS qs] at f3
 have hl:=zcd qs (ri.ph _ _ he)
 have ha:(n.asks e.house)[e.ph.at1]? = some (n.asks e.house)[e.ph.at1]:=getElem?_eq_getElem hl
 have haa:atI ((n.asks e.house).map zD) (e.ph.at1:Int) = some (zD (n.asks e.house)[e.ph.at1]):=zo (f:=zD) ha
 have w:=wn.as e.house _ (mem_of_getElem? ha)
 have po:=zdq h wn w
 unfold zim
 rw [zc3 ha]
 cases q:n.pof (n.asks e.house)[e.ph.at1] with
 | none=>
  rw [q] at po
  have i1:∀ M,isN (onT none) .non M = .ok (.bl true) M:=fun _=>rfl
  simp_arith [zj,h.errands,h.er,zo (f:=FT.T.ref) hx,f3,yR h he (ri.hs _ _ he),haa,po,i1]
 | some k=>
  rw [q] at po
  have i1:∀ M,isN (onT (some k)) .non M = .ok (.bl false) M:=fun _=>rfl
  have te:=ziX h wn ri.pl (w.plt q)
  rw [show (nT k:FT.T) = onT (some k) from rfl] at te
  simp_arith [zj,h.errands,h.er,zo (f:=FT.T.ref) hx,f3,yR h he (ri.hs _ _ he),haa,po,i1,te]
theorem zjq {a:Nat} {xs ys:List FT.T} {M:Mem} (h:M[a]? = some (.lst xs)) (hl:xs.length + ys.length < 1000000):zev (.ref a) [.lst ys] M = .ok .non (M.set a (.lst (xs ++ ys))):=by
 unfold zev
 simp only [h,if_pos hl]
theorem zgX {a:Nat} {xs:List FT.T} {M:Mem} (h:M[a]? = some (.lst xs)):zcx (.ref a) M = true:=by
 unfold zcx yz
 simp only [h]
 rfl
theorem ziP (h:RunAt kE kR (zg n) b r l M R) (ri:RI n R) {i:Nat} {e:Er} (he:R.es[i]? = some e):zab kE kR [.ref r,nT i] M = .ok (.lst ((zaF n R i).map evT)) M:=by
 have key:Ok (zbf kE kR [.ref r,nT i] M) fun t M'=>t = .ref M.length/\M' = M ++ [.lst ((zaF n R i).map evT)]:=by
  refine qu rfl ?_
  unfold zcu
  obtain ⟨x,hx,hc⟩:=h.at_e he
  have f3:=qG (f:="state") hc rfl
  obtain ⟨t,ts,p1,p2,p3,_,_⟩:=phW e.ph M
  have p2':∀ M',eqA t (.str "works") M' = .ok (.bl e.ph.isW) M':=fun M'=>by
   obtain ⟨t',ts',q1,q2,_⟩:=phW e.ph M'
   rw [p1] at q1;cases q1;exact q2
  have p3':∀ M',eqA t (.str "stands") M' = .ok (.bl e.ph.isS) M':=fun M'=>by
   obtain ⟨t',ts',q1,_,q2,_⟩:=phW e.ph M'
   rw [p1] at q1;cases q1;exact q2
  rw [p1] at f3
  have ml:=fun cs=>ziI (h.app cs) ri he
  have tl:=fun cs=>zd3 (h.app cs) ri he
  have lc:∀ (ys:List FT.T),yG (.ref M.length) (M ++ [.lst ys]) = .ok (.ref M.length) (M ++ [.lst ys]):=fun ys=>qJ yN
  have ap:∀ (ys:List FT.T) (y:FT.T),ys.length < 100->qV (.ref M.length) [y] (M ++ [.lst ys]) = .ok .non (M ++ [.lst (ys ++ [y])]):=fun ys y hl=>by
   rw [yV yN (by rw [sizeLine_eq];omega),set_append_right _ _ (Nat.le_refl _),Nat.sub_self]
   rfl
  have ex:∀ (zs:List FT.T),zs.length < 100->zev (.ref M.length) [.lst zs] (M ++ [.lst []]) = .ok .non (M ++ [.lst zs]):=fun zs hl=>by
   rw [zjq yN (by simp;omega),set_append_right _ _ (Nat.le_refl _),Nat.sub_self]
   rfl
  have il:∀ (ys:List FT.T),zcx (.ref M.length) (M ++ [.lst ys]) = true:=fun ys=>zgX yN
  unfold zaF
  rw [z0 he]
  cases qw:e.ph.isW <;> cases qm:zcG n R e <;> cases qt:yx n e <;> cases qs:e.ph.isS <;> (simp_arith [zj,h.errands,h.er,zo (f:=FT.T.ref) hx,f3,p2',p3',qw,qs,ml,qm,tl,qt,zci,il,ex,lc,ap,Nat.reduceLT];exact Ok.ret ⟨rfl,rfl⟩)
 obtain ⟨t,M',e1,rfl,rfl⟩:=key
 unfold zab zeu
 rw [e1]
 dsimp only
 rw [yN]
 dsimp only
 rw [if_pos]
 refine ⟨by simp,Nat.le_refl _,fun y hy=>?_⟩
 obtain ⟨ev,_,rfl⟩:=mem_map.mp hy
 cases ev <;> exact .tup fun z hz=>by
  simp only [mem_cons,not_mem_nil,or_false] at hz
  rcases hz with rfl | rfl | rfl <;> first | exact .str _ | exact .int _
end
noncomputable def Evt.num:Evt->Nat
 | .fresh=>0
 | .ends i _=>i
 | .lost i=>i
 | .again i=>i
 | .up i=>i
noncomputable def Evt.isF:Evt->Bool
 | .fresh=>true
 | _=>false
section
variable {kE kR:Addr} {n:Net} {b r:Nat} {l:Lay} {M:Mem} {R:Run}
theorem zkQ {i:Nat} {ev:Evt} (h:ev ∈ zaF n R i) (ha:ev.isA = true):(R.er i).ph.isS = true:=by
 unfold zaF at h
 cases ev with
 | again j=>
  simp only [mem_append] at h
  rcases h with ((h | h) | h) | h
  ·split at h <;> simp at h
  ·split at h <;> simp at h
  ·split at h
   ·rename_i q
    unfold yx at q
    rw [Bool.and_eq_true] at q
    exact q.1
   ·simp at h
  ·split at h <;> simp at h
 | _=>cases ha
theorem zgB (ev:Evt):∃ s ts,evT ev = .tup (.str s :: ts)/\(s == ("again":Str)) = ev.isA/\(s == ("fresh":Str)) = ev.isF:=by
 cases ev <;> exact ⟨_,_,rfl,rfl,rfl⟩
theorem zjv (i:Nat):(zaF n R i).length<=10:=by
 unfold zaF
 rw [length_append,length_append,length_append]
 have:∀ (c:Bool) (xs:List Evt),xs.length<=3->(if c = true then xs else []).length<=3:=fun c xs h=>by cases c <;> simp [h]
 have h1:=this (R.er i).ph.isW [.ends i "bad",.ends i "spent",.ends i "well"] (by simp)
 have h2:(if zcG n R (R.er i) = true then [Evt.lost i] else []).length<=1:=by split <;> simp
 have h3:(if yx n (R.er i) = true then [Evt.again i] else []).length<=1:=by split <;> simp
 have h4:(if (R.er i).ph.isS = true then [Evt.up i] else []).length<=1:=by split <;> simp
 omega
theorem zib (h:RunAt kE kR (zg n) b r l M R) (wn:WN n) (ri:RI n R) {i:Nat} {e:Er} (he:R.es[i]? = some e):y9 kE kR [.ref r,nT i] M = .ok (.lst ((zbg n R i).map evT)) M:=by
 unfold y9 ze7
 have c:zy (zi 0) (zba (zu (eOp neA (eOp ixT (yb 0) (eC (.int 0))) (eC (.str "again")))) (zu (ze (za7 kE kR) (zb (yb 1) (zb (yb 2) zd))))) (yb 0) ((zaF n R i).map evT) [none,some (.ref r),some (nT i)] M [] = .ok ((zbg n R i).map evT) M:=
  Ok.filt (r:=evT) (fun σ=>∃ o,σ = [o,some (.ref r),some (nT i)]) _ evT ⟨_,rfl⟩ (Nat.le_trans (zjv i) (by decide)) (by
   rintro ev σ hev ⟨o,rfl⟩
   refine ⟨[some (evT ev),some (.ref r),some (nT i)],rfl,⟨_,rfl⟩,?_,fun _=>rfl⟩
   obtain ⟨s,ts,h1,h2,_⟩:=zgB ev
   rw [h1]
   cases q:ev.isA with
   | false=>
    rw [q] at h2
    simp_arith [zmm,h2]
    rfl
   | true=>
    rw [q] at h2
    have hs:e.ph.isS = true:=by rw [← z0 he];exact zkQ hev q
    simp_arith [zmm,h2,znL h wn ri he hs]
    rw [z0 he]
    rfl)
 simp_arith [ziP h ri he,c]
theorem zpv (M:Mem) (x y:Evt):∃ q,eqD M 20 (evT x) (evT y) = some q/\(x = y->q = true):=by
 have hs:∀ w:Str,eqS (.str w) (.str w) = true:=fun w=>by show (w == w) = true;simp
 have hi:∀ i:Int,eqS (.int i) (.int i) = true:=fun w=>by show (w == w) = true;simp
 cases x <;> cases y <;> refine ⟨_,rfl,fun z=>?_⟩ <;> first | (cases z) | skip
 all_goals first | rfl | (simp [hs,hi]) | skip
theorem zoZ (M:Mem) {x:Evt}:∀ {ys:List Evt},x ∈ ys->∃ bs,zde M (evT x) (ys.map evT) = some bs/\bs.any id = true:=by
 intro ys
 have all:∀ ys:List Evt,∃ bs,zde M (evT x) (ys.map evT) = some bs/\(x ∈ ys->bs.any id = true):=by
  intro ys
  induction ys with
  | nil=>exact ⟨[],rfl,fun h=>by cases h⟩
  | cons y ys ih=>
   obtain ⟨bs,h1,h2⟩:=ih
   obtain ⟨q,q1,q2⟩:=zpv M y x
   refine ⟨q :: bs,?_,fun h=>?_⟩
   ·rw [map_cons]
    unfold zde
    rw [q1,h1]
   ·rcases mem_cons.mp h with rfl | h
    ·rw [any_cons,q2 rfl];rfl
    ·rw [any_cons,h2 h,Bool.or_true]
 intro h
 obtain ⟨bs,h1,h2⟩:=all ys
 exact ⟨bs,h1,h2 h⟩
theorem zpA (h:RunAt kE kR (zg n) b r l M R) (wn:WN n) (ri:RI n R) (hB:R.es.length < 1000000) {ev:Evt} (hf:ev.isF = false) {e:Er} (he:R.es[ev.num]? = some e) (hm:ev ∈ zbg n R ev.num):yJ kE kR [.ref r,evT ev] M = .ok .non M:=by
 have hl:=(List.getElem?_eq_some_iff.mp he).1
 have cc:zaq kE kR [.ref r,evT ev] M = .ok (.bl true) M:=by
  unfold zaq zdX
  obtain ⟨bs,b1,b2⟩:=zoZ M hm
  have iN:inN (evT ev) (.lst ((zbg n R ev.num).map evT)) M = .ok (.bl true) M:=by
   unfold inN qZ yz
   simp only [b1,b2]
  have ii:∀ (xs:List FT.T) M,qP (.tup xs) (.ty "tuple") M = .ok (.bl true) M:=fun _ _=>rfl
  have ln:qC (.ref l.a) M = .ok (nT R.es.length) M:=by
   unfold qC qZ yz
   simp only [h.er]
   simp [h.el]
  have wi:zbk kE kR [nT ev.num,.int 0,.int ((R.es.length:Int) - 1)] M = .ok (.bl true) M:=by
   have wh:zbP kE kR [nT ev.num] M = .ok (.bl true) M:=by
    unfold zbP zfS
    have h1:qP (nT ev.num) (.ty "int") M = .ok (.bl true) M:=rfl
    have h2:qP (nT ev.num) (.ty "bool") M = .ok (.bl false) M:=rfl
    simp_arith [h1,h2]
   unfold zbk ze6
   have d1:decide ((0:Int)<=(ev.num:Int)) = true:=decide_eq_true (by omega)
   have d2:decide ((ev.num:Int)<=(R.es.length:Int) - 1) = true:=decide_eq_true (by omega)
   simp_arith [wh,d1,d2]
  have ea:=zib h wn ri he
  have e0:∃ s ts,evT ev = .tup (.str s :: nT ev.num :: ts)/\eqA (evT ev) (.tup [.str "fresh"]) M = .ok (.bl false) M:=by
   cases ev with
   | fresh=>cases hf
   | ends i w=>exact ⟨_,_,rfl,rfl⟩
   | lost i=>exact ⟨_,_,rfl,rfl⟩
   | again i=>exact ⟨_,_,rfl,rfl⟩
   | up i=>exact ⟨_,_,rfl,rfl⟩
  obtain ⟨s,ts,e1,e2⟩:=e0
  rw [e1] at e2 iN ⊢
  have d3:decide (((FT.T.str s :: nT ev.num :: ts).length:Int) < 2) = false:=decide_eq_false (by simp;omega)
  simp only [length_cons] at d3
  simp_arith [e2,ii,d3,zj,h.errands,ln,wi,ea,iN]
 unfold yJ zcr
 simp_arith [cc]
theorem zlc (h:RunAt kE kR (zg n) b r l M R):yJ kE kR [.ref r,evT .fresh] M = .ok .non M:=by
 have cc:zaq kE kR [.ref r,evT .fresh] M = .ok (.bl true) M:=by
  unfold zaq zdX
  have e2:eqA (evT .fresh) (.tup [.str "fresh"]) M = .ok (.bl true) M:=rfl
  simp_arith [e2]
 unfold yJ zcr
 simp_arith [cc]
end
noncomputable def zjF (R:Run) (k:Nat):Run:={ R with pays:=R.pays ++ [(R.es.length,k,R.taken.getD k 0)],taken:=R.taken.set k (R.taken.getD k 0 + 1) }
noncomputable def takeO (R:Run) (o:Option Nat):Run:=o.elim R (zjF R)
noncomputable def zeE (n:Net) (R:Run) (i:Nat):Run:=zag n (yL n 4) (takeO R (n.pof (n.ask (R.er i).house (R.er i).ph.at1))) i (R.er i).ph.at1 ((R.er i).ph.at2 + 1)
noncomputable def zdU (n:Net) (R:Run) (i:Nat):Run:=(R.er i).caller.elim R fun c=>zbN n (zai n 4) (R.setE i { R.er i with lost:=true }) c "bad"
noncomputable def upR (n:Net) (R:Run) (i:Nat):Run:=zai n 4 R i (n.ask (R.er i).house (R.er i).ph.at1).word
noncomputable def doR (n:Net) (R:Run):Evt->Run
 | .fresh=>yL n 4 R 0 none
 | .ends i w=>zai n 4 R i w
 | .lost i=>zdU n R i
 | .again i=>zeE n R i
 | .up i=>upR n R i
noncomputable def Run.tick (R:Run):Run:={ R with came:=R.came + 1 }
noncomputable def zb5 (n:Net) (R:Run) (ev:Evt):Run:=(doR n R ev).tick
section
variable {kE kR:Addr} {n:Net} {b r:Nat} {l:Lay} {M:Mem} {R:Run}
theorem SB.takeO {B:Nat} (sb:SB B R) (o:Option Nat):SB (B + 1) (takeO R o):=by
 cases o with
 | none=>exact sb.mono (by omega)
 | some k=>
  refine ⟨Nat.le_succ_of_le sb.es,fun u hu=>Nat.le_succ_of_le (sb.pu u hu),?_,fun v hv=>?_⟩
  ·show (R.pays ++ _).length<=_
   rw [length_append,length_singleton]
   have:=sb.py
   omega
  ·rcases mem_set hv with hv | rfl
   ·exact Nat.le_succ_of_le (sb.tk v hv)
   ·by_cases hk:k < R.taken.length
    ·have:=sb.tk (R.taken.getD k 0) (by rw [getD_eq_getElem?_getD,getElem?_eq_getElem hk];exact getElem_mem _)
     omega
    ·rw [getD_eq_getElem?_getD,getElem?_eq_none (by omega)]
     simp
theorem zhE (R:Run) (o:Option Nat):(takeO R o).es = R.es/\(takeO R o).puts = R.puts/\(takeO R o).came = R.came:=by cases o <;> exact ⟨rfl,rfl,rfl⟩
theorem zmy (h:RunAt kE kR (zg n) b r l M R) {B:Nat} (hB:B < 90000) (sb:SB B R) (hp:R.puts.length = n.ps.length) {k:Nat} (hk:k < n.ps.length):Ok (zb9 kE kR [.ref r,nT k] M) (Lv kE kR n b r (zjF R k) M):=by
 refine qu rfl ?_
 unfold ze2
 have hkt:k < R.taken.length:=by have:=h.tl;omega
 have ht:R.taken[k]? = some R.taken[k]:=getElem?_eq_getElem hkt
 have gd:R.taken.getD k 0 = R.taken[k]:=by rw [getD_eq_getElem?_getD,ht];rfl
 have ln:qC (.ref l.a) M = .ok (nT R.es.length) M:=by
  unfold qC qZ yz
  simp only [h.er]
  simp [h.el]
 obtain ⟨h1,b1⟩:=h.setPays (R.pays ++ [(R.es.length,k,R.taken[k])])
 have ap:=yV (t:=.tup [nT R.es.length,nT k,nT R.taken[k]]) h.py (by rw [length_map,sizeLine_eq];have:=sb.py;omega)
 rw [show R.pays.map zfm ++ [.tup [nT R.es.length,nT k,nT R.taken[k]]] = (R.pays ++ [(R.es.length,k,R.taken[k])]).map zfm from by simp [zfm]] at ap
 simp_arith [zj,h.payF,qJ h.py,h.errands,ln,h.takenF,h.tk,zo (f:=nT) ht,ap]
 generalize hM1:M.set l.q (.lst ((R.pays ++ [(R.es.length,k,R.taken[k])]).map zfm)) = M1 at h1 ⊢
 have k1:Kp b M M1:=by rw [← hM1];exact Kp.set _ _ b1
 obtain ⟨h2,b2⟩:=h1.setTaken (R.taken.set k (R.taken[k] + 1)) (by simp)
 have hix:ixN (R.taken.map nT).length (k:Int) = some k:=by
  rw [zoX (by rw [length_map];omega),Int.toNat_natCast]
 have tk1:M1[l.t]? = some (.lst (R.taken.map nT)):=h1.tk
 have ms:(R.taken.map nT).set k (.int ((R.taken[k]:Int) + 1)) = (R.taken.set k (R.taken[k] + 1)).map nT:=by
  rw [List.map_set];rfl
 have ad:∀ i j M,zds (.int i) (.int j) M = .ok (.int (i + j)) M:=fun _ _ _=>rfl
 unfold zhm getL
 simp_arith [zj,h1.takenF,zcf tk1,zo (f:=nT) ht,ad,tk1,hix,ms]
 refine Ok.ret ⟨rfl,k1.trans (Kp.set _ _ b2),l,?_⟩
 unfold zjF
 rw [gd]
 exact h2
theorem zqj (h:RunAt kE kR (zg n) b r l M R):b<=M.length:=Nat.le_trans (h.lo _ (.head _)) (Nat.le_of_lt (qK h.run))
theorem zmh (h:RunAt kE kR (zg n) b r l M R) (wn:WN n) {B:Nat} (hB:B + 1 < 90000) (sb:SB B R) (ri:RI n R) {i:Nat} {e:Er} (he:R.es[i]? = some e) (hs:e.ph.isS = true):Ok (zb8 kE kR [.ref r,nT i] M) (Lv kE kR n b r (zeE n R i) M):=by
 refine qu rfl ?_
 unfold ze0
 have hl:=zcd hs (ri.ph _ _ he)
 have ha:(n.asks e.house)[e.ph.at1]? = some (n.asks e.house)[e.ph.at1]:=getElem?_eq_getElem hl
 have haa:atI ((n.asks e.house).map zD) (e.ph.at1:Int) = some (zD (n.asks e.house)[e.ph.at1]):=zo (f:=zD) ha
 have w:=wn.as e.house _ (mem_of_getElem? ha)
 have po:=zdq h wn w
 obtain ⟨x,hx,hc⟩:=h.at_e he
 have f3:=qG (f:="state") hc rfl
 rw [phS hs] at f3
 unfold zeE
 rw [z0 he,zc3 ha]
 simp_arith [zj,h.errands,h.er,zo (f:=FT.T.ref) hx,f3,yR h he (ri.hs _ _ he),haa,po]
 have go:∀ (l1:Lay) (M1:Mem) (o:Option Nat),Kp b M M1->RunAt kE kR (zg n) b r l1 M1 (takeO R o)->Ok ((zaa kE kR [.ref r,nT i,nT e.ph.at1,.int ((e.ph.at2:Int) + 1)] M1).bind fun _ M=>.ok FT.T.non M) (Lv kE kR n b r (zag n (yL n 4) (takeO R o) i e.ph.at1 (e.ph.at2 + 1)) M):=by
  intro l1 M1 o k1 h1
  have te:=zhE R o
  refine Ok.bind (ziV wn (B:=B + 1) (tr:=e.ph.at2 + 1) hB h1 (sb.takeO o) (by rw [te.2.1];exact ri.pl) (by rw [te.1];exact he) (ri.hs _ _ he) ha) ?_
  rintro t M2 ⟨rfl,k2,l2,h2⟩
  exact Ok.ret ⟨rfl,k1.trans k2,l2,h2⟩
 cases q:n.pof (n.asks e.house)[e.ph.at1] with
 | none=>
  have i1:∀ M,zbu (onT none) .non M = .ok (.bl false) M:=fun _=>rfl
  simp_arith [i1]
  exact go l M none (Kp.refl _ _) h
 | some k=>
  have i1:∀ M,zbu (onT (some k)) .non M = .ok (.bl true) M:=fun _=>rfl
  simp_arith [i1]
  rw [show onT (some k) = nT k from rfl]
  refine Ok.bind (zmy h (by omega) sb ri.pl (w.plt q)) ?_
  rintro t M1 ⟨rfl,k1,l1,h1⟩
  try simp_arith [and_self]
  exact go l1 M1 (some k) k1 h1
theorem zjr (h:RunAt kE kR (zg n) b r l M R) (wn:WN n) {B:Nat} (hB:B < 90000) (sb:SB B R) (ri:RI n R) {i:Nat} {e:Er} (he:R.es[i]? = some e) (w:Str):Ok (zaQ kE kR [.ref r,nT i,.str w] M) (Lv kE kR n b r (zai n 4 R i w) M):=
 zig wn 4 12 (by omega) hB h sb ri he (by have:=ri.hs _ _ he;have:=wn.hl;omega)
theorem zpF (h:RunAt kE kR (zg n) b r l M R) (wn:WN n) {B:Nat} (hB:B < 90000) (sb:SB B R) (ri:RI n R) {i:Nat} {e:Er} (he:R.es[i]? = some e) (hs:e.ph.isS = true):Ok (zeN kE kR [.ref r,nT i] M) (Lv kE kR n b r (upR n R i) M):=by
 refine qu rfl ?_
 unfold zjn
 have hl:=zcd hs (ri.ph _ _ he)
 have ha:(n.asks e.house)[e.ph.at1]? = some (n.asks e.house)[e.ph.at1]:=getElem?_eq_getElem hl
 have haa:atI ((n.asks e.house).map zD) (e.ph.at1:Int) = some (.tup [.str (n.asks e.house)[e.ph.at1].to,.int (n.asks e.house)[e.ph.at1].tries,opS (n.asks e.house)[e.ph.at1].purse,.str (n.asks e.house)[e.ph.at1].word,.bl (n.asks e.house)[e.ph.at1].hears,.bl (n.asks e.house)[e.ph.at1].sure]):=zo (f:=zD) ha
 obtain ⟨x,hx,hc⟩:=h.at_e he
 have f3:=qG (f:="state") hc rfl
 rw [phS hs] at f3
 unfold upR
 rw [z0 he,zc3 ha]
 simp_arith [zj,h.errands,h.er,zo (f:=FT.T.ref) hx,f3,yR h he (ri.hs _ _ he),haa]
 refine Ok.bind (zjr h wn hB sb ri he _) ?_
 rintro t M2 ⟨rfl,k2,l2,h2⟩
 try simp_arith [and_self]
 exact Ok.ret ⟨rfl,k2,l2,h2⟩
theorem znh (h:RunAt kE kR (zg n) b r l M R) (wn:WN n) {B:Nat} (hB:B < 90000) (sb:SB B R) (ri:RI n R) {i:Nat} {e:Er} (he:R.es[i]? = some e) {c:Nat × Nat × Nat} (hq:e.caller = some c):Ok (zfW kE kR [.ref r,nT i] M) (Lv kE kR n b r (zdU n R i) M):=by
 refine qu rfl ?_
 unfold zkZ
 obtain ⟨x,hx,hc⟩:=h.at_e he
 have s1:=za1 (f:="is_lost") (y:=.bl true) (fs':=erF { e with lost:=true }) hc rfl (by simp [erF])
 obtain ⟨h1,bx⟩:=h.setE hx he { e with lost:=true }
 have hc1:(M.set x (.ins kE (erF { e with lost:=true })))[x]? = some (.ins kE (erF { e with lost:=true })):=get_set hc
 have f1:=qG (f:="caller") hc1 rfl
 have k1:Kp b M (M.set x (.ins kE (erF { e with lost:=true }))):=Kp.set _ _ bx
 have e0:zdU n R i = zbN n (zai n 4) (R.setE i { e with lost:=true }) c "bad":=by
  have el:∀ (o:Option (Nat × Nat × Nat)) (f:Nat × Nat × Nat->Run),o = some c->o.elim R f = f c:=fun o f h=>by rw [h];rfl
  unfold zdU
  rw [z0 he]
  exact el _ _ hq
 rw [e0]
 simp_arith [zj,h.errands,h.er,zo (f:=FT.T.ref) hx,yD,s1]
 generalize hM1:M.set x (.ins kE (erF { e with lost:=true })) = M1 at h1 f1 k1 ⊢
 replace f1:zaI [kE] "caller" (.ref x) M1 = .ok (clT e.caller) M1:=f1
 rw [hq] at f1
 have ri1:RI n (R.setE i { e with lost:=true }):=ri.setE he rfl rfl (by have:=ri.ph _ _ he;unfold zdR at this ⊢;exact this)
 have hei:(R.setE i { e with lost:=true }).es[i]? = some { e with lost:=true }:=by
  show (R.es.set i _)[i]? = _
  rw [getElem?_set,if_pos rfl,if_pos (List.getElem?_eq_some_iff.mp he).1]
 obtain ⟨_,ce,c1,c2,c3⟩:=ri1.cl i _ c hei hq
 simp_arith [f1]
 refine Ok.bind (show Ok (zia kE kR [.ref r,clT (some c),.str "bad"] M1) (Lv kE kR n b r (zbN n (zai n 4) (R.setE i { e with lost:=true }) c "bad") M1) from ?_) ?_
 ·show Ok (yh 3 6 (zes kE kR (qq kE kR 11).1 (qq kE kR 11).2) [.ref r,clT (some c),.str "bad"] M1) _
  refine zjj wn hB h1 (sb.setE _ _) ri1 c1 c3 ?_
  exact zig wn 4 11 (by omega) hB h1 (sb.setE _ _) ri1 c1 (by have:=ri1.hs _ _ c1;have:=wn.hl;omega)
 ·rintro t M2 ⟨rfl,k2,l2,h2⟩
  try simp_arith [and_self]
  exact Ok.ret ⟨rfl,k1.trans k2,l2,h2⟩
noncomputable def zpE (R:Run):Evt->Prop
 | .fresh=>True
 | .ends i _=>∃ e,R.es[i]? = some e
 | .lost i=>∃ e c,R.es[i]? = some e/\e.caller = some c
 | .again i=>∃ e,R.es[i]? = some e/\e.ph.isS = true
 | .up i=>∃ e,R.es[i]? = some e/\e.ph.isS = true
theorem zoI (h:RunAt kE kR (zg n) b r l M R) (wn:WN n) {B:Nat} (hB:B + 10 < 90000) (sb:SB B R) (ri:RI n R) {ev:Evt} (ho:zpE R ev):Ok (z6 kE kR [.ref r,evT ev] M) (Lv kE kR n b r (zb5 n R ev) M):=by
 refine qu rfl ?_
 unfold zfR
 have fin:∀ (M1:Mem),Lv kE kR n b r (doR n R ev) M .non M1->Ok ((zfI [kR] "came" (yb 0) 1 [some (.ref r),some (evT ev)] M1).bind zcS) (Lv kE kR n b r (zb5 n R ev) M):=by
  rintro M1 ⟨_,k1,l1,h1⟩
  obtain ⟨h2,b2⟩:=h1.setCame ((doR n R ev).came + 1)
  have s1:=za1 (f:="came") (y:=.int (((doR n R ev).came:Int) + 1)) (fs':=zbV (zg n) l1 { (doR n R ev) with came:=(doR n R ev).came + 1 }) h1.run rfl (by simp [zbV])
  have ad:∀ i j M,zds (.int i) (.int j) M = .ok (.int (i + j)) M:=fun _ _ _=>rfl
  simp_arith [zfI,h1.came,ad,s1]
  exact Ok.ret ⟨rfl,k1.trans (Kp.set _ _ b2),l1,h2⟩
 cases ev with
 | fresh=>
  have q:∀ M,eqA (.str "fresh") (.str "fresh") M = .ok (.bl true) M:=fun _=>rfl
  rw [show evT .fresh = .tup [.str "fresh"] from rfl] at fin ⊢
  simp_arith [q]
  refine Ok.bind (show Ok (zb0 kE kR [.ref r,.int 0,.non] M) (Lv kE kR n b r (yL n 4 R 0 none) M) from zit wn 4 12 (by omega) (B:=B) (c:=none) (h:=0) (by omega) h (zqj h) sb ri.pl wn.h1 (by have:=wn.hl;omega)) ?_
  rintro t M1 ⟨rfl,k1,l1,h1⟩
  have:=fin M1 ⟨rfl,k1,l1,h1⟩
  try simp_arith [and_self]
  exact this
 | ends i w=>
  obtain ⟨e,he⟩:=ho
  have q0:∀ M,eqA (.str "ends") (.str "fresh") M = .ok (.bl false) M:=fun _=>rfl
  have q:∀ M,eqA (.str "ends") (.str "ends") M = .ok (.bl true) M:=fun _=>rfl
  rw [show evT (.ends i w) = .tup [.str "ends",nT i,.str w] from rfl] at fin ⊢
  simp_arith [q0,q]
  refine Ok.bind (zjr h wn (by omega) sb ri he w) ?_
  rintro t M1 ⟨rfl,k1,l1,h1⟩
  have:=fin M1 ⟨rfl,k1,l1,h1⟩
  try simp_arith [and_self]
  exact this
 | lost i=>
  obtain ⟨e,c,he,hq⟩:=ho
  have q0:∀ M,eqA (.str "lost") (.str "fresh") M = .ok (.bl false) M:=fun _=>rfl
  have q1:∀ M,eqA (.str "lost") (.str "ends") M = .ok (.bl false) M:=fun _=>rfl
  have q:∀ M,eqA (.str "lost") (.str "lost") M = .ok (.bl true) M:=fun _=>rfl
  rw [show evT (.lost i) = .tup [.str "lost",nT i] from rfl] at fin ⊢
  simp_arith [q0,q1,q]
  refine Ok.bind (znh h wn (by omega) sb ri he hq) ?_
  rintro t M1 ⟨rfl,k1,l1,h1⟩
  have:=fin M1 ⟨rfl,k1,l1,h1⟩
  try simp_arith [and_self]
  exact this
 | again i=>
  obtain ⟨e,he,hs⟩:=ho
  have q0:∀ M,eqA (.str "again") (.str "fresh") M = .ok (.bl false) M:=fun _=>rfl
  have q1:∀ M,eqA (.str "again") (.str "ends") M = .ok (.bl false) M:=fun _=>rfl
  have q2:∀ M,eqA (.str "again") (.str "lost") M = .ok (.bl false) M:=fun _=>rfl
  have q:∀ M,eqA (.str "again") (.str "again") M = .ok (.bl true) M:=fun _=>rfl
  rw [show evT (.again i) = .tup [.str "again",nT i] from rfl] at fin ⊢
  simp_arith [q0,q1,q2,q]
  refine Ok.bind (zmh h wn (by omega) sb ri he hs) ?_
  rintro t M1 ⟨rfl,k1,l1,h1⟩
  have:=fin M1 ⟨rfl,k1,l1,h1⟩
  try simp_arith [and_self]
  exact this
 | up i=>
  obtain ⟨e,he,hs⟩:=ho
  have q0:∀ M,eqA (.str "up") (.str "fresh") M = .ok (.bl false) M:=fun _=>rfl
  have q1:∀ M,eqA (.str "up") (.str "ends") M = .ok (.bl false) M:=fun _=>rfl
  have q2:∀ M,eqA (.str "up") (.str "lost") M = .ok (.bl false) M:=fun _=>rfl
  have q:∀ M,eqA (.str "up") (.str "again") M = .ok (.bl false) M:=fun _=>rfl
  rw [show evT (.up i) = .tup [.str "up",nT i] from rfl] at fin ⊢
  simp_arith [q0,q1,q2,q]
  refine Ok.bind (zpF h wn (by omega) sb ri he hs) ?_
  rintro t M1 ⟨rfl,k1,l1,h1⟩
  have:=fin M1 ⟨rfl,k1,l1,h1⟩
  try simp_arith [and_self]
  exact this
end
variable {n:Net}
def lv (e:Er):Prop:=e.lost = false/\e.ph.isE = false
def WT (R:Run):Prop:=∀ (i:Nat) (e:Er) (c:Nat × Nat × Nat),R.es[i]? = some e->e.caller = some c->lv e->∃ ce,R.es[c.1]? = some ce/\ce.ph = .waits c.2.1 c.2.2/\ce.asked = some i
def NL (R:Run) (k:Nat):Prop:=∀ (i:Nat) (e:Er) (c:Nat × Nat × Nat),R.es[i]? = some e->e.caller = some c->c.1 = k->¬ lv e
def QS (R R':Run) (k:Nat):Prop:=∀ (i:Nat) (e':Er),R'.es[i]? = some e'->e'.ph.isS = true->(∃ e,R.es[i]? = some e/\e.ph = e'.ph/\e.stood = e'.stood)\/(e'.stood = some k/\∃ e a t,R.es[i]? = some e/\e.ph = .waits a t)
structure Inv' (n:Net) (R:Run):Prop where
 ri:RI n R
 wt:WT R
theorem zgx {R:Run} {i:Nat} {e:Er} (he:R.es[i]? = some e) (e':Er):(R.setE i e').es[i]? = some e':=by
 show (R.es.set i _)[i]? = _
 rw [getElem?_set,if_pos rfl,if_pos (List.getElem?_eq_some_iff.mp he).1]
theorem zgy {R:Run} {i j:Nat} {e':Er} (h:j ≠ i):(R.setE i e').es[j]? = R.es[j]?:=by
 show (R.es.set i _)[j]? = _
 rw [getElem?_set,if_neg (Ne.symm h)]
theorem WT.setE {R:Run} (h:WT R) {i:Nat} {e e':Er} (he:R.es[i]? = some e) (h2:e'.caller = e.caller) (hv:lv e'->lv e) (nl:NL R i):WT (R.setE i e'):=by
 intro j q c hq hc lq
 have key:∀ q0,R.es[j]? = some q0->q0.caller = some c->lv q0->∃ ce,(R.setE i e').es[c.1]? = some ce/\ce.ph = .waits c.2.1 c.2.2/\ce.asked = some j:=fun q0 h0 hc0 l0=>by
  obtain ⟨ce,c1,c2,c3⟩:=h j q0 c h0 hc0 l0
  have:c.1 ≠ i:=fun z=>nl j q0 c h0 hc0 z l0
  exact ⟨ce,by rw [zgy this];exact c1,c2,c3⟩
 rcases zah hq with ⟨rfl,rfl,_⟩ | ⟨_,hq⟩
 ·exact key e he (by rw [← h2];exact hc) (hv lq)
 ·exact key q hq hc lq
theorem RI.push {R:Run} (h:RI n R) {hh:Nat} {c:Option (Nat × Nat × Nat)} (h1:hh < n.hs.length) (hc:∀ c',c = some c'->∃ ce,R.es[c'.1]? = some ce/\ce.house < hh/\c'.2.1 < (n.asks ce.house).length):RI n (R.push (yw hh c)):=by
 have old:∀ {j:Nat} {q:Er},(R.push (yw hh c)).es[j]? = some q->(R.es[j]? = some q)\/(j = R.es.length/\q = yw hh c):=fun {j q} hq=>by
  replace hq:(R.es ++ [yw hh c])[j]? = some q:=hq
  by_cases z:j < R.es.length
  ·rw [getElem?_append_left z] at hq;exact .inl hq
  ·rw [getElem?_append_right (by omega)] at hq
   have:j - R.es.length = 0:=by
    have:=(List.getElem?_eq_some_iff.mp hq).1
    simp at this
    omega
   rw [this] at hq
   cases hq
   exact .inr ⟨by omega,rfl⟩
 have fwd:∀ {j:Nat} {q:Er},R.es[j]? = some q->(R.push (yw hh c)).es[j]? = some q:=fun {j q} hq=>by
  show (R.es ++ _)[j]? = _
  rw [getElem?_append_left (List.getElem?_eq_some_iff.mp hq).1];exact hq
 refine ⟨fun j q hq=>?_,fun j q c' hq hc'=>?_,fun j q hq=>?_,h.pl⟩
 ·rcases old hq with hq | ⟨_,rfl⟩
  ·exact h.hs _ _ hq
  ·exact h1
 ·rcases old hq with hq | ⟨rfl,rfl⟩
  ·obtain ⟨a,ce,b1,b2,b3⟩:=h.cl _ _ _ hq hc'
   exact ⟨a,ce,fwd b1,b2,b3⟩
  ·obtain ⟨ce,b1,b2,b3⟩:=hc c' hc'
   exact ⟨(List.getElem?_eq_some_iff.mp b1).1,ce,fwd b1,b2,b3⟩
 ·rcases old hq with hq | ⟨_,rfl⟩
  ·exact h.ph _ _ hq
  ·exact True.intro
theorem zhR {R:Run} {x:Er} {j:Nat} {q:Er} (hq:(R.push x).es[j]? = some q):R.es[j]? = some q\/(j = R.es.length/\q = x):=by
 replace hq:(R.es ++ [x])[j]? = some q:=hq
 by_cases z:j < R.es.length
 ·rw [getElem?_append_left z] at hq;exact .inl hq
 ·rw [getElem?_append_right (by omega)] at hq
  have:j - R.es.length = 0:=by
   have:=(List.getElem?_eq_some_iff.mp hq).1
   simp at this
   omega
  rw [this] at hq
  cases hq
  exact .inr ⟨by omega,rfl⟩
theorem zdQ {R:Run} {x:Er} {j:Nat} {q:Er} (hq:R.es[j]? = some q):(R.push x).es[j]? = some q:=by
 show (R.es ++ _)[j]? = _
 rw [getElem?_append_left (List.getElem?_eq_some_iff.mp hq).1];exact hq
theorem RI.share {R:Run} (h:RI n R) (a:Ask) (tr x:Nat):RI n (R.share n a tr x):=by
 obtain ⟨s1,s2,_⟩:=zbB R n a tr x
 exact ⟨by rw [s1];exact h.hs,by rw [s1];exact h.cl,by rw [s1];exact h.ph,by rw [s2];exact h.pl⟩
def Old (R R':Run):Prop:=R.es.length<=R'.es.length/\R'.came = R.came/\(∀ (i:Nat) (e:Er),R.es[i]? = some e->R'.es[i]? = some e)/\∀ (i:Nat) (e:Er),R'.es[i]? = some e->R.es.length<=i->e.ph.isS = false
theorem ziW {R:Run} {g:Run->Nat->Option (Nat × Nat × Nat)->Run} {num at' tr:Nat} {e:Er} {a:Ask} (he:R.es[num]? = some e) (ha:(n.asks e.house)[at']? = some a):zag n g R num at' tr = g ((R.setE num { e with ph:=.waits at' tr,asked:=some R.es.length }).share n a tr R.es.length) (n.hix a.to) (some (num,at',tr)):=by
 unfold zag
 rw [he]
 dsimp only
 rw [ha]
theorem WT.share {R:Run} (h:WT R) (a:Ask) (tr x:Nat):WT (R.share n a tr x):=by
 intro i e c
 rw [(zbB R n a tr x).1]
 exact h i e c
theorem zgI (wn:WN n):∀ (f:Nat) {R:Run} {h:Nat} {c:Option (Nat × Nat × Nat)} {B:Nat},n.hs.length<=h + f->RI n R->WT R->SB B R->h < n.hs.length->
  (∀ c',c = some c'->∃ ce,R.es[c'.1]? = some ce/\ce.house < h/\c'.2.1 < (n.asks ce.house).length/\ce.ph = .waits c'.2.1 c'.2.2/\ce.asked = some R.es.length)->
  RI n (yL n f R h c)/\WT (yL n f R h c)/\SB (B + 2 * f) (yL n f R h c)/\Old R (yL n f R h c)
 | 0,R,h,c,B,hf,_,_,_,hh,_=>absurd hh (by omega)
 | f + 1,R,h,c,B,hf,ri,wt,sb,hh,hc=>by
  have ri1:RI n (R.push (yw h c)):=ri.push hh fun c' z=>by obtain ⟨ce,a1,a2,a3,_⟩:=hc c' z;exact ⟨ce,a1,a2,a3⟩
  have wt1:WT (R.push (yw h c)):=fun i e c' he hc' l=>by
   rcases zhR he with he | ⟨rfl,rfl⟩
   ·obtain ⟨ce,a1,a2,a3⟩:=wt i e c' he hc' l
    exact ⟨ce,zdQ a1,a2,a3⟩
   ·obtain ⟨ce,a1,_,_,a4,a5⟩:=hc c' hc'
    exact ⟨ce,zdQ a1,a4,a5⟩
  have od1:Old R (R.push (yw h c)):=⟨by simp [Run.push],rfl,fun i e he=>zdQ he,fun i e he hi=>by
   rcases zhR he with he | ⟨rfl,rfl⟩
   ·exact absurd (List.getElem?_eq_some_iff.mp he).1 (by omega)
   ·rfl⟩
  by_cases h0:n.asks h = []
  ·have e1:yL n (f + 1) R h c = R.push (yw h c):=by unfold yL;rw [if_pos h0]
   rw [e1]
   exact ⟨ri1,wt1,(sb.push _).mono (by omega),od1⟩
  ·have e1:yL n (f + 1) R h c = zag n (yL n f) (R.push (yw h c)) R.es.length 0 1:=by rw [yL,if_neg h0]
   obtain ⟨a,as,hq⟩:=List.exists_cons_of_ne_nil h0
   have ha:(n.asks (yw h c).house)[0]? = some a:=by show (n.asks h)[0]? = _;rw [hq];rfl
   have w:=wn.as h a (by rw [hq];exact .head _)
   rw [e1,ziW (zcD R _) ha]
   have len1:(R.push (yw h c)).es.length = R.es.length + 1:=by simp [Run.push]
   have nl:NL (R.push (yw h c)) R.es.length:=fun i e c' he hc' z=>by
    have:=(ri1.cl i e c' he hc').1
    have:=(List.getElem?_eq_some_iff.mp he).1
    omega
   have ri2:RI n ((R.push (yw h c)).setE R.es.length { yw h c with ph:=.waits 0 1,asked:=some (R.push (yw h c)).es.length }):=ri1.setE (zcD R _) rfl rfl (show 0 < (n.asks h).length/\1<=1 from ⟨by rw [hq];simp,Nat.le_refl _⟩)
   have wt2:WT ((R.push (yw h c)).setE R.es.length { yw h c with ph:=.waits 0 1,asked:=some (R.push (yw h c)).es.length }):=wt1.setE (zcD R _) rfl (fun _=>⟨rfl,rfl⟩) nl
   have sb2:=((sb.push (yw h c)).setE R.es.length { yw h c with ph:=.waits 0 1,asked:=some (R.push (yw h c)).es.length }).share n a 1 (R.push (yw h c)).es.length
   obtain ⟨s1,s2,s3,s4,s5⟩:=zbB ((R.push (yw h c)).setE R.es.length { yw h c with ph:=.waits 0 1,asked:=some (R.push (yw h c)).es.length }) n a 1 (R.push (yw h c)).es.length
   obtain ⟨r1,r2,r3,r4⟩:=zgI wn f (h:=n.hix a.to) (c:=some (R.es.length,0,1)) (by have:=w.up;omega) (ri2.share a 1 _) (wt2.share a 1 _) sb2 w.lt (fun c' z=>by
    cases z
    rw [s1]
    refine ⟨_,zgx (zcD R _) _,w.up,?_,rfl,?_⟩
    ·show 0 < (n.asks h).length
     rw [hq];simp
    ·show some (R.push (yw h c)).es.length = some (List.length (List.set _ _ _))
     rw [length_set])
   refine ⟨r1,r2,r3.mono (by omega),?_,?_,fun i e he=>?_,fun i e he hi=>?_⟩
   ·have l2:((R.push (yw h c)).setE R.es.length { yw h c with ph:=.waits 0 1,asked:=some (R.push (yw h c)).es.length }).es.length = R.es.length + 1:=by simp [Run.setE,Run.push]
    have:=r4.1
    rw [s1,l2] at this
    exact Nat.le_trans (Nat.le_succ _) this
   ·rw [r4.2.1,s5];rfl
   ·refine r4.2.2.1 i e ?_
    rw [s1,zgy (by have:=(List.getElem?_eq_some_iff.mp he).1;omega)]
    exact zdQ he
   ·by_cases z:i < R.es.length + 1
    ·have hi':i = R.es.length:=by omega
     subst hi'
     have:=r4.2.2.1 R.es.length { yw h c with ph:=.waits 0 1,asked:=some (R.push (yw h c)).es.length } (by rw [s1];exact zgx (zcD R _) _)
     rw [he] at this
     cases this
     rfl
    ·exact r4.2.2.2 i e he (by rw [s1];simp [Run.setE,Run.push];omega)
theorem ziU (wn:WN n) {R:Run} {num at' tr:Nat} {e:Er} {B:Nat} (ri:RI n R) (wt:WT R) (sb:SB B R) (he:R.es[num]? = some e) (hat:at' < (n.asks e.house).length) (hl:e.ph.isE = false) (nl:NL R num) (htr:1<=tr) :
  RI n (zag n (yL n 4) R num at' tr)/\WT (zag n (yL n 4) R num at' tr)/\SB (B + 9) (zag n (yL n 4) R num at' tr)/\R.es.length<=(zag n (yL n 4) R num at' tr).es.length/\(zag n (yL n 4) R num at' tr).came = R.came /\
   (∀ (i:Nat) (q:Er),R.es[i]? = some q->i ≠ num->(zag n (yL n 4) R num at' tr).es[i]? = some q)/\QS R (zag n (yL n 4) R num at' tr) R.came:=by
 have ha:(n.asks e.house)[at']? = some (n.asks e.house)[at']:=getElem?_eq_getElem hat
 have w:=wn.as e.house _ (mem_of_getElem? ha)
 rw [ziW he ha]
 have ri2:RI n (R.setE num { e with ph:=.waits at' tr,asked:=some R.es.length }):=ri.setE he rfl rfl (show at' < (n.asks e.house).length/\1<=tr from ⟨hat,htr⟩)
 have wt2:WT (R.setE num { e with ph:=.waits at' tr,asked:=some R.es.length }):=wt.setE he rfl (fun z=>⟨z.1,hl⟩) nl
 obtain ⟨s1,s2,s3,s4,s5⟩:=zbB (R.setE num { e with ph:=.waits at' tr,asked:=some R.es.length }) n (n.asks e.house)[at'] tr R.es.length
 have sb2:=(sb.setE num { e with ph:=.waits at' tr,asked:=some R.es.length }).share n (n.asks e.house)[at'] tr R.es.length
 obtain ⟨r1,r2,r3,r4⟩:=zgI wn 4 (h:=n.hix (n.asks e.house)[at'].to) (c:=some (num,at',tr)) (by have:=wn.hl;omega) (ri2.share _ tr _) (wt2.share _ tr _) sb2 w.lt (fun c' z=>by
  cases z
  rw [s1]
  refine ⟨_,zgx he _,w.up,hat,rfl,?_⟩
  show some R.es.length = some (List.length (List.set _ _ _))
  rw [length_set])
 have ol:∀ (i:Nat) (q:Er),R.es[i]? = some q->i ≠ num->(yL n 4 ((R.setE num { e with ph:=.waits at' tr,asked:=some R.es.length }).share n (n.asks e.house)[at'] tr R.es.length) (n.hix (n.asks e.house)[at'].to) (some (num,at',tr))).es[i]? = some q:=fun i q hq hi=>r4.2.2.1 i q (by rw [s1,zgy hi];exact hq)
 refine ⟨r1,r2,r3.mono (by omega),?_,by rw [r4.2.1,s5];rfl,ol,fun i e' h' hs=>?_⟩
 ·have l2:(R.setE num { e with ph:=.waits at' tr,asked:=some R.es.length }).es.length = R.es.length:=by simp [Run.setE]
  have:=r4.1
  rw [s1,l2] at this
  exact this
 ·by_cases z:i < R.es.length
  ·by_cases hi:i = num
   ·subst hi
    have:=r4.2.2.1 i { e with ph:=.waits at' tr,asked:=some R.es.length } (by rw [s1];exact zgx he _)
    rw [h'] at this
    cases this
    cases hs
   ·have hq:R.es[i]? = some R.es[i]:=getElem?_eq_getElem z
    have:=ol i _ hq hi
    rw [h'] at this
    cases this
    exact .inl ⟨_,hq,rfl,rfl⟩
  ·have:=r4.2.2.2 i e' h' (by rw [s1];simp [Run.setE];omega)
   rw [hs] at this
   cases this
end My
namespace My
open PySem L2 FT
variable {n:Net}
structure Res (n:Net) (R R':Run) (B:Nat):Prop where
 ri:RI n R'
 wt:WT R'
 sb:SB B R'
 le:R.es.length<=R'.es.length
 ca:R'.came = R.came
 qs:QS R R' R.came
theorem zh1 (wn:WN n) {R:Run} {g:Run->Nat->Str->Run} {c:Nat × Nat × Nat} {w:Str} {ce:Er} {B:Nat} (ri:RI n R) (wt:WT R) (sb:SB B R) (he:R.es[c.1]? = some ce) (hat:c.2.1 < (n.asks ce.house).length) (hw:ce.ph = .waits c.2.1 c.2.2) (nl:NL R c.1) (hg:Res n R (g R c.1 w) (B + 9)):Res n R (zbN n g R c w) (B + 9):=by
 unfold zbN
 rw [he]
 dsimp only
 split
 ·rename_i h1
  obtain ⟨r1,r2,r3,r4,r5,_,r7⟩:=ziU wn (tr:=1) ri wt sb he h1.2 (by rw [hw];rfl) nl (Nat.le_refl _)
  exact ⟨r1,r2,r3,r4,r5,r7⟩
 ·split
  ·exact hg
  ·have h1:1<=c.2.2:=by have:=ri.ph _ _ he;unfold zdR at this;rw [hw] at this;exact this.2
   refine ⟨ri.setE he rfl rfl (show c.2.1 < (n.asks ce.house).length/\(some R.came).isSome = true/\1<=c.2.2 from ⟨hat,rfl,h1⟩),wt.setE he rfl (fun z=>⟨z.1,by rw [hw];rfl⟩) nl,(sb.setE _ _).mono (by omega),by simp [Run.setE],rfl,fun i e' h' hs=>?_⟩
   rcases zah h' with ⟨rfl,rfl,_⟩ | ⟨_,h'⟩
   ·exact .inr ⟨rfl,ce,_,_,he,hw⟩
   ·exact .inl ⟨e',h',rfl,rfl⟩
theorem zeP (wn:WN n):∀ (f:Nat) {R:Run} {i:Nat} {w:Str} {e:Er} {B:Nat},RI n R->WT R->SB B R->R.es[i]? = some e->e.house < f->e.ph.isE = false->NL R i->Res n R (zai n f R i w) (B + 9)
 | 0,R,i,w,e,B,_,_,_,_,hf,_,_=>absurd hf (by omega)
 | f + 1,R,i,w,e,B,ri,wt,sb,he,hf,hl,nl=>by
  have ri1:RI n (R.setE i { e with ph:=.ended w }):=ri.setE he rfl rfl True.intro
  have wt1:WT (R.setE i { e with ph:=.ended w }):=wt.setE he rfl (fun z=>absurd z.2 (by show ¬ true = false;simp)) nl
  have back:∀ {j:Nat} {q:Er},(R.setE i { e with ph:=.ended w }).es[j]? = some q->q.ph.isE = false->R.es[j]? = some q:=fun {j q} hq hE=>by
   rcases zah hq with ⟨rfl,rfl,_⟩ | ⟨_,hq⟩
   ·cases hE
   ·exact hq
  have stop:Res n R (R.setE i { e with ph:=.ended w }) (B + 9):=⟨ri1,wt1,(sb.setE _ _).mono (by omega),by simp [Run.setE],rfl,fun j e' h' hs=>by
   rcases zah h' with ⟨rfl,rfl,_⟩ | ⟨_,h'⟩
   ·cases hs
   ·exact .inl ⟨e',h',rfl,rfl⟩⟩
  unfold zai
  rw [he]
  dsimp only
  cases q:e.caller with
  | none=>rw [q] at stop;exact stop
  | some c=>
   dsimp only
   cases ql:e.lost with
   | true=>rw [if_pos rfl];rw [q,ql] at stop;exact stop
   | false=>
    rw [if_neg (by simp)]
    have es:({ e with ph:=.ended w }:Er) = { house:=e.house,caller:=some c,ph:=.ended w,lost:=false,asked:=e.asked,stood:=e.stood }:=by rw [← q,← ql]
    rw [← es]
    obtain ⟨ce,c1,c2,c3⟩:=wt i e c he q ⟨ql,hl⟩
    obtain ⟨d1,ce',d2,d3,d4⟩:=ri.cl i e c he q
    rw [c1] at d2
    cases d2
    have hne:c.1 ≠ i:=by omega
    have c1':(R.setE i { e with ph:=.ended w }).es[c.1]? = some ce:=by rw [zgy hne];exact c1
    have nl1:NL (R.setE i { e with ph:=.ended w }) c.1:=fun j e' cc h' hc' z l'=>by
     have h2:=back h' l'.2
     obtain ⟨x,x1,x2,x3⟩:=wt j e' cc h2 hc' l'
     rw [z,c1] at x1
     cases x1
     rw [c3] at x3
     cases x3
     rw [zgx he] at h'
     cases h'
     cases l'.2
    have hend:=zeP wn f (w:=w) ri1 wt1 (sb.setE _ _) c1' (by omega) (by rw [c2];rfl) nl1
    have hh:=zh1 wn (w:=w) ri1 wt1 (sb.setE _ _) c1' d4 c2 nl1 hend
    refine ⟨hh.ri,hh.wt,hh.sb,by have:=hh.le;simp [Run.setE] at this;exact this,hh.ca,fun j e' h' hs=>?_⟩
    rcases hh.qs j e' h' hs with ⟨e1,a1,a2,a3⟩ | ⟨a1,e1,a,t,a2,a3⟩
    ·exact .inl ⟨e1,back a1 (by rw [a2];cases z:e'.ph <;> rw [z] at hs <;> first | rfl | cases hs),a2,a3⟩
    ·exact .inr ⟨a1,e1,a,t,back a2 (by rw [a3];rfl),a3⟩
theorem zkh {R:Run} (wt:WT R) {i:Nat} {e:Er} (he:R.es[i]? = some e) (hn:∀ a t,e.ph ≠ .waits a t):NL R i:=fun j e' c h' hc z l=>by
 obtain ⟨ce,a1,a2,_⟩:=wt j e' c h' hc l
 rw [z,he] at a1
 cases a1
 exact hn _ _ a2
noncomputable def EvC (n:Net) (R:Run):Evt->Prop
 | .fresh=>True
 | .ends i _=>∃ e,R.es[i]? = some e/\e.ph.isW = true
 | .lost i=>∃ e c,R.es[i]? = some e/\e.caller = some c/\lv e
 | .again i=>∃ e,R.es[i]? = some e/\e.ph.isS = true/\yx n e = true
 | .up i=>∃ e,R.es[i]? = some e/\e.ph.isS = true
theorem zgC {R:Run} {i:Nat} {e:Er} (he:R.es[i]? = some e) {ev:Evt} (h:ev ∈ zbg n R i):ev.isF = false/\ev.num = i/\EvC n R ev:=by
 have h:=(mem_filter.mp h).1
 unfold zaF at h
 rw [z0 he] at h
 simp only [mem_append] at h
 rcases h with ((h | h) | h) | h
 ·split at h
  ·rename_i q
   simp only [mem_cons,not_mem_nil,or_false] at h
   rcases h with rfl | rfl | rfl <;> exact ⟨rfl,rfl,e,he,q⟩
  ·cases h
 ·split at h
  ·rename_i q
   rw [mem_singleton.mp h]
   unfold zcG at q
   split at q
   ·cases q
   ·rename_i c hc
    rw [Bool.and_eq_true] at q
    have q1:=q.1
    refine ⟨rfl,rfl,e,c,he,hc,?_,?_⟩
    ·cases z:e.lost with
     | false=>rfl
     | true=>rw [z] at q1;cases q1
    ·cases z:e.ph.isE with
     | false=>rfl
     | true=>rw [z,Bool.or_true] at q1;cases q1
  ·cases h
 ·split at h
  ·rename_i q
   rw [mem_singleton.mp h]
   have q':=q
   unfold yx at q'
   rw [Bool.and_eq_true] at q'
   exact ⟨rfl,rfl,e,he,q'.1,q⟩
  ·cases h
 ·split at h
  ·rename_i q
   rw [mem_singleton.mp h]
   exact ⟨rfl,rfl,e,he,q⟩
  ·cases h
theorem EvC.ok {R:Run} {ev:Evt} (h:EvC n R ev):zpE R ev:=by
 cases ev with
 | fresh=>exact True.intro
 | ends i w=>obtain ⟨e,a,_⟩:=h;exact ⟨e,a⟩
 | lost i=>obtain ⟨e,c,a,b,_⟩:=h;exact ⟨e,c,a,b⟩
 | again i=>obtain ⟨e,a,b,_⟩:=h;exact ⟨e,a,b⟩
 | up i=>exact h
theorem zik (wn:WN n) {R:Run} {B:Nat} (ri:RI n R) (wt:WT R) (sb:SB B R) {ev:Evt} (hc:EvC n R ev):Res n R (doR n R ev) (B + 10):=by
 have up10:∀ {R':Run},Res n R R' (B + 9)->Res n R R' (B + 10):=fun h=>⟨h.ri,h.wt,h.sb.mono (by omega),h.le,h.ca,h.qs⟩
 cases ev with
 | fresh=>
  obtain ⟨r1,r2,r3,r4⟩:=zgI wn 4 (h:=0) (c:=none) (by have:=wn.hl;omega) ri wt sb wn.h1 (fun c' z=>by cases z)
  refine ⟨r1,r2,r3.mono (by omega),r4.1,r4.2.1,fun i e' h' hs=>?_⟩
  by_cases z:i < R.es.length
  ·have hq:R.es[i]? = some R.es[i]:=getElem?_eq_getElem z
   have:=r4.2.2.1 i _ hq
   rw [show doR n R .fresh = yL n 4 R 0 none from rfl,this] at h'
   cases h'
   exact .inl ⟨_,hq,rfl,rfl⟩
  ·have:=r4.2.2.2 i e' h' (by omega)
   rw [hs] at this
   cases this
 | ends i w=>
  obtain ⟨e,he,hw⟩:=hc
  have hp:e.ph = .works:=by
   cases q:e.ph with
   | works=>rfl
   | _=>rw [q] at hw;cases hw
  exact up10 (zeP wn 4 ri wt sb he (by have:=ri.hs _ _ he;have:=wn.hl;omega) (by rw [hp];rfl) (zkh wt he fun a t z=>by rw [hp] at z;cases z))
 | up i=>
  obtain ⟨e,he,hs⟩:=hc
  exact up10 (zeP wn 4 ri wt sb he (by have:=ri.hs _ _ he;have:=wn.hl;omega) (by cases q:e.ph <;> rw [q] at hs <;> first | rfl | cases hs) (zkh wt he fun a t z=>by rw [z] at hs;cases hs))
 | again i=>
  obtain ⟨e,he,hs,_⟩:=hc
  show Res n R (zeE n R i) _
  unfold zeE
  rw [z0 he]
  have te:=zhE R (n.pof (n.ask e.house e.ph.at1))
  have ri1:RI n (takeO R (n.pof (n.ask e.house e.ph.at1))):=⟨by rw [te.1];exact ri.hs,by rw [te.1];exact ri.cl,by rw [te.1];exact ri.ph,by rw [te.2.1];exact ri.pl⟩
  have wt1:WT (takeO R (n.pof (n.ask e.house e.ph.at1))):=by intro j q c;rw [te.1];exact wt j q c
  have nl1:NL (takeO R (n.pof (n.ask e.house e.ph.at1))) i:=by intro j q c;rw [te.1];exact zkh wt he (fun a t z=>by rw [z] at hs;cases hs) j q c
  obtain ⟨r1,r2,r3,r4,r5,_,r7⟩:=ziU wn (at':=e.ph.at1) (tr:=e.ph.at2 + 1) ri1 wt1 (sb.takeO _) (by rw [te.1];exact he) (zcd hs (ri.ph _ _ he)) (by cases q:e.ph <;> rw [q] at hs <;> first | rfl | cases hs) nl1 (by omega)
  refine ⟨r1,r2,r3.mono (by omega),by rw [te.1] at r4;exact r4,by rw [r5,te.2.2],?_⟩
  intro j e' h' hs'
  have:=r7 j e' h' hs'
  rw [te.1,te.2.2] at this
  exact this
 | lost i=>
  obtain ⟨e,c,he,hq,hlv⟩:=hc
  show Res n R (zdU n R i) _
  have e0:zdU n R i = zbN n (zai n 4) (R.setE i { e with lost:=true }) c "bad":=by
   have el:∀ (o:Option (Nat × Nat × Nat)) (f:Nat × Nat × Nat->Run),o = some c->o.elim R f = f c:=fun o f h=>by rw [h];rfl
   unfold zdU
   rw [z0 he]
   exact el _ _ hq
  rw [e0]
  have ri1:RI n (R.setE i { e with lost:=true }):=ri.setE he rfl rfl (by have:=ri.ph _ _ he;unfold zdR at this ⊢;exact this)
  obtain ⟨ce,c1,c2,c3⟩:=wt i e c he hq hlv
  obtain ⟨d1,ce',d2,d3,d4⟩:=ri.cl i e c he hq
  rw [c1] at d2
  cases d2
  have hne:c.1 ≠ i:=by omega
  have c1':(R.setE i { e with lost:=true }).es[c.1]? = some ce:=by rw [zgy hne];exact c1
  have wt1:WT (R.setE i { e with lost:=true }):=fun j q cc h' hc' l'=>by
   have key:∀ q0,R.es[j]? = some q0->q0.caller = some cc->lv q0->∃ ce,(R.setE i { e with lost:=true }).es[cc.1]? = some ce/\ce.ph = .waits cc.2.1 cc.2.2/\ce.asked = some j:=fun q0 h0 hc0 l0=>by
    obtain ⟨x,x1,x2,x3⟩:=wt j q0 cc h0 hc0 l0
    by_cases z:cc.1 = i
    ·rw [z] at x1 ⊢
     rw [he] at x1
     cases x1
     exact ⟨_,zgx he _,x2,x3⟩
    ·exact ⟨x,by rw [zgy z];exact x1,x2,x3⟩
   rcases zah h' with ⟨rfl,rfl,_⟩ | ⟨_,h'⟩
   ·cases l'.1
   ·exact key q h' hc' l'
  have nl1:NL (R.setE i { e with lost:=true }) c.1:=fun j e' cc h' hc' z l'=>by
   rcases zah h' with ⟨rfl,rfl,_⟩ | ⟨hji,h'⟩
   ·cases l'.1
   ·obtain ⟨x,x1,x2,x3⟩:=wt j e' cc h' hc' l'
    rw [z,c1] at x1
    cases x1
    rw [c3] at x3
    cases x3
    exact hji rfl
  have hend:=zeP wn 4 (w:="bad") ri1 wt1 (sb.setE _ _) c1' (by have:=ri1.hs _ _ c1';have:=wn.hl;omega) (by rw [c2];rfl) nl1
  have hh:=zh1 wn (w:="bad") ri1 wt1 (sb.setE _ _) c1' d4 c2 nl1 hend
  refine ⟨hh.ri,hh.wt,hh.sb.mono (by omega),by have:=hh.le;simp [Run.setE] at this;exact this,hh.ca,fun j e' h' hs=>?_⟩
  rcases hh.qs j e' h' hs with ⟨e1,a1,a2,a3⟩ | ⟨a1,e1,a,t,a2,a3⟩
  ·rcases zah a1 with ⟨rfl,rfl,_⟩ | ⟨_,a1⟩
   ·exact .inl ⟨e,he,a2,a3⟩
   ·exact .inl ⟨e1,a1,a2,a3⟩
  ·rcases zah a2 with ⟨rfl,rfl,_⟩ | ⟨_,a2⟩
   ·exact .inr ⟨a1,e,a,t,he,a3⟩
   ·exact .inr ⟨a1,e1,a,t,a2,a3⟩
end My
namespace My
open PySem L2 FT
noncomputable def Run.new (n:Net):Run:=⟨0,[],n.ps.map fun _=>[],[],n.ps.map fun _=>0⟩
noncomputable def qp (n:Net) (evs:List Evt):Run:=evs.foldl (zb5 n) (Run.new n)
def Can (n:Net) (R:Run) (ev:Evt):Prop:=ev.isF = true\/((∃ e,R.es[ev.num]? = some e)/\ev ∈ zbg n R ev.num)
noncomputable def VEv (n:Net):Run->List Evt->Prop
 | _,[]=>True
 | R,ev :: evs=>Can n R ev/\VEv n (zb5 n R ev) evs
theorem Can.c {n:Net} {R:Run} {ev:Evt} (h:Can n R ev):EvC n R ev:=by
 rcases h with h | ⟨⟨e,he⟩,hm⟩
 ·cases ev with
  | fresh=>exact True.intro
  | _=>cases h
 ·exact (zgC he hm).2.2
structure Good (n:Net) (R:Run) (B:Nat):Prop where
 ri:RI n R
 wt:WT R
 sb:SB B R
 sd:∀ (i:Nat) (e:Er) (k:Nat),R.es[i]? = some e->e.ph.isS = true->e.stood = some k->k < R.came
theorem zlY (n:Net):Good n (Run.new n) 0:=⟨⟨fun i e h=>by simp [Run.new] at h,fun i e c h=>by simp [Run.new] at h,fun i e h=>by simp [Run.new] at h,by simp [Run.new]⟩,fun i e c h=>by simp [Run.new] at h,⟨Nat.le_refl _,fun u hu=>by
 obtain ⟨_,_,rfl⟩:=mem_map.mp hu
 exact Nat.le_refl _,Nat.le_refl _,fun v hv=>by
 obtain ⟨_,_,rfl⟩:=mem_map.mp hv
 exact Nat.le_refl _⟩,fun i e k h=>by simp [Run.new] at h⟩
theorem zkV {n:Net} (wn:WN n) {R:Run} {B:Nat} (g:Good n R B) {ev:Evt} (hc:Can n R ev):Good n (zb5 n R ev) (B + 10):=by
 have r:=zik wn g.ri g.wt g.sb hc.c
 exact ⟨⟨r.ri.hs,r.ri.cl,r.ri.ph,r.ri.pl⟩,r.wt,⟨r.sb.es,r.sb.pu,r.sb.py,r.sb.tk⟩,fun i e k he hs hk=>by
  show k < (doR n R ev).came + 1
  rw [r.ca]
  rcases r.qs i e he hs with ⟨e1,a1,a2,a3⟩ | ⟨a1,_⟩
  ·have:=g.sd i e1 k a1 (by rw [a2];exact hs) (by rw [a3];exact hk)
   omega
  ·rw [a1] at hk
   cases hk
   omega⟩
section
variable {kE kR:Addr} {n:Net} {b r:Nat} {l:Lay} {M:Mem} {R:Run}
theorem zjX {G:Gd} {bd:FT.T->FT.Ev->Mem->Out FT.Ev} {el:FT.Ev->Mem->Out FT.T} {M:Mem} {α:Type} {r:α->FT.T} (hG:zdr G M) (I:FT.Ev->Prop) (f:α->FT.T):∀ {xs:List α} {σ:FT.Ev} {acc:List FT.T},I σ->acc.length + xs.length<=100000->
  (∀ x σ,x ∈ xs->I σ->∃ σ1,bd (r x) σ M = .ok σ1 M/\I σ1/\el σ1 M = .ok (f x) M)->zN G bd qH el (xs.map r) σ M acc = .ok (acc ++ xs.map f) M
 | [],σ,acc,_,_,_=>by simp [zN,zep hG]
 | x :: xs,σ,acc,h,hl,t=>by
  obtain ⟨σ1,e1,h1,e2⟩:=t x σ (.head _) h
  rw [length_cons] at hl
  have ih:=zjX hG I f (xs:=xs) (σ:=σ1) (acc:=acc ++ [f x]) h1 (by rw [length_append,length_cons,length_nil];omega) (fun y σ hy=>t y σ (.tail _ hy))
  rw [map_cons]
  unfold zN
  rw [zep hG,e1]
  show ((el σ1 M).bind _) = _
  rw [e2]
  show (if acc.length < sizeLine then zN G bd qH el (xs.map r) σ1 M (acc ++ [f x]) else .bad) = _
  rw [if_pos (by rw [sizeLine_eq];omega),ih]
  simp
theorem zfp {a:Nat} {xs:List FT.T} {M:Mem} (h:M[a]? = some (.lst xs)):zem (.ref a) M = some (xs,[(a,xs)]):=by
 show (match M[a]? with | some (.lst xs)=>some (xs,[(a,xs)]) | _=>none) = _
 rw [h]
noncomputable def erT (e:Er):FT.T:=.tup [nT e.house,clT e.caller,phT e.ph]
noncomputable def tdT (p:Int × Int):FT.T:=.tup [.int p.1,.int p.2]
noncomputable def za0 (n:Net) (R:Run):FT.T:=.tup [.lst (R.es.map erT),.lst ((List.range n.ps.length).map fun k=>tdT (R.told n k))]
theorem zfB (h:RunAt kE kR (zg n) b r l M R) (wn:WN n) (ri:RI n R) {B:Nat} (hB:B < 90000) (sb:SB B R):zaP kE kR [.ref r] M = .ok (za0 n R) M:=by
 unfold zaP zgZ
 have zp:l.es.map FT.T.ref = (List.zip l.es R.es).map fun q=>FT.T.ref q.1:=by
  rw [show (fun q:Nat × Er=>FT.T.ref q.1) = FT.T.ref ∘ Prod.fst from rfl,← map_map,List.map_fst_zip (by rw [h.el];exact Nat.le_refl _)]
 have z2:R.es.map erT = (List.zip l.es R.es).map fun q=>erT q.2:=by
  rw [show (fun q:Nat × Er=>erT q.2) = erT ∘ Prod.snd from rfl,← map_map,List.map_snd_zip (by rw [h.el];exact Nat.le_refl _)]
 have c1:=zjX (G:=[(l.a,l.es.map FT.T.ref)]) (bd:=zi 0) (el:=zK (zb (zj [kE] "house" (yb 0)) (zb (zj [kE] "caller" (yb 0)) (zb (zj [kE] "state" (yb 0)) zd)))) (M:=M) (r:=fun q:Nat × Er=>FT.T.ref q.1) (zfs h.er) (fun σ=>∃ o,σ = [o]) (fun q=>erT q.2) (xs:=List.zip l.es R.es) (σ:=[none]) (acc:=[]) ⟨_,rfl⟩ (by rw [length_nil,List.length_zip,h.el,Nat.min_self];have:=sb.es;omega) (by
  rintro ⟨x,e⟩ σ hx ⟨o,rfl⟩
  obtain ⟨i,hi⟩:=mem_iff_getElem?.mp hx
  have hxe:l.es[i]? = some x/\R.es[i]? = some e:=by
   rw [List.getElem?_zip_eq_some] at hi
   exact hi
  obtain ⟨x',hx',hc⟩:=h.at_e hxe.2
  rw [hxe.1] at hx'
  cases hx'
  refine ⟨[some (.ref x)],rfl,⟨_,rfl⟩,?_⟩
  have f1:=qG (f:="house") hc rfl
  have f2:=qG (f:="caller") hc rfl
  have f3:=qG (f:="state") hc rfl
  simp_arith [zj,f1,f2,f3]
  rfl)
 rw [nil_append,← zp,← z2] at c1
 have rg:zfl [.int ((n.ps.map puT).length:Int)] M = .ok ((rgI n.ps.length).map .int) M:=by
  rw [za3 (by rw [length_map];have:=wn.pl;omega),length_map,Int.toNat_natCast]
 have c2:zy (zi 0) qH (ze (qS kE kR) (zb (yb 1) (zb (yb 0) zd))) ((rgI n.ps.length).map .int) [none,some (.ref r)] M [] = .ok ((List.range n.ps.length).map fun k=>tdT (R.told n k)) M:=by
  rw [show (rgI n.ps.length).map FT.T.int = (List.range n.ps.length).map nT by unfold rgI;rw [map_map];rfl]
  exact Ok.mapc (r:=nT) (fun σ=>∃ o,σ = [o,some (.ref r)]) _ ⟨_,rfl⟩ (by rw [length_range];have:=wn.pl;omega) (by
   rintro k σ hk ⟨o,rfl⟩
   refine ⟨[some (nT k),some (.ref r)],rfl,⟨_,rfl⟩,?_⟩
   simp_arith [ziX h wn ri.pl (mem_range.mp hk)]
   rfl)
 have hnt:=h.net
 unfold zg at hnt
 simp_arith [zj,h.errands,zbM,zfp h.er,zS,c1,hnt,rg,c2]
 rfl
end
section
variable {kE kR:Addr} {n:Net}
theorem zjc (M X:Mem) (c:Cell):(M ++ (c :: X))[M.length]? = some c:=by
 rw [getElem?_append_right (Nat.le_refl _),Nat.sub_self];rfl
theorem znb (M X:Mem) (c d:Cell):(M ++ (c :: X)).set M.length d = M ++ (d :: X):=by
 rw [set_append_right _ _ (Nat.le_refl _),Nat.sub_self];rfl
theorem zel {M X:Mem} {c d:Cell} {i:Nat} (h:X[i]? = some d):(M ++ (c :: X))[M.length + 1 + i]? = some d:=by
 rw [getElem?_append_right (by omega),show M.length + 1 + i - M.length = i + 1 by omega,getElem?_cons_succ];exact h
theorem setM {M X:Mem} {fs fs':List (Str × FT.T)} {f:Str} {y:FT.T} (e:zcT f y fs = fs') (hl:fs.length < 1000):zaJ [kR] f (.ref M.length) y (M ++ (.ins kR fs :: X)) = .ok () (M ++ (.ins kR fs' :: X)):=by
 rw [za1 (zjc M X _) e hl,znb]
noncomputable def puA (b p:Nat):List Nat:=(List.range p).map fun j=>b + 2 + j
noncomputable def newX (n:Net) (b:Nat):Mem:=(.lst [] :: List.replicate n.ps.length (.lst [])) ++ [.lst ((puA b n.ps.length).map .ref)] ++ [.lst []] ++ [.lst ((n.ps.map fun _=>0).map nT)]
noncomputable def zcq (n:Net) (b:Nat):Lay:=⟨b + 1,b + 2 + n.ps.length,b + 3 + n.ps.length,b + 4 + n.ps.length,[],puA b n.ps.length⟩
theorem zm7 (M:Mem):RunAt kE kR (zg n) M.length M.length (zcq n M.length) (M ++ (.ins kR (zbV (zg n) (zcq n M.length) (Run.new n)) :: newX n M.length)) (Run.new n):=by
 have pz:pzC (puA M.length n.ps.length) (n.ps.map fun _=>[]) = (List.range n.ps.length).map fun j=>(M.length + 2 + j,Cell.lst []):=by
  unfold pzC puA
  refine ext_getElem? fun i=>?_
  rw [List.getElem?_zipWith,getElem?_map,getElem?_map,getElem?_map]
  by_cases z:i < n.ps.length
  ·rw [getElem?_range z,getElem?_eq_getElem z]
   rfl
  ·rw [getElem?_eq_none (by simpa using z)]
   rfl
 have cs:cells kE kR (zg n) M.length (zcq n M.length) (Run.new n) = (M.length,.ins kR (zbV (zg n) (zcq n M.length) (Run.new n))) :: (M.length + 1,.lst []) :: (M.length + 2 + n.ps.length,.lst ((puA M.length n.ps.length).map .ref)) :: (M.length + 3 + n.ps.length,.lst []) :: (M.length + 4 + n.ps.length,.lst ((n.ps.map fun _=>0).map nT)) :: ((List.range n.ps.length).map fun j=>(M.length + 2 + j,Cell.lst [])):=by
  rw [← pz]
  rfl
 have xl:newX n M.length = Cell.lst [] :: (List.replicate n.ps.length (Cell.lst []) ++ [.lst ((puA M.length n.ps.length).map .ref),.lst [],.lst ((n.ps.map fun _=>0).map nT)]):=by
  unfold newX
  simp
 have ap:∀ (k:Nat) (d:Cell),[Cell.lst ((puA M.length n.ps.length).map FT.T.ref),.lst [],.lst ((n.ps.map fun _=>0).map nT)][k]? = some d->(newX n M.length)[n.ps.length + 1 + k]? = some d:=fun k d h=>by
  rw [xl,show n.ps.length + 1 + k = (n.ps.length + k) + 1 by omega,getElem?_cons_succ,getElem?_append_right (by rw [length_replicate];omega),length_replicate,show n.ps.length + k - n.ps.length = k by omega]
  exact h
 refine ⟨?_,?_,?_,rfl,by simp [zcq,puA,Run.new],by simp [Run.new]⟩
 ·rw [cs]
  intro p hp
  rcases mem_cons.mp hp with rfl | hp
  ·exact zjc _ _ _
  rcases mem_cons.mp hp with rfl | hp
  ·exact zel (i:=0) (by rw [xl];rfl)
  rcases mem_cons.mp hp with rfl | hp
  ·have:=zel (M:=M) (c:=.ins kR (zbV (zg n) (zcq n M.length) (Run.new n))) (ap 0 _ rfl)
   rw [show M.length + 1 + (n.ps.length + 1 + 0) = M.length + 2 + n.ps.length by omega] at this
   exact this
  rcases mem_cons.mp hp with rfl | hp
  ·have:=zel (M:=M) (c:=.ins kR (zbV (zg n) (zcq n M.length) (Run.new n))) (ap 1 _ rfl)
   rw [show M.length + 1 + (n.ps.length + 1 + 1) = M.length + 3 + n.ps.length by omega] at this
   exact this
  rcases mem_cons.mp hp with rfl | hp
  ·have:=zel (M:=M) (c:=.ins kR (zbV (zg n) (zcq n M.length) (Run.new n))) (ap 2 _ rfl)
   rw [show M.length + 1 + (n.ps.length + 1 + 2) = M.length + 4 + n.ps.length by omega] at this
   exact this
  ·obtain ⟨j,hj,rfl⟩:=mem_map.mp hp
   have hj:=mem_range.mp hj
   have:(newX n M.length)[1 + j]? = some (.lst []):=by
    rw [xl,Nat.add_comm 1 j,getElem?_cons_succ,getElem?_append_left (by rw [length_replicate];exact hj),List.getElem?_replicate,if_pos hj]
   have:=zel (M:=M) (c:=.ins kR (zbV (zg n) (zcq n M.length) (Run.new n))) this
   rw [show M.length + 1 + (1 + j) = M.length + 2 + j by omega] at this
   exact this
 ·rw [cs]
  simp only [map_cons,map_map]
  have hm:∀ x,x ∈ (List.range n.ps.length).map ((fun p:Nat × Cell=>p.1) ∘ fun j=>(M.length + 2 + j,Cell.lst []))->M.length + 2<=x/\x < M.length + 2 + n.ps.length:=fun x hx=>by
   obtain ⟨j,hj,rfl⟩:=mem_map.mp hx
   have:=mem_range.mp hj
   simp only [Function.comp]
   omega
  refine nodup_cons.mpr ⟨?_,nodup_cons.mpr ⟨?_,nodup_cons.mpr ⟨?_,nodup_cons.mpr ⟨?_,nodup_cons.mpr ⟨?_,?_⟩⟩⟩⟩⟩
  ·intro z
   simp only [mem_cons] at z
   rcases z with z | z | z | z | z
   ·omega
   ·omega
   ·omega
   ·omega
   ·have:=hm _ z;omega
  ·intro z
   simp only [mem_cons] at z
   rcases z with z | z | z | z
   ·omega
   ·omega
   ·omega
   ·have:=hm _ z;omega
  ·intro z
   simp only [mem_cons] at z
   rcases z with z | z | z
   ·omega
   ·omega
   ·have:=hm _ z;omega
  ·intro z
   simp only [mem_cons] at z
   rcases z with z | z
   ·omega
   ·have:=hm _ z;omega
  ·intro z
   have:=hm _ z;omega
  ·rw [List.Nodup,List.pairwise_map]
   exact (List.nodup_range).imp fun h=>by simp only [Function.comp];omega
 ·rw [cs]
  intro p hp
  rcases mem_cons.mp hp with rfl | hp
  ·exact Nat.le_refl _
  rcases mem_cons.mp hp with rfl | hp
  ·exact Nat.le_succ _
  rcases mem_cons.mp hp with rfl | hp
  ·show M.length<=M.length + 2 + n.ps.length;omega
  rcases mem_cons.mp hp with rfl | hp
  ·show M.length<=M.length + 3 + n.ps.length;omega
  rcases mem_cons.mp hp with rfl | hp
  ·show M.length<=M.length + 4 + n.ps.length;omega
  ·obtain ⟨j,_,rfl⟩:=mem_map.mp hp
   show M.length<=M.length + 2 + j;omega
theorem zfu:∀ (xs:List FT.T) (o:Option FT.T) (M:Mem) (acc:List FT.T),acc.length + xs.length<=100000->zy (zi 0) qH (eTk (qx zd)) xs [o] M acc = .ok (acc ++ (List.range xs.length).map fun j=>.ref (M.length + j)) (M ++ List.replicate xs.length (.lst []))
 | [],o,M,acc,_=>by simp [zy]
 | x :: xs,o,M,acc,hl=>by
  rw [length_cons] at hl
  have ih:=zfu xs (some x) (M ++ [.lst []]) (acc ++ [.ref M.length]) (by rw [length_append,length_singleton];omega)
  unfold zy
  show (if acc.length < sizeLine then zy (zi 0) qH (eTk (qx zd)) xs [some x] (M ++ [.lst []]) (acc ++ [.ref M.length]) else .bad) = _
  rw [if_pos (by rw [sizeLine_eq];omega),ih]
  congr 1
  ·rw [List.append_assoc,length_cons,List.range_succ_eq_map,map_cons,map_map]
   congr 1
   show FT.T.ref M.length :: _ = FT.T.ref (M.length + 0) :: _
   congr 1
   refine List.map_congr_left fun j _=>?_
   simp
   omega
  ·rw [length_cons,replicate_succ]
   simp
theorem zjh (wn:WN n) (M:Mem):Ok (y6 kE kR [.ref M.length,zg n] (M ++ [.ins kR []])) fun t M'=>t = .non/\M' = M ++ (.ins kR (zbV (zg n) (zcq n M.length) (Run.new n)) :: newX n M.length):=by
 refine qu rfl ?_
 unfold zfV
 have pl:=wn.pl
 have ap:∀ (X:Mem) (c d:Cell),M ++ c :: X ++ [d] = M ++ (c :: (X ++ [d])):=fun X c d=>by simp
 have ln:∀ (X:Mem) (c:Cell),(M ++ c :: X).length = M.length + 1 + X.length:=fun X c=>by simp;omega
 have s1:=setM (kR:=kR) (M:=M) (X:=[]) (fs:=[]) (f:="net") (y:=zg n) (fs':=[("net",zg n)]) rfl (by decide)
 have s2:=setM (kR:=kR) (M:=M) (X:=[]) (fs:=[("net",zg n)]) (f:="came") (y:=.int 0) (fs':=[("net",zg n),("came",.int 0)]) rfl (by simp)
 have s3:=setM (kR:=kR) (M:=M) (X:=[.lst []]) (fs:=[("net",zg n),("came",.int 0)]) (f:="errands") (y:=.ref (M.length + 1)) (fs':=[("net",zg n),("came",.int 0),("errands",.ref (M.length + 1))]) rfl (by simp)
 have it:zaH (eOp ixT (yb 1) (eC (.int 1))) [some (.ref M.length),some (zg n)] = fun M=>.ok (n.ps.map puT) M:=rfl
 have cp:∀ o,zy (zi 0) qH (eTk (qx zd)) (n.ps.map puT) [o] (M ++ (.ins kR [("net",zg n),("came",.int 0),("errands",.ref (M.length + 1))] :: [.lst []])) [] = .ok ((puA M.length n.ps.length).map .ref) (M ++ (.ins kR [("net",zg n),("came",.int 0),("errands",.ref (M.length + 1))] :: (.lst [] :: List.replicate n.ps.length (.lst [])))):=fun o=>by
  rw [zfu _ _ _ _ (by rw [length_nil,length_map];omega),length_map,nil_append]
  congr 1
  ·unfold puA
   rw [map_map]
   refine List.map_congr_left fun j _=>?_
   simp
  ·simp
 have s4:=setM (kR:=kR) (M:=M) (X:=(.lst [] :: List.replicate n.ps.length (.lst [])) ++ [.lst ((puA M.length n.ps.length).map .ref)]) (fs:=[("net",zg n),("came",.int 0),("errands",.ref (M.length + 1))]) (f:="puts") (y:=.ref (M.length + 2 + n.ps.length)) (fs':=[("net",zg n),("came",.int 0),("errands",.ref (M.length + 1)),("puts",.ref (M.length + 2 + n.ps.length))]) rfl (by simp)
 have s5:=setM (kR:=kR) (M:=M) (X:=(.lst [] :: List.replicate n.ps.length (.lst [])) ++ [.lst ((puA M.length n.ps.length).map .ref)] ++ [.lst []]) (fs:=[("net",zg n),("came",.int 0),("errands",.ref (M.length + 1)),("puts",.ref (M.length + 2 + n.ps.length))]) (f:="payments") (y:=.ref (M.length + 3 + n.ps.length)) (fs':=[("net",zg n),("came",.int 0),("errands",.ref (M.length + 1)),("puts",.ref (M.length + 2 + n.ps.length)),("payments",.ref (M.length + 3 + n.ps.length))]) rfl (by simp)
 have s6:=setM (kR:=kR) (M:=M) (X:=newX n M.length) (fs:=[("net",zg n),("came",.int 0),("errands",.ref (M.length + 1)),("puts",.ref (M.length + 2 + n.ps.length)),("payments",.ref (M.length + 3 + n.ps.length))]) (f:="taken") (y:=.ref (M.length + 4 + n.ps.length)) (fs':=zbV (zg n) (zcq n M.length) (Run.new n)) rfl (by simp)
 have ct:∀ o M',zy (zi 0) qH (eC (.int 0)) (n.ps.map puT) [o] M' [] = .ok ((n.ps.map fun _=>0).map nT) M':=fun o M'=>by
  rw [map_map]
  exact Ok.mapc (r:=puT) (fun σ=>∃ o,σ = [o]) _ ⟨_,rfl⟩ (by omega) (by
   rintro x σ hx ⟨o,rfl⟩
   exact ⟨[some (puT x)],rfl,⟨_,rfl⟩,rfl⟩)
 have l4:(M ++ Cell.ins kR [("net",zg n),("came",.int 0),("errands",.ref (M.length + 1))] :: (.lst [] :: List.replicate n.ps.length (Cell.lst []))).length = M.length + 2 + n.ps.length:=by simp;omega
 have l5:(M ++ Cell.ins kR [("net",zg n),("came",.int 0),("errands",.ref (M.length + 1)),("puts",.ref (M.length + 2 + n.ps.length))] :: ((.lst [] :: List.replicate n.ps.length (Cell.lst [])) ++ [.lst ((puA M.length n.ps.length).map .ref)])).length = M.length + 3 + n.ps.length:=by simp;omega
 have l6:(M ++ Cell.ins kR [("net",zg n),("came",.int 0),("errands",.ref (M.length + 1)),("puts",.ref (M.length + 2 + n.ps.length)),("payments",.ref (M.length + 3 + n.ps.length))] :: ((.lst [] :: List.replicate n.ps.length (Cell.lst [])) ++ [.lst ((puA M.length n.ps.length).map .ref)] ++ [.lst []])).length = M.length + 4 + n.ps.length:=by simp;omega
 have st:∀ (f:Str) (y:FT.T) (fv:Ev->Mem->Out FT.T) (M0 M1 M2:Mem),fv [some (.ref M.length),some (zg n)] M0 = .ok y M1->zaJ [kR] f (.ref M.length) y M1 = .ok () M2->yD [kR] f (yb 0) fv [some (.ref M.length),some (zg n)] M0 = .ok (.nx [some (.ref M.length),some (zg n)]) M2:=fun f y fv M0 M1 M2 h1 h2=>by
  unfold yD
  rw [h1]
  show (zaJ [kR] f (.ref M.length) y M1).bind _ = _
  rw [h2]
  rfl
 refine ⟨.non,_,?_,rfl,rfl⟩
 have t1:=st "net" (zg n) (yb 1) _ _ _ rfl s1
 have t2:=st "came" (.int 0) (eC (.int 0)) _ _ _ rfl s2
 have t3:=st "errands" (.ref (M.length + 1)) (eTk (qx zd)) (M ++ (.ins kR [("net",zg n),("came",.int 0)] :: [])) _ _ (by
  show Out.ok (FT.T.ref (M ++ [Cell.ins kR [("net",zg n),("came",.int 0)]]).length) (M ++ [Cell.ins kR [("net",zg n),("came",.int 0)]] ++ [.lst []]) = .ok (.ref (M.length + 1)) (M ++ (.ins kR [("net",zg n),("came",.int 0)] :: [.lst []]))
  simp) s3
 have t4:=st "puts" (.ref (M.length + 2 + n.ps.length)) (eTk (yU (zaH (eOp ixT (yb 1) (eC (.int 1)))) (zi 0) qH (eTk (qx zd)) ["purse"] [])) (M ++ (.ins kR [("net",zg n),("came",.int 0),("errands",.ref (M.length + 1))] :: [.lst []])) _ _ (by
  show ((zy (zi 0) qH (eTk (qx zd)) (n.ps.map puT) [none] (M ++ (.ins kR [("net",zg n),("came",.int 0),("errands",.ref (M.length + 1))] :: [.lst []])) []).bind fun ts M1=>Out.ok (FT.T.ref M1.length) (M1 ++ [Cell.lst ts])) = _
  rw [cp]
  show Out.ok (FT.T.ref (List.length _)) _ = _
  rw [l4,ap]) s4
 have t5:=st "payments" (.ref (M.length + 3 + n.ps.length)) (eTk (qx zd)) (M ++ (.ins kR [("net",zg n),("came",.int 0),("errands",.ref (M.length + 1)),("puts",.ref (M.length + 2 + n.ps.length))] :: ((.lst [] :: List.replicate n.ps.length (.lst [])) ++ [.lst ((puA M.length n.ps.length).map .ref)]))) _ _ (by
  show Out.ok (FT.T.ref (List.length _)) _ = _
  rw [l5,ap]) s5
 have t6:=st "taken" (.ref (M.length + 4 + n.ps.length)) (eTk (yU (zaH (eOp ixT (yb 1) (eC (.int 1)))) (zi 0) qH (eC (.int 0)) ["purse"] [])) (M ++ (.ins kR [("net",zg n),("came",.int 0),("errands",.ref (M.length + 1)),("puts",.ref (M.length + 2 + n.ps.length)),("payments",.ref (M.length + 3 + n.ps.length))] :: ((.lst [] :: List.replicate n.ps.length (.lst [])) ++ [.lst ((puA M.length n.ps.length).map .ref)] ++ [.lst []]))) _ _ (by
  show ((zy (zi 0) qH (eC (.int 0)) (n.ps.map puT) [none] _ []).bind fun ts M1=>Out.ok (FT.T.ref M1.length) (M1 ++ [Cell.lst ts])) = _
  rw [ct]
  show Out.ok (FT.T.ref (List.length _)) _ = _
  rw [l6,ap]
  rfl) s6
 rw [show startT 2 [.ref M.length,zg n] = [some (.ref M.length),some (zg n)] from rfl]
 unfold yg
 rw [t1]
 show ((((yD [kR] "came" (yb 0) (eC (.int 0)) [some (.ref M.length),some (zg n)] _).bind _)).bind zcS) = _
 rw [t2]
 show ((((yD [kR] "errands" (yb 0) (eTk (qx zd)) [some (.ref M.length),some (zg n)] _).bind _)).bind zcS) = _
 rw [t3]
 show ((((yD [kR] "puts" (yb 0) _ [some (.ref M.length),some (zg n)] _).bind _)).bind zcS) = _
 rw [t4]
 show ((((yD [kR] "payments" (yb 0) _ [some (.ref M.length),some (zg n)] _).bind _)).bind zcS) = _
 rw [t5]
 show (((yD [kR] "taken" (yb 0) _ [some (.ref M.length),some (zg n)] _)).bind zcS) = _
 rw [t6]
 rfl
theorem zkH (wn:WN n) (M:Mem) {σ:Ev} (hσ:yb 0 σ = fun M=>.ok (zg n) M):∃ M',zcy kR (y6 kE kR) (zb (yb 0) zd) σ M = .ok (.ref M.length) M'/\RunAt kE kR (zg n) M.length M.length (zcq n M.length) M' (Run.new n)/\Kp M.length M M':=by
 obtain ⟨t,M',e,rfl,rfl⟩:=zjh (kE:=kE) (kR:=kR) wn M
 refine ⟨_,?_,zm7 M,?_⟩
 ·unfold zcy zb zd
  rw [hσ]
  show ((y6 kE kR [.ref M.length,zg n] (M ++ [.ins kR []])).bind _) = _
  rw [e]
  rfl
 ·exact ⟨by simp,fun i hi=>getElem?_append_left hi⟩
def EvS (t:FT.T) (evs:List Evt):Prop:=t = .lst (evs.map evT)\/t = .tup (evs.map evT)
theorem zda {α β:Type} {f:β->α->β} {x:β} {xs:List α} {k:Nat} {y:α} (h:xs[k]? = some y):(xs.take (k + 1)).foldl f x = f ((xs.take k).foldl f x) y:=by
 rw [take_succ,h,foldl_append]
 rfl
theorem VEv.at_ {n:Net}:∀ {evs:List Evt} {R:Run} {k:Nat} {ev:Evt},VEv n R evs->evs[k]? = some ev->Can n ((evs.take k).foldl (zb5 n) R) ev
 | [],_,_,_,_,h=>by simp at h
 | e0 :: evs,R,0,ev,v,h=>by
  simp at h
  subst h
  exact v.1
 | e0 :: evs,R,k + 1,ev,v,h=>by
  simp at h
  exact VEv.at_ (k:=k) v.2 h
theorem zaO (wn:WN n) {evs:List Evt} (v:VEv n (Run.new n) evs):∀ k,k<=evs.length->Good n (qp n (evs.take k)) (10 * k)
 | 0,_=>zlY n
 | k + 1,h=>by
  have hk:evs[k]? = some evs[k]:=getElem?_eq_getElem (by omega)
  have g:=zaO wn v k (by omega)
  have c:=v.at_ hk
  unfold qp at g ⊢
  rw [zda hk]
  have:=zkV wn g c
  exact ⟨this.ri,this.wt,this.sb.mono (by omega),this.sd⟩
theorem zgT (wn:WN n) {b r:Nat} {l:Lay} {M:Mem} {R:Run} {B:Nat} (h:RunAt kE kR (zg n) b r l M R) (g:Good n R B) (hB:B + 10 < 90000) {ev:Evt} (hc:Can n R ev):yJ kE kR [.ref r,evT ev] M = .ok .non M/\Ok (z6 kE kR [.ref r,evT ev] M) (Lv kE kR n b r (zb5 n R ev) M):=by
 refine ⟨?_,zoI h wn hB g.sb g.ri hc.c.ok⟩
 rcases hc with hf | ⟨⟨e,he⟩,hm⟩
 ·cases ev with
  | fresh=>exact zlc h
  | _=>cases hf
 ·have:=zgC he hm
  exact zpA h wn g.ri (by have:=g.sb.es;omega) this.1 he hm
theorem zkv (wn:WN n) {t:FT.T} {evs:List Evt} (ht:EvS t evs) (v:VEv n (Run.new n) evs) (hl:evs.length<=2000) (M:Mem):Ok (zbY kE kR [zg n,t] M) fun u M'=>u = .ref M.length/\Kp M.length M M'/\∃ l,RunAt kE kR (zg n) M.length M.length l M' (qp n evs):=by
 refine qu rfl ?_
 unfold zh4
 obtain ⟨M1,e1,h1,k1⟩:=zkH (kE:=kE) (kR:=kR) wn M (σ:=[some (zg n),some t,none,none]) rfl
 have loop:Ok (forL (zi 3) (zeC kE kR) (evs.map evT) [some (zg n),some t,some (.ref M.length),none] M1) fun fl M'=>∃ σ,fl = .nx σ/\∃ o,σ = [some (zg n),some t,some (.ref M.length),o]/\Kp M.length M M'/\∃ l,RunAt kE kR (zg n) M.length M.length l M' (qp n evs):=by
  refine (Ok.for (r:=evT) (xs:=evs) (fun k σ M'=>∃ o,σ = [some (zg n),some t,some (.ref M.length),o]/\Kp M.length M M'/\∃ l,RunAt kE kR (zg n) M.length M.length l M' (qp n (evs.take k))) ⟨none,rfl,k1,_,h1⟩ ?_).mono ?_
  ·rintro k ev σ M2 hk ⟨o,rfl,k2,l2,h2⟩
   have hkl:=(List.getElem?_eq_some_iff.mp hk).1
   obtain ⟨c1,c2⟩:=zgT wn h2 (zaO wn v k (by omega)) (by omega) (v.at_ hk)
   unfold zeC
   simp_arith [c1]
   refine Ok.bind c2 ?_
   rintro u M3 ⟨rfl,k3,l3,h3⟩
   try simp_arith [and_self]
   refine Ok.ret ⟨_,rfl,_,rfl,k2.trans k3,l3,?_⟩
   unfold qp at h3 ⊢
   rw [zda hk]
   exact h3
  ·rintro fl M' ⟨σ,rfl,o,rfl,k2,l2,h2⟩
   rw [take_length] at h2
   exact ⟨_,rfl,o,rfl,k2,l2,h2⟩
 simp_arith [e1]
 rcases ht with rfl | rfl
 ·simp_arith [and_self]
  refine Ok.bind loop ?_
  rintro fl M' ⟨σ,rfl,o,rfl,k2,l2,h2⟩
  simp_arith [and_self]
  exact Ok.ret ⟨rfl,k2,l2,h2⟩
 ·simp_arith [and_self]
  refine Ok.bind loop ?_
  rintro fl M' ⟨σ,rfl,o,rfl,k2,l2,h2⟩
  simp_arith [and_self]
  exact Ok.ret ⟨rfl,k2,l2,h2⟩
theorem zf7 {M M':Mem} (h:Kp M.length M M'):M'.take M.length = M:=by
 refine ext_getElem? fun i=>?_
 by_cases z:i < M.length
 ·rw [List.getElem?_take_of_lt z];exact h.2 i z
 ·rw [getElem?_eq_none (by rw [length_take];omega),getElem?_eq_none (by omega)]
theorem zqd (e:Er):FT.T.lt 0 (erT e):=by
 refine .tup fun t ht=>?_
 simp only [mem_cons,not_mem_nil,or_false] at ht
 rcases ht with rfl | rfl | rfl
 ·exact .int _
 ·cases e.caller with
  | none=>exact .non
  | some c=>
   refine .tup fun u hu=>?_
   simp only [mem_cons,not_mem_nil,or_false] at hu
   rcases hu with rfl | rfl | rfl <;> exact .int _
 ·cases e.ph with
  | works=>
   refine .tup fun u hu=>?_
   simp only [mem_cons,not_mem_nil,or_false] at hu
   rcases hu with rfl
   exact .str _
  | waits a t=>
   refine .tup fun u hu=>?_
   simp only [mem_cons,not_mem_nil,or_false] at hu
   rcases hu with rfl | rfl | rfl
   ·exact .str _
   ·exact .int _
   ·exact .int _
  | stands a t=>
   refine .tup fun u hu=>?_
   simp only [mem_cons,not_mem_nil,or_false] at hu
   rcases hu with rfl | rfl | rfl
   ·exact .str _
   ·exact .int _
   ·exact .int _
  | ended w=>
   refine .tup fun u hu=>?_
   simp only [mem_cons,not_mem_nil,or_false] at hu
   rcases hu with rfl | rfl
   ·exact .str _
   ·exact .str _
theorem zje (n:Net) (R:Run):FT.T.lt 0 (za0 n R):=by
 refine .tup fun t ht=>?_
 simp only [mem_cons,not_mem_nil,or_false] at ht
 rcases ht with rfl | rfl
 ·refine .lst fun u hu=>?_
  obtain ⟨e,_,rfl⟩:=mem_map.mp hu
  exact zqd e
 ·refine .lst fun u hu=>?_
  obtain ⟨k,_,rfl⟩:=mem_map.mp hu
  refine .tup fun v hv=>?_
  simp only [mem_cons,not_mem_nil,or_false] at hv
  rcases hv with rfl | rfl <;> exact .int _
theorem zky (wn:WN n) {t:FT.T} {evs:List Evt} (ht:EvS t evs) (v:VEv n (Run.new n) evs) (hl:evs.length<=2000) (M:Mem):zeF kE kR [zg n,t] M = .ok (za0 n (qp n evs)) M:=by
 have key:Ok (zj7 kE kR [zg n,t] M) fun u M'=>u = za0 n (qp n evs)/\Kp M.length M M':=by
  refine qu rfl ?_
  unfold zmo
  simp_arith [and_self]
  refine Ok.bind (zkv wn ht v hl M) ?_
  rintro u M1 ⟨rfl,k1,l1,h1⟩
  have g:=zaO wn v evs.length (Nat.le_refl _)
  rw [take_length] at g
  simp_arith [zfB h1 wn g.ri (B:=10 * evs.length) (by omega) g.sb]
  exact Ok.ret ⟨rfl,k1⟩
 obtain ⟨u,M',e,rfl,k⟩:=key
 unfold zeF zdf
 rw [e]
 dsimp only
 rw [if_pos ⟨zf7 k,zje _ _⟩]
end
noncomputable def zgo (n:Net) (R:Run):List Evt:=.fresh :: (List.range R.es.length).flatMap (zbg n R)
section
variable {kE kR:Addr} {n:Net}
theorem zic (R:Run) (i:Nat):(zbg n R i).length<=10:=Nat.le_trans (List.length_filter_le _ _) (zjv i)
theorem zft (R:Run):∀ k,((List.range k).flatMap (zbg n R)).length<=10 * k
 | 0=>by simp
 | k + 1=>by
  rw [range_succ,List.flatMap_append,length_append]
  have h1:=zft R k
  have h2:=zic (n:=n) R k
  have h3:([k].flatMap (zbg n R)) = zbg n R k:=by simp
  rw [h3]
  omega
theorem zqc (ev:Evt):FT.T.lt 0 (evT ev):=by
 cases ev with
 | fresh=>
  refine .tup fun u hu=>?_
  rw [mem_singleton.mp hu];exact .str _
 | ends i w=>
  refine .tup fun u hu=>?_
  simp only [mem_cons,not_mem_nil,or_false] at hu
  rcases hu with rfl | rfl | rfl
  ·exact .str _
  ·exact .int _
  ·exact .str _
 | lost i=>
  refine .tup fun u hu=>?_
  simp only [mem_cons,not_mem_nil,or_false] at hu
  rcases hu with rfl | rfl
  ·exact .str _
  ·exact .int _
 | again i=>
  refine .tup fun u hu=>?_
  simp only [mem_cons,not_mem_nil,or_false] at hu
  rcases hu with rfl | rfl
  ·exact .str _
  ·exact .int _
 | up i=>
  refine .tup fun u hu=>?_
  simp only [mem_cons,not_mem_nil,or_false] at hu
  rcases hu with rfl | rfl
  ·exact .str _
  ·exact .int _
theorem zoG (wn:WN n) {t:FT.T} {evs:List Evt} (ht:EvS t evs) (v:VEv n (Run.new n) evs) (hl:evs.length<=2000) (M:Mem):zcw kE kR [zg n,t] M = .ok (.lst ((zgo n (qp n evs)).map evT)) M:=by
 have g:=zaO wn v evs.length (Nat.le_refl _)
 rw [take_length] at g
 have key:Ok (zdY kE kR [zg n,t] M) fun u M'=>∃ a,u = .ref a/\M.length<=a/\M'[a]? = some (.lst ((zgo n (qp n evs)).map evT))/\Kp M.length M M':=by
  refine qu rfl ?_
  unfold zfQ
  simp_arith [and_self]
  refine Ok.bind (zkv wn ht v hl M) ?_
  rintro u M1 ⟨rfl,k1,l1,h1⟩
  have hM1:=k1.1
  have ln:∀ cs,qC (.ref l1.a) (M1 ++ cs) = .ok (nT (qp n evs).es.length) (M1 ++ cs):=fun cs=>by
   unfold qC qZ yz
   simp only [(h1.app cs).er]
   simp [h1.el]
  have rg:=fun (M:Mem)=>za3 (M:=M) (j:=((qp n evs).es.length:Int)) (by have:=g.sb.es;omega)
  simp_arith [zj,(h1.app [.lst [.tup [.str "fresh"]]]).errands,ln,rg,Int.toNat_natCast]
  refine Ok.bind (Ok.for (r:=FT.T.int) (xs:=rgI (qp n evs).es.length) (fun k σ M'=>∃ o,σ = [some (zg n),some t,some (.ref M.length),some (.ref M1.length),o]/\M'[M1.length]? = some (.lst ((Evt.fresh :: (List.range k).flatMap (zbg n (qp n evs))).map evT))/\RunAt kE kR (zg n) M.length M.length l1 M' (qp n evs)/\Kp M.length M M') ⟨none,rfl,yN,h1.app _,k1.trans (Kp.app _ _ hM1)⟩ ?_) ?_
  ·rintro k x σ M2 hx ⟨o,rfl,c2,h2,k2⟩
   obtain ⟨hk,rfl⟩:=zgh hx
   have he:(qp n evs).es[k]? = some (qp n evs).es[k]:=getElem?_eq_getElem hk
   unfold ze9
   have ex:=zjq (ys:=(zbg n (qp n evs) k).map evT) c2 (by
    rw [length_map,length_map,length_cons]
    have:=zft (n:=n) (qp n evs) k
    have:=zic (n:=n) (qp n evs) k
    have:=g.sb.es
    omega)
   rw [← map_append,show (Evt.fresh :: (List.range k).flatMap (zbg n (qp n evs))) ++ zbg n (qp n evs) k = Evt.fresh :: (List.range (k + 1)).flatMap (zbg n (qp n evs)) by rw [range_succ,List.flatMap_append];simp] at ex
   simp_arith [zci,zgX c2,zib h2 wn g.ri he,ex]
   refine Ok.ret ⟨_,rfl,_,rfl,get_set c2,?_,k2.trans (Kp.set _ _ hM1)⟩
   refine ⟨fun p hp=>?_,h2.nd,h2.lo,h2.el,h2.pl,h2.tl⟩
   have:=h1.ho p hp
   have hlt:=qK this
   rw [getElem?_set,if_neg (by omega)]
   exact h2.ho p hp
  ·rintro fl M2 ⟨σ,rfl,o,rfl,c2,h2,k2⟩
   rw [zdy] at c2
   simp_arith [and_self]
   exact Ok.ret ⟨_,rfl,hM1,c2,k2⟩
 obtain ⟨u,M',e,a,rfl,ha,c,k⟩:=key
 unfold zcw zeu
 rw [e]
 dsimp only
 rw [c]
 dsimp only
 rw [if_pos]
 refine ⟨zf7 k,ha,fun x hx=>?_⟩
 obtain ⟨ev,_,rfl⟩:=mem_map.mp hx
 exact zqc ev
theorem znc {R:Run} {ev:Evt} (h:ev ∈ zgo n R):Can n R ev:=by
 rcases mem_cons.mp h with rfl | h
 ·exact .inl rfl
 ·obtain ⟨i,hi,hm⟩:=List.mem_flatMap.mp h
  have hi:=mem_range.mp hi
  have he:R.es[i]? = some R.es[i]:=getElem?_eq_getElem hi
  have:=zgC he hm
  exact .inr ⟨⟨_,by rw [this.2.1];exact he⟩,by rw [this.2.1];exact hm⟩
noncomputable def prd (st:List (Int × Int)):Int:=(st.map (·.2)).foldl (· * ·) 1
noncomputable def pwT (p:Int × Int):FT.T:=.tup [.int p.1,.int p.2]
noncomputable def yE (st:List (Int × Int)):FT.T:=.tup (st.map pwT)
noncomputable def wtT (W:List (List (List (Int × Int)))):FT.T:=.tup (W.map fun row=>.tup (row.map yE))
def WS1 (st:List (Int × Int)):Prop:=st.length<=6/\∀ p ∈ st,(0<=p.1/\p.1<=1000001)/\1<=p.2/\p.2<=1000
theorem zkA {st:List (Int × Int)} (h:∀ p ∈ st,1<=p.2/\p.2<=1000):∀ k,k<=st.length->1<=prd (st.take k)/\prd (st.take k)<=1000 ^ k
 | 0,_=>by simp [prd]
 | k + 1,hk=>by
  have ih:=zkA h k (by omega)
  have hp:st[k]? = some st[k]:=getElem?_eq_getElem (by omega)
  have hb:=h st[k] (getElem_mem _)
  have e:prd (st.take (k + 1)) = prd (st.take k) * st[k].2:=by
   unfold prd
   rw [take_succ,hp,map_append,foldl_append]
   rfl
  rw [e]
  constructor
  ·have:=Int.mul_le_mul ih.1 hb.1 (by omega) (by omega)
   omega
  ·rw [Int.pow_succ]
   exact Int.mul_le_mul ih.2 hb.2 (by omega) (Int.pow_nonneg (by omega))
theorem zhS {st:List (Int × Int)} {k:Nat} {p:Int × Int} (h:st[k]? = some p):prd (st.take (k + 1)) = prd (st.take k) * p.2:=by
 unfold prd
 rw [take_succ,h,map_append,foldl_append]
 rfl
theorem zhT {st:List (Int × Int)} (h:WS1 st) {k:Nat} (hk:k<=st.length):1<=prd (st.take k)/\prd (st.take k)<=1000 ^ 6:=by
 have:=zkA (fun p hp=>(h.2 p hp).2) k hk
 exact ⟨this.1,Int.le_trans this.2 (by
  have:k<=6:=Nat.le_trans hk h.1
  exact_mod_cast Nat.pow_le_pow_right (show 0 < 1000 by decide) this)⟩
end
section
variable {kE kR:Addr} {n:Net}
theorem zg6 (xs:List FT.T) (n:Nat):zb2 xs none (some (n:Int)) = xs.take n:=by
 unfold zb2
 rw [HT.zlr,HT.zgf,List.drop_zero,Nat.sub_zero]
 by_cases h:n<=xs.length
 ·rw [Nat.min_eq_left h]
 ·rw [Nat.min_eq_right (by omega),List.take_of_length_le (Nat.le_refl _),List.take_of_length_le (by omega)]
theorem zkq {st:List (Int × Int)} (h:WS1 st) {k:Nat} (hk:k<=st.length) (M:Mem):zbj kE kR [yE st,nT k] M = .ok (.int (prd (st.take k))) M:=by
 have key:Ok (zbj kE kR [yE st,nT k] M) fun t M'=>t = .int (prd (st.take k))/\M' = M:=by
  refine qu rfl ?_
  unfold ze3 yE
  have k1:zb2 (st.map pwT) none (some (k:Int)) = (st.take k).map pwT:=by rw [zg6,map_take]
  simp_arith [k1]
  refine Ok.bind (Ok.for (r:=pwT) (xs:=st.take k) (fun j σ M'=>∃ o3 o4,σ = [some (.tup (st.map pwT)),some (nT k),some (.int (prd ((st.take k).take j))),o3,o4]/\M' = M) ⟨none,none,by simp [prd],rfl⟩ ?_) ?_
  ·rintro j p σ M1 hj ⟨o3,o4,rfl,rfl⟩
   have hjl:=(List.getElem?_eq_some_iff.mp hj).1
   rw [length_take] at hjl
   have hp:=h.2 p (List.mem_of_mem_take (mem_of_getElem? hj))
   have b:=zhT h (k:=j) (by omega)
   have tt:(st.take k).take j = st.take j:=by rw [List.take_take,Nat.min_eq_left (by omega)]
   have mu:zhX (.int (prd (st.take j))) (.int p.2) M1 = .ok (.int (prd (st.take j) * p.2)) M1:=if_pos (.inr (.inr (show -(2 ^ 64) < p.2/\p.2 < 2 ^ 64 by omega)))
   unfold zeB
   rw [show pwT p = .tup [.int p.1,.int p.2] from rfl]
   rw [tt]
   simp_arith [zjR,mu]
   refine Ok.ret ⟨_,rfl,some (.int p.1),some (.int p.2),?_,rfl⟩
   rw [zhS hj,tt]
  ·rintro fl M1 ⟨σ,rfl,o3,o4,rfl,rfl⟩
   rw [take_length]
   simp_arith [and_self]
   exact Ok.ret ⟨rfl,rfl⟩
 obtain ⟨t,M',e,rfl,rfl⟩:=key
 exact e
noncomputable def zew (st:List (Int × Int)) (i k:Nat):Int:=(st.getD k (0,1)).1 + prd (st.take k) * ((i:Int) / prd (st.take k) % (st.getD k (0,1)).2)
theorem zlk {st:List (Int × Int)} (h:WS1 st) {i k:Nat} (hk:k < st.length) (M:Mem):zbi kE kR [yE st,nT i,.int ((k:Int) + 1)] M = .ok (.int (zew st i k)) M:=by
 unfold zbi zeZ
 have b:=zhT h (k:=k) (by omega)
 have hp:st[k]? = some st[k]:=getElem?_eq_getElem hk
 have hb:=h.2 st[k] (getElem_mem _)
 have s1:=zkq (kE:=kE) (kR:=kR) h (k:=k) (by omega) M
 have a1:atI (st.map pwT) (k:Int) = some (.tup [.int st[k].1,.int st[k].2]):=zo (f:=pwT) hp
 unfold yE at s1 ⊢
 have sb:(k:Int) + 1 - 1 = (k:Int):=by omega
 have dv:∀ M,zcs (nT i) (.int (prd (st.take k))) M = .ok (.int ((i:Int).fdiv (prd (st.take k)))) M:=fun M=>zdD (zhs 100 (by decide) (by omega) (by
  refine Nat.lt_of_le_of_lt (show (prd (st.take k)).natAbs<=10 ^ 18 from ?_) (Nat.pow_lt_pow_right (by decide) (by decide))
  simp only [Nat.reducePow]
  simp only [Int.reducePow] at b
  omega))
 have md:∀ x M,zbz (.int x) (.int st[k].2) M = .ok (.int (x.fmod st[k].2)) M:=fun x M=>zeJ (by omega)
 have mu:∀ x M,zbd (.int (prd (st.take k))) (.int x) M = .ok (.int (prd (st.take k) * x)) M:=fun x M=>zek (by simp only [Int.reducePow] at b ⊢;omega)
 simp_arith [sb,s1,a1,dv,md,mu]
 unfold zew
 rw [getD_eq_getElem?_getD,hp,Int.fdiv_eq_ediv_of_nonneg _ (by omega),Int.fmod_eq_emod_of_nonneg _ (by omega)]
 rfl
structure WW (n:Net) (W:List (List (List (Int × Int)))):Prop where
 hl:W.length = n.hs.length
 al:∀ (h:Nat) row,W[h]? = some row->row.length = (n.asks h).length
 ok:∀ row ∈ W,∀ st ∈ row,WS1 st
 ne:∀ (h k:Nat) row st a,W[h]? = some row->row[k]? = some st->(n.asks h)[k]? = some a->a.tries ≠ 1->0 < st.length
noncomputable def zO (W:List (List (List (Int × Int)))) (e:Er):List (Int × Int):=(W.getD e.house []).getD e.ph.at1 []
noncomputable def kOf (W:List (List (List (Int × Int)))) (e:Er):Nat:=min e.ph.at2 (zO W e).length - 1
noncomputable def yW (W:List (List (List (Int × Int)))) (ts:List Int) (e:Er) (i:Nat):Int:=ts.getD (e.stood.getD 0) 0 + zew (zO W e) i (kOf W e)
noncomputable def prT (p:Int × Evt):FT.T:=.tup [.int p.1,evT p.2]
variable {b r:Nat} {l:Lay} {M:Mem} {R:Run} {W:List (List (List (Int × Int)))}
theorem zjI (ww:WW n W) (ri:RI n R) {i:Nat} {e:Er} (he:R.es[i]? = some e) (hs:e.ph.isS = true):∃ row,W[e.house]? = some row/\row[e.ph.at1]? = some (zO W e):=by
 have hh:=ri.hs _ _ he
 have hl:=zcd hs (ri.ph _ _ he)
 have h1:W[e.house]? = some (W[e.house]'(by rw [ww.hl];exact hh)):=getElem?_eq_getElem _
 have h2:=ww.al _ _ h1
 refine ⟨_,h1,?_⟩
 unfold zO
 rw [getD_eq_getElem?_getD (l:=W),h1]
 rw [getD_eq_getElem?_getD]
 show (W[e.house]'(by rw [ww.hl];exact hh))[e.ph.at1]? = some (((W[e.house]'(by rw [ww.hl];exact hh))[e.ph.at1]?).getD [])
 rw [getElem?_eq_getElem (by omega)]
 rfl
theorem ziZ (h:RunAt kE kR (zg n) b r l M R) (ww:WW n W) (ri:RI n R) {pairs:List (Int × Evt)} {i:Nat} {e:Er} (he:R.es[i]? = some e) (hs:e.ph.isS = true) (ht:1<=e.ph.at2) (hne:0 < (zO W e).length) {k:Nat} (hk:e.stood = some k) (hkl:k < pairs.length):yS kE kR [.ref r,wtT W,.lst (pairs.map prT),nT i] M = .ok (.int (yW W (pairs.map (·.1)) e i)) M:=by
 unfold yS zeq
 obtain ⟨x,hx,hc⟩:=h.at_e he
 have f1:=qG (f:="house") hc rfl
 have f3:=qG (f:="state") hc rfl
 have f4:=qG (f:="stood") hc rfl
 rw [phS hs] at f3
 rw [hk,show onT (some k) = nT k from rfl] at f4
 obtain ⟨row,r1,r2⟩:=zjI ww ri he hs
 have w1:atI (W.map fun row=>FT.T.tup (row.map yE)) (e.house:Int) = some (.tup (row.map yE)):=zo (f:=fun row=>FT.T.tup (row.map yE)) r1
 have w2:atI (row.map yE) (e.ph.at1:Int) = some (yE (zO W e)):=zo (f:=yE) r2
 have ws:=ww.ok _ (mem_of_getElem? r1) _ (mem_of_getElem? r2)
 have hp:pairs[k]? = some pairs[k]:=getElem?_eq_getElem hkl
 have p1:atI (pairs.map prT) (k:Int) = some (.tup [.int pairs[k].1,evT pairs[k].2]):=zo (f:=prT) hp
 have mn:∀ i j M,zgn (.int i) (.int j) M = .ok (.int (if j < i then j else i)) M:=fun _ _ _=>rfl
 have ln:qC (yE (zO W e)) M = .ok (nT (zO W e).length) M:=by
  unfold yE
  rw [zlP,length_map]
 have kk:(if ((zO W e).length:Int) < (e.ph.at2:Int) then ((zO W e).length:Int) else (e.ph.at2:Int)) = ((kOf W e:Nat):Int) + 1:=by
  unfold kOf
  by_cases z:(zO W e).length < e.ph.at2
  ·rw [if_pos (by omega),Nat.min_eq_right (by omega)];omega
  ·rw [if_neg (by omega),Nat.min_eq_left (by omega)];omega
 have hkk:kOf W e < (zO W e).length:=by
  unfold kOf
  have:=Nat.min_le_right e.ph.at2 (zO W e).length
  omega
 have we:=zlk (kE:=kE) (kR:=kR) ws (i:=i) hkk M
 unfold wtT
 simp_arith [zj,h.errands,h.er,zo (f:=FT.T.ref) hx,f1,w1,f3,w2,ln,mn,kk,f4,p1,we]
 unfold yW
 rw [hk,getD_eq_getElem?_getD,Option.getD_some,getElem?_map,hp]
 rfl
end
section
variable {kE kR:Addr} {n:Net} {W:List (List (List (Int × Int)))}
theorem zcZ (wn:WN n) {evs:List Evt} (v:VEv n (Run.new n) evs):∀ k,k<=evs.length->(qp n (evs.take k)).came = k
 | 0,_=>rfl
 | k + 1,h=>by
  have hk:evs[k]? = some evs[k]:=getElem?_eq_getElem (by omega)
  have g:=zaO wn v k (by omega)
  have ih:=zcZ wn v k (by omega)
  have c:=v.at_ hk
  unfold qp at g ih ⊢
  rw [zda hk]
  have:=(zik wn g.ri g.wt g.sb c.c).ca
  show (doR n _ _).came + 1 = _
  rw [this,ih]
structure TOk (n:Net) (W:List (List (List (Int × Int)))) (pairs:List (Int × Evt)):Prop where
 v:VEv n (Run.new n) (pairs.map (·.2))
 s:∀ (k:Nat) (p:Int × Evt) (i:Nat),pairs[k]? = some p->p.2 = .again i->yW W (pairs.map (·.1)) ((qp n ((pairs.take k).map (·.2))).er i) i<=p.1
theorem zjJ (ww:WW n W) {R:Run} (ri:RI n R) {i:Nat} {e:Er} (he:R.es[i]? = some e) (ht:yx n e = true):0 < (zO W e).length:=by
 have ht':=ht
 unfold yx at ht'
 rw [Bool.and_eq_true,Bool.or_eq_true] at ht'
 obtain ⟨hs,h2⟩:=ht'
 obtain ⟨row,r1,r2⟩:=zjI ww ri he hs
 have hl:=zcd hs (ri.ph _ _ he)
 have ha:(n.asks e.house)[e.ph.at1]? = some (n.asks e.house)[e.ph.at1]:=getElem?_eq_getElem hl
 refine ww.ne _ _ _ _ _ r1 r2 ha fun z=>?_
 rw [zc3 ha,z] at h2
 have:=(zcE hs (ri.ph _ _ he)).1
 rcases h2 with h2 | h2
 ·simp at h2
 ·have:=of_decide_eq_true h2
  omega
theorem zhC (wn:WN n) (ww:WW n W) {pairs:List (Int × Evt)} (tv:TOk n W pairs) (hl:pairs.length<=2000) (M:Mem):Ok (zaC kE kR [zg n,wtT W,.lst (pairs.map prT)] M) fun u M'=>u = .ref M.length/\Kp M.length M M'/\∃ l,RunAt kE kR (zg n) M.length M.length l M' (qp n (pairs.map (·.2))):=by
 refine qu rfl ?_
 unfold ze1
 obtain ⟨M1,e1,h1,k1⟩:=zkH (kE:=kE) (kR:=kR) wn M (σ:=[some (zg n),some (wtT W),some (.lst (pairs.map prT)),none,none,none]) rfl
 simp_arith [e1]
 refine Ok.bind (Ok.for (r:=prT) (xs:=pairs) (fun k σ M'=>∃ o4 o5,σ = [some (zg n),some (wtT W),some (.lst (pairs.map prT)),some (.ref M.length),o4,o5]/\Kp M.length M M'/\∃ l,RunAt kE kR (zg n) M.length M.length l M' (qp n ((pairs.take k).map (·.2)))) ⟨none,none,rfl,k1,_,h1⟩ ?_) ?_
 ·rintro k p σ M2 hk ⟨o4,o5,rfl,k2,l2,h2⟩
  have hkl:=(List.getElem?_eq_some_iff.mp hk).1
  have hk':(pairs.map (·.2))[k]? = some p.2:=by rw [getElem?_map,hk];rfl
  have g:=zaO wn tv.v k (by rw [length_map];omega)
  have ca:=zcZ wn tv.v k (by rw [length_map];omega)
  have hc:=tv.v.at_ hk'
  rw [← map_take] at g ca hc
  have hc':Can n (qp n ((pairs.take k).map (·.2))) p.2:=hc
  obtain ⟨c1,c2⟩:=zgT wn h2 g (by omega) hc'
  have st:qp n ((pairs.take (k + 1)).map (·.2)) = zb5 n (qp n ((pairs.take k).map (·.2))) p.2:=by
   unfold qp
   rw [map_take,map_take,zda hk']
  have fin:Ok ((z6 kE kR [.ref M.length,evT p.2] M2).bind fun _ M'=>.ok (Fl.nx [some (zg n),some (wtT W),some (.lst (pairs.map prT)),some (.ref M.length),some (.int p.1),some (evT p.2)]) M') fun fl M'=>∃ σ',fl = Fl.nx σ'/\∃ o4 o5,σ' = [some (zg n),some (wtT W),some (.lst (pairs.map prT)),some (.ref M.length),o4,o5]/\Kp M.length M M'/\∃ l,RunAt kE kR (zg n) M.length M.length l M' (qp n ((pairs.take (k + 1)).map (·.2))):=by
   refine Ok.bind c2 ?_
   rintro u M3 ⟨rfl,k3,l3,h3⟩
   exact Ok.ret ⟨_,rfl,_,_,rfl,k2.trans k3,l3,by rw [st];exact h3⟩
  unfold zeA
  rw [show prT p = .tup [.int p.1,evT p.2] from rfl]
  obtain ⟨s,ts,hd,ha,_⟩:=zgB p.2
  cases q:p.2.isA with
  | false=>
   rw [q] at ha
   rw [hd] at c1 fin ⊢
   simp_arith [c1,zfX,ha]
   exact fin
  | true=>
   cases hp:p.2 with
   | again i=>
    rw [hp] at c1 fin hc'
    obtain ⟨e,he,hs,ht⟩:=hc'.c
    obtain ⟨a2,a3⟩:=zcE hs (g.ri.ph _ _ he)
    obtain ⟨sk,hsk⟩:=Option.isSome_iff_exists.mp a3
    have hlt:=g.sd i e sk he hs hsk
    rw [ca] at hlt
    have se:=ziZ h2 ww g.ri (pairs:=pairs) he hs a2 (zjJ ww g.ri he ht) hsk (by omega)
    have hle:=tv.s k p i hk hp
    rw [z0 he] at hle
    rw [show evT (.again i) = .tup [.str "again",nT i] from rfl] at c1 fin ⊢
    have ea:∀ M,eqA (.str "again") (.str "again") M = .ok (.bl true) M:=fun _=>rfl
    simp_arith [c1,ea,se,decide_eq_false (show ¬ p.1 < yW W (pairs.map (·.1)) e i by omega)]
    exact fin
   | _=>rw [hp] at q;cases q
 ·rintro fl M2 ⟨σ,rfl,o4,o5,rfl,k2,l2,h2⟩
  rw [take_length] at h2
  simp_arith [and_self]
  exact Ok.ret ⟨rfl,k2,l2,h2⟩
theorem zch (wn:WN n) {pairs:List (Int × Evt)} (tv:TOk n W pairs):Good n (qp n (pairs.map (·.2))) (10 * pairs.length):=by
 have g:=zaO wn tv.v (pairs.map (·.2)).length (Nat.le_refl _)
 rw [take_length,length_map] at g
 exact g
theorem zhD (wn:WN n) (ww:WW n W) {pairs:List (Int × Evt)} (tv:TOk n W pairs) (hl:pairs.length<=2000) (M:Mem):zbW kE kR [zg n,wtT W,.lst (pairs.map prT)] M = .ok (za0 n (qp n (pairs.map (·.2)))) M:=by
 have key:Ok (zgA kE kR [zg n,wtT W,.lst (pairs.map prT)] M) fun u M'=>u = za0 n (qp n (pairs.map (·.2)))/\Kp M.length M M':=by
  refine qu rfl ?_
  unfold zjk
  simp_arith [and_self]
  refine Ok.bind (zhC wn ww tv hl M) ?_
  rintro u M1 ⟨rfl,k1,l1,h1⟩
  have g:=zch wn tv
  simp_arith [zfB h1 wn g.ri (B:=10 * pairs.length) (by omega) g.sb]
  exact Ok.ret ⟨rfl,k1⟩
 obtain ⟨u,M',e,rfl,k⟩:=key
 unfold zbW zdf
 rw [e]
 dsimp only
 rw [if_pos ⟨zf7 k,zje _ _⟩]
noncomputable def zj0 (n:Net) (R:Run):List Nat:=(List.range R.es.length).filter fun i=>yx n (R.er i)
noncomputable def sdT (p:Nat × Int):FT.T:=.tup [nT p.1,.int p.2]
noncomputable def zc6 (n:Net) (W:List (List (List (Int × Int)))) (ts:List Int) (R:Run):List (Nat × Int):=(zj0 n R).map fun i=>(i,yW W ts (R.er i) i)
theorem zfC (wn:WN n) (ww:WW n W) {pairs:List (Int × Evt)} (tv:TOk n W pairs) (hl:pairs.length<=2000) (M:Mem):Ok (zbD kE kR [zg n,wtT W,.lst (pairs.map prT)] M) fun u M'=>∃ a,u = .ref a/\M.length<=a/\M'[a]? = some (.lst ((zc6 n W (pairs.map (·.1)) (qp n (pairs.map (·.2)))).map sdT))/\Kp M.length M M':=by
 refine qu rfl ?_
 unfold zg0
 simp_arith [and_self]
 refine Ok.bind (zhC wn ww tv hl M) ?_
 rintro u M1 ⟨rfl,k1,l1,h1⟩
 have g:=zch wn tv
 have ca:=zcZ wn tv.v (pairs.map (·.2)).length (Nat.le_refl _)
 rw [take_length,length_map] at ca
 generalize hR:qp n (pairs.map (·.2)) = R at h1 g ca ⊢
 have ln:qC (.ref l1.a) M1 = .ok (nT R.es.length) M1:=by
  unfold qC qZ yz
  simp only [h1.er]
  simp [h1.el]
 have rg:=za3 (M:=M1) (j:=(R.es.length:Int)) (by have:=g.sb.es;omega)
 have rr:(rgI R.es.length).map FT.T.int = (List.range R.es.length).map nT:=by unfold rgI;rw [map_map];rfl
 have hlen:(List.range R.es.length).length<=1000000:=by rw [length_range];have:=g.sb.es;omega
 have c1:zy (zi 0) (zu (ze (yI kE kR) (zb (yb 1) (zb (yb 0) zd)))) (yb 0) ((List.range R.es.length).map nT) [none,some (.ref M.length)] M1 [] = .ok ((zj0 n R).map nT) M1:=
  Ok.filt (r:=nT) (fun σ=>∃ o,σ = [o,some (.ref M.length)]) _ nT ⟨_,rfl⟩ hlen (by
   rintro i σ hi ⟨o,rfl⟩
   have hil:=mem_range.mp hi
   have he:R.es[i]? = some R.es[i]:=getElem?_eq_getElem hil
   refine ⟨[some (nT i),some (.ref M.length)],rfl,⟨_,rfl⟩,?_,fun _=>rfl⟩
   simp_arith [zd3 h1 g.ri he]
   rw [z0 he])
 have c2:zy (zi 0) qH (zK (zb (yb 0) (zb (ze (yS kE kR) (zb (yb 1) (zb (yb 2) (zb (yb 3) (zb (yb 0) zd))))) zd))) ((zj0 n R).map nT) [none,some (.ref M.length),some (wtT W),some (.lst (pairs.map prT))] M1 [] = .ok ((zc6 n W (pairs.map (·.1)) R).map sdT) M1:=by
  unfold zc6
  rw [map_map]
  exact Ok.mapc (r:=nT) (fun σ=>∃ o,σ = [o,some (.ref M.length),some (wtT W),some (.lst (pairs.map prT))]) _ ⟨_,rfl⟩ (Nat.le_trans (List.length_filter_le _ _) hlen) (by
   rintro i σ hi ⟨o,rfl⟩
   have hi:=mem_filter.mp hi
   have hil:=mem_range.mp hi.1
   have he:R.es[i]? = some R.es[i]:=getElem?_eq_getElem hil
   refine ⟨[some (nT i),some (.ref M.length),some (wtT W),some (.lst (pairs.map prT))],rfl,⟨_,rfl⟩,?_⟩
   have ht:yx n R.es[i] = true:=by rw [← z0 he];exact hi.2
   have hs:(R.es[i]).ph.isS = true:=by
    have:=ht
    unfold yx at this
    rw [Bool.and_eq_true] at this
    exact this.1
   obtain ⟨a2,a3⟩:=zcE hs (g.ri.ph _ _ he)
   obtain ⟨sk,hsk⟩:=Option.isSome_iff_exists.mp a3
   have hlt:=g.sd i _ sk he hs hsk
   have se:=ziZ h1 ww g.ri (pairs:=pairs) he hs a2 (zjJ ww g.ri he ht) hsk (by omega)
   simp_arith [se]
   simp only [Function.comp,z0 he]
   rfl)
 simp_arith [zj,h1.errands,ln,rg,Int.toNat_natCast,rr,c1,c2]
 exact Ok.ret ⟨_,rfl,k1.1,yN,k1.trans (Kp.app _ _ k1.1)⟩
end
section
variable {kE kR:Addr}
theorem zgV (c:Int) (M:Mem):zbA kE kR [.int c] M = .ok (.ref M.length) (M ++ [(Po.new c).cell]):=by
 unfold zbA zh6
 simp_arith [and_self]
 rw [show Po.new c = ⟨if c - 10 ^ 18 > 0 then c - 10 ^ 18 else 0,c % 10 ^ 18,0⟩ from rfl,Int.fmod_eq_emod_of_nonneg _ (by decide)]
 rfl
theorem zkN (p:Po) (a:Nat) (base:Int) (M:Mem) (e:M[a]? = some p.cell) (h:0 < base) (hb:base.natAbs < 10 ^ 100):yu kE kR [.ref a,.int base] M = .ok (.int (p.dig base)) (M.set a (p.nxt base).cell):=by
 unfold yu zh5
 have ha:a < M.length:=(List.getElem?_eq_some_iff.mp e).1
 have hd:∀ i M,zcs (.int i) (.int base) M = .ok (.int (i.fdiv base)) M:=fun i M=>zdD (zhs 100 (by decide) (by omega) hb)
 have hm:∀ i M,zbz (.int i) (.int base) M = .ok (.int (i.fmod base)) M:=fun i M=>zeJ (by omega)
 by_cases hp:0 < p.a
 ·simp_arith [e,Po.cell,hd,hm,decide_eq_true hp]
  unfold Po.dig Po.nxt
  rw [if_pos hp,if_pos hp,Int.fmod_eq_emod_of_nonneg _ (by omega),Int.fdiv_eq_ediv_of_nonneg _ (by omega)]
 ·have hs:∀ c:Cell,(M.set a c)[a]? = some c:=fun c=>by rw [getElem?_set,if_pos rfl,if_pos ha]
  have h1:∀ j M,zbd (.int 7919) (.int j) M = .ok (.int (7919 * j)) M:=fun j M=>zek (by decide)
  have hx:∀ x:Int,0<=x.fmod 1000000007/\x.fmod 1000000007 < 1000000007:=fun x=>by rw [Int.fmod_eq_emod_of_nonneg _ (by decide)];omega
  have hy:∀ x:Int,0<=x.fmod 998244353/\x.fmod 998244353 < 998244353:=fun x=>by rw [Int.fmod_eq_emod_of_nonneg _ (by decide)];omega
  have h2:∀ (x y:Int) M,zbd (.int (x.fmod 1000000007 + 11)) (.int y) M = .ok (.int ((x.fmod 1000000007 + 11) * y)) M:=fun x y M=>zek (by have:=hx x;omega)
  have h3:∀ (x y:Int) M,zbd (.int (x.fmod 998244353)) (.int y) M = .ok (.int (x.fmod 998244353 * y)) M:=fun x y M=>zek (by have:=hy x;omega)
  simp_arith [e,Po.cell,hd,hm,decide_eq_false hp,hs,h1,h2,h3]
  unfold Po.dig Po.nxt
  rw [if_neg hp,if_neg hp]
  simp only [Int.fmod_eq_emod_of_nonneg _ (show (0:Int)<=1000000007 by decide),Int.fmod_eq_emod_of_nonneg _ (show (0:Int)<=998244353 by decide),Int.fmod_eq_emod_of_nonneg _ (show (0:Int)<=2147483647 by decide),Int.fdiv_eq_ediv_of_nonneg _ (show (0:Int)<=8 by decide),Int.fmod_eq_emod_of_nonneg _ (show (0:Int)<=base by omega)]
def PO (a:Nat) (M:Mem):Prop:=∃ p:Po,M[a]? = some p.cell
theorem PO.fr {a:Nat} {M M':Mem} (h:PO a M) {S:List Nat} (f:Fr S M M') (hs:a ∉ S):PO a M':=by
 obtain ⟨p,e⟩:=h
 exact ⟨p,f.get e hs⟩
theorem zE {a:Nat} {base:Int} {M:Mem} (e:PO a M) (h:0 < base) (hb:base.natAbs < 10 ^ 100) :
  Ok (yu kE kR [.ref a,.int base] M) fun t M'=>∃ d:Int,t = .int d/\0<=d/\d < base/\PO a M'/\Fr [a] M M':=by
 obtain ⟨p,e⟩:=e
 exact Ok.of (zkN p a base M e h hb) ⟨_,rfl,p.dig_lo h,p.dig_hi h,⟨_,get_set e⟩,Fr.set _ _ _⟩
theorem PO.app {M:Mem} {c:Int}:PO M.length (M ++ [(Po.new c).cell]):=⟨_,yN⟩
theorem znM (ns:List Int) (n:Nat) (M:Mem):∃ c,zcX kE kR [.lst (ns.map .int),.int (n:Int)] M = .ok (.int c) M:=by
 unfold zcX zh8
 by_cases h:n < ns.length
 ·refine ⟨ns[n],?_⟩
  have a:atI (ns.map FT.T.int) (n:Int) = some (.int ns[n]):=by rw [FT.za9];simp [h]
  have d:decide ((n:Int) < ((ns.map FT.T.int).length:Int)) = true:=decide_eq_true (by rw [length_map];omega)
  simp_arith [d,a]
 ·have d:decide ((n:Int) < ((ns.map FT.T.int).length:Int)) = false:=decide_eq_false (by rw [length_map];omega)
  exact ⟨0,by simp_arith [d]⟩
theorem pick {xs:List Int} {d:Int} (h0:0<=d) (h1:d < xs.length):∃ v ∈ xs,atI (xs.map FT.T.int) d = some (.int v):=by
 obtain ⟨x,h1,h2⟩:=zix (xs:=xs.map FT.T.int) h0 (by simpa using h1)
 obtain ⟨v,hv,rfl⟩:=mem_map.mp h2
 exact ⟨v,hv,h1⟩
theorem zgk {xs:List Int} {d:Int} (lo hi:Int) (h0:0<=d) (h1:d < xs.length) (h:xs.all (fun v=>decide (lo<=v/\v<=hi)) = true):∃ v:Int,atI (xs.map FT.T.int) d = some (.int v)/\lo<=v/\v<=hi:=by
 obtain ⟨v,hv,e⟩:=pick h0 h1
 have:=all_eq_true.mp h v hv
 exact ⟨v,e,of_decide_eq_true this⟩
theorem zeS {b:Int} (h0:0 < b) (h:b<=10 ^ 40):b.natAbs < 10 ^ 100:=by
 refine Nat.lt_of_le_of_lt (show b.natAbs<=10 ^ 40 from ?_) (Nat.pow_lt_pow_right (by decide) (by decide))
 simp only [Int.reducePow] at h
 simp only [Nat.reducePow]
 omega
theorem zmk {xs:List Str} {d:Int} (h0:0<=d) (h1:d < xs.length):∃ v ∈ xs,atI (xs.map FT.T.str) d = some (.str v):=by
 obtain ⟨x,h1,h2⟩:=zix (xs:=xs.map FT.T.str) h0 (by simpa using h1)
 obtain ⟨v,hv,rfl⟩:=mem_map.mp h2
 exact ⟨v,hv,h1⟩
theorem zji {ys:List Str} (nd:ys.Nodup) {j:Nat} {s:Str} (h:ys[j]? = some s):∀ k,zbL s ys k = some (k + j):=by
 induction ys generalizing j with
 | nil=>simp at h
 | cons y ys ih=>
  intro k
  have nd':=nodup_cons.mp nd
  unfold zbL
  cases j with
  | zero=>
   simp at h
   rw [h]
   simp
  | succ j=>
   simp at h
   have hne:¬ (y == s) = true:=fun z=>by
    have:y = s:=by simpa using z
    exact nd'.1 (this ▸ mem_of_getElem? h)
   rw [if_neg hne,ih nd'.2 h (k + 1)]
   congr 1
   omega
end
end My
namespace FT
open PySem L2
theorem Ok.seqX {p q:Ev->Mem->Out Fl} {σ:Ev} {M:Mem} {Q:Fl->Mem->Prop} (h:∀ X,X = zb4 q->Ok ((p σ M).bind X) Q):Ok (yg p q σ M) Q:=h _ rfl
theorem Ok.seqR {p q:Ev->Mem->Out Fl} {σ:Ev} {M:Mem} {Q:T->Mem->Prop} (h:∀ X,X = (fun fl M=>(zb4 q fl M).bind zcS)->Ok ((p σ M).bind X) Q):Ok ((yg p q σ M).bind zcS) Q:=by
 have:=h _ rfl
 unfold yg
 rw [zme]
 exact this
theorem Ok.seqP {p q:Ev->Mem->Out Fl} {σ:Ev} {M:Mem} {Q:Fl->Mem->Prop} (P:Fl->Mem->Prop) (h:Ok (p σ M) P) (g:∀ fl M',P fl M'->Ok (zb4 q fl M') Q):Ok (yg p q σ M) Q:=Ok.bind h g
end FT
namespace My
open PySem L2 FT
section
variable {kE kR:Addr}
structure NX (n:Net):Prop where
 tr:∀ i a,a ∈ n.asks i->0<=a.tries/\a.tries<=3
 al:∀ i,(n.asks i).length<=3
structure AO (nms pns:List Str) (many i:Nat) (a:Ask):Prop where
 to:∃ j,i < j/\j < many/\nms[j]? = some a.to
 pu:∀ s,a.purse = some s->s ∈ pns
 tr:0<=a.tries/\a.tries<=3
theorem znd {ys:List Str} (nd:ys.Nodup) {s:Str} (h:s ∈ ys):∃ j,zbL s ys 0 = some j:=by
 obtain ⟨j,hj⟩:=mem_iff_getElem?.mp h
 exact ⟨_,zji nd hj 0⟩
noncomputable def zan (nms:List Str) (many:Nat) (A:Nat->List Ask) (ps:List Pu):Net:=⟨(List.range many).map fun k=>⟨nms.getD k "",A k⟩,ps⟩
theorem zlM (nms:List Str) {many:Nat} (h:many<=nms.length) (A:Nat->List Ask) (ps:List Pu):(zan nms many A ps).hs.map (·.name) = nms.take many:=by
 unfold zan
 rw [map_map]
 refine ext_getElem? fun i=>?_
 rw [getElem?_map,getElem?_take]
 by_cases z:i < many
 ·rw [getElem?_range z,if_pos z]
  show some (nms.getD i "") = _
  rw [getD_eq_getElem?_getD,getElem?_eq_getElem (by omega)]
  rfl
 ·rw [if_neg z,getElem?_eq_none (by simpa using z)]
  rfl
theorem zjb (nms:List Str) (many:Nat) (A:Nat->List Ask) (ps:List Pu) (i:Nat):(zan nms many A ps).asks i = if i < many then A i else []:=by
 unfold zan Net.asks
 dsimp only
 rw [getElem?_map]
 by_cases z:i < many
 ·rw [getElem?_range z,if_pos z]
  rfl
 ·rw [if_neg z,getElem?_eq_none (by simpa using z)]
  rfl
theorem zqb {nms:List Str} {many:Nat} {A:Nat->List Ask} {ps:List Pu} (nd:nms.Nodup) (h3:nms.length = 3) (m2:2<=many/\many<=3) (pd:(ps.map (·.name)).Nodup) (pl:ps.length<=2) (pr:∀ p ∈ ps,1<=p.per/\p.per<=3) (ao:∀ i a,a ∈ A i->AO nms (ps.map (·.name)) many i a) (al:∀ i,(A i).length<=3):WN (zan nms many A ps)/\NX (zan nms many A ps):=by
 have hl:(zan nms many A ps).hs.length = many:=by simp [zan]
 have nm:=zlM nms (many:=many) (by omega) A ps
 have inA:∀ i a,a ∈ (zan nms many A ps).asks i->a ∈ A i:=fun i a h=>by
  rw [zjb] at h
  split at h
  ·exact h
  ·cases h
 refine ⟨⟨by omega,by omega,Nat.le_trans pl (by decide),fun h hh=>?_,fun i a ha=>?_,fun p hp=>by have:=pr p hp;omega⟩,⟨fun i a ha=>(ao i a (inA i a ha)).tr,fun i=>?_⟩⟩
 ·obtain ⟨k,_,rfl⟩:=mem_map.mp hh
  exact Nat.le_trans (al k) (by decide)
 ·have q:=ao i a (inA i a ha)
  obtain ⟨j,j1,j2,j3⟩:=q.to
  have e:zbL a.to ((zan nms many A ps).hs.map (·.name)) 0 = some j:=by
   rw [nm]
   have:=zji (ys:=nms.take many) (nd.sublist (List.take_sublist _ _)) (j:=j) (s:=a.to) (by rw [getElem?_take,if_pos j2];exact j3) 0
   rw [this,Nat.zero_add]
  have hx:(zan nms many A ps).hix a.to = j:=by unfold Net.hix;rw [e];rfl
  refine ⟨by rw [hx];exact e,by rw [hx];exact j1,fun s hs=>?_,q.tr.1⟩
  obtain ⟨k,hk⟩:=znd pd (q.pu s hs)
  have hk2:zbL s ((zan nms many A ps).ps.map (·.name)) 0 = some k:=hk
  unfold Net.pix
  rw [hk2]
  rfl
 ·rw [zjb]
  split
  ·exact al i
  ·simp
noncomputable def zjL (A:Nat->List Ask) (i:Nat) (a:Ask):Nat->List Ask:=fun k=>if k = i then A i ++ [a] else A k
theorem zjS {P:Nat} {ps:List Pu} {M':Mem} (hl:ps.length<=2) (h:M'[P]? = some (.lst (ps.map puT))) (o:Option FT.T):zN [(P,ps.map puT)] (zi 0) qH (eOp ixT (yb 0) (eC (.int 0))) (ps.map puT) [o] M' [] = .ok (ps.map fun p=>.str p.name) M':=by
 have:=zjX (G:=[(P,ps.map puT)]) (bd:=zi 0) (el:=eOp ixT (yb 0) (eC (.int 0))) (M:=M') (r:=puT) (zfs h) (fun σ=>∃ o,σ = [o]) (fun p=>.str p.name) (xs:=ps) (σ:=[o]) (acc:=[]) ⟨_,rfl⟩ (by rw [length_nil];omega) (by
  rintro x σ hx ⟨o,rfl⟩
  exact ⟨[some (puT x)],rfl,⟨_,rfl⟩,by simp_arith [puT]⟩)
 rw [nil_append] at this
 exact this
structure AT (a P F many:Nat) (nms:List Str) (ps:List Pu) (A:Nat->List Ask) (M:Mem):Prop where
 ce:∀ j,j < many->M[F + j]? = some (.lst ((A j).map zD))
 ao:∀ i q,q ∈ A i->AO nms (ps.map (·.name)) many i q
 al:∀ i,(A i).length<=3
 pu:M[P]? = some (.lst (ps.map puT))
 po:PO a M
theorem AT.fr {a P F many:Nat} {nms:List Str} {ps:List Pu} {A:Nat->List Ask} {M M':Mem} (h:AT a P F many nms ps A M) (f:Fr [a] M M') (p:PO a M') (h1:a < P) (h2:a < F):AT a P F many nms ps A M':=⟨fun j hj=>f.get (h.ce j hj) (by simp;omega),h.ao,h.al,f.get h.pu (by simp;omega),p⟩
theorem zmx {a P F many:Nat} {nms:List Str} {ps:List Pu} {A:Nat->List Ask} {M:Mem} (h:AT a P F many nms ps A M) (h1:a < P) (h2:P < F) (n3:nms.length = 3) (m2:2<=many/\many<=3) (pl:ps.length<=2) (o5 o7 o8 o9 o10 o11:Option FT.T) :
  Ok (zfz kE kR [some (.ref a),some (.int 3),some (.int (many:Int)),some (.lst (nms.map .str)),some (.ref P),o5,some (.lst ((List.range many).map fun j=>.ref (F + j))),o7,o8,o9,o10,o11] M) fun fl M'=>∃ σ',fl = Fl.nx σ'/\∃ (A:Nat->List Ask) (o7 o8 o9 o10 o11:Option FT.T),σ' = [some (.ref a),some (.int 3),some (.int (many:Int)),some (.lst (nms.map .str)),some (.ref P),o5,some (.lst ((List.range many).map fun j=>.ref (F + j))),o7,o8,o9,o10,o11]/\AT a P F many nms ps A M'/\∀ S,Fr [a] S M->P < F->S.length<=P->Fr [a] S M':=by
 unfold zfz
 refine Ok.seqX fun X hX=>?_
 simp_arith [and_self]
 refine Ok.bind (zE h.po (by omega) (zeS (by omega) (by omega))) ?_
 rintro t M7 ⟨v,rfl,v1,v2,p7,f8⟩
 obtain ⟨at',hat⟩:∃ at':Nat,v = (at':Int):=⟨v.toNat,by omega⟩
 subst hat
 try simp_arith [and_self]
 rw [hX];clear hX;simp only [yp]
 refine Ok.seqX fun X hX=>?_
 simp_arith [and_self]
 refine Ok.bind (zE p7 (by omega) (zeS (by omega) (by omega))) ?_
 rintro t M8 ⟨y,rfl,y1,y2,p8,f9⟩
 obtain ⟨j,hj⟩:∃ j:Nat,(at':Int) + 1 + y = (j:Int):=⟨((at':Int) + 1 + y).toNat,by omega⟩
 have hjm:at' < j/\j < many:=by omega
 have hto:nms[j]? = some (nms[j]'(by omega)):=getElem?_eq_getElem _
 have b8:=(h.fr f8 p7 h1 (by omega)).fr f9 p8 h1 (by omega)
 have ln8:qC (.ref P) M8 = .ok (nT ps.length) M8:=by
  unfold qC qZ yz
  simp only [b8.pu]
  simp
 have ad8:∀ M,zJ (.lst [.non]) (.lst (ps.map fun p=>FT.T.str p.name)) M = .ok (.lst (FT.T.non :: ps.map fun p=>.str p.name)) M:=fun M=>if_pos (Nat.le_trans (show 1 + (ps.map fun p=>FT.T.str p.name).length<=1000 by rw [length_map];omega) (by decide))
 simp_arith [hj,zo (f:=FT.T.str) hto]
 rw [hX];clear hX;simp only [yp]
 refine Ok.seqX fun X hX=>?_
 simp_arith [zbM,zfp b8.pu,zS,zjS pl b8.pu none,ad8,ln8]
 refine Ok.bind (zE p8 (by omega) (zeS (by omega) (by omega))) ?_
 rintro t M9 ⟨z,rfl,z1,z2,p9,f10⟩
 obtain ⟨pu,hpu,hpm⟩:∃ pu:Option Str,atI (FT.T.non :: ps.map fun p=>.str p.name) z = some (opS pu)/\∀ s,pu = some s->s ∈ ps.map (·.name):=by
  obtain ⟨zz,rfl⟩:=Int.eq_ofNat_of_zero_le z1
  rw [FT.za9]
  cases zz with
  | zero=>exact ⟨none,rfl,fun s h=>by cases h⟩
  | succ zz=>
   rw [getElem?_cons_succ,getElem?_map,getElem?_eq_getElem (show zz < ps.length by omega)]
   exact ⟨some (ps[zz]'(by omega)).name,rfl,fun s h=>by cases h;exact mem_map.mpr ⟨_,getElem_mem _,rfl⟩⟩
 simp_arith [hpu]
 rw [hX];clear hX;simp only [yp]
 refine Ok.seqX fun X hX=>?_
 simp_arith [and_self]
 refine Ok.bind (zE p9 (by decide) (by decide)) ?_
 rintro t M10 ⟨tt,rfl,t1,t2,p10,f11⟩
 obtain ⟨tr,htr,tr1,tr2⟩:=zgk (xs:=[1,2,3,0]) 0 3 t1 t2 rfl
 simp only [map_cons,map_nil] at htr
 simp_arith [htr]
 refine Ok.bind (zE p10 (by decide) (by decide)) ?_
 rintro t M11 ⟨wd,rfl,wd1,wd2,p11,f12'⟩
 obtain ⟨wo,_,hwo⟩:=zmk (xs:=["bad","spent"]) wd1 (by simpa using wd2)
 simp only [map_cons,map_nil] at hwo
 have fr11:Fr [a] M M11:=((((f8.trans f9).trans f10).trans f11).trans f12')
 have b11:=h.fr fr11 p11 h1 (by omega)
 have hf:atI ((List.range many).map fun j=>FT.T.ref (F + j)) (at':Int) = some (.ref (F + at')):=zo (f:=fun j=>FT.T.ref (F + j)) (getElem?_range (by omega))
 have ln11:qC (.ref (F + at')) M11 = .ok (nT (A at').length) M11:=by
  unfold qC qZ yz
  simp only [b11.ce at' (by omega)]
  simp
 simp_arith [hwo]
 rw [hX];clear hX;simp only [yp]
 by_cases hl3:(A at').length < 3
 ·simp_arith [hf,ln11,decide_eq_true (show ((A at').length:Int) < 3 by omega),qJ (b11.ce at' (by omega))]
  refine Ok.bind (zE p11 (by decide) (by decide)) ?_
  rintro t M12 ⟨w1,rfl,h11,h12,p12,f13⟩
  try simp_arith [and_self]
  refine Ok.bind (zE p12 (by decide) (by decide)) ?_
  rintro t M13 ⟨w2,rfl,h21,h22,p13,f14⟩
  have fr13:Fr [a] M M13:=(fr11.trans f13).trans f14
  have b13:=h.fr fr13 p13 h1 (by omega)
  have cA13:=b13.ce at' (by omega)
  obtain ⟨q0,hq0⟩:∃ q0:Ask,q0 = ⟨nms[j]'(by omega),tr,pu,wo,w1 == 0,w2 == 0⟩:=⟨_,rfl⟩
  have ap:=yV (t:=zD q0) cA13 (zak (by rw [length_map];omega))
  rw [show (A at').map zD ++ [zD q0] = (A at' ++ [q0]).map zD from by simp,show zD q0 = .tup [.str (nms[j]'(by omega)),.int tr,opS pu,.str wo,.bl (w1 == 0),.bl (w2 == 0)] from by rw [hq0];rfl] at ap
  simp_arith [ap]
  refine Ok.ret ⟨_,rfl,zjL A at' q0,_,_,_,_,_,rfl,⟨fun i hi=>?_,fun i q hq=>?_,fun i=>?_,?_,p13.fr (Fr.set _ _ _) (by simp;omega)⟩,fun S fs _ hS=>(fs.trans fr13).tr (Fr.set _ _ _) (by simp;omega)⟩
  ·unfold zjL
   rw [getElem?_set]
   by_cases z:i = at'
   ·rw [if_pos (by omega),if_pos (qK cA13),if_pos z]
   ·rw [if_neg (by omega),if_neg z]
    exact b13.ce i hi
  ·unfold zjL at hq
   split at hq
   ·rename_i z
    rcases mem_append.mp hq with hq | hq
    ·rw [z];exact h.ao at' q hq
    ·rw [mem_singleton.mp hq,z,hq0]
     exact ⟨⟨j,hjm.1,hjm.2,hto⟩,hpm,tr1,tr2⟩
   ·exact h.ao i q hq
  ·unfold zjL
   split
   ·rw [length_append,length_singleton];omega
   ·exact h.al i
  ·rw [getElem?_set,if_neg (by omega)]
   exact b13.pu
 ·simp_arith [hf,ln11,decide_eq_false (show ¬ ((A at').length:Int) < 3 by omega)]
  exact Ok.ret ⟨_,rfl,A,_,_,_,_,_,rfl,b11,fun S fs _ _=>fs.trans fr11⟩
theorem zoE {a:Nat} {M:Mem} (e:PO a M):Ok (zeM kE kR [.ref a,.int 3] M) fun t M'=>∃ n,t = zg n/\WN n/\NX n/\PO a M'/\Fr [a] M M':=by
 refine qu rfl ?_
 unfold zjl
 have ha:a < M.length:=by obtain ⟨p,e⟩:=e;exact qK e
 rw [show startT 12 [.ref a,.int 3] = [some (.ref a),some (.int 3),none,none,none,none,none,none,none,none,none,none] from rfl]
 refine Ok.seqR fun X hX=>?_
 simp_arith [and_self]
 refine Ok.bind (zE e (by decide) (by decide)) ?_
 rintro t M1 ⟨d,rfl,d1,d2,p1,f1⟩
 obtain ⟨many,hm⟩:∃ many:Nat,2 + d = (many:Int):=⟨(2 + d).toNat,by omega⟩
 have hm2:2<=many/\many<=3:=by omega
 simp_arith [hm]
 rw [hX];clear hX;simp only [yp]
 refine Ok.seqR fun X hX=>?_
 simp_arith [and_self]
 refine Ok.bind (zE p1 (by decide) (by decide)) ?_
 rintro t M2 ⟨d',rfl,e1,e2,p2,f2⟩
 obtain ⟨nms,hnm,nd,n3⟩:∃ nms:List Str,atI [FT.T.lst [.str "gate",.str "desk",.str "mill"],.lst [.str "a",.str "aa",.str "b"]] d' = some (.lst (nms.map .str))/\nms.Nodup/\nms.length = 3:=by
  have:d' = 0\/d' = 1:=by omega
  rcases this with rfl | rfl
  ·exact ⟨["gate","desk","mill"],rfl,by decide +kernel,rfl⟩
  ·exact ⟨["a","aa","b"],rfl,by decide +kernel,rfl⟩
 simp_arith [hnm]
 rw [hX];clear hX;simp only [yp]
 refine Ok.seqR fun X hX=>?_
 simp_arith [and_self]
 rw [hX];clear hX;simp only [yp]
 refine Ok.seqR fun X hX=>?_
 simp_arith [and_self]
 have f12:Fr [a] M (M2 ++ [.lst []]):=(f1.trans f2).tr (Fr.app _ _) (by simp)
 have l2:M.length<=M2.length:=(f1.trans f2).1
 refine Ok.bind (zE (p2.fr (Fr.app _ [.lst []]) (by simp)) (by decide) (by decide)) ?_
 rintro t M3 ⟨c,rfl,c1,c2,p3,f3⟩
 simp_arith [za3 (M:=M3) (show -(2 ^ 62)<=c/\c < 2 ^ 62 by omega)]
 refine Ok.bind (Ok.for (r:=FT.T.int) (xs:=rgI c.toNat) (fun k σ M'=>∃ (ps:List Pu) (o5:Option FT.T),σ = [some (.ref a),some (.int 3),some (.int (many:Int)),some (.lst (nms.map .str)),some (.ref M2.length),o5,none,none,none,none,none,none]/\M'[M2.length]? = some (.lst (ps.map puT))/\ps.length = k/\ps.map (·.name) = ([("p":Str),"a"]).take k/\(∀ p ∈ ps,1<=p.per/\p.per<=3)/\PO a M'/\Fr [a] M M') ⟨[],none,rfl,f3.get yN (by simp;omega),rfl,rfl,(fun p hp=>by cases hp),p3,f12.trans f3⟩ ?_) ?_
 ·rintro k x σ M4 hx ⟨ps,o5,rfl,g1,hl,hn,hp,p4,f4⟩
  obtain ⟨hk,rfl⟩:=zgh hx
  have hk2:k < 2:=by omega
  unfold ziv
  obtain ⟨nm,hnmk,hnt⟩:∃ nm:Str,atI [FT.T.str "p",.str "a"] (k:Int) = some (.str nm)/\([("p":Str),"a"]).take (k + 1) = ([("p":Str),"a"]).take k ++ [nm]:=by
   have:k = 0\/k = 1:=by omega
   rcases this with rfl | rfl
   ·exact ⟨"p",rfl,rfl⟩
   ·exact ⟨"a",rfl,rfl⟩
  simp_arith [qJ g1,hnmk]
  refine Ok.bind (zE p4 (by decide) (by decide)) ?_
  rintro t M5 ⟨w,rfl,w1,w2,p5,f5⟩
  obtain ⟨ea,_,hea⟩:=zmk (xs:=["first","any"]) w1 (by simpa using w2)
  simp only [map_cons,map_nil] at hea
  simp_arith [hea]
  refine Ok.bind (zE p5 (by decide) (by decide)) ?_
  rintro t M6 ⟨q,rfl,q1,q2,p6,f6⟩
  have g6:M6[M2.length]? = some (.lst (ps.map puT)):=f6.get (f5.get g1 (by simp;omega)) (by simp;omega)
  have ap:=yV (t:=puT ⟨nm,ea,1 + q⟩) g6 (zak (by rw [length_map];omega))
  rw [show ps.map puT ++ [puT ⟨nm,ea,1 + q⟩] = (ps ++ [(⟨nm,ea,1 + q⟩:Pu)]).map puT from by simp,show puT ⟨nm,ea,1 + q⟩ = .tup [.str nm,.str ea,.int (1 + q)] from rfl] at ap
  simp_arith [ap]
  refine Ok.ret ⟨_,rfl,ps ++ [⟨nm,ea,1 + q⟩],_,rfl,get_set g6,by simp;omega,by rw [hnt,map_append,hn];rfl,fun p hp'=>?_,p6.fr (Fr.set _ _ _) (by simp;omega),((f4.trans f5).trans f6).tr (Fr.set _ _ _) (by simp;omega)⟩
  rcases mem_append.mp hp' with hp' | hp'
  ·exact hp p hp'
  ·rw [mem_singleton.mp hp'];show 1<=1 + q/\1 + q<=3;omega
 ·rintro fl M4 ⟨σ,rfl,ps,o5,rfl,g1,hl,hn,hp,p4,f4⟩
  rw [hX];clear hX;simp only [yp]
  rw [zdy] at hl hn
  have l4:M2.length < M4.length:=qK g1
  have cn:=zfu ((rgI many).map FT.T.int) none M4 [] (by rw [length_nil,length_map,zdy];omega)
  rw [length_map,zdy,nil_append] at cn
  refine Ok.seqR fun X hX=>?_
  simp_arith [za3 (M:=M4) (j:=(many:Int)) (by omega),Int.toNat_natCast,cn]
  rw [hX];clear hX;simp only [yp]
  refine Ok.seqR fun X hX=>?_
  simp_arith [and_self]
  have f5:Fr [a] M (M4 ++ List.replicate many (Cell.lst [])):=f4.tr (Fr.app _ _) (by simp)
  refine Ok.bind (zE (p4.fr (Fr.app _ (List.replicate many (Cell.lst []))) (by simp)) (by decide) (by decide)) ?_
  rintro t M5 ⟨u,rfl,u1,u2,p5,f6⟩
  simp_arith [za3 (M:=M5) (show -(2 ^ 62)<=1 + u/\1 + u < 2 ^ 62 by omega)]
  have l45:M4.length + many<=M5.length:=by have:=f6.1;simp at this;exact this
  have init:∀ k,k < many->M5[M4.length + k]? = some (.lst (([]:List Ask).map zD)):=fun k hk=>by
   refine f6.get ?_ (by simp;omega)
   rw [getElem?_append_right (by omega),show M4.length + k - M4.length = k by omega,List.getElem?_replicate,if_pos hk]
   rfl
  have g5:M5[M2.length]? = some (.lst (ps.map puT)):=f6.get (by rw [getElem?_append_left l4];exact g1) (by simp;omega)
  have at0:AT a M2.length M4.length many nms ps (fun _=>[]) M5:=⟨init,(fun i q h=>by cases h),(fun i=>by simp),g5,p5⟩
  refine Ok.bind (Ok.for (r:=FT.T.int) (xs:=rgI (1 + u).toNat) (fun k σ M'=>∃ (A:Nat->List Ask) (o7 o8 o9 o10 o11:Option FT.T),σ = [some (.ref a),some (.int 3),some (.int (many:Int)),some (.lst (nms.map .str)),some (.ref M2.length),o5,some (.lst ((List.range many).map fun j=>.ref (M4.length + j))),o7,o8,o9,o10,o11]/\AT a M2.length M4.length many nms ps A M'/\Fr [a] M M') ⟨fun _=>[],none,none,none,none,none,rfl,at0,f5.trans f6⟩ ?_) ?_
  ·rintro k x σ M6 hx ⟨A,o7,o8,o9,o10,o11,rfl,hAT,f7⟩
   refine (zmx hAT (by omega) l4 n3 hm2 (by omega) o5 (some (.int x)) o8 o9 o10 o11).mono ?_
   rintro fl M7 ⟨σ,rfl,A',o7,o8,o9,o10,o11,rfl,hAT',ff⟩
   exact ⟨_,rfl,A',_,_,_,_,_,rfl,hAT',ff M f7 l4 l2⟩
  ·rintro fl M6 ⟨σ,rfl,A,o7,o8,o9,o10,o11,rfl,hAT,f7⟩
   obtain ⟨cA,aoA,alA,g6,p6⟩:=hAT
   rw [hX];clear hX;simp only [yp]
   have c3:zy (zi 0) qH (zK (zb (eOp ixT (yb 1) (yb 0)) (zb (ze (yC zaf) (zb (eOp ixT (yb 2) (yb 0)) zd)) zd))) ((rgI many).map .int) [none,some (.lst (nms.map .str)),some (.lst ((List.range many).map fun j=>.ref (M4.length + j)))] M6 [] = .ok ((zan nms many A ps).hs.map hsT) M6:=by
    rw [show (rgI many).map FT.T.int = (List.range many).map nT by unfold rgI;rw [map_map];rfl]
    unfold zan
    rw [map_map]
    exact Ok.mapc (r:=nT) (fun σ=>∃ o,σ = [o,some (.lst (nms.map .str)),some (.lst ((List.range many).map fun j=>.ref (M4.length + j)))]) _ ⟨_,rfl⟩ (by rw [length_range];omega) (by
     rintro i σ hi ⟨o,rfl⟩
     have hi:=mem_range.mp hi
     refine ⟨[some (nT i),some (.lst (nms.map .str)),some (.lst ((List.range many).map fun j=>.ref (M4.length + j)))],rfl,⟨_,rfl⟩,?_⟩
     have h1:nms[i]? = some (nms[i]'(by omega)):=getElem?_eq_getElem _
     have h2:atI ((List.range many).map fun j=>FT.T.ref (M4.length + j)) (i:Int) = some (.ref (M4.length + i)):=zo (f:=fun j=>FT.T.ref (M4.length + j)) (getElem?_range hi)
     simp_arith [zo (f:=FT.T.str) h1,h2,zbG (cA i hi)]
     simp only [Function.comp,getD_eq_getElem?_getD,h1]
     rfl)
   have tl:∀ (xs:List FT.T) M,zaf (.lst xs) M = .ok (.tup xs) M:=fun _ _=>rfl
   simp_arith [za3 (M:=M6) (j:=(many:Int)) (by omega),Int.toNat_natCast,c3,tl,zbG g6]
   have pn:(ps.map (·.name)).Nodup:=by
    rw [hn]
    exact (show ([("p":Str),"a"]).Nodup by decide +kernel).sublist (List.take_sublist _ _)
   obtain ⟨w1,w2⟩:=zqb nd n3 hm2 pn (by omega) hp aoA alA
   exact Ok.ret ⟨zan nms many A ps,rfl,w1,w2,p6,f7⟩
end
section
variable {kE kR:Addr}
theorem znY (xs:List (Int × Int)) (p:Int × Int):xs.map pwT ++ [pwT p] = (xs ++ [p]).map pwT:=by simp
theorem zjH {a c2 c5:Nat} {n:Net} {m:Int} (hm:m<=6) {M:Mem} (e:PO a M) (hc2:c2 < M.length) (ha2:a ≠ c2) (ha5:a ≠ c5) (hc5:c5 < M.length) (h25:c2 ≠ c5) {o3 o4 o6:Option FT.T} (oo9 oo10:Option FT.T) :
  Ok (forL (zi 9) (zcz kE kR) ((rgI m.toNat).map .int) [some (.ref a),some (zg n),some (.ref c2),o3,o4,some (.ref c5),o6,some (.int m),some (.ref M.length),oo9,oo10] (M ++ [.lst []])) fun fl M'=>∃ σ,fl = .nx σ/\∃ (st:List (Int × Int)) (o9 o10:Option FT.T),σ = [some (.ref a),some (zg n),some (.ref c2),o3,o4,some (.ref c5),o6,some (.int m),some (.ref M.length),o9,o10]/\M'[M.length]? = some (.lst (st.map pwT))/\st.length = m.toNat/\WS1 st/\PO a M'/\Fr [a] M M':=by
 have ha:a < M.length:=by obtain ⟨p,e⟩:=e;exact qK e
 refine (Ok.for (r:=FT.T.int) (xs:=rgI m.toNat) (fun k σ M'=>∃ (st:List (Int × Int)) (o9 o10:Option FT.T),σ = [some (.ref a),some (zg n),some (.ref c2),o3,o4,some (.ref c5),o6,some (.int m),some (.ref M.length),o9,o10]/\M'[M.length]? = some (.lst (st.map pwT))/\st.length = k/\(∀ p ∈ st,(0<=p.1/\p.1<=1000001)/\1<=p.2/\p.2<=1000)/\PO a M'/\Fr [a] M M') ⟨[],oo9,oo10,rfl,yN,rfl,(fun p h=>by cases h),e.fr (Fr.app _ _) (by simp),(Fr.app _ _).mono⟩ ?_).mono ?_
 ·rintro k x σ M1 hx ⟨st,o9,o10,rfl,g1,hl,hb,p1,f1⟩
  obtain ⟨hk,rfl⟩:=zgh hx
  unfold zcz
  simp_arith [and_self]
  refine Ok.bind (zE p1 (by decide) (by decide)) ?_
  rintro t M2 ⟨d,rfl,d1,d2,p2,f2⟩
  obtain ⟨v,hv,v1,v2⟩:=zgk (xs:=[1,3,12,1000001]) 1 1000001 d1 d2 rfl
  simp only [map_cons,map_nil] at hv
  rw [show (1000001:Int) = 1000000 + 1 from rfl] at hv
  simp_arith [hv]
  refine Ok.bind (zE p2 (by omega) (zeS (by omega) (by omega))) ?_
  rintro t M3 ⟨w,rfl,w1,w2,p3,f3⟩
  have g3:M3[M.length]? = some (.lst (st.map pwT)):=f3.get (f2.get g1 (by simp;omega)) (by simp;omega)
  simp_arith [qJ g3]
  refine Ok.bind (zE p3 (by decide) (by decide)) ?_
  rintro t M4 ⟨q,rfl,q1,q2,p4,f4⟩
  obtain ⟨u,hu,u1,u2⟩:=zgk (xs:=[1,2,4,1000]) 1 1000 q1 q2 rfl
  simp only [map_cons,map_nil] at hu
  simp_arith [hu]
  refine Ok.bind (zE p4 (by omega) (zeS (by omega) (by omega))) ?_
  rintro t M5 ⟨y,rfl,y1,y2,p5,f5⟩
  have g5:M5[M.length]? = some (.lst (st.map pwT)):=f5.get (f4.get g3 (by simp;omega)) (by simp;omega)
  have ap:=yV (t:=pwT (w,1 + y)) g5 (zak (by rw [length_map];omega))
  rw [znY,show pwT (w,1 + y) = .tup [.int w,.int (1 + y)] from rfl] at ap
  simp_arith [ap]
  refine Ok.ret ⟨_,rfl,st ++ [(w,1 + y)],_,_,rfl,get_set g5,by simp;omega,fun p hp=>?_,p5.fr (Fr.set _ _ _) (by simp;omega),((((f1.trans f2).trans f3).trans f4).trans f5).tr (Fr.set _ _ _) (by simp)⟩
  rcases mem_append.mp hp with hp | hp
  ·exact hb p hp
  ·rw [mem_singleton.mp hp]
   show (0<=w/\w<=1000001)/\1<=1 + y/\1 + y<=1000
   omega
 ·rintro fl M1 ⟨σ,rfl,st,o9,o10,rfl,g1,hl,hb,p1,f1⟩
  rw [zdy] at hl
  exact ⟨_,rfl,st,o9,o10,rfl,g1,hl,⟨by omega,hb⟩,p1,f1⟩
structure RW (as:List Ask) (row:List (List (Int × Int))):Prop where
 ln:row.length = as.length
 ok:∀ st ∈ row,WS1 st
 ne:∀ (k:Nat) st a,row[k]? = some st->as[k]? = some a->a.tries ≠ 1->0 < st.length
theorem zlj {a:Nat} {n:Net} (wn:WN n) (nx:NX n) {M:Mem} (e:PO a M):Ok (zdb kE kR [.ref a,zg n] M) fun t M'=>∃ W,t = wtT W/\WW n W/\PO a M'/\Fr [a] M M':=by
 refine qu rfl ?_
 unfold zg1
 have ha:a < M.length:=by obtain ⟨p,e⟩:=e;exact qK e
 have hn:∀ i h,n.hs[i]? = some h->n.asks i = h.asks:=fun i h e=>by unfold Net.asks;rw [e];rfl
 rw [show zg n = .tup [.tup (n.hs.map hsT),.tup (n.ps.map puT)] from rfl]
 simp_arith [and_self]
 refine Ok.bind (Ok.for (r:=hsT) (xs:=n.hs) (fun k σ M'=>∃ (W:List (List (List (Int × Int)))) (o3 o4 o5 o6 o7 o8 o9 o10:Option FT.T),σ = [some (.ref a),some (zg n),some (.ref M.length),o3,o4,o5,o6,o7,o8,o9,o10]/\M'[M.length]? = some (.lst (W.map fun row=>.tup (row.map yE)))/\W.length = k/\(∀ (i:Nat) row h,W[i]? = some row->n.hs[i]? = some h->RW h.asks row)/\PO a M'/\Fr [a] M M') ⟨[],none,none,none,none,none,none,none,none,rfl,yN,rfl,(fun i row h z=>by simp at z),e.fr (Fr.app _ _) (by simp),(Fr.app _ _).mono⟩ ?_) ?_
 ·rintro k h σ M1 hk ⟨W,o3,o4,o5,o6,o7,o8,o9,o10,rfl,g1,hl,hW,p1,f1⟩
  have hkl:=(List.getElem?_eq_some_iff.mp hk).1
  have hal:=wn.al h (mem_of_getElem? hk)
  have l1:M.length < M1.length:=qK g1
  unfold zf3
  rw [show hsT h = .tup [.str h.name,.tup (h.asks.map zD)] from rfl]
  simp_arith [and_self]
  refine Ok.bind (Ok.for (r:=zD) (xs:=h.asks) (fun j σ M'=>∃ (row:List (List (Int × Int))) (o6 o7 o8 o9 o10:Option FT.T),σ = [some (.ref a),some (zg n),some (.ref M.length),some (.str h.name),some (.tup (h.asks.map zD)),some (.ref M1.length),o6,o7,o8,o9,o10]/\M'[M1.length]? = some (.lst (row.map yE))/\row.length = j/\(∀ st ∈ row,WS1 st)/\(∀ (k:Nat) st a,row[k]? = some st->h.asks[k]? = some a->a.tries ≠ 1->0 < st.length)/\M'[M.length]? = some (.lst (W.map fun row=>.tup (row.map yE)))/\PO a M'/\Fr [a] M M') ⟨[],_,_,_,_,_,rfl,yN,rfl,(fun st z=>by cases z),(fun k st a z=>by simp at z),by rw [getElem?_append_left l1];exact g1,p1.fr (Fr.app _ _) (by simp),f1.tr (Fr.app _ _) (by simp)⟩ ?_) ?_
  ·rintro j q σ M2 hj ⟨row,o6,o7,o8,o9,o10,rfl,r1,rl,rok,rne,g2,p2,f2⟩
   have hjl:=(List.getElem?_eq_some_iff.mp hj).1
   have htr:=nx.tr k q (by rw [hn k h hk];exact mem_of_getElem? hj)
   have ha2:a < M2.length:=by obtain ⟨p,e⟩:=p2;exact qK e
   have l2:M1.length < M2.length:=qK r1
   unfold zf4
   rw [show zD q = .tup [.str q.to,.int q.tries,opS q.purse,.str q.word,.bl q.hears,.bl q.sure] from rfl]
   have fin:∀ (m:Int) (M3:Mem) (o9 o10:Option FT.T),m<=6->(q.tries ≠ 1->0 < m.toNat)->PO a M3->M3[M1.length]? = some (.lst (row.map yE))->M3[M.length]? = some (.lst (W.map fun row=>.tup (row.map yE)))->Fr [a] M M3->
     Ok ((forL (zi 9) (zcz kE kR) ((rgI m.toNat).map .int) [some (.ref a),some (zg n),some (.ref M.length),some (.str h.name),some (.tup (h.asks.map zD)),some (.ref M1.length),some (.tup [.str q.to,.int q.tries,opS q.purse,.str q.word,.bl q.hears,.bl q.sure]),some (.int m),some (.ref M3.length),o9,o10] (M3 ++ [.lst []])).bind (zb4 (zF (z7 qV (eUn yG (yb 5)) (zb (ze (yC zaf) (zb (yb 8) zd)) zd))))) fun fl M'=>∃ σ',fl = Fl.nx σ'/\∃ (row:List (List (Int × Int))) (o6 o7 o8 o9 o10:Option FT.T),σ' = [some (.ref a),some (zg n),some (.ref M.length),some (.str h.name),some (.tup (h.asks.map zD)),some (.ref M1.length),o6,o7,o8,o9,o10]/\M'[M1.length]? = some (.lst (row.map yE))/\row.length = j + 1/\(∀ st ∈ row,WS1 st)/\(∀ (k:Nat) st a,row[k]? = some st->h.asks[k]? = some a->a.tries ≠ 1->0 < st.length)/\M'[M.length]? = some (.lst (W.map fun row=>.tup (row.map yE)))/\PO a M'/\Fr [a] M M':=by
    intro m M3 o9 o10 hm6 hne p3 r3 g3 f3
    have l3:M1.length < M3.length:=qK r3
    refine Ok.bind (zjH hm6 p3 (by omega) (by omega) (by omega) (by omega) (by omega) o9 o10) ?_
    rintro fl M4 ⟨σ,rfl,st,o9,o10,rfl,s4,sl,sw,p4,f4⟩
    have r4:M4[M1.length]? = some (.lst (row.map yE)):=f4.get r3 (by simp;omega)
    have g4:M4[M.length]? = some (.lst (W.map fun row=>.tup (row.map yE))):=f4.get g3 (by simp;omega)
    have ap:=yV (t:=yE st) r4 (zak (by rw [length_map];omega))
    rw [show row.map yE ++ [yE st] = (row ++ [st]).map yE from by simp,show yE st = .tup (st.map pwT) from rfl] at ap
    simp_arith [qJ r4,zbG s4,ap]
    refine Ok.ret ⟨_,rfl,row ++ [st],_,_,_,_,_,rfl,get_set r4,by simp;omega,fun z hz=>?_,fun i z b hz hb hb1=>?_,?_,p4.fr (Fr.set _ _ _) (by simp;omega),(f3.trans f4).tr (Fr.set _ _ _) (by simp;omega)⟩
    ·rcases mem_append.mp hz with hz | hz
     ·exact rok z hz
     ·rw [mem_singleton.mp hz];exact sw
    ·by_cases hi:i < row.length
     ·rw [getElem?_append_left hi] at hz
      exact rne i z b hz hb hb1
     ·have hi2:i = row.length:=by
       have:=(List.getElem?_eq_some_iff.mp hz).1
       simp at this
       omega
      subst hi2
      rw [List.getElem?_concat_length] at hz
      cases hz
      rw [rl,hj] at hb
      cases hb
      rw [sl]
      exact hne hb1
    ·rw [getElem?_set,if_neg (by omega)];exact g4
   by_cases h0:q.tries = 0
   ·simp_arith [h0]
    refine Ok.bind (zE p2 (by decide) (by decide)) ?_
    rintro t M3 ⟨d,rfl,d1,d2,p3,f3⟩
    simp_arith [za3 (M:=M3 ++ [.lst []]) (show -(2 ^ 62)<=1 + d/\1 + d < 2 ^ 62 by omega)]
    have:=fin (1 + d) M3 o9 o10 (by omega) (fun _=>by omega) p3 (f3.get r1 (by simp;omega)) (f3.get g2 (by simp;omega)) (f2.trans f3)
    rw [h0] at this
    exact this
   ·have h0':(q.tries == 0) = false:=by simpa using h0
    simp_arith [h0',za3 (M:=M2 ++ [.lst []]) (show -(2 ^ 62)<=q.tries - 1/\q.tries - 1 < 2 ^ 62 by omega)]
    exact fin (q.tries - 1) M2 o9 o10 (by omega) (fun _=>by omega) p2 r1 g2 f2
  ·rintro fl M2 ⟨σ,rfl,row,o6,o7,o8,o9,o10,rfl,r1,rl,rok,rne,g2,p2,f2⟩
   have l2:M1.length < M2.length:=qK r1
   have ap:=yV (t:=.tup (row.map yE)) g2 (zak (by rw [length_map];have:=wn.hl;omega))
   rw [show (W.map fun row=>FT.T.tup (row.map yE)) ++ [.tup (row.map yE)] = (W ++ [row]).map fun row=>.tup (row.map yE) from by simp] at ap
   simp_arith [qJ g2,zbG r1,ap]
   refine Ok.ret ⟨_,rfl,W ++ [row],_,_,_,_,_,_,_,_,rfl,get_set g2,by simp;omega,fun i r' h' hr hh=>?_,p2.fr (Fr.set _ _ _) (by simp;omega),f2.tr (Fr.set _ _ _) (by simp)⟩
   by_cases hi:i < W.length
   ·rw [getElem?_append_left hi] at hr
    exact hW i r' h' hr hh
   ·have hi2:i = W.length:=by
     have:=(List.getElem?_eq_some_iff.mp hr).1
     simp at this
     omega
    subst hi2
    rw [List.getElem?_concat_length] at hr
    cases hr
    rw [hl,hk] at hh
    cases hh
    exact ⟨rl,rok,rne⟩
 ·rintro fl M1 ⟨σ,rfl,W,o3,o4,o5,o6,o7,o8,o9,o10,rfl,g1,hl,hW,p1,f1⟩
  simp_arith [zbG g1]
  refine Ok.ret ⟨W,rfl,⟨hl,fun h row hr=>?_,fun row hr st hs=>?_,fun h k row st b hr hs hb hb1=>?_⟩,p1,f1⟩
  ·have hlt:=(List.getElem?_eq_some_iff.mp hr).1
   have hh:n.hs[h]? = some (n.hs[h]'(by omega)):=getElem?_eq_getElem _
   rw [hn h _ hh]
   exact (hW h row _ hr hh).ln
  ·obtain ⟨i,hi⟩:=mem_iff_getElem?.mp hr
   have hlt:=(List.getElem?_eq_some_iff.mp hi).1
   exact (hW i row _ hi (getElem?_eq_getElem (by omega))).ok st hs
  ·have hlt:=(List.getElem?_eq_some_iff.mp hr).1
   have hh:n.hs[h]? = some (n.hs[h]'(by omega)):=getElem?_eq_getElem _
   rw [hn h _ hh] at hb
   exact (hW h row _ hr hh).ne k st b hs hb hb1
end
section
variable {kE kR:Addr} {n:Net} {W:List (List (List (Int × Int)))}
theorem zhp (xs:List FT.T) (i:Int) (M:Mem):ixD (.lst xs) (.int i) M = ixT (.lst xs) (.int i) M:=rfl
theorem zdV (xs:List FT.T) (i:Int) (M:Mem):ixD (.tup xs) (.int i) M = ixT (.tup xs) (.int i) M:=rfl
theorem zqf {s:Nat} {D:List (Key × FT.T)} {i:Int} {t:FT.T} {M:Mem} (h:M[s]? = some (.dic D)) (e:qE D (.inl i) = some t):ixD (.ref s) (.int i) M = .ok t M:=by
 unfold ixD zeQ
 simp only [h,zh0,e]
 rfl
theorem zoJ (xs:List FT.T) (M:Mem):zgq (.tup xs) M = .ok (nT xs.length) M:=rfl
theorem zkM (xs:List FT.T) (M:Mem):zgq (.lst xs) M = .ok (nT xs.length) M:=rfl
theorem zk5 (ww:WW n W) {R:Run} (ri:RI n R) {i:Nat} {e:Er} (he:R.es[i]? = some e) (ht:yx n e = true) {s:Nat} {D:List (Key × FT.T)} {M:Mem} (hs:M[s]? = some (.dic D)) {tk:Int} (hd:qE D (.inl (i:Int)) = some (.int tk)) :
  zbZ kE kR [wtT W,.lst (R.es.map erT),.ref s,nT i] M = .ok (.int (tk + zew (zO W e) i (kOf W e))) M:=by
 have hS:e.ph.isS = true:=by
  have:=ht
  unfold yx at this
  rw [Bool.and_eq_true] at this
  exact this.1
 have a2:=(zcE hS (ri.ph _ _ he)).1
 obtain ⟨row,r1,r2⟩:=zjI ww ri he hS
 have hne:=zjJ ww ri he ht
 have w1:atI (W.map fun row=>FT.T.tup (row.map yE)) (e.house:Int) = some (.tup (row.map yE)):=zo (f:=fun row=>FT.T.tup (row.map yE)) r1
 have w2:atI (row.map yE) (e.ph.at1:Int) = some (.tup ((zO W e).map pwT)):=zo (f:=yE) r2
 have ws:=ww.ok _ (mem_of_getElem? r1) _ (mem_of_getElem? r2)
 have hkk:kOf W e < (zO W e).length:=by
  unfold kOf
  have:=Nat.min_le_right e.ph.at2 (zO W e).length
  omega
 have hmin:min e.ph.at2 (zO W e).length = kOf W e + 1:=by
  unfold kOf
  have:1<=min e.ph.at2 (zO W e).length:=Nat.le_min.mpr ⟨a2,hne⟩
  omega
 have er1:atI (R.es.map erT) (i:Int) = some (.tup [nT e.house,clT e.caller,.tup [.str "stands",nT e.ph.at1,nT e.ph.at2]]):=by
  have:=zo (f:=erT) he
  unfold erT at this
  rw [phS hS] at this
  exact this
 have mn:∀ M,zgn (nT e.ph.at2) (nT (zO W e).length) M = .ok (nT (kOf W e + 1)) M:=fun M=>by
  show Out.ok (FT.T.int (if ((zO W e).length:Int) < (e.ph.at2:Int) then ((zO W e).length:Int) else (e.ph.at2:Int))) M = _
  rw [← hmin]
  congr 2
  by_cases z:(zO W e).length < e.ph.at2
  ·rw [if_pos (by omega),Nat.min_eq_right (by omega)]
  ·rw [if_neg (by omega),Nat.min_eq_left (by omega)]
 have cu:zb2 ((zO W e).map pwT) none (some ((kOf W e + 1:Nat):Int)) = ((zO W e).take (kOf W e + 1)).map pwT:=by rw [zg6,map_take]
 have dd:=zqf hs hd
 generalize zO W e = st at *
 generalize kOf W e = kk at *
 have key:Ok (zbZ kE kR [wtT W,.lst (R.es.map erT),.ref s,nT i] M) fun t M'=>t = .int (tk + zew st i kk)/\M' = M:=by
  refine qu rfl ?_
  unfold zjm
  rw [show wtT W = .tup (W.map fun row=>FT.T.tup (row.map yE)) from rfl]
  simp_arith [zhp,er1,zdV,w1,w2,dd,zoJ,length_map,mn,cu]
  refine Ok.bind (Ok.for (r:=pwT) (xs:=st.take (kk + 1)) (fun j σ M'=>∃ (o11 o12:Option FT.T),σ = [some (.tup (W.map fun row=>FT.T.tup (row.map yE))),some (.lst (R.es.map erT)),some (.ref s),some (nT i),some (nT e.house),some (clT e.caller),some (.tup [.str "stands",nT e.ph.at1,nT e.ph.at2]),some (.tup (st.map pwT)),some (.int ((i:Int) / prd (st.take j))),some (.int (prd (st.take j))),some (.int (if j = 0 then tk else tk + zew st i (j - 1))),o11,o12]/\M' = M) ⟨none,none,by simp [prd],rfl⟩ ?_) ?_
  ·rintro j p σ M1 hj ⟨o11,o12,rfl,rfl⟩
   have hjl:=(List.getElem?_eq_some_iff.mp hj).1
   rw [length_take] at hjl
   have hp:st[j]? = some p:=by
    rw [getElem?_take] at hj
    split at hj
    ·exact hj
    ·cases hj
   have hb:=ws.2 p (mem_of_getElem? hp)
   have b:=zhT ws (k:=j) (by omega)
   have md:∀ x M,zbz (.int x) (.int p.2) M = .ok (.int (x.fmod p.2)) M:=fun x M=>zeJ (by omega)
   have mu:∀ x M,zbd (.int (prd (st.take j))) (.int x) M = .ok (.int (prd (st.take j) * x)) M:=fun x M=>zek (by simp only [Int.reducePow] at b ⊢;omega)
   have dv:∀ x M,zcs (.int x) (.int p.2) M = .ok (.int (x.fdiv p.2)) M:=fun x M=>zdD (zhs 100 (by decide) (by omega) (by
    refine Nat.lt_of_le_of_lt (show p.2.natAbs<=10 ^ 7 from by simp only [Nat.reducePow];omega) (Nat.pow_lt_pow_right (by decide) (by decide))))
   unfold ziw
   rw [show pwT p = .tup [.int p.1,.int p.2] from rfl]
   simp_arith [dd,md,mu,dv]
   refine Ok.ret ⟨_,rfl,some (.int p.1),some (.int p.2),?_,rfl⟩
   rw [Nat.add_sub_cancel,Int.fdiv_eq_ediv_of_nonneg _ (by omega),Int.fmod_eq_emod_of_nonneg _ (by omega),Int.ediv_ediv_of_nonneg (by omega),zhS hp]
   unfold zew
   rw [getD_eq_getElem?_getD,hp,Int.add_assoc]
   rfl
  ·rintro fl M1 ⟨σ,rfl,o11,o12,rfl,rfl⟩
   have ll:(st.take (kk + 1)).length = kk + 1:=by rw [length_take];omega
   rw [ll,if_neg (by omega),Nat.add_sub_cancel]
   simp_arith [and_self]
   exact Ok.ret ⟨rfl,rfl⟩
 obtain ⟨t,M',e',rfl,rfl⟩:=key
 exact e'
end
section
variable {kE kR:Addr} {n:Net} {W:List (List (List (Int × Int)))}
theorem ziL {D:List (Key × FT.T)} {k j:Key} {v:FT.T} (h:j ≠ k):((D.map fun kv=>if kv.1 = k then (kv.1,v) else kv).find? fun kv=>decide (kv.1 = j)).map (·.2) = (D.find? fun kv=>decide (kv.1 = j)).map (·.2):=by
 induction D with
 | nil=>rfl
 | cons kv D ih=>
  rw [map_cons,find?_cons,find?_cons]
  by_cases e:kv.1 = k
  ·rw [if_pos e]
   have:¬ kv.1 = j:=fun z=>h (z.symm.trans e)
   simp only [this,decide_false]
   exact ih
  ·rw [if_neg e]
   by_cases z:kv.1 = j
   ·simp only [z,decide_true]
   ·simp only [z,decide_false]
    exact ih
theorem zl8 {D:List (Key × FT.T)} {k j:Key} {v:FT.T}:qE (D ++ [(k,v)]) j = match qE D j with | some x=>some x | none=>if j = k then some v else none:=by
 unfold qE
 rw [List.find?_append]
 cases q:D.find? fun kv=>decide (kv.1 = j) with
 | some x=>rfl
 | none=>
  by_cases z:j = k
  ·subst z;simp
  ·have:¬ k = j:=fun x=>z x.symm
   simp [z,this]
theorem ziM {D:List (Key × FT.T)} {k:Key} {v:FT.T} (h:(D.any fun kv=>decide (kv.1 = k)) = true):qE (D.map fun kv=>if kv.1 = k then (kv.1,v) else kv) k = some v:=by
 unfold qE
 induction D with
 | nil=>cases h
 | cons kv D ih=>
  rw [map_cons,find?_cons]
  by_cases e:kv.1 = k
  ·rw [if_pos e]
   simp only [e,decide_true]
   rfl
  ·rw [if_neg e]
   simp only [e,decide_false]
   refine ih ?_
   rw [any_cons] at h
   simpa [e] using h
theorem zfq (D:List (Key × FT.T)) (k j:Key) (v:FT.T):qE (zct D k v) j = if j = k then some v else qE D j:=by
 unfold zct
 split
 ·rename_i h
  by_cases z:j = k
  ·rw [if_pos z,z];exact ziM h
  ·rw [if_neg z];exact ziL z
 ·rename_i h
  rw [zl8]
  by_cases z:j = k
  ·rw [if_pos z,if_pos z,z]
   have:qE D k = none:=by
    unfold qE
    rw [show (D.find? fun kv=>decide (kv.1 = k)) = none from List.find?_eq_none.mpr fun x hx hz=>h (List.any_eq_true.mpr ⟨x,hx,hz⟩)]
    rfl
   rw [this]
  ·rw [if_neg z,if_neg z]
   cases qE D j <;> rfl
theorem zmI (D:List (Key × FT.T)) (k:Key) (v:FT.T):(zct D k v).length<=D.length + 1:=by
 unfold zct
 split
 ·rw [length_map];omega
 ·simp
theorem zmE {s:Nat} {D:List (Key × FT.T)} {i:Int} {t:FT.T} {M:Mem} (h:M[s]? = some (.dic D)) (hl:D.length<=100000):zhI (.ref s) (.int i) t M = .ok () (M.set s (.dic (zct D (.inl i) t))):=by
 show (match M[s]? with | some (.dic kvs)=>if kvs.length < sizeLine then Out.ok () (M.set s (.dic (zct kvs (.inl i) t))) else .bad | _=>zdG (.ref s) (.int i) t M) = _
 rw [h]
 dsimp only
 rw [if_pos (by rw [sizeLine_eq];omega)]
theorem zm8 (a t:Nat) (M:Mem):neA (.tup [.str "stands",nT a,nT t]) (.tup [.str "stands",nT a,nT t]) M = .ok (.bl false) M:=by
 have h:eqD M 20 (.tup [.str "stands",nT a,nT t]) (.tup [.str "stands",nT a,nT t]) = some (true && (((a:Int) == a) && (((t:Int) == t) && true))):=rfl
 unfold neA
 rw [h,beq_self_eq_true,beq_self_eq_true]
 rfl
theorem zm9 (a t a' t':Nat) (M:Mem):neA (.tup [.str "waits",nT a',nT t']) (.tup [.str "stands",nT a,nT t]) M = .ok (.bl true) M:=rfl
theorem zh3 (i j:Int) (M:Mem):geI (.int i) (.int j) M = .ok (.bl (decide (j<=i))) M:=rfl
theorem zi6 (p:Ph):∃ s ts,phT p = .tup (.str s :: ts)/\(s == ("stands":Str)) = p.isS:=by
 cases p <;> exact ⟨_,_,rfl,rfl⟩
theorem zjs {α:Type} (f:α->FT.T) (xs:List α):enT (xs.map f) = xs.zipIdx.map fun q=>FT.T.tup [nT q.2,f q.1]:=by
 unfold enT
 rw [List.mapIdx_eq_zipIdx_map,List.zipIdx_map,map_map]
 rfl
theorem zki {α:Type} {xs:List α} {k:Nat} {q:α × Nat} (h:xs.zipIdx[k]? = some q):q.2 = k/\xs[k]? = some q.1:=by
 rw [List.getElem?_zipIdx] at h
 cases z:xs[k]? with
 | none=>rw [z] at h;cases h
 | some x=>rw [z] at h;cases h;exact ⟨Nat.zero_add k,rfl⟩
def Kpt (R:Run) (c:Nat) (D D':List (Key × FT.T)) (tick:Int) (i:Nat) (e':Er):Prop:=
 ((∃ e,R.es[i]? = some e/\e.ph = e'.ph/\e.stood = e'.stood)/\qE D' (.inl (i:Int)) = qE D (.inl (i:Int)))\/(e'.stood = some c/\qE D' (.inl (i:Int)) = some (.int tick))
theorem zno {R R':Run} {c:Nat} (qs:QS R R' c) (hl:R'.es.length<=1000) {s:Nat} {D:List (Key × FT.T)} {M:Mem} (hs:M[s]? = some (.dic D)) (hD:D.length<=90000) (tick:Int) :
  Ok (zdZ kE kR [.lst (R.es.map erT),.lst (R'.es.map erT),.ref s,.int tick] M) fun _ M'=>∃ D',M'[s]? = some (.dic D')/\Fr [s] M M'/\D'.length<=D.length + R'.es.length/\∀ (i:Nat) e',R'.es[i]? = some e'->e'.ph.isS = true->Kpt R c D D' tick i e':=by
 refine qu rfl ?_
 unfold zh7
 simp_arith [zdB,zjs]
 refine Ok.bind (Ok.for (r:=fun q:Er × Nat=>FT.T.tup [nT q.2,erT q.1]) (xs:=R'.es.zipIdx) (fun k σ M'=>∃ (o4 o5:Option FT.T) (D':List (Key × FT.T)),σ = [some (.lst (R.es.map erT)),some (.lst (R'.es.map erT)),some (.ref s),some (.int tick),o4,o5]/\M'[s]? = some (.dic D')/\Fr [s] M M'/\D'.length<=D.length + k/\(∀ (i:Nat) e',i < k->R'.es[i]? = some e'->e'.ph.isS = true->Kpt R c D D' tick i e')/\∀ i:Nat,k<=i->qE D' (.inl (i:Int)) = qE D (.inl (i:Int))) ⟨none,none,D,rfl,hs,Fr.refl _ _,by omega,fun i _ h=>absurd h (by omega),fun _ _=>rfl⟩ ?_) ?_
 ·rintro k ⟨e',k'⟩ σ M1 hk ⟨o4,o5,D',rfl,h1,f1,l1,p1,q1⟩
  obtain ⟨rfl,he'⟩:k' = k/\R'.es[k]? = some e':=zki hk
  have hkl:=(List.getElem?_eq_some_iff.mp he').1
  have stay:(e'.ph.isS = true->Kpt R c D D' tick k' e')->∀ o4 o5:Option FT.T,∃ (o4' o5':Option FT.T) (D'':List (Key × FT.T)),[some (FT.T.lst (R.es.map erT)),some (.lst (R'.es.map erT)),some (.ref s),some (.int tick),o4,o5] = [some (.lst (R.es.map erT)),some (.lst (R'.es.map erT)),some (.ref s),some (.int tick),o4',o5']/\M1[s]? = some (.dic D'')/\Fr [s] M M1/\D''.length<=D.length + (k' + 1)/\(∀ (i:Nat) e',i < k' + 1->R'.es[i]? = some e'->e'.ph.isS = true->Kpt R c D D'' tick i e')/\∀ i:Nat,k' + 1<=i->qE D'' (.inl (i:Int)) = qE D (.inl (i:Int)):=fun hh o4 o5=>⟨o4,o5,D',rfl,h1,f1,by omega,fun i q hi hq hs=>by
   by_cases z:i = k'
   ·subst z
    rw [he'] at hq
    cases hq
    exact hh hs
   ·exact p1 i q (by omega) hq hs,fun i hi=>q1 i (by omega)⟩
  unfold zhe
  show Ok ((zat 2 (qz (zi 4) (qz (zi 5) zau)) (.tup [nT k',erT e']) _ M1).bind _) _
  cases hS:e'.ph.isS with
  | false=>
   obtain ⟨x,ts,ph,hx⟩:=zi6 e'.ph
   rw [hS] at hx
   rw [show erT e' = .tup [nT e'.house,clT e'.caller,phT e'.ph] from rfl,ph]
   simp_arith [zdV,zfX,hx]
   exact Ok.ret ⟨_,rfl,stay (fun z=>by rw [hS] at z;cases z) _ _⟩
  | true=>
   obtain ⟨e,hR,hq⟩:∃ e,R.es[k']? = some e/\((e.ph = e'.ph/\e.stood = e'.stood)\/(e'.stood = some c/\∃ a t,e.ph = .waits a t)):=by
    rcases qs k' e' he' hS with ⟨e,h1,h2⟩ | ⟨h1,e,a,t,h2,h3⟩
    ·exact ⟨e,h1,.inl h2⟩
    ·exact ⟨e,h2,.inr ⟨h1,a,t,h3⟩⟩
   have hRl:=(List.getElem?_eq_some_iff.mp hR).1
   have a1:atI (R.es.map erT) (k':Int) = some (.tup [nT e.house,clT e.caller,phT e.ph]):=zo (f:=erT) hR
   have ge:decide (((R.es.map erT).length:Int)<=(k':Int)) = false:=decide_eq_false (by rw [length_map];omega)
   have es:∀ M,eqA (.str "stands") (.str "stands") M = .ok (.bl true) M:=fun _=>rfl
   rw [show erT e' = .tup [nT e'.house,clT e'.caller,phT e'.ph] from rfl,phS hS]
   rcases hq with ⟨hp,hst⟩ | ⟨hst,a,t,hp⟩
   ·rw [hp,phS hS] at a1
    simp_arith [zdV,zhp,es,zkM,zh3,ge,a1,zm8]
    exact Ok.ret ⟨_,rfl,stay (fun _=>.inl ⟨⟨e,hR,hp,hst⟩,q1 k' (Nat.le_refl _)⟩) _ _⟩
   ·rw [hp,show phT (.waits a t) = .tup [.str "waits",nT a,nT t] from rfl] at a1
    simp_arith [zdV,zhp,es,zkM,zh3,ge,a1,zm9,zmE h1 (show D'.length<=100000 by omega)]
    have lp:=zmI D' (.inl (k':Int)) (.int tick)
    refine Ok.ret ⟨_,rfl,_,_,_,rfl,get_set h1,f1.trans (Fr.set _ _ _),by omega,fun i q hi hq hs=>?_,fun i hi=>?_⟩
    ·by_cases z:i = k'
     ·subst z
      rw [he'] at hq
      cases hq
      refine .inr ⟨hst,?_⟩
      rw [zfq,if_pos rfl]
     ·have:=p1 i q (by omega) hq hs
      unfold Kpt at this ⊢
      rw [zfq,if_neg (fun x=>z (by have:=Sum.inl.inj x;omega))]
      exact this
    ·rw [zfq,if_neg (fun x=>by have:=Sum.inl.inj x;omega)]
     exact q1 i (by omega)
 ·rintro fl M1 ⟨σ,rfl,o4,o5,D',rfl,h1,f1,l1,p1,q1⟩
  rw [List.length_zipIdx] at l1 p1
  simp_arith [and_self]
  exact Ok.ret ⟨D',h1,f1,l1,fun i e' he'=>p1 i e' (List.getElem?_eq_some_iff.mp he').1 he'⟩
theorem zmc {a:Nat} {M:Mem} (e:PO a M) {xs:List Evt} (h0:0 < xs.length) (hl:xs.length<=100000):Ok (zdd kE kR [.ref a,.lst (xs.map evT)] M) fun t M'=>∃ ev ∈ xs,t = evT ev/\PO a M'/\Fr [a] M M':=by
 refine qu rfl ?_
 unfold zg3
 have h1:xs[0]? = some xs[0]:=getElem?_eq_getElem h0
 have a0:atI (xs.map evT) (0:Int) = some (evT xs[0]):=zo (f:=evT) (i:=0) h1
 have ln:∀ M,qC (.lst (xs.map evT)) M = .ok (nT xs.length) M:=fun M=>by
  rw [show qC (.lst (xs.map evT)) M = .ok (nT (xs.map evT).length) M from rfl,length_map]
 by_cases h1:1 < xs.length
 ·simp_arith [ln,decide_eq_true (show (1:Int) < (xs.length:Int) by omega)]
  refine Ok.bind (zE e (by decide) (by decide)) ?_
  rintro t M1 ⟨d,rfl,d1,d2,p1,f1⟩
  by_cases hd:0 < d
  ·simp_arith [decide_eq_true hd,ln]
   refine Ok.bind (zE p1 (show (0:Int) < (xs.length:Int) - 1 by omega) (zeS (by omega) (by omega))) ?_
   rintro t M2 ⟨v,rfl,v1,v2,p2,f2⟩
   obtain ⟨y,y1,y2⟩:=zix (xs:=xs.map evT) (show (0:Int)<=1 + v by omega) (by rw [length_map];omega)
   obtain ⟨ev,hev,rfl⟩:=mem_map.mp y2
   simp_arith [y1]
   exact Ok.ret ⟨ev,hev,rfl,p2,f1.trans f2⟩
  ·simp_arith [decide_eq_false hd,a0]
   exact Ok.ret ⟨xs[0],getElem_mem _,rfl,p1,f1⟩
 ·simp_arith [ln,decide_eq_false (show ¬ (1:Int) < (xs.length:Int) by omega),a0]
  exact Ok.ret ⟨xs[0],getElem_mem _,rfl,e,Fr.refl _ _⟩
end
section
variable {kE kR:Addr} {n:Net} {W:List (List (List (Int × Int)))}
theorem VEv.snoc {n:Net}:∀ {evs:List Evt} {R:Run} {ev:Evt},VEv n R evs->Can n (evs.foldl (zb5 n) R) ev->VEv n R (evs ++ [ev])
 | [],_,_,_,c=>⟨c,True.intro⟩
 | _ :: _,_,_,v,c=>⟨v.1,VEv.snoc v.2 c⟩
theorem zln {ts us:List Int} {e:Er} {i j:Nat} (h:e.stood = some j) (hj:j < ts.length):yW W (ts ++ us) e i = yW W ts e i:=by
 unfold yW
 rw [h,Option.getD_some,getD_eq_getElem?_getD,getD_eq_getElem?_getD,getElem?_append_left hj]
theorem ziy (wn:WN n) {R:Run} {B i:Nat} (g:Good n R B) (c:Can n R (.again i)):∃ e j,R.es[i]? = some e/\e.ph.isS = true/\yx n e = true/\e.stood = some j/\j < R.came:=by
 obtain ⟨e,he,hs,ht⟩:=c.c
 obtain ⟨a2,a3⟩:=zcE hs (g.ri.ph _ _ he)
 obtain ⟨sk,hsk⟩:=Option.isSome_iff_exists.mp a3
 exact ⟨e,sk,he,hs,ht,hsk,g.sd i e sk he hs hsk⟩
theorem TOk.snoc (wn:WN n) {ps:List (Int × Evt)} {ev:Evt} {t:Int} (tv:TOk n W ps) (c:Can n (qp n (ps.map (·.2))) ev) (h:∀ i,ev = .again i->yW W (ps.map (·.1)) ((qp n (ps.map (·.2))).er i) i<=t):TOk n W (ps ++ [(t,ev)]):=by
 have key:∀ (k:Nat),k<=ps.length->∀ i,Can n (qp n ((ps.take k).map (·.2))) (.again i)->yW W ((ps ++ [(t,ev)]).map (·.1)) ((qp n ((ps.take k).map (·.2))).er i) i = yW W (ps.map (·.1)) ((qp n ((ps.take k).map (·.2))).er i) i:=fun k hk i hc=>by
  have g:=zaO wn tv.v k (by rw [length_map];exact hk)
  have ca:=zcZ wn tv.v k (by rw [length_map];exact hk)
  rw [← map_take] at g ca
  obtain ⟨e,j,he,_,_,hj,hl⟩:=ziy wn g hc
  rw [z0 he,map_append]
  exact zln hj (by rw [length_map];omega)
 refine ⟨?_,fun k p i hk hp=>?_⟩
 ·rw [map_append]
  exact tv.v.snoc c
 ·have hkl:=(List.getElem?_eq_some_iff.mp hk).1
  rw [length_append,length_singleton] at hkl
  by_cases z:k < ps.length
  ·rw [getElem?_append_left z] at hk
   rw [List.take_append_of_le_length (by omega)]
   have hk':(ps.map (·.2))[k]? = some p.2:=by rw [getElem?_map,hk];rfl
   have hc:=tv.v.at_ hk'
   rw [hp,← map_take] at hc
   rw [key k (by omega) i hc]
   exact tv.s k p i hk hp
  ·have zk:k = ps.length:=by omega
   subst zk
   rw [getElem?_append_right (Nat.le_refl _),Nat.sub_self] at hk
   cases hk
   have kk:=key ps.length (Nat.le_refl _) i (by rw [take_length,← show ev = .again i from hp];exact c)
   rw [take_length] at kk
   rw [List.take_left,kk]
   exact h i hp
structure TI (n:Net) (W:List (List (List (Int × Int)))) (a d:Nat) (M:Mem) (ps:List (Int × Evt)) (D:List (Key × FT.T)):Prop where
 pc:M[a]? = some (.lst (ps.map prT))
 dc:M[d]? = some (.dic D)
 tv:TOk n W ps
 dl:D.length<=1000 * ps.length
 dk:∀ (i:Nat) (e:Er) (j:Nat),(qp n (ps.map (·.2))).es[i]? = some e->e.ph.isS = true->e.stood = some j->qE D (.inl (i:Int)) = some (.int ((ps.map (·.1)).getD j 0))
theorem zlo {a:Nat} {ps:List (Int × Evt)} {M:Mem} (h:M[a]? = some (.lst (ps.map prT))) (hl:ps.length<=1000):zN [(a,ps.map prT)] (zat 2 (qz (zi 0) (qz (zi 1) zau))) qH (yb 1) (ps.map prT) [none,none] M [] = .ok ((ps.map (·.2)).map evT) M:=by
 have:=zjX (G:=[(a,ps.map prT)]) (bd:=zat 2 (qz (zi 0) (qz (zi 1) zau))) (el:=yb 1) (M:=M) (r:=prT) (zfs h) (fun σ=>∃ o o',σ = [o,o']) (fun p=>evT p.2) (xs:=ps) (σ:=[none,none]) (acc:=[]) ⟨_,_,rfl⟩ (by rw [length_nil];omega) (by
  rintro p σ _ ⟨o,o',rfl⟩
  exact ⟨[some (.int p.1),some (evT p.2)],rfl,⟨_,_,rfl⟩,rfl⟩)
 rw [this,nil_append,map_map]
 rfl
theorem TI.next (wn:WN n) {a d:Nat} {M M':Mem} {ps:List (Int × Evt)} {D D':List (Key × FT.T)} {t:Int} {ev:Evt} (ti:TI n W a d M ps D) (hl:ps.length<=60) (c:Can n (qp n (ps.map (·.2))) ev) (tv':TOk n W (ps ++ [(t,ev)])) (pc:M'[a]? = some (.lst ((ps ++ [(t,ev)]).map prT))) (dc:M'[d]? = some (.dic D')) (dl:D'.length<=D.length + (qp n ((ps ++ [(t,ev)]).map (·.2))).es.length)
  (kp:∀ (i:Nat) e',(qp n ((ps ++ [(t,ev)]).map (·.2))).es[i]? = some e'->e'.ph.isS = true->Kpt (qp n (ps.map (·.2))) (qp n (ps.map (·.2))).came D D' t i e'):TI n W a d M' (ps ++ [(t,ev)]) D':=by
 have g:=zch wn ti.tv
 have g':=zch wn tv'
 have ca:=zcZ wn ti.tv.v (ps.map (·.2)).length (Nat.le_refl _)
 rw [take_length,length_map] at ca
 refine ⟨pc,dc,tv',?_,fun i e' j he' hs hj=>?_⟩
 ·have:=g'.sb.es
  have:=ti.dl
  rw [length_append,length_singleton] at *
  omega
 ·rcases kp i e' he' hs with ⟨⟨e,h1,h2,h3⟩,h4⟩ | ⟨h1,h2⟩
  ·have hs':e.ph.isS = true:=by rw [h2];exact hs
   have hj':e.stood = some j:=h3.trans hj
   have hlt:=g.sd i e j h1 hs' hj'
   rw [h4,ti.dk i e j h1 hs' hj',map_append,getD_eq_getElem?_getD,getD_eq_getElem?_getD,getElem?_append_left (by rw [length_map];omega)]
  ·rw [hj] at h1
   cases h1
   rw [h2,ca,map_append,getD_eq_getElem?_getD,getElem?_append_right (by rw [length_map];exact Nat.le_refl _),length_map,Nat.sub_self]
   rfl
theorem zmG (wn:WN n) {ps:List (Int × Evt)} {t:Int} {ev:Evt} (tv:TOk n W ps) (c:Can n (qp n (ps.map (·.2))) ev):QS (qp n (ps.map (·.2))) (qp n ((ps ++ [(t,ev)]).map (·.2))) (qp n (ps.map (·.2))).came:=by
 have g:=zch wn tv
 have q:=(zik wn g.ri g.wt g.sb c.c).qs
 have e:qp n ((ps ++ [(t,ev)]).map (·.2)) = zb5 n (qp n (ps.map (·.2))) ev:=by
  unfold qp
  rw [map_append,foldl_append]
  rfl
 rw [e]
 exact q
end
section
variable {kE kR:Addr} {n:Net} {W:List (List (List (Int × Int)))}
theorem zgF {i a:Nat} {s1 s2:Str} {ps:List (Int × Evt)} {σ:FT.Ev} {M:Mem} (hσ:yb i σ M = .ok (.ref a) M) (h:M[a]? = some (.lst (ps.map prT))) (hl:ps.length<=1000):zS (zbM (yb i)) (zat 2 (qz (zi 0) (qz (zi 1) zau))) qH (yb 1) [s1,s2] [] σ M = .ok ((ps.map (·.2)).map evT) M:=by
 unfold zS zbM
 rw [hσ]
 show ((match zem (.ref a) M with | some g=>Out.ok g M | none=>.bad).bind _) = _
 rw [zfp h]
 exact zlo h hl
theorem zne (n:Net) (R:Run):0 < (zgo n R).length/\(zgo n R).length<=1 + 10 * R.es.length:=by
 have:=zft (n:=n) R R.es.length
 unfold zgo
 rw [length_cons]
 omega
theorem zmA (wn:WN n) (ww:WW n W) {a d:Nat} {M:Mem} {ps:List (Int × Evt)} {D:List (Key × FT.T)} {tick c:Int} {cs:FT.T} (ti:TI n W a d M ps D) (hl:ps.length<=60) (had:a ≠ d) (o8 o9 o10:Option FT.T) :
  Ok (zd1 kE kR [some (zg n),some (wtT W),some cs,some (.ref a),some (.lst ((qp n (ps.map (·.2))).es.map erT)),some (.ref d),some (.int tick),some (.int c),o8,o9,o10] M) fun fl M'=>∃ σ',fl = Fl.nx σ'/\∃ (t:Int) (ev:Evt) (D':List (Key × FT.T)) (o8 o9 o10:Option FT.T),σ' = [some (zg n),some (wtT W),some cs,some (.ref a),some (.lst ((qp n ((ps ++ [(t,ev)]).map (·.2))).es.map erT)),some (.ref d),some (.int t),some (.int c),o8,o9,o10]/\TI n W a d M' (ps ++ [(t,ev)]) D'/\Fr [a,d] M M':=by
 have g:=zch wn ti.tv
 have ha:=qK ti.pc
 have hd:=qK ti.dc
 unfold zd1
 refine Ok.seqX fun X hX=>?_
 simp_arith [zgV]
 rw [hX];clear hX;simp only [yp]
 have pc1:(M ++ [(Po.new c).cell])[a]? = some (.lst (ps.map prT)):=(Fr.app M [(Po.new c).cell]).get ti.pc (by simp)
 have f1:Fr [] M (M ++ [(Po.new c).cell]):=Fr.app _ _
 have po1:PO M.length (M ++ [(Po.new c).cell]):=PO.app
 generalize M ++ [(Po.new c).cell] = M1 at *
 refine Ok.seqX fun X hX=>?_
 have my:=zoG (kE:=kE) (kR:=kR) wn (.inl rfl) ti.tv.v (by rw [length_map];omega) M1
 simp_arith [and_self]
 rw [zgF ?hs pc1 (by omega)]
 case hs=>rfl
 rw [zcI,my,zcI]
 have ml:=zne n (qp n (ps.map (·.2)))
 have:=g.sb.es
 refine Ok.bind (zmc po1 ml.1 (by omega)) ?_
 rintro t M2 ⟨ev,hev,rfl,po2,f2⟩
 have hc:=znc hev
 rw [hX];clear hX;simp only [yp]
 refine Ok.seqX fun X hX=>?_
 simp_arith [and_self]
 refine Ok.bind (zE po2 (by decide) (by decide)) ?_
 rintro t M3 ⟨u,rfl,u1,u2,po3,f3⟩
 refine Ok.bind (zE po3 (by decide) (by decide)) ?_
 rintro t M4 ⟨w,rfl,w1,w2,po4,f4⟩
 obtain ⟨v,hv⟩:∃ v:Int,atI [FT.T.int 0,.int 0,.int 1,.int 1,.int 2,.int u,.int 0,.int 10000000000000000000000000000000000000000] w = some (.int v):=by
  obtain ⟨v,_,h⟩:=pick (xs:=[0,0,1,1,2,u,0,10000000000000000000000000000000000000000]) w1 (by show w < 8;exact w2)
  exact ⟨v,h⟩
 simp_arith [zhp,hv]
 rw [hX];clear hX;simp only [yp]
 have fM:Fr [] M M4:=f1.tr (f2.trans (f3.trans f4)) (by simp)
 have pc4:=fM.get ti.pc (by simp)
 have dc4:=fM.get ti.dc (by simp)
 refine Ok.seqP (fun fl M'=>M' = M4/\∃ t:Int,fl = Fl.nx [some (zg n),some (wtT W),some cs,some (.ref a),some (.lst ((qp n (ps.map (·.2))).es.map erT)),some (.ref d),some (.int t),some (.int c),some (.ref M.length),some (evT ev),o10]/\∀ i,ev = .again i->yW W (ps.map (·.1)) ((qp n (ps.map (·.2))).er i) i<=t) ?_ ?_
 ·obtain ⟨s,ts,hd',ha',_⟩:=zgB ev
  cases q:ev.isA with
  | false=>
   rw [q] at ha'
   rw [hd']
   simp_arith [zdV,zfX,ha']
   exact Ok.ret ⟨rfl,_,rfl,fun i z=>by rw [z] at q;cases q⟩
  | true=>
   cases ev with
   | again i=>
    obtain ⟨e,j,he,hs,ht,hj,hlt⟩:=ziy wn g hc
    have de:=zk5 (kE:=kE) (kR:=kR) ww g.ri he ht dc4 (ti.dk i e j he hs hj)
    have ea:∀ M,eqA (.str "again") (.str "again") M = .ok (.bl true) M:=fun _=>rfl
    rw [show evT (.again i) = .tup [.str "again",nT i] from rfl]
    simp_arith [zdV,ea,de,znf]
    refine Ok.ret ⟨rfl,_,rfl,fun i' z=>?_⟩
    cases z
    rw [z0 he]
    unfold yW
    rw [hj,Option.getD_some]
    split <;> omega
   | _=>cases q
 ·rintro fl M' ⟨rfl,t,rfl,ht⟩
  simp only [yp]
  have tv':=ti.tv.snoc wn hc ht
  have g':=zch wn tv'
  have lps:(ps ++ [(t,ev)]).length = ps.length + 1:=by rw [length_append,length_singleton]
  rw [lps] at g'
  have es':=g'.sb.es
  have ap:=yV (t:=prT (t,ev)) pc4 (zak (by rw [length_map];omega))
  rw [show ps.map prT ++ [prT (t,ev)] = (ps ++ [(t,ev)]).map prT from by rw [map_append];rfl,show prT (t,ev) = .tup [.int t,evT ev] from rfl] at ap
  have pc5:(M'.set a (.lst ((ps ++ [(t,ev)]).map prT)))[a]? = some (Cell.lst ((ps ++ [(t,ev)]).map prT)):=get_set pc4
  have dc5:=(Fr.set M' a (.lst ((ps ++ [(t,ev)]).map prT))).get dc4 (by simp;omega)
  have f5:Fr [a] M (M'.set a (.lst ((ps ++ [(t,ev)]).map prT))):=fM.mono.trans (Fr.set _ _ _)
  have qs:=zmG (t:=t) wn ti.tv hc
  have nx:=fun M'' D'=>ti.next (M':=M'') (D':=D') wn hl hc tv'
  have rn:=zky (kE:=kE) (kR:=kR) wn (.inl rfl) tv'.v (by rw [length_map];omega) (M'.set a (.lst ((ps ++ [(t,ev)]).map prT)))
  refine Ok.seqX fun X hX=>?_
  simp_arith [qJ pc4,ap]
  rw [hX];clear hX;simp only [yp]
  generalize M'.set a (.lst ((ps ++ [(t,ev)]).map prT)) = M5 at *
  generalize hps:ps ++ [(t,ev)] = ps' at *
  refine Ok.seqX fun X hX=>?_
  simp_arith [and_self]
  rw [hX];clear hX;simp only [yp]
  refine Ok.seqX fun X hX=>?_
  simp_arith [and_self]
  rw [zgF ?hs pc5 (by omega)]
  case hs=>rfl
  rw [zcI,rn,zcI]
  unfold za0
  simp_arith [zdV]
  rw [hX];clear hX;simp only [yp]
  simp_arith [and_self]
  refine Ok.bind (zno qs (by omega) dc5 (by have:=ti.dl;omega) t) ?_
  rintro u6 M6 ⟨D',dc6,f6,l6,kp⟩
  refine Ok.ret ⟨_,rfl,t,ev,D',some (.ref M.length),some (evT ev),some (.lst ((qp n (ps.map (·.2))).es.map erT)),by rw [hps],?_,?_⟩
  ·rw [hps]
   exact nx M6 D' (f6.get pc5 (by simp;omega)) dc6 l6 kp
  ·exact (f5.sub (S':=[a,d]) (by simp)).tr f6 (by simp)
theorem zko (wn:WN n) (ww:WW n W) {cs:List Int} (hl:cs.length<=60) (M:Mem):Ok (zdc kE kR [zg n,wtT W,.lst (cs.map .int)] M) fun t M'=>∃ (ps:List (Int × Evt)) (D:List (Key × FT.T)),t = .tup [.ref M.length,.lst ((qp n (ps.map (·.2))).es.map erT),.ref (M.length + 1)]/\TI n W M.length (M.length + 1) M' ps D/\ps.length<=60/\Fr [] M M':=by
 refine qu rfl ?_
 unfold zg2
 rw [show startT 11 [zg n,wtT W,.lst (cs.map .int)] = [some (zg n),some (wtT W),some (.lst (cs.map .int)),none,none,none,none,none,none,none,none] from rfl]
 refine Ok.seqR fun X hX=>?_
 simp_arith [and_self]
 rw [hX];clear hX;simp only [yp]
 refine Ok.seqR fun X hX=>?_
 simp_arith [and_self]
 rw [hX];clear hX;simp only [yp]
 refine Ok.seqR fun X hX=>?_
 simp_arith [and_self]
 rw [hX];clear hX;simp only [yp]
 refine Ok.seqR fun X hX=>?_
 simp_arith [and_self]
 rw [hX];clear hX;simp only [yp]
 refine Ok.seqR fun X hX=>?_
 simp_arith [and_self]
 have ti0:TI n W M.length (M.length + 1) (M ++ [.lst []] ++ [.dic []]) [] []:=⟨by rw [getElem?_append_left (by simp)];exact yN,by simp,⟨True.intro,fun k p i h=>by simp at h⟩,Nat.zero_le _,fun i e j h=>by simp [qp,Run.new] at h⟩
 refine Ok.bind (Ok.for (r:=FT.T.int) (xs:=cs) (fun k σ M'=>∃ (ps:List (Int × Evt)) (D:List (Key × FT.T)) (tick:Int) (o7 o8 o9 o10:Option FT.T),σ = [some (zg n),some (wtT W),some (.lst (cs.map .int)),some (.ref M.length),some (.lst ((qp n (ps.map (·.2))).es.map erT)),some (.ref (M.length + 1)),some (.int tick),o7,o8,o9,o10]/\TI n W M.length (M.length + 1) M' ps D/\ps.length = k/\Fr [] M M') ⟨[],[],0,none,none,none,none,by rw [length_append];rfl,ti0,rfl,?_⟩ ?_) ?_
 ·exact (Fr.app _ _).trans (Fr.app _ _)
 ·rintro k c σ M1 hk ⟨ps,D,tick,o7,o8,o9,o10,rfl,ti,hp,f⟩
  have hkl:=(List.getElem?_eq_some_iff.mp hk).1
  refine (zmA (c:=c) wn ww ti (by omega) (by omega) o8 o9 o10).mono ?_
  rintro fl M2 ⟨σ,rfl,t,ev,D',o8,o9,o10,rfl,ti',f'⟩
  exact ⟨_,rfl,ps ++ [(t,ev)],D',t,_,_,_,_,rfl,ti',by simp;omega,f.tr f' (by simp)⟩
 ·rintro fl M1 ⟨σ,rfl,ps,D,tick,o7,o8,o9,o10,rfl,ti,hp,f⟩
  rw [hX];clear hX;simp only [yp]
  simp_arith [and_self]
  exact Ok.ret ⟨ps,D,rfl,ti,by omega,f⟩
end
section
variable {kE kR:Addr} {n:Net} {W:List (List (List (Int × Int)))}
noncomputable def zc7 (n:Net) (W:List (List (List (Int × Int)))) (ts:List Int) (R:Run) (k:Nat):List (Nat × Int):=((List.range k).filter fun i=>yx n (R.er i)).map fun i=>(i,yW W ts (R.er i) i)
theorem zjK {ts:List Int} {R:Run} {k:Nat} {e:Er} (he:R.es[k]? = some e):zc7 n W ts R (k + 1) = zc7 n W ts R k ++ if yx n e = true then [(k,yW W ts e k)] else []:=by
 unfold zc7
 rw [range_succ,List.filter_append,map_append]
 congr 1
 rw [List.filter_cons,z0 he]
 split
 ·simp [z0 he]
 ·rfl
theorem zgR {ts:List Int} {R:Run} {k:Nat}:(zc7 n W ts R k).length<=k:=by
 unfold zc7
 rw [length_map]
 exact Nat.le_trans (List.length_filter_le _ _) (by rw [length_range];exact Nat.le_refl _)
theorem zlO (ww:WW n W) {R:Run} (ri:RI n R) (hl:R.es.length<=1000) {d:Nat} {D:List (Key × FT.T)} {ts:List Int} {M:Mem} (dc:M[d]? = some (.dic D))
  (dk:∀ (i:Nat) (e:Er),R.es[i]? = some e->e.ph.isS = true->∃ j,e.stood = some j/\qE D (.inl (i:Int)) = some (.int (ts.getD j 0))) :
  Ok (zca kE kR [zg n,wtT W,.lst (R.es.map erT),.ref d] M) fun t M'=>t = .ref M.length/\M'[M.length]? = some (.lst ((zc6 n W ts R).map sdT))/\Fr [] M M':=by
 refine qu rfl ?_
 unfold ze5
 rw [show startT 11 [zg n,wtT W,.lst (R.es.map erT),.ref d] = [some (zg n),some (wtT W),some (.lst (R.es.map erT)),some (.ref d),none,none,none,none,none,none,none] from rfl]
 refine Ok.seqR fun X hX=>?_
 simp_arith [and_self]
 rw [hX];clear hX;simp only [yp]
 refine Ok.seqR fun X hX=>?_
 simp_arith [zdB,zjs]
 refine Ok.bind (Ok.for (r:=fun q:Er × Nat=>FT.T.tup [nT q.2,erT q.1]) (xs:=R.es.zipIdx) (fun k σ M'=>∃ (o5 o6 o7 o8 o9 o10:Option FT.T),σ = [some (zg n),some (wtT W),some (.lst (R.es.map erT)),some (.ref d),some (.ref M.length),o5,o6,o7,o8,o9,o10]/\M'[M.length]? = some (.lst ((zc7 n W ts R k).map sdT))/\Fr [] M M') ⟨none,none,none,none,none,none,rfl,yN,Fr.app _ _⟩ ?_) ?_
 ·rintro k ⟨e,k'⟩ σ M1 hk ⟨o5,o6,o7,o8,o9,o10,rfl,h1,f1⟩
  obtain ⟨rfl,he⟩:k' = k/\R.es[k]? = some e:=zki hk
  have hkl:=(List.getElem?_eq_some_iff.mp he).1
  have sk:=zjK (n:=n) (W:=W) (ts:=ts) he
  have dc1:=f1.get dc (by simp)
  unfold zeD
  show Ok ((zat 2 (qz (zi 5) (qz (zi 6) zau)) (.tup [nT k',.tup [nT e.house,clT e.caller,phT e.ph]]) _ M1).bind _) _
  generalize hsn:zc7 n W ts R (k' + 1) = S1 at *
  cases hS:e.ph.isS with
  | false=>
   obtain ⟨x,xs,ph,hx⟩:=zi6 e.ph
   rw [hS] at hx
   rw [ph]
   have tl:yx n e = false:=by unfold yx;rw [hS];rfl
   rw [tl,if_neg (by decide),append_nil] at sk
   rw [sk]
   simp_arith [zfX,hx]
   exact Ok.ret ⟨_,rfl,_,_,_,_,_,_,rfl,h1,f1⟩
  | true=>
   have hh:=ri.hs _ _ he
   have hal:=zcd hS (ri.ph _ _ he)
   have hn:n.hs[e.house]? = some n.hs[e.house]:=getElem?_eq_getElem hh
   have has:n.asks e.house = n.hs[e.house].asks:=by unfold Net.asks;rw [hn];rfl
   have ha:(n.asks e.house)[e.ph.at1]? = some (n.asks e.house)[e.ph.at1]:=getElem?_eq_getElem hal
   have tlq:yx n e = ((n.asks e.house)[e.ph.at1].tries == 0 || decide ((e.ph.at2:Int) < (n.asks e.house)[e.ph.at1].tries)):=by unfold yx;rw [hS,zc3 ha,Bool.true_and]
   generalize hak:(n.asks e.house)[e.ph.at1] = ak at *
   have a1:atI (n.hs.map hsT) (e.house:Int) = some (.tup [.str n.hs[e.house].name,.tup ((n.asks e.house).map zD)]):=by rw [has];exact zo (f:=hsT) hn
   have a2:atI ((n.asks e.house).map zD) (e.ph.at1:Int) = some (.tup [.str ak.to,.int ak.tries,opS ak.purse,.str ak.word,.bl ak.hears,.bl ak.sure]):=zo (f:=zD) ha
   have es:∀ M,eqA (.str "stands") (.str "stands") M = .ok (.bl true) M:=fun _=>rfl
   rw [phS hS,show zg n = .tup [.tup (n.hs.map hsT),.tup (n.ps.map puT)] from rfl]
   cases qt:yx n e with
   | true=>
    obtain ⟨j,hj,dj⟩:=dk k' e he hS
    have de:=zk5 (kE:=kE) (kR:=kR) ww ri he qt dc1 dj
    rw [qt,if_pos rfl] at sk
    have ap:=yV (t:=sdT (k',yW W ts e k')) h1 (zak (by rw [length_map];have:=zgR (n:=n) (W:=W) (ts:=ts) (R:=R) (k:=k');omega))
    rw [show (zc7 n W ts R k').map sdT ++ [sdT (k',yW W ts e k')] = S1.map sdT from by rw [sk,map_append];rfl,show sdT (k',yW W ts e k') = .tup [nT k',.int (ts.getD j 0 + zew (zO W e) k' (kOf W e))] from by unfold sdT yW;rw [hj];rfl] at ap
    rw [qt] at tlq
    cases q0:ak.tries == 0 with
    | true=>
     simp_arith [a1,a2,es,q0,qJ h1,de,ap]
     exact Ok.ret ⟨_,rfl,_,_,_,_,_,_,rfl,get_set h1,f1.tr (Fr.set _ _ _) (by simp)⟩
    | false=>
     rw [q0,Bool.false_or] at tlq
     simp_arith [a1,a2,es,q0,← tlq,qJ h1,de,ap]
     exact Ok.ret ⟨_,rfl,_,_,_,_,_,_,rfl,get_set h1,f1.tr (Fr.set _ _ _) (by simp)⟩
   | false=>
    rw [qt,if_neg (by decide),append_nil] at sk
    rw [qt] at tlq
    have tlq:=Bool.or_eq_false_iff.mp tlq.symm
    rw [sk]
    simp_arith [a1,a2,es,tlq.1,tlq.2]
    exact Ok.ret ⟨_,rfl,_,_,_,_,_,_,rfl,h1,f1⟩
 ·rintro fl M1 ⟨σ,rfl,o5,o6,o7,o8,o9,o10,rfl,h1,f1⟩
  rw [hX];clear hX;simp only [yp]
  rw [List.length_zipIdx] at h1
  simp_arith [and_self]
  exact Ok.ret ⟨rfl,h1,f1⟩
end
inductive RT:Nat->FT.T->Prop
 | int (d:Nat) (i:Int):RT d (.int i)
 | str (d:Nat) (s:Str):RT d (.str s)
 | non (d:Nat):RT d .non
 | tup {d:Nat} {xs:List FT.T} (h:∀ x ∈ xs,RT d x):RT (d + 1) (.tup xs)
 | lst {d:Nat} {xs:List FT.T} (h:∀ x ∈ xs,RT d x):RT (d + 1) (.lst xs)
theorem zcY {f:FT.T->FT.T->Option Bool}:∀ {xs:List FT.T},(∀ x ∈ xs,f x x = some true)->eqL f xs xs = some true
 | [],_=>rfl
 | x :: xs,h=>by
  unfold eqL
  rw [h x (.head _),zcY fun y hy=>h y (.tail _ hy)]
  rfl
theorem zpx {M:Mem} {d:Nat} {xs:List FT.T} (h:∀ x ∈ xs,eqD M d x x = some true):eqD M (d + 1) (.lst xs) (.lst xs) = some true:=by
 rw [show eqD M (d + 1) (.lst xs) (.lst xs) = (if xs.length = xs.length then eqL (eqD M d) xs xs else some false) from rfl,if_pos rfl]
 exact zcY h
theorem RT.eq {d:Nat} {t:FT.T} (h:RT d t) (M:Mem):eqD M d t t = some true:=by
 induction h with
 | int d i=>
  rw [show eqD M d (.int i) (.int i) = some (i == i) by cases d <;> rfl,beq_self_eq_true]
 | str d s=>
  rw [show eqD M d (.str s) (.str s) = some (s == s) by cases d <;> rfl,beq_self_eq_true]
 | non d=>cases d <;> rfl
 | tup h ih=>exact zcY ih
 | lst h ih=>exact zpx ih
theorem zgD {M:Mem} {a:Nat} {y:FT.T} {xs:List FT.T} (h1:M[a]? = some (.lst xs)) (h2:y = .lst xs\/∃ b,y = .ref b/\M[b]? = some (.lst xs)) (h:∀ x ∈ xs,RT 19 x):eqD M 20 (.ref a) y = some true:=by
 have hh:=zcY (f:=eqD M 19) fun x hx=>(h x hx).eq M
 rcases h2 with rfl | ⟨b,rfl,h2⟩
 ·rw [show eqD M 20 (.ref a) (.lst xs) = (match yz (.ref a) M with | some zs=>(if zs.length = xs.length then eqL (eqD M 19) zs xs else some false) | none=>none) from by
   unfold eqD yz
   simp only [h1]
   rfl,zcf h1]
  dsimp only
  rw [if_pos rfl,hh]
 ·rw [show eqD M 20 (.ref a) (.ref b) = (match yz (.ref a) M,yz (.ref b) M with | some zs,some ys=>(if zs.length = ys.length then eqL (eqD M 19) zs ys else some false) | _,_=>none) from by
   unfold eqD yz
   simp only [h1,h2]
   rfl,zcf h1,zcf h2]
  dsimp only
  rw [if_pos rfl,hh]
theorem zpw {M:Mem} {a:Nat} {xs:List FT.T} (h1:M[a]? = some (.lst xs)) (h:∀ x ∈ xs,RT 19 x):eqD M 20 (.lst xs) (.ref a) = some true:=by
 have hh:=zcY (f:=eqD M 19) fun x hx=>(h x hx).eq M
 rw [show eqD M 20 (.lst xs) (.ref a) = (match yz (.ref a) M with | some zs=>(if xs.length = zs.length then eqL (eqD M 19) xs zs else some false) | none=>none) from by
  unfold eqD yz
  simp only [h1]
  rfl,zcf h1]
 dsimp only
 rw [if_pos rfl,hh]
theorem zbs {M:Mem} {x y:FT.T} (h:eqD M 20 x y = some true):neA x y M = .ok (.bl false) M:=by unfold neA;rw [h];rfl
theorem zmq {M:Mem} {x y:FT.T} (h:eqD M 20 x y = some true):eqA x y M = .ok (.bl true) M:=by unfold eqA;rw [h]
theorem zpS (d:Nat) (p:Ph):RT (d + 1) (phT p):=by
 cases p with
 | works=>exact .tup fun x hx=>by rw [mem_singleton.mp hx];exact .str _ _
 | waits a t=>
  refine .tup fun x hx=>?_
  simp only [mem_cons,not_mem_nil,or_false] at hx
  rcases hx with rfl | rfl | rfl
  ·exact .str _ _
  ·exact .int _ _
  ·exact .int _ _
 | stands a t=>
  refine .tup fun x hx=>?_
  simp only [mem_cons,not_mem_nil,or_false] at hx
  rcases hx with rfl | rfl | rfl
  ·exact .str _ _
  ·exact .int _ _
  ·exact .int _ _
 | ended w=>
  refine .tup fun x hx=>?_
  simp only [mem_cons,not_mem_nil,or_false] at hx
  rcases hx with rfl | rfl
  ·exact .str _ _
  ·exact .str _ _
theorem zpU (d:Nat) (e:Er):RT (d + 2) (erT e):=by
 refine .tup fun x hx=>?_
 simp only [mem_cons,not_mem_nil,or_false] at hx
 rcases hx with rfl | rfl | rfl
 ·exact .int _ _
 ·cases e.caller with
  | none=>exact .non _
  | some c=>
   refine .tup fun x hx=>?_
   simp only [mem_cons,not_mem_nil,or_false] at hx
   rcases hx with rfl | rfl | rfl <;> exact .int _ _
 ·exact zpS d _
theorem zkx (d:Nat) (i j:Int):RT (d + 1) (.tup [.int i,.int j]):=by
 refine .tup fun x hx=>?_
 simp only [mem_cons,not_mem_nil,or_false] at hx
 rcases hx with rfl | rfl <;> exact .int _ _
theorem zi2 (d:Nat) (n:Net) (R:Run):RT (d + 4) (za0 n R):=by
 refine .tup fun x hx=>?_
 simp only [mem_cons,not_mem_nil,or_false] at hx
 rcases hx with rfl | rfl
 ·refine .lst fun x hx=>?_
  obtain ⟨e,_,rfl⟩:=mem_map.mp hx
  exact zpU d e
 ·refine .lst fun x hx=>?_
  obtain ⟨k,_,rfl⟩:=mem_map.mp hx
  exact zkx (d + 1) _ _
theorem zpT (d:Nat) (ev:Evt):RT (d + 1) (evT ev):=by
 cases ev with
 | fresh=>exact .tup fun x hx=>by rw [mem_singleton.mp hx];exact .str _ _
 | ends i w=>
  refine .tup fun x hx=>?_
  simp only [mem_cons,not_mem_nil,or_false] at hx
  rcases hx with rfl | rfl | rfl
  ·exact .str _ _
  ·exact .int _ _
  ·exact .str _ _
 | _=>
  refine .tup fun x hx=>?_
  simp only [mem_cons,not_mem_nil,or_false] at hx
  rcases hx with rfl | rfl
  ·exact .str _ _
  ·exact .int _ _
theorem zpR (d:Nat) (p:Int × Evt):RT (d + 2) (prT p):=by
 refine .tup fun x hx=>?_
 simp only [mem_cons,not_mem_nil,or_false] at hx
 rcases hx with rfl | rfl
 ·exact .int _ _
 ·exact zpT d _
theorem zll (n:Net):za0 n (Run.new n) = .tup [.lst [],.lst (n.ps.map fun _=>.tup [.int 0,.int 0])]:=by
 have h:∀ k,tdT ((Run.new n).told n k) = .tup [.int 0,.int 0]:=fun k=>by
  have h1:(n.ps.map fun _=>([]:List Nat)).getD k [] = []:=by
   rw [getD_eq_getElem?_getD,getElem?_map]
   cases n.ps[k]? <;> rfl
  have h2:(n.ps.map fun _=>(0:Nat)).getD k 0 = 0:=by
   rw [getD_eq_getElem?_getD,getElem?_map]
   cases n.ps[k]? <;> rfl
  unfold Run.told Run.new
  dsimp only
  rw [h1,h2]
  unfold tdT
  simp
 unfold za0
 rw [show ((List.range n.ps.length).map fun k=>tdT ((Run.new n).told n k)) = n.ps.map fun _=>FT.T.tup [.int 0,.int 0] from by
  simp only [h,List.map_const',length_range]]
 rfl
theorem zpz (ns:List Int):∃ cs:List Int,zb2 (ns.map FT.T.int) (some 1) (some 31) = cs.map .int/\cs.length<=30:=by
 refine ⟨(ns.drop (min 1 ns.length)).take (min 31 ns.length - min 1 ns.length),?_,?_⟩
 ·unfold zb2
  rw [show (1:Int) = ((1:Nat):Int) from rfl,show (31:Int) = ((31:Nat):Int) from rfl,HT.zgf,HT.zgf,length_map,map_take,map_drop]
 ·rw [length_take]
  omega
theorem isT (xs:List FT.T) (M:Mem):qP (.tup xs) (.ty "tuple") M = .ok (.bl true) M:=by
 unfold qP tyN
 exact if_pos (by decide)
theorem isL {a:Nat} {xs:List FT.T} {M:Mem} (h:M[a]? = some (.lst xs)):qP (.ref a) (.ty "list") M = .ok (.bl true) M:=by
 unfold qP tyN
 simp only [h]
 exact if_pos (by decide)
theorem znj {a:Nat} {xs:List FT.T} {M:Mem} (h:M[a]? = some (.lst xs)):zeK [.ref a] M = .ok xs M:=by
 unfold zeK qZ yz
 simp only [h]
theorem zqy:∃ F:Int->List Int,∀ v,zb2 [FT.T.int 1,.int 2,.int 3,.int 4,.int 5,.int 6,.int 7,.int 8,.int 9,.int 10,.int 11,.int 12] none (some v) = (F v).map .int/\(F v).length<=12:=by
 refine ⟨fun v=>(([1,2,3,4,5,6,7,8,9,10,11,12]:List Int).drop (HT.sIx 12 0 none)).take (HT.sIx 12 12 (some v) - HT.sIx 12 0 none),fun v=>⟨?_,?_⟩⟩
 ·rw [map_take,map_drop]
  rfl
 ·rw [length_take,length_drop]
  exact Nat.le_trans (Nat.min_le_right _ _) (Nat.sub_le _ _)
theorem law_true (kE kR:Addr) (ns:List Int) (hn:ns.length<=63):∃ M,zhr kE kR [.lst (ns.map .int)] [] = .ok (.bl true) M:=by
 have:Ok (zhr kE kR [.lst (ns.map .int)] []) fun t _=>t = .bl true:=by
  refine qu rfl ?_
  unfold zmp
  rw [show startT 12 [.lst (ns.map .int)] = [some (.lst (ns.map .int)),none,none,none,none,none,none,none,none,none,none,none] from rfl]
  obtain ⟨c,hc⟩:=znM (kE:=kE) (kR:=kR) ns 0 []
  rw [show ((0:Nat):Int) = 0 from rfl] at hc
  refine Ok.seqR fun X hX=>?_
  simp_arith [hc,zgV]
  rw [hX];clear hX;simp only [yp]
  refine Ok.seqR fun X hX=>?_
  simp_arith [and_self]
  refine Ok.bind (zoE (PO.app (M:=[]) (c:=c))) ?_
  rintro t M1 ⟨n,rfl,wn,nx,p1,f1⟩
  rw [hX];clear hX;simp only [yp]
  refine Ok.seqR fun X hX=>?_
  simp_arith [and_self]
  refine Ok.bind (zlj wn nx p1) ?_
  rintro t M2 ⟨W,rfl,ww,p2,f2⟩
  rw [hX];clear hX;simp only [yp]
  obtain ⟨cs1,hc1,hl1⟩:=zpz ns
  obtain ⟨F,hF⟩:=zqy
  have hF1:=fun v=>(hF v).1
  obtain ⟨C1,hC1,lC1⟩:∃ C1:List Int,(∀ M,zJ (.lst [.int 0]) (.lst (cs1.map .int)) M = .ok (.lst (C1.map .int)) M)/\C1.length<=31:=⟨0 :: cs1,fun M=>zjx (by rw [sizeLine_eq,length_map,length_singleton];omega),by rw [length_cons];omega⟩
  obtain ⟨G,hG,lG⟩:∃ G:Int->List Int,(∀ v M,zJ (.lst (C1.map .int)) (.lst ((F v).map .int)) M = .ok (.lst ((G v).map .int)) M)/\∀ v,(G v).length<=60:=⟨fun v=>C1 ++ F v,fun v M=>by
   have:=(hF v).2
   rw [zjx (by rw [sizeLine_eq,length_map,length_map];omega),map_append],fun v=>by rw [length_append];have:=(hF v).2;omega⟩
  refine Ok.seqR fun X hX=>?_
  simp_arith [yz,hc1,hC1]
  generalize (if 12 - ((ns.map FT.T.int).length:Int) > 0 then 12 - ((ns.map FT.T.int).length:Int) else 0) = V
  simp_arith [hF1,hG]
  rw [hX];clear hX;simp only [yp]
  have hcs:=lG V
  generalize G V = cs at *
  refine Ok.seqR fun X hX=>?_
  simp_arith [and_self]
  refine Ok.bind (zko wn ww hcs M2) ?_
  rintro t M3 ⟨ps,D,rfl,ti,pl,f3⟩
  generalize M2.length = a at *
  simp_arith [and_self]
  rw [hX];clear hX;simp only [yp]
  have g:=zch wn ti.tv
  have tm:=fun M=>zhD (kE:=kE) (kR:=kR) wn ww ti.tv (by omega) M
  have rn:=fun M=>zky (kE:=kE) (kR:=kR) wn (.inl rfl) ti.tv.v (by rw [length_map];omega) M
  have so:=fun M=>zfC (kE:=kE) (kR:=kR) wn ww ti.tv (by omega) M
  have rt:=zi2 16 n (qp n (ps.map (·.2)))
  have it:∀ M,qP (za0 n (qp n (ps.map (·.2)))) (.ty "tuple") M = .ok (.bl true) M:=fun M=>isT _ M
  refine Ok.seqR fun X hX=>?_
  simp_arith [znj ti.pc]
  rw [hX];clear hX;simp only [yp]
  refine Ok.seqR fun X hX=>?_
  simp_arith [tm]
  rw [hX];clear hX;simp only [yp]
  refine Ok.seqR fun X hX=>?_
  simp_arith [it]
  rw [zgF ?hs ti.pc (by omega)]
  case hs=>rfl
  rw [zcI,rn,zcI,zbs (rt.eq M3)]
  simp_arith [and_self]
  rw [hX];clear hX;simp only [yp]
  have dk:∀ (i:Nat) (e:Er),(qp n (ps.map (·.2))).es[i]? = some e->e.ph.isS = true->∃ j,e.stood = some j/\qE D (.inl (i:Int)) = some (.int ((ps.map (·.1)).getD j 0)):=fun i e he hs=>by
   obtain ⟨a2,a3⟩:=zcE hs (g.ri.ph _ _ he)
   obtain ⟨sk,hsk⟩:=Option.isSome_iff_exists.mp a3
   exact ⟨sk,hsk,ti.dk i e sk he hs hsk⟩
  have gl:=g.sb.es
  refine Ok.seqR fun X hX=>?_
  simp_arith [and_self]
  refine Ok.bind (zlO ww g.ri (by omega) ti.dc dk) ?_
  rintro t M4 ⟨rfl,d4,f4⟩
  rw [hX];clear hX;simp only [yp]
  refine Ok.seqR fun X hX=>?_
  simp_arith [and_self]
  refine Ok.bind (so M4) ?_
  rintro t M5 ⟨b,rfl,hb,b5,k5⟩
  rw [hX];clear hX;simp only [yp]
  have rs:∀ x ∈ (zc6 n W (ps.map (·.1)) (qp n (ps.map (·.2)))).map sdT,RT 19 x:=fun x hx=>by
   obtain ⟨p,_,rfl⟩:=mem_map.mp hx
   exact zkx 18 _ _
  have rp:∀ x ∈ ps.map prT,RT 19 x:=fun x hx=>by
   obtain ⟨p,_,rfl⟩:=mem_map.mp hx
   exact zpR 17 _
  have d5:=k5.fr.get d4 (by simp)
  have pc5:=k5.fr.get (f4.get ti.pc (by simp)) (by simp)
  have hM3:=qK d4
  refine Ok.seqR fun X hX=>?_
  simp_arith [isL b5,zbs (zgD b5 (.inr ⟨_,rfl,d5⟩) rs),zbs (zpw pc5 rp)]
  rw [hX];clear hX;simp only [yp]
  have rl:(zc6 n W (ps.map (·.1)) (qp n (ps.map (·.2)))).length<=700:=by
   refine Nat.le_trans (zgR (n:=n) (W:=W) (ts:=ps.map (·.1)) (R:=qp n (ps.map (·.2))) (k:=(qp n (ps.map (·.2))).es.length)) (by omega)
  have ap:=yV (t:=.tup [.int 0,.int 0]) b5 (zak (by rw [length_map];omega))
  refine Ok.seqR fun X hX=>?_
  simp_arith [qJ b5,ap]
  rw [hX];clear hX;simp only [yp]
  have d6:=(Fr.set M5 b (.lst ((zc6 n W (ps.map (·.1)) (qp n (ps.map (·.2)))).map sdT ++ [.tup [.int 0,.int 0]]))).get d5 (by simp;omega)
  generalize M5.set b (.lst ((zc6 n W (ps.map (·.1)) (qp n (ps.map (·.2)))).map sdT ++ [.tup [.int 0,.int 0]])) = M6 at *
  have t0:TOk n W []:=⟨True.intro,fun k p i h=>by simp at h⟩
  have tm0:∀ M,zbW kE kR [zg n,wtT W,.lst []] M = .ok (za0 n (Run.new n)) M:=fun M=>zhD wn ww t0 (by simp) M
  have so0:=zfC (kE:=kE) (kR:=kR) wn ww t0 (by simp) M6
  have rt0:=zi2 16 n (Run.new n)
  have cp:∀ M,zy (zi 0) qH (zK (zb (eC (.int 0)) (zb (eC (.int 0)) zd))) (n.ps.map puT) [none] M [] = .ok (n.ps.map fun _=>.tup [.int 0,.int 0]) M:=fun M=>Ok.mapc (r:=puT) (fun σ=>∃ o,σ = [o]) _ ⟨_,rfl⟩ (by have:=wn.pl;omega) (by
   rintro p σ _ ⟨o,rfl⟩
   exact ⟨[some (puT p)],rfl,⟨_,rfl⟩,rfl⟩)
  refine Ok.seqR fun X hX=>?_
  rw [show zg n = .tup [.tup (n.hs.map hsT),.tup (n.ps.map puT)] from rfl] at tm0 so0 ⊢
  simp_arith [tm0,cp]
  have ne0:neA (za0 n (Run.new n)) (.tup [.lst [],.lst (n.ps.map fun _=>.tup [.int 0,.int 0])]) M6 = .ok (.bl false) M6:=by
   rw [← zll]
   exact zbs (rt0.eq M6)
  simp_arith [ne0]
  refine Ok.bind so0 ?_
  rintro t M7 ⟨b',rfl,hb',b7,k7⟩
  have b7':M7[b']? = some (.lst []):=b7
  simp_arith [zbs (zgD b7' (.inl rfl) (fun x hx=>by cases hx))]
  rw [hX];clear hX;simp only [yp]
  have d7:=k7.fr.get d6 (by simp)
  rw [show FT.T.tup [.tup (n.hs.map hsT),.tup (n.ps.map puT)] = zg n from rfl]
  simp_arith [and_self]
  refine Ok.bind (so M7) ?_
  rintro t M8 ⟨b'',rfl,hb'',b8,k8⟩
  have d8:=k8.fr.get d7 (by simp)
  simp_arith [zmq (zgD b8 (.inr ⟨_,rfl,d8⟩) rs),tm,zmq (rt.eq M8)]
  exact Ok.ret rfl
 obtain ⟨t,M,e,rfl⟩:=this
 exact ⟨M,e⟩
end My
theorem My.e1 {α:Type} {P:List α->Prop} (h:∀ a,P [a]):∀ us:List α,us.length = 1->P us
 | [a],_=>h a
theorem My.e2 {α:Type} {P:List α->Prop} (h:∀ a b,P [a,b]):∀ us:List α,us.length = 2->P us
 | [a,b],_=>h a b
theorem My.e3 {α:Type} {P:List α->Prop} (h:∀ a b c,P [a,b,c]):∀ us:List α,us.length = 3->P us
 | [a,b,c],_=>h a b c
theorem My.e4 {α:Type} {P:List α->Prop} (h:∀ a b c d,P [a,b,c,d]):∀ us:List α,us.length = 4->P us
 | [a,b,c,d],_=>h a b c d
open PySem PySem.W PyProof.Rows
set_option maxRecDepth 100000 in
set_option maxHeartbeats 0 in
theorem PySem.Challenge.cw_tryweir_k60_timed_runs_told_holds : PySem.Challenge.rw_tryweir_k60_timed_runs_told.Holds := by
 refine My.hdD.2 ?_
 dsimp only [My.hdD]
 k_fill
 refine L2.zli (l:=PySem.Challenge.rw_tryweir_k60_timed_runs_told) (n:=63) (k:=34) (x:="script") (CX:=L2.CX0) (sp:=fun K=>FT.spT K (My.zhr (FT.zQ K "Errand") (FT.zQ K "Run"))) rfl (by decide) rfl ⟨rfl,by decide,by decide⟩ (fun w h Y=>PySem.W.kIn_of Y) ?F ?S ?C
 case F=>
  intro w mg fa h KX G hmg
  have D_l_left:L2.Df (L2.KOf KX) mg "_law_left" My.zfi ["cell"]:=by
   dsimp only [L2.KOf]
   refine' L2.qv KX G ?a1 ?l1 ?c1 ?k1 ?b1
   (case a1=>k_is);(case l1=>k_is);(case c1=>k_is);(case k1=>k_is)
   exact fun _ _ _ _ _ _=>My.e1 fun _=>rfl
  have D_l_next:L2.Df (L2.KOf KX) mg "_law_next" My.zfh ["pool","base"]:=by
   dsimp only [L2.KOf]
   refine' L2.qv KX G ?a2 ?l2 ?c2 ?k2 ?b2
   (case a2=>k_is);(case l2=>k_is);(case c2=>k_is);(case k2=>k_is)
   exact fun _ _ _ _ _ _=>My.e2 fun _ _=>rfl
  have D_l_net:L2.Df (L2.KOf KX) mg "_law_net" My.zgc ["pool","most"]:=by
   dsimp only [L2.KOf]
   refine' L2.qv KX G ?a3 ?l3 ?c3 ?k3 ?b3
   (case a3=>k_is);(case l3=>k_is);(case c3=>k_is);(case k3=>k_is)
   exact fun _ _ _ _ _ _=>My.e2 fun _ _=>rfl
  have D_l_waits:L2.Df (L2.KOf KX) mg "_law_waits" My.zec ["pool","net"]:=by
   dsimp only [L2.KOf]
   refine' L2.qv KX G ?a4 ?l4 ?c4 ?k4 ?b4
   (case a4=>k_is);(case l4=>k_is);(case c4=>k_is);(case k4=>k_is)
   exact fun _ _ _ _ _ _=>My.e2 fun _ _=>rfl
  have D_l_drawn:L2.Df (L2.KOf KX) mg "_law_drawn" My.zee ["own","some"]:=by
   dsimp only [L2.KOf]
   refine' L2.qv KX G ?a5 ?l5 ?c5 ?k5 ?b5
   (case a5=>k_is);(case l5=>k_is);(case c5=>k_is);(case k5=>k_is)
   exact fun _ _ _ _ _ _=>My.e2 fun _ _=>rfl
  have D_l_kept:L2.Df (L2.KOf KX) mg "_law_kept" My.zfj ["ahead","errands","stood","tick"]:=by
   dsimp only [L2.KOf]
   refine' L2.qv KX G ?a6 ?l6 ?c6 ?k6 ?b6
   (case a6=>k_is);(case l6=>k_is);(case c6=>k_is);(case k6=>k_is)
   exact fun _ _ _ _ _ _=>My.e4 fun _ _ _ _=>rfl
  have D_Run:FT.Di (L2.KOf KX) mg "Run" "Run.__init__" (FT.zQ (L2.KOf KX) "Run") My.zdP ["self","net"]:=by
   dsimp only [L2.KOf]
   refine' FT.zmr KX G ?a7 ?e7 ?i7 ?l7 ?c7 ?k7 ?m7 ?q7 ?b7
   (case a7=>k_is);(case e7=>k_is);(case i7=>k_is);(case l7=>k_is);(case c7=>k_is);(case k7=>k_is);(case m7=>k_is);(case q7=>k_is)
   exact fun _ _ _ _ _ _=>My.e2 fun _ _=>rfl
  have cls_Run:L2.Cls (L2.KOf KX) (FT.zQ (L2.KOf KX) "Run"):=by
   dsimp only [L2.KOf]
   refine' FT.zk9 ?a8 ?p8 ?h8 ?o8 ?s8
   (case a8=>k_is);(case p8=>k_is);(case h8=>k_is);(case o8=>k_is);(case s8=>k_is)
  have na_Run_came:L2.NoAttr (L2.KOf KX) (FT.zQ (L2.KOf KX) "Run") "came":=by
   dsimp only [L2.KOf]
   refine' FT.zbt ?a9 ?n9
   (case a9=>k_is);(case n9=>k_is)
  have na_Run_errands:L2.NoAttr (L2.KOf KX) (FT.zQ (L2.KOf KX) "Run") "errands":=by
   dsimp only [L2.KOf]
   refine' FT.zbt ?a10 ?n10
   (case a10=>k_is);(case n10=>k_is)
  have na_Run_net:L2.NoAttr (L2.KOf KX) (FT.zQ (L2.KOf KX) "Run") "net":=by
   dsimp only [L2.KOf]
   refine' FT.zbt ?a11 ?n11
   (case a11=>k_is);(case n11=>k_is)
  have na_Run_payments:L2.NoAttr (L2.KOf KX) (FT.zQ (L2.KOf KX) "Run") "payments":=by
   dsimp only [L2.KOf]
   refine' FT.zbt ?a12 ?n12
   (case a12=>k_is);(case n12=>k_is)
  have na_Run_puts:L2.NoAttr (L2.KOf KX) (FT.zQ (L2.KOf KX) "Run") "puts":=by
   dsimp only [L2.KOf]
   refine' FT.zbt ?a13 ?n13
   (case a13=>k_is);(case n13=>k_is)
  have na_Run_taken:L2.NoAttr (L2.KOf KX) (FT.zQ (L2.KOf KX) "Run") "taken":=by
   dsimp only [L2.KOf]
   refine' FT.zbt ?a14 ?n14
   (case a14=>k_is);(case n14=>k_is)
  have D_asks_of:L2.Df (L2.KOf KX) mg "asks_of" My.zef ["run","number"]:=by
   dsimp only [L2.KOf]
   refine' L2.qv KX G ?a15 ?l15 ?c15 ?k15 ?b15
   (case a15=>k_is);(case l15=>k_is);(case c15=>k_is);(case k15=>k_is)
   exact fun _ _ _ _ _ _=>My.e2 fun _ _=>rfl
  have D_may_be_lost:L2.Df (L2.KOf KX) mg "may_be_lost" My.zcn ["run","number"]:=by
   dsimp only [L2.KOf]
   refine' L2.qv KX G ?a16 ?l16 ?c16 ?k16 ?b16
   (case a16=>k_is);(case l16=>k_is);(case c16=>k_is);(case k16=>k_is)
   exact fun _ _ _ _ _ _=>My.e2 fun _ _=>rfl
  have D_has_tries_left:L2.Df (L2.KOf KX) mg "has_tries_left" My.zbx ["run","number"]:=by
   dsimp only [L2.KOf]
   refine' L2.qv KX G ?a17 ?l17 ?c17 ?k17 ?b17
   (case a17=>k_is);(case l17=>k_is);(case c17=>k_is);(case k17=>k_is)
   exact fun _ _ _ _ _ _=>My.e2 fun _ _=>rfl
  have D_events_by_tries:L2.Df (L2.KOf KX) mg "events_by_tries" My.zbc ["run","number"]:=by
   dsimp only [L2.KOf]
   refine' L2.qv KX G ?a18 ?l18 ?c18 ?k18 ?b18
   (case a18=>k_is);(case l18=>k_is);(case c18=>k_is);(case k18=>k_is)
   exact fun _ _ _ _ _ _=>My.e2 fun _ _=>rfl
  have D_number_of:L2.Df (L2.KOf KX) mg "number_of" My.zdm ["named","name"]:=by
   dsimp only [L2.KOf]
   refine' L2.qv KX G ?a19 ?l19 ?c19 ?k19 ?b19
   (case a19=>k_is);(case l19=>k_is);(case c19=>k_is);(case k19=>k_is)
   exact fun _ _ _ _ _ _=>My.e2 fun _ _=>rfl
  have D_purse_of:L2.Df (L2.KOf KX) mg "purse_of" My.zdI ["run","ask"]:=by
   dsimp only [L2.KOf]
   refine' L2.qv KX G ?a20 ?l20 ?c20 ?k20 ?b20
   (case a20=>k_is);(case l20=>k_is);(case c20=>k_is);(case k20=>k_is)
   exact fun _ _ _ _ _ _=>My.e2 fun _ _=>rfl
  have D_coins_made:L2.Df (L2.KOf KX) mg "coins_made" My.zcR ["run","purse"]:=by
   dsimp only [L2.KOf]
   refine' L2.qv KX G ?a21 ?l21 ?c21 ?k21 ?b21
   (case a21=>k_is);(case l21=>k_is);(case c21=>k_is);(case k21=>k_is)
   exact fun _ _ _ _ _ _=>My.e2 fun _ _=>rfl
  have D_purse_told:L2.Df (L2.KOf KX) mg "purse_told" My.zcQ ["run","purse"]:=by
   dsimp only [L2.KOf]
   refine' L2.qv KX G ?a22 ?l22 ?c22 ?k22 ?b22
   (case a22=>k_is);(case l22=>k_is);(case c22=>k_is);(case k22=>k_is)
   exact fun _ _ _ _ _ _=>My.e2 fun _ _=>rfl
  have D_has_coin:L2.Df (L2.KOf KX) mg "has_coin" My.zdM ["run","number"]:=by
   dsimp only [L2.KOf]
   refine' L2.qv KX G ?a23 ?l23 ?c23 ?k23 ?b23
   (case a23=>k_is);(case l23=>k_is);(case c23=>k_is);(case k23=>k_is)
   exact fun _ _ _ _ _ _=>My.e2 fun _ _=>rfl
  have D_events_at:L2.Df (L2.KOf KX) mg "events_at" My.zdp ["run","number"]:=by
   dsimp only [L2.KOf]
   refine' L2.qv KX G ?a24 ?l24 ?c24 ?k24 ?b24
   (case a24=>k_is);(case l24=>k_is);(case c24=>k_is);(case k24=>k_is)
   exact fun _ _ _ _ _ _=>My.e2 fun _ _=>rfl
  have D_is_whole:L2.Df (L2.KOf KX) mg "is_whole" My.zdL ["thing"]:=by
   dsimp only [L2.KOf]
   refine' L2.qv KX G ?a25 ?l25 ?c25 ?k25 ?b25
   (case a25=>k_is);(case l25=>k_is);(case c25=>k_is);(case k25=>k_is)
   exact fun _ _ _ _ _ _=>My.e1 fun _=>rfl
  have D_is_within:L2.Df (L2.KOf KX) mg "is_within" My.zdo ["thing","low","high"]:=by
   dsimp only [L2.KOf]
   refine' L2.qv KX G ?a26 ?l26 ?c26 ?k26 ?b26
   (case a26=>k_is);(case l26=>k_is);(case c26=>k_is);(case k26=>k_is)
   exact fun _ _ _ _ _ _=>My.e3 fun _ _ _=>rfl
  have D_can_come:L2.Df (L2.KOf KX) mg "can_come" My.zdN ["run","event"]:=by
   dsimp only [L2.KOf]
   refine' L2.qv KX G ?a27 ?l27 ?c27 ?k27 ?b27
   (case a27=>k_is);(case l27=>k_is);(case c27=>k_is);(case k27=>k_is)
   exact fun _ _ _ _ _ _=>My.e2 fun _ _=>rfl
  have D_check_event:L2.Df (L2.KOf KX) mg "check_event" My.zco ["run","event"]:=by
   dsimp only [L2.KOf]
   refine' L2.qv KX G ?a28 ?l28 ?c28 ?k28 ?b28
   (case a28=>k_is);(case l28=>k_is);(case c28=>k_is);(case k28=>k_is)
   exact fun _ _ _ _ _ _=>My.e2 fun _ _=>rfl
  have D_asked_by:L2.Df (L2.KOf KX) mg "asked_by" My.zdO ["net","ask"]:=by
   dsimp only [L2.KOf]
   refine' L2.qv KX G ?a29 ?l29 ?c29 ?k29 ?b29
   (case a29=>k_is);(case l29=>k_is);(case c29=>k_is);(case k29=>k_is)
   exact fun _ _ _ _ _ _=>My.e2 fun _ _=>rfl
  have D_Errand:FT.Di (L2.KOf KX) mg "Errand" "Errand.__init__" (FT.zQ (L2.KOf KX) "Errand") My.zcp ["self","house","caller"]:=by
   dsimp only [L2.KOf]
   refine' FT.zmr KX G ?a30 ?e30 ?i30 ?l30 ?c30 ?k30 ?m30 ?q30 ?b30
   (case a30=>k_is);(case e30=>k_is);(case i30=>k_is);(case l30=>k_is);(case c30=>k_is);(case k30=>k_is);(case m30=>k_is);(case q30=>k_is)
   exact fun _ _ _ _ _ _=>My.e3 fun _ _ _=>rfl
  have cls_Errand:L2.Cls (L2.KOf KX) (FT.zQ (L2.KOf KX) "Errand"):=by
   dsimp only [L2.KOf]
   refine' FT.zk9 ?a31 ?p31 ?h31 ?o31 ?s31
   (case a31=>k_is);(case p31=>k_is);(case h31=>k_is);(case o31=>k_is);(case s31=>k_is)
  have na_Errand_asked:L2.NoAttr (L2.KOf KX) (FT.zQ (L2.KOf KX) "Errand") "asked":=by
   dsimp only [L2.KOf]
   refine' FT.zbt ?a32 ?n32
   (case a32=>k_is);(case n32=>k_is)
  have na_Errand_caller:L2.NoAttr (L2.KOf KX) (FT.zQ (L2.KOf KX) "Errand") "caller":=by
   dsimp only [L2.KOf]
   refine' FT.zbt ?a33 ?n33
   (case a33=>k_is);(case n33=>k_is)
  have na_Errand_house:L2.NoAttr (L2.KOf KX) (FT.zQ (L2.KOf KX) "Errand") "house":=by
   dsimp only [L2.KOf]
   refine' FT.zbt ?a34 ?n34
   (case a34=>k_is);(case n34=>k_is)
  have na_Errand_is_lost:L2.NoAttr (L2.KOf KX) (FT.zQ (L2.KOf KX) "Errand") "is_lost":=by
   dsimp only [L2.KOf]
   refine' FT.zbt ?a35 ?n35
   (case a35=>k_is);(case n35=>k_is)
  have na_Errand_state:L2.NoAttr (L2.KOf KX) (FT.zQ (L2.KOf KX) "Errand") "state":=by
   dsimp only [L2.KOf]
   refine' FT.zbt ?a36 ?n36
   (case a36=>k_is);(case n36=>k_is)
  have na_Errand_stood:L2.NoAttr (L2.KOf KX) (FT.zQ (L2.KOf KX) "Errand") "stood":=by
   dsimp only [L2.KOf]
   refine' FT.zbt ?a37 ?n37
   (case a37=>k_is);(case n37=>k_is)
  have D_begin_try:L2.Df (L2.KOf KX) mg "begin_try" My.zb7 ["run","number","at","tried"]:=by
   dsimp only [L2.KOf]
   refine' L2.qv KX G ?a38 ?l38 ?c38 ?k38 ?b38
   (case a38=>k_is);(case l38=>k_is);(case c38=>k_is);(case k38=>k_is)
   exact fun _ _ _ _ _ _=>My.e4 fun _ _ _ _=>rfl
  have D_begin_errand:L2.Df (L2.KOf KX) mg "begin_errand" My.za2 ["run","house","caller"]:=by
   dsimp only [L2.KOf]
   refine' L2.qv KX G ?a39 ?l39 ?c39 ?k39 ?b39
   (case a39=>k_is);(case l39=>k_is);(case c39=>k_is);(case k39=>k_is)
   exact fun _ _ _ _ _ _=>My.e3 fun _ _ _=>rfl
  have D_end_errand:L2.Df (L2.KOf KX) mg "end_errand" My.zbK ["run","number","word"]:=by
   dsimp only [L2.KOf]
   refine' L2.qv KX G ?a40 ?l40 ?c40 ?k40 ?b40
   (case a40=>k_is);(case l40=>k_is);(case c40=>k_is);(case k40=>k_is)
   exact fun _ _ _ _ _ _=>My.e3 fun _ _ _=>rfl
  have D_hear:L2.Df (L2.KOf KX) mg "hear" My.zfH ["run","caller","word"]:=by
   dsimp only [L2.KOf]
   refine' L2.qv KX G ?a41 ?l41 ?c41 ?k41 ?b41
   (case a41=>k_is);(case l41=>k_is);(case c41=>k_is);(case k41=>k_is)
   exact fun _ _ _ _ _ _=>My.e3 fun _ _ _=>rfl
  have D_lose:L2.Df (L2.KOf KX) mg "lose" My.zhO ["run","number"]:=by
   dsimp only [L2.KOf]
   refine' L2.qv KX G ?a42 ?l42 ?c42 ?k42 ?b42
   (case a42=>k_is);(case l42=>k_is);(case c42=>k_is);(case k42=>k_is)
   exact fun _ _ _ _ _ _=>My.e2 fun _ _=>rfl
  have D_take_coin:L2.Df (L2.KOf KX) mg "take_coin" My.zdk ["run","purse"]:=by
   dsimp only [L2.KOf]
   refine' L2.qv KX G ?a43 ?l43 ?c43 ?k43 ?b43
   (case a43=>k_is);(case l43=>k_is);(case c43=>k_is);(case k43=>k_is)
   exact fun _ _ _ _ _ _=>My.e2 fun _ _=>rfl
  have D_try_again:L2.Df (L2.KOf KX) mg "try_again" My.zdi ["run","number"]:=by
   dsimp only [L2.KOf]
   refine' L2.qv KX G ?a44 ?l44 ?c44 ?k44 ?b44
   (case a44=>k_is);(case l44=>k_is);(case c44=>k_is);(case k44=>k_is)
   exact fun _ _ _ _ _ _=>My.e2 fun _ _=>rfl
  have D_go_up:L2.Df (L2.KOf KX) mg "go_up" My.zge ["run","number"]:=by
   dsimp only [L2.KOf]
   refine' L2.qv KX G ?a45 ?l45 ?c45 ?k45 ?b45
   (case a45=>k_is);(case l45=>k_is);(case c45=>k_is);(case k45=>k_is)
   exact fun _ _ _ _ _ _=>My.e2 fun _ _=>rfl
  have D_let_come:L2.Df (L2.KOf KX) mg "let_come" My.zdK ["run","event"]:=by
   dsimp only [L2.KOf]
   refine' L2.qv KX G ?a46 ?l46 ?c46 ?k46 ?b46
   (case a46=>k_is);(case l46=>k_is);(case c46=>k_is);(case k46=>k_is)
   exact fun _ _ _ _ _ _=>My.e2 fun _ _=>rfl
  have D_run_of:L2.Df (L2.KOf KX) mg "run_of" My.zfg ["net","events"]:=by
   dsimp only [L2.KOf]
   refine' L2.qv KX G ?a47 ?l47 ?c47 ?k47 ?b47
   (case a47=>k_is);(case l47=>k_is);(case c47=>k_is);(case k47=>k_is)
   exact fun _ _ _ _ _ _=>My.e2 fun _ _=>rfl
  have D_may_come:L2.Df (L2.KOf KX) mg "may_come" My.zdJ ["net","events"]:=by
   dsimp only [L2.KOf]
   refine' L2.qv KX G ?a48 ?l48 ?c48 ?k48 ?b48
   (case a48=>k_is);(case l48=>k_is);(case c48=>k_is);(case k48=>k_is)
   exact fun _ _ _ _ _ _=>My.e2 fun _ _=>rfl
  have D_told_of:L2.Df (L2.KOf KX) mg "told_of" My.zea ["run"]:=by
   dsimp only [L2.KOf]
   refine' L2.qv KX G ?a49 ?l49 ?c49 ?k49 ?b49
   (case a49=>k_is);(case l49=>k_is);(case c49=>k_is);(case k49=>k_is)
   exact fun _ _ _ _ _ _=>My.e1 fun _=>rfl
  have D_ran:L2.Df (L2.KOf KX) mg "ran" My.zjO ["net","events"]:=by
   dsimp only [L2.KOf]
   refine' L2.qv KX G ?a50 ?l50 ?c50 ?k50 ?b50
   (case a50=>k_is);(case l50=>k_is);(case c50=>k_is);(case k50=>k_is)
   exact fun _ _ _ _ _ _=>My.e2 fun _ _=>rfl
  have D_l_due:L2.Df (L2.KOf KX) mg "_law_due" My.zgd ["waits","errands","stood","n"]:=by
   dsimp only [L2.KOf]
   refine' L2.qv KX G ?a51 ?l51 ?c51 ?k51 ?b51
   (case a51=>k_is);(case l51=>k_is);(case c51=>k_is);(case k51=>k_is)
   exact fun _ _ _ _ _ _=>My.e4 fun _ _ _ _=>rfl
  have D_l_timed:L2.Df (L2.KOf KX) mg "_law_timed" My.zed ["net","waits","cells"]:=by
   dsimp only [L2.KOf]
   refine' L2.qv KX G ?a52 ?l52 ?c52 ?k52 ?b52
   (case a52=>k_is);(case l52=>k_is);(case c52=>k_is);(case k52=>k_is)
   exact fun _ _ _ _ _ _=>My.e3 fun _ _ _=>rfl
  have D_spread_of:L2.Df (L2.KOf KX) mg "spread_of" My.zdl ["strewing","j"]:=by
   dsimp only [L2.KOf]
   refine' L2.qv KX G ?a53 ?l53 ?c53 ?k53 ?b53
   (case a53=>k_is);(case l53=>k_is);(case c53=>k_is);(case k53=>k_is)
   exact fun _ _ _ _ _ _=>My.e2 fun _ _=>rfl
  have D_waits_for:L2.Df (L2.KOf KX) mg "waits_for" My.zdh ["strewing","errand","j"]:=by
   dsimp only [L2.KOf]
   refine' L2.qv KX G ?a54 ?l54 ?c54 ?k54 ?b54
   (case a54=>k_is);(case l54=>k_is);(case c54=>k_is);(case k54=>k_is)
   exact fun _ _ _ _ _ _=>My.e3 fun _ _ _=>rfl
  have D_soonest_of:L2.Df (L2.KOf KX) mg "soonest_of" My.zcP ["run","waits","pairs","number"]:=by
   dsimp only [L2.KOf]
   refine' L2.qv KX G ?a55 ?l55 ?c55 ?k55 ?b55
   (case a55=>k_is);(case l55=>k_is);(case c55=>k_is);(case k55=>k_is)
   exact fun _ _ _ _ _ _=>My.e4 fun _ _ _ _=>rfl
  have D_timed_run:L2.Df (L2.KOf KX) mg "timed_run" My.zdj ["net","waits","pairs"]:=by
   dsimp only [L2.KOf]
   refine' L2.qv KX G ?a56 ?l56 ?c56 ?k56 ?b56
   (case a56=>k_is);(case l56=>k_is);(case c56=>k_is);(case k56=>k_is)
   exact fun _ _ _ _ _ _=>My.e3 fun _ _ _=>rfl
  have D_timed:L2.Df (L2.KOf KX) mg "timed" My.zgb ["net","waits","pairs"]:=by
   dsimp only [L2.KOf]
   refine' L2.qv KX G ?a57 ?l57 ?c57 ?k57 ?b57
   (case a57=>k_is);(case l57=>k_is);(case c57=>k_is);(case k57=>k_is)
   exact fun _ _ _ _ _ _=>My.e3 fun _ _ _=>rfl
  have D_l_soonest:L2.Df (L2.KOf KX) mg "_law_soonest" My.zdn ["net","waits","errands","stood"]:=by
   dsimp only [L2.KOf]
   refine' L2.qv KX G ?a58 ?l58 ?c58 ?k58 ?b58
   (case a58=>k_is);(case l58=>k_is);(case c58=>k_is);(case k58=>k_is)
   exact fun _ _ _ _ _ _=>My.e4 fun _ _ _ _=>rfl
  have D_soonest:L2.Df (L2.KOf KX) mg "soonest" My.zeb ["net","waits","pairs"]:=by
   dsimp only [L2.KOf]
   refine' L2.qv KX G ?a59 ?l59 ?c59 ?k59 ?b59
   (case a59=>k_is);(case l59=>k_is);(case c59=>k_is);(case k59=>k_is)
   exact fun _ _ _ _ _ _=>My.e3 fun _ _ _=>rfl
  have D_l_cell:L2.Df (L2.KOf KX) mg "_law_cell" My.zfk ["script","k"]:=by
   dsimp only [L2.KOf]
   refine' L2.qv KX G ?a60 ?l60 ?c60 ?k60 ?b60
   (case a60=>k_is);(case l60=>k_is);(case c60=>k_is);(case k60=>k_is)
   exact fun _ _ _ _ _ _=>My.e2 fun _ _=>rfl
  have n_max:mg "max" = none:=by
   refine' PySem.W.mg_none_of KX G ?z61
   k_is
  have n_range:mg "range" = none:=by
   refine' PySem.W.mg_none_of KX G ?z62
   k_is
  have n_len:mg "len" = none:=by
   refine' PySem.W.mg_none_of KX G ?z63
   k_is
  have n_tuple:mg "tuple" = none:=by
   refine' PySem.W.mg_none_of KX G ?z64
   k_is
  have n_enumerate:mg "enumerate" = none:=by
   refine' PySem.W.mg_none_of KX G ?z65
   k_is
  have n_int:mg "int" = none:=by
   refine' PySem.W.mg_none_of KX G ?z66
   k_is
  have n_isinstance:mg "isinstance" = none:=by
   refine' PySem.W.mg_none_of KX G ?z67
   k_is
  have n_bool:mg "bool" = none:=by
   refine' PySem.W.mg_none_of KX G ?z68
   k_is
  have n_min:mg "min" = none:=by
   refine' PySem.W.mg_none_of KX G ?z69
   k_is
  have n_list:mg "list" = none:=by
   refine' PySem.W.mg_none_of KX G ?z70
   k_is
  have c_FRESH:∃ a,mg "FRESH" = some (.ref a)/\FT.KTu (L2.KOf KX) a [.str "fresh"]:=by
   dsimp only [L2.KOf]
   refine' ⟨_,PySem.W.mg_of KX G ?z71,FT.zoO ?y71⟩
   (case z71=>k_is);(case y71=>k_is)
  have L:=by
   refine' L2.zoM (st:=My.zjP) KX G ?la ?ll ?lc ?lk ?lb
   (case la=>k_is);(case ll=>k_is);(case lc=>k_is);(case lk=>k_is)
   exact fun _ _ _ _ _ _ s u=>.of_eq rfl
  obtain ⟨f,fd,F,g,hb⟩:=L
  have e:=hmg.symm.trans g
  cases e
  have T:My.Txt (L2.KOf KX) mg (FT.zQ (L2.KOf KX) "Errand") (FT.zQ (L2.KOf KX) "Run"):=⟨cls_Errand,cls_Run,na_Errand_asked,na_Errand_caller,na_Errand_house,na_Errand_is_lost,na_Errand_state,na_Errand_stood,na_Run_came,na_Run_errands,na_Run_net,na_Run_payments,na_Run_puts,na_Run_taken,n_max,n_range,n_len,n_tuple,n_enumerate,n_int,n_isinstance,n_bool,n_min,n_list,c_FRESH⟩
  refine ⟨fd,hb,fun base _ _=>?_⟩
  have zaW:=My.zaW (P:=My.pg) (w:=w) (base:=base) D_l_left T 
  have yr:=My.yr (P:=My.pg) (w:=w) (base:=base) D_l_next T 
  have zdE:=My.zdE (P:=My.pg) (w:=w) (base:=base) D_l_net T yr
  have zcj:=My.zcj (P:=My.pg) (w:=w) (base:=base) D_l_waits T yr
  have zcl:=My.zcl (P:=My.pg) (w:=w) (base:=base) D_l_drawn T yr
  have zc0:=My.zc0 (P:=My.pg) (w:=w) (base:=base) D_l_kept T 
  have zc9:=My.zc9 (P:=My.pg) (w:=w) (base:=base) D_Run T 
  have zq:=My.zq (P:=My.pg) (w:=w) (base:=base) D_asks_of T 
  have zaz:=My.zaz (P:=My.pg) (w:=w) (base:=base) D_may_be_lost T zq
  have qI:=My.qI (P:=My.pg) (w:=w) (base:=base) D_has_tries_left T zq
  have zL:=My.zL (P:=My.pg) (w:=w) (base:=base) D_events_by_tries T zaz qI
  replace zL:=FT.CalT.refine zL (FT.zjo _) (FT.zjp _)
  have zX:=My.zX (P:=My.pg) (w:=w) (base:=base) D_number_of T 
  have yH:=My.yH (P:=My.pg) (w:=w) (base:=base) D_purse_of T zX
  have zaX:=My.zaX (P:=My.pg) (w:=w) (base:=base) D_coins_made T 
  have qT:=My.qT (P:=My.pg) (w:=w) (base:=base) D_purse_told T zaX
  have zbS:=My.zbS (P:=My.pg) (w:=w) (base:=base) D_has_coin T yH zq qT
  have yX:=My.yX (P:=My.pg) (w:=w) (base:=base) D_events_at T zL zbS
  have zbR:=My.zbR (P:=My.pg) (w:=w) (base:=base) D_is_whole T 
  have zbq:=My.zbq (P:=My.pg) (w:=w) (base:=base) D_is_within T zbR
  have zbT:=My.zbT (P:=My.pg) (w:=w) (base:=base) D_can_come T yX zbq
  have qN:=My.qN (P:=My.pg) (w:=w) (base:=base) D_check_event T zbT
  have y8:=My.y8 (P:=My.pg) (w:=w) (base:=base) D_asked_by T zX
  have zaN:=My.zaN (P:=My.pg) (w:=w) (base:=base) D_Errand T 
  have zH:=My.zH (P:=My.pg) (w:=w) (base:=base) D_begin_try D_begin_errand T yH zq y8 zaN 12
  have yF:=zH.1
  have yQ:=zH.2
  have zT:=My.zT (P:=My.pg) (w:=w) (base:=base) D_end_errand D_hear T zq yF 12
  have zM:=zT.1
  have zc2:=zT.2
  have zez:=My.zez (P:=My.pg) (w:=w) (base:=base) D_lose T zc2
  have zbn:=My.zbn (P:=My.pg) (w:=w) (base:=base) D_take_coin T 
  have zbm:=My.zbm (P:=My.pg) (w:=w) (base:=base) D_try_again T yH yF zbn zq
  have zdF:=My.zdF (P:=My.pg) (w:=w) (base:=base) D_go_up T zM zq
  have z8:=My.z8 (P:=My.pg) (w:=w) (base:=base) D_let_come T yQ zM zez zbm zdF
  have zaV:=My.zaV (P:=My.pg) (w:=w) (base:=base) D_run_of T zc9 qN z8
  have zas:=My.zas (P:=My.pg) (w:=w) (base:=base) D_may_come T zaV yX
  replace zas:=FT.CalT.refine zas (FT.zjo _) (FT.zjp _)
  have zal:=My.zal (P:=My.pg) (w:=w) (base:=base) D_told_of T qT
  have zcb:=My.zcb (P:=My.pg) (w:=w) (base:=base) D_ran T zal zaV
  replace zcb:=FT.CalT.refine zcb (FT.zii _) (FT.zij _)
  have zbE:=My.zbE (P:=My.pg) (w:=w) (base:=base) D_l_due T 
  have zck:=My.zck (P:=My.pg) (w:=w) (base:=base) D_l_timed T zaW zcl zc0 zas zcb yr zbE
  have zbo:=My.zbo (P:=My.pg) (w:=w) (base:=base) D_spread_of T 
  have zbl:=My.zbl (P:=My.pg) (w:=w) (base:=base) D_waits_for T zbo
  have yT:=My.yT (P:=My.pg) (w:=w) (base:=base) D_soonest_of T zbl
  have qW:=My.qW (P:=My.pg) (w:=w) (base:=base) D_timed_run T zc9 qN z8 yT
  have za8:=My.za8 (P:=My.pg) (w:=w) (base:=base) D_timed T zal qW
  replace za8:=FT.CalT.refine za8 (FT.zii _) (FT.zij _)
  have zbp:=My.zbp (P:=My.pg) (w:=w) (base:=base) D_l_soonest T zbE
  have zaU:=My.zaU (P:=My.pg) (w:=w) (base:=base) D_soonest T qW qI yT
  have zc1:=My.zc1 (P:=My.pg) (w:=w) (base:=base) D_l_cell T 
  exact My.zoD F T zaW zdE zcj zck za8 zbp zaU zc1 zcb
 case S=>
  intro K H a ns hl _ hS
  obtain ⟨M,h⟩:=My.law_true (FT.zQ K "Errand") (FT.zQ K "Run") ns hl
  exact FT.znl hS h
 case C=>exact fun _ _ _ _ z=>z
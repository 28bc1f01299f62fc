import PyProof.Rows.All
import Wide.All
import OpenK.AllK
import Wide.FinOn
import Lean
import PyProof.EqAt
import PyProof.EqKinds
import PyProof.TupleCall
import PyProof.NeKinds
import PyProof.SumAny
import KE.KDictList
import KE.KDictOf
import PyProof.AttrMissHeap
import PyProof.Conv_int_bool
import PyProof.TupleOfStr
import PyProof.CollectIter
import PyProof.ListRange
import PyProof.DictWalks
import PyProof.ConsumeS
import PyProof.WalkInts
import PyProof.Draws
import PyProof.EnumFor
import PyProof.EnumStmt
import KE.KDictLaws
import KE.KRevIter
import KE.KDictSum
import PyProof.SeqRoads2
import PyProof.EqAt
import PyProof.EnumMake
import PyProof.ZipIter
import PyProof.InstStore
import PyProof.InstStoreFacts
import PyProof.ExcInit
import PyProof.ExcClass2
import PyProof.NsDelKeeps
import PyProof.ExcArgsOwn
import PyProof.Rows.SetFrom
import PyProof.SetRoads
import KE.KIsAll
import KE.IntTextText
import KE.KIntText
import PyProof.StrBlock2
import PyProof.FString5
import PyProof.CallStr
import PyProof.StrWalks
import PyProof.StrCalls
import PyProof.StrCalls2
import PyProof.SliceStr2
import PyProof.StrBlockI
import PyProof.Rows.StrJoin2
import PyProof.CallRoads3
import PyProof.TupleKey
import PyProof.Rows.Range3
import PyProof.AutoListH
import PyProof.Rows.SortShell
import PyProof.SetRoads
import PyProof.Rows.SetFrom
import PyProof.WalkInts
import PyProof.EqAt
import PySem.Challenge.RW_tryweir_k39_ledgers
open PySem.W (Frag)
open List (mem_filter mem_range filterMap_cons mem_cons_self mem_cons_of_mem mem_cons mem_append mem_append_left mem_append_right length_cons map_cons length_map append_nil nodup_cons of_mem_zip length_take getElem?_append_right getElem?_append_left getElem?_map mem_of_getElem? length_append length_replicate size_toArray length_drop length_set all_cons any_cons replicate_succ flatten_cons append_assoc length_singleton map_nil find?_cons length_nil lookup_cons nil_append getElem?_set getElem_of_mem getElem?_eq_getElem mem_map getElem?_range all_eq_true getElem_toArray getElem_mem mem_singleton map_append map_take map_drop map_congr_left getElem?_cons_succ ext_getElem? getElem?_eq_none drop_zero take_of_length_le map_map mem_iff_getElem? set_append_right getD_eq_getElem?_getD not_mem_nil take_succ take_length range_succ length_range)
set_option Elab.async false
set_option linter.all false
set_option maxRecDepth 100000
set_option hygiene false
local macro_rules | `(tactic| left) => `(tactic| (rw [hX];clear hX;simp only [qf]))
local macro_rules | `(tactic| right) => `(tactic| (refine Ok.seqR fun X hX=>?_))
local macro_rules | `(tactic| nofun) => `(tactic| (refine Ok.seqX fun X hX=>?_))
local macro_rules | `(tactic| simp?) => `(tactic| (exact fin.elim))
local macro_rules | `(tactic| and_intros) => `(tactic| (first | exact Or.inl rfl | exact Or.inr rfl))
local macro_rules | `(tactic| injections) => `(tactic| (intro pins s σ H x y v u Q I rx ry ⟨S,⟨tx,ty⟩,e,m,⟨r1,r2⟩,fin⟩))
local macro_rules | `(tactic| rw?) => `(tactic| (split at fin))
local macro_rules | `(tactic| exact?) => `(tactic| (exact absurd (show false = true from fx) Q4))
local macro_rules | `(tactic| apply?) => `(tactic| (intro pins s σ H Q I h))
local macro_rules | `(tactic| infer_instance) => `(tactic| (intro pins s σ H x y v u Q I rx ry h))
set_option hygiene true
local macro_rules | `(tactic| simp_arith) => `(tactic| simp_arith [and_self])
local macro_rules | `(tactic| ac_rfl) => `(tactic| exact ⟨rfl, rfl, rfl, by decide +kernel, rfl, by decide +kernel, by decide +kernel⟩)
abbrev Q0:=@List.getElem?_eq_getElem
abbrev Q1:=@PySem.wpAny_bind
abbrev Q2:=@PySem.Heap.get?_push_of_some
abbrev Q3:=@Nat.le_refl
abbrev Q4:=@Bool.false_ne_true
abbrev Q5:=@Nat.lt_of_lt_of_le
abbrev Q6:=@List.getElem?_append_left
abbrev Q7:=@List.getD_eq_getElem?_getD
abbrev Q8:=@List.getElem?_append_right
abbrev Q9:=@Int.fmod_eq_emod_of_nonneg
abbrev Qa:=@List.mem_of_getElem?
abbrev Qb:=@List.getElem?_map
abbrev Qc:=@List.getElem?_set
abbrev Qd:=@Option.some.inj
abbrev Qe:=@PySem.Heap.lt_size
abbrev Qf:=@PySem.wpAny_pure
abbrev Qg:=@PySem.wpAny_mono
abbrev Qh:=@List.length_map
abbrev Qi:=@List.size_toArray
abbrev Qj:=@Nat.le_trans
abbrev Qk:=@Nat.ne_of_lt
abbrev Ql:=@PySem.Heap.get?_push_size
abbrev Qm:=@List.mem_append_right
abbrev Qn:=@List.length_append
abbrev Qo:=@Nat.lt_irrefl
abbrev Qp:=@List.length_cons
abbrev Qq:=@List.map_append
abbrev Qr:=@List.length_take
abbrev Qs:=@Bool.and_eq_true
abbrev Qt:=@List.length_singleton
abbrev Qu:=@Nat.sub_self
abbrev Qv:=@decide_eq_true
abbrev Qw:=@decide_eq_false
abbrev Qx:=@List.getElem?_eq_some_iff
abbrev Qy:=@if_pos
abbrev Qz:=@if_neg
abbrev QA:=@PySem.F.plainAttrs_list
abbrev QB:=@PySem.F.type_list_append
abbrev QC:=@PySem.F.slot_list_append
abbrev QD:=@Int.toNat_natCast
abbrev QE:=@List.map_cons
abbrev QF:=@List.mem_cons
abbrev QG:=@List.mem_singleton
abbrev QH:=@List.append_assoc
abbrev QI:=@Nat.le_succ_of_le
namespace My
open PySem
noncomputable def zsb:Stmt->Bool
 | .Assign [.Name x _] _ _=>!(x == "__name__")
 | _=>true
noncomputable abbrev pg:Program:=PySem.Challenge.rw_tryweir_k39_ledgers.prog
noncomputable def vw:Program:={ pg with main:={ pg.main with body:=pg.main.body.filter zsb } }
end My
section
open PySem PySem.W PyProof.Rows
set_option maxHeartbeats 0
namespace My
noncomputable abbrev xT (s:Shared):Bool:=xlAt My.vw [] s && recOk (RowW.records (OpenRow.toRowW (OpenLaw.row PySem.Challenge.rw_tryweir_k39_ledgers))) s
noncomputable abbrev oE (w:World):=openEnds treeTable pg w 40000
noncomputable abbrev oL:=looseW vw []
theorem hq1 (w:World):(oE w).map (fun s=>seen ((recsOf vw).map (·.name)) (ownsOf vw) [] {heap:=s.heap,drawn:=s.drawn,toks:=s.toks,os:=s.os})=some (expectedOf vw):=by kernel_rfl
theorem hq2 (w:World):(oE w).map (fun s=>(s.heap.bltView,s.heap.keysOk oL ((recsOf vw).map (·.name)) ((litsOf vw).map (·.1)) ((clssOf vw oL).map (·.name))&&s.heap.accountedOkI (importedModules pg.main.body)&&s.heap.isNs mainGlobals&&s.heap.isNs builtinsNs&&tablesOk vw s.heap&&xT s&&if true=true then s.gens.size==0 else !leftWithCleanup s.gens))=some (bltViewBooted,true):=by kernel_rfl
theorem hq3 (w:World):(oE w).map (fun s=>(tabsOk vw s,pinSeenD vw (drecsOf vw) s))=some (true,pinGoodD (drecsOf vw)):=by kernel_rfl
theorem hq4 (w:World):(oE w).map (fun s=>(plainSeenE vw oL s,plainSeenD vw [] s,wideSeen vw s,clsSeenW vw [] s))=some (plainGoodE vw oL,plainGoodD vw [],wideGood vw,clsGoodW vw []):=by kernel_rfl
theorem om {α β γ:Type} {f:α->β} {g:α->γ} {o:Option α} {b c} (h:o.map f=some b) (k:o.map g=some c):o.map (fun s=>(f s,g s))=some (b,c):=by
 cases o with
 | none=>cases h
 | some x=>cases h;cases k;rfl
theorem on {S A B C D E F G H I:Type} {o:Option S} {a:S->A} {b:S->B} {c:S->C} {d:S->D} {e:S->E} {f:S->F} {g:S->G} {h:S->H} {i:S->I} {a0 b0 c0 d0 e0 f0 g0 h0 i0} (h1:o.map a=some a0) (h2:o.map (fun s=>(b s,c s))=some (b0,c0)) (h3:o.map (fun s=>(d s,e s))=some (d0,e0)) (h4:o.map (fun s=>(f s,g s,h s,i s))=some (f0,g0,h0,i0)):o.map (fun s=>(a s,b s,c s,d s,e s,f s,g s,h s,i s))=some (a0,b0,c0,d0,e0,f0,g0,h0,i0):=by
 cases o with
 | none=>cases h1
 | some x=>cases h1;cases h2;cases h3;cases h4;rfl
theorem hq (w:World):(oE w).map (fun s=>openSeen vw [] (importedModules pg.main.body) xT true s)=some (openGood vw []):=on (hq1 w) (hq2 w) (hq3 w) (hq4 w)
end My
local macro_rules | `(tactic| o_head $H) => `(tactic| refine holds_open (q := My.vw) (loose := []) (Xt := My.xT) (XP := XL My.vw []) (Yf := Hook.obs $H) (Ya := Hook.val $H) (YP := Hook.says $H) (N := 40000) (fun w => My.om (My.hq w) (by kernel_rfl)) (Hook.of $H) (Hook.keeps $H) (fun s e => xl_of s (Bool.and_eq_true_iff.mp e).1) XL.keeps (by rfl) (by rfl) (by rfl) (fun s e => recFacts_of (Bool.and_eq_true_iff.mp e).2) (by rfl) (by first | assumption | decide +kernel) (by decide +kernel) ⟨rfl, rfl, rfl, rfl, rfl, by decide +kernel⟩ ?hw ?hc)
noncomputable def My.hdD:Σ' P:Prop,P->PySem.Challenge.rw_tryweir_k39_ledgers.Holds:=by
 refine ⟨?P,fun hc=>?_⟩
 rotate_left
 ·w_on;o_law;k_head;(case hw=>w_witness2)
  exact hc
end
namespace L2
open PySem PySem.Spec PyProof.Rows
noncomputable abbrev Key:=Sum Int Str
noncomputable def zeR:Key->Value->Bool
 | .inl k,v=>Value.isInt k v
 | .inr x,v=>Value.isStrOf x v
noncomputable def zr9 (w:World):Key->Int
 | .inl k=>hashInt k
 | .inr x=>hashStr w x
theorem qV:∀ {k:Key} {v:Value},zeR k v=true->(∃ i t,k=Sum.inl i/\v=Value.int i t)\/(∃ x t,k=Sum.inr x/\v=Value.str x t)
 | .inl i,v,h=>by
  obtain ⟨t,e⟩:=Value.isInt_shape (k:=i) (v:=v) h
  exact .inl ⟨i,t,rfl,e⟩
 | .inr x,v,h=>by
  obtain ⟨t,e⟩:=Value.isStrOf_shape (x:=x) (v:=v) h
  exact .inr ⟨x,t,rfl,e⟩
theorem zk4 (i:Int) (t:Tok):zeR (.inl i) (.int i t)=true:=by simp [zeR,Value.isInt]
theorem zk3 (x:Str) (t:Tok):zeR (.inr x) (.str x t)=true:=by simp [zeR,Value.isStrOf]
theorem zpN (a b:Int):decide ((Sum.inl a:Key)=Sum.inl b)=(a==b):=by
 by_cases e:a=b
 ·subst e;simp
 ·have h:¬ (Sum.inl a:Key)=Sum.inl b:=fun q=>e (Sum.inl.inj q)
  rw [Qw h]
  exact (beq_eq_false_iff_ne.mpr e).symm
theorem zpK (a b:Str):decide ((Sum.inr a:Key)=Sum.inr b)=decide (a=b):=by
 by_cases e:a=b
 ·subst e;simp
 ·have h:¬ (Sum.inr a:Key)=Sum.inr b:=fun q=>e (Sum.inr.inj q)
  rw [Qw h,Qw e]
theorem zpM (a:Int) (b:Str):decide ((Sum.inl a:Key)=Sum.inr b)=false:=Qw (fun q=>nomatch q)
theorem zpL (a:Str) (b:Int):decide ((Sum.inr a:Key)=Sum.inl b)=false:=Qw (fun q=>nomatch q)
noncomputable def z6 (prog:Program) (w:World):PySem.KeyKind prog w Key where
 is:=zeR
 hash:=zr9 w
 inj:=fun v a b ha hb=>by
  rcases qV ha with ⟨i,t,rfl,rfl⟩ | ⟨x,t,rfl,rfl⟩
  ·rcases qV hb with ⟨j,u,rfl,e⟩ | ⟨y,u,rfl,e⟩
   ·injection e with e1 _;rw [e1]
   ·exact nomatch e
  ·rcases qV hb with ⟨j,u,rfl,e⟩ | ⟨y,u,rfl,e⟩
   ·exact nomatch e
   ·injection e with e1 _;rw [e1]
 byValue:=fun k v h=>by
  rcases qV h with ⟨i,t,rfl,rfl⟩ | ⟨x,t,rfl,rfl⟩ <;> rfl
 pyHash:=fun hv h=>by
  rcases qV hv with ⟨i,t,rfl,rfl⟩ | ⟨x,t,rfl,rfl⟩
  ·exact wpAny_pyHash_int h
  ·exact wpAny_pyHash_str h
 eqBool:=fun hu hv h=>by
  rcases qV hu with ⟨i,t,rfl,rfl⟩ | ⟨x,t,rfl,rfl⟩
  ·rcases qV hv with ⟨j,u,rfl,rfl⟩ | ⟨y,u,rfl,rfl⟩
   ·rw [zpN] at h;exact wpAny_eqBool_int h
   ·rw [zpM] at h;exact SeqAt.EqAt.int_str i t y u _ _ _ _ h
  ·rcases qV hv with ⟨j,u,rfl,rfl⟩ | ⟨y,u,rfl,rfl⟩
   ·rw [zpL] at h;exact SeqAt.EqAt.str_int x t j u _ _ _ _ h
   ·rw [zpK] at h;exact wpAny_eqBool_str h
 «strs»:=fun k x t v h=>by
  rcases qV h with ⟨i,u,rfl,e⟩ | ⟨y,u,rfl,e⟩
  ·exact nomatch e
  ·injection e with e1 _
   subst e1
   cases v <;> rfl
theorem ziV (prog:Program) (w:World) (i:Int) (t:Tok):(z6 prog w).is (.inl i) (.int i t)=true:=zk4 i t
theorem ziU (prog:Program) (w:World) (x:Str) (t:Tok):(z6 prog w).is (.inr x) (.str x t)=true:=zk3 x t
inductive V where
 | non | bl (b:Bool) | int (i:Int) | str (x:Str) | byt (b:Array UInt8) | flt (b:UInt64) | ref (a:Addr) | ty (n:String)
 deriving DecidableEq
noncomputable def RelV:V->Value->Prop
 | .non,u=>u=Value.none
 | .bl b,u=>u=Value.bool b
 | .int i,u=>∃ t,u=Value.int i t
 | .str x,u=>∃ t,u=Value.str x t
 | .byt b,u=>∃ t,u=Value.bytes b t
 | .flt b,u=>∃ t,u=Value.float b t
 | .ref a,u=>u=Value.ref a
 | .ty n,u=>u=Value.type n
noncomputable abbrev Vals:List V->List Value->Prop:=Paired RelV
variable {xs:List V} {us:List Value}
theorem Vals.length (r:Vals xs us):xs.length=us.length:=Paired.length r
theorem Vals.get:∀ {xs:List V} {us:List Value} {i:Nat} {x:V},Vals xs us->xs[i]? = some x->∃ u,us[i]? = some u/\RelV x u
 | _,_,_,_,.nil,e=>by simp at e
 | _,_,0,_,.cons r _,e=>by simp at e;subst e;exact ⟨_,rfl,r⟩
 | _,_,i+1,x,.cons _ t,e=>by
  obtain ⟨u,h1,h2⟩:=Vals.get (i:=i) (x:=x) t (by simpa using e)
  exact ⟨u,by simpa using h1,h2⟩
theorem Vals.set {x:V} {u:Value} (r:RelV x u):∀ {xs:List V} {us:List Value} (i:Nat),Vals xs us->Vals (xs.set i x) (us.set i u)
 | _,_,_,.nil=>.nil
 | _,_,0,.cons _ t=>.cons r t
 | _,_,i+1,.cons q t=>.cons q (Vals.set r i t)
theorem Vals.append:∀ {xs ys:List V} {us ws:List Value},Vals xs us->Vals ys ws->Vals (xs++ys) (us++ws)
 | _,_,_,_,.nil,s=>s
 | _,_,_,_,.cons r t,s=>.cons r (Vals.append t s)
theorem Vals.take:∀ {xs:List V} {us:List Value} (n:Nat),Vals xs us->Vals (xs.take n) (us.take n)
 | _,_,0,_=>.nil
 | _,_,_+1,.nil=>.nil
 | _,_,n+1,.cons r t=>.cons r (Vals.take n t)
theorem Vals.drop:∀ {xs:List V} {us:List Value} (n:Nat),Vals xs us->Vals (xs.drop n) (us.drop n)
 | _,_,0,r=>r
 | _,_,_+1,.nil=>.nil
 | _,_,n+1,.cons _ t=>Vals.drop n t
theorem Vals.none_of:∀ {xs:List V} {us:List Value} {i:Nat},Vals xs us->xs[i]? = none->us[i]? = none:=fun {xs us i} r e=>by
 have h1:=r.length
 have h2:xs.length<=i:=List.getElem?_eq_none_iff.mp e
 exact List.getElem?_eq_none_iff.mpr (by omega)
noncomputable def RelO:Option V->Option Value->Prop
 | some v,some u=>RelV v u
 | none,none=>True
 | _,_=>False
noncomputable def KV {κ:Type}:List (κ × V)->List (κ × Value)->Prop:=Paired fun (p:κ × V) (q:κ × Value)=>p.1=q.1/\RelV p.2 q.2
noncomputable def kV:Key->V
 | .inl i=>.int i
 | .inr x=>.str x
inductive HO where
 | lst (xs:List V)
 | tup (xs:List V)
 | dK (kvs:List (Key × V)) | dT (kvs:List (List Key × V))
 | set (S:Int->Bool) (n:Nat)
 | ins (C dx:Addr) (fs:List (Str × V))
 | own (x:Addr)
 | xd (fs:List (Str × V))
 | met (f x:Addr)
 | rng (lo hi:Int)
 | frz (o:Obj) (u:HO)
 | tbl (ps:Array Value)
 | ext (φ:Heap->Prop)
noncomputable abbrev Hp:=Addr->Option HO
noncomputable def upd (H:Hp) (a:Addr) (o:HO):Hp:=fun b=>if b=a then some o else H b
variable {o:HO} {H:Hp}
theorem yE {a:Addr} :upd H a o a=some o:=by unfold upd;rw [Qy rfl]
theorem zl {a b:Addr} (h:b ≠ a):upd H a o b=H b:=by unfold upd;rw [Qz h]
theorem zdi {a b:Addr} {u:HO} (h:H a=some o) (h':H b=some u) (d:o ≠ u):a ≠ b:=by
 intro e;subst e;rw [h] at h';exact d (Qd h')
theorem yG {a b:Addr} (h:H a=some o) (h':H b=none):a ≠ b:=by
 intro e;subst e;rw [h] at h';cases h'
def NoDict (h:Heap) (a:Addr):Prop:=∀ o,h.get? a=some o->o.dict=none
variable {h:Heap} {n:Nat}
theorem NoDict.new {its:Array Value} {n:Nat}:NoDict (h.push { cls:=.type "tuple",data:=.seq its n }) h.objs.size:=fun o e=>by
 rw [Ql _ rfl] at e;cases e;rfl
section
variable (P:Program) (w:World)
noncomputable def ObjOk (H:Hp) (h:Heap) (a:Addr):HO->Prop
 | .lst xs=>xs.length<=sizeLine/\∃ (its:List Value) (n:Nat),Vals xs its/\h.get? a=some { cls:=.type "list",data:=.seq its.toArray n }
 | .tup xs=>xs.length<=sizeLine/\∃ its:List Value,Vals xs its/\IsTup h a its.toArray/\NoDict h a
 | .dK kvs=>kvs.length<=sizeLine/\(a==sysModules)=false/\∃ vs,KV kvs vs/\h.DictOf (z6 P w) a vs
 | .dT kvs=>kvs.length<=sizeLine/\(a==sysModules)=false/\∃ xs:List (List Key × Addr × Value),
   Paired (fun (p:List Key × V) (q:List Key × Addr × Value)=>p.1=q.1/\H q.2.1=some (.tup (p.1.map kV))/\RelV p.2 q.2.2) kvs xs /\
   ∃ o es ep,h.get? a=some o/\o.ExactDict/\o.data = .dict es ep/\es.toList=xs.map (entryOfKey (tupleKind (z6 P w)))/\(xs.map (·.1)).Nodup
 | .set S n=>h.SetOf (intKind P w) a S n
 | .ins C dx fs=>H dx=some (.own a)/\fs.length<=1000/\dx ≠ a/\h.get? a=some (PySem.W.instObj C dx) /\
   ∃ mA,h.Ns1 dx mA/\(∀ f,RelO (fs.lookup f) (mA f))/\PySem.Within mA (fs.map (·.1))
 | .own _=>∃ o,h.get? a=some o
 | .xd fs=>∃ mA,h.Ns1 a mA/\∀ f,RelO (fs.lookup f) (mA f)
 | .rng lo hi=>∃ t u v,h.get? a=some { cls:=.type "range",data:=.fields #[.int lo t,.int hi u,.int 1 v] }
 | .frz o u=>h.get? a=some o/\ObjOk H h a u
 | .tbl ps=>h.get? a=some { cls:=.none,data:=.fields ps }
 | .met f x=>h.get? a=some (PySem.W.methodObj (.ref f) (.ref x))
 | .ext φ=>φ h/\(∃ o,h.get? a=some o)/\∀ h1 h2:Heap,φ h1->(∀ o,h1.get? a=some o->h2.get? a=some o)->φ h2
def HOk (H:Hp) (h:Heap):Prop:=∀ a o,H a=some o->ObjOk P w H h a o
end
variable {h':Heap} {H':Hp} {P:Program} {w:World}
section
variable {a:Addr}
theorem ObjOk.lt (x:ObjOk P w H h a o):a<h.objs.size:=by
 cases o with
 | lst xs=>obtain ⟨_,_,_,_,e⟩:=x;exact Qe e
 | tup xs=>obtain ⟨_,_,_,p,_⟩:=x;exact p.lt
 | dK kvs=>obtain ⟨_,_,_,_,o,_,_,e,_⟩:=x;exact Qe e
 | dT kvs=>obtain ⟨_,_,_,_,o,_,_,e,_⟩:=x;exact Qe e
 | set S n=>obtain ⟨o,_,_,_,e,_⟩:=x;exact Qe e
 | ins C dx fs=>obtain ⟨_,_,_,e,_⟩:=x;exact Qe e
 | own y=>obtain ⟨_,e⟩:=x;exact Qe e
 | xd fs=>obtain ⟨_,⟨_,_,_,e,_⟩,_⟩:=x;exact Qe e
 | rng lo hi=>obtain ⟨_,_,_,e⟩:=x;exact Qe e
 | frz ob u=>obtain ⟨e,_⟩:=x;exact Qe e
 | tbl ps=>exact Qe (show h.get? a=some _ from x)
 | met f y=>exact Qe (show h.get? a=some _ from x)
 | ext φ=>obtain ⟨_,⟨_,e⟩,_⟩:=x;exact Qe e
theorem Paired.mapP {α β:Type} {F G:α->β->Prop}:∀ {l₁:List α} {l₂:List β},Paired F l₁ l₂->(∀ a b,F a b->G a b)->Paired G l₁ l₂
 | _,_,.nil,_=>.nil
 | _,_,.cons r t,f=>.cons (f _ _ r) (Paired.mapP t f)
theorem ObjOk.stay (x:ObjOk P w H h a o) (k:∀ b u,(b=a\/H b=some (.own a))->h.get? b=some u->h'.get? b=some u)
  (ho:∀ b,H b=some (.own a)->H' b=some (.own a)) (ht:∀ b xs,H b=some (.tup xs)->H' b=some (.tup xs)):ObjOk P w H' h' a o:=by
 induction o with
 | lst xs=>obtain ⟨z,its,n,r,e⟩:=x;exact ⟨z,its,n,r,k _ _ (.inl rfl) e⟩
 | tup xs=>obtain ⟨z,its,r,⟨ob,e,c⟩,nd⟩:=x;exact ⟨z,its,r,⟨ob,k _ _ (.inl rfl) e,c⟩,fun o q=>nd o (by rw [k _ _ (.inl rfl) e] at q;rw [e];exact q)⟩
 | dK kvs=>obtain ⟨z,y,vs,r,ob,es,ep,e,c⟩:=x;exact ⟨z,y,vs,r,ob,es,ep,k _ _ (.inl rfl) e,c⟩
 | dT kvs=>
  obtain ⟨z,y,xs,r,ob,es,ep,e,c⟩:=x
  exact ⟨z,y,xs,Paired.mapP r fun p q z=>⟨z.1,ht _ _ z.2.1,z.2.2⟩,ob,es,ep,k _ _ (.inl rfl) e,c⟩
 | set S n=>obtain ⟨ob,es,ep,t,e,c⟩:=x;exact ⟨ob,es,ep,t,k _ _ (.inl rfl) e,c⟩
 | ins C dx fs=>
  obtain ⟨d,z,ne,e,mA,⟨od,es,ep,e2,c⟩,r⟩:=x
  exact ⟨ho _ d,z,ne,k _ _ (.inl rfl) e,mA,⟨od,es,ep,k _ _ (.inr d) e2,c⟩,r⟩
 | own y=>obtain ⟨ob,e⟩:=x;exact ⟨ob,k _ _ (.inl rfl) e⟩
 | xd fs=>obtain ⟨mA,⟨od,es,ep,e,c⟩,r⟩:=x;exact ⟨mA,⟨od,es,ep,k _ _ (.inl rfl) e,c⟩,r⟩
 | rng lo hi=>obtain ⟨t,u,v,e⟩:=x;exact ⟨t,u,v,k _ _ (.inl rfl) e⟩
 | frz ob u ih=>obtain ⟨e,q⟩:=x;exact ⟨k _ _ (.inl rfl) e,ih q⟩
 | tbl ps=>
  have e:h.get? a=some { cls:=.none,data:=.fields ps }:=x
  show h'.get? a=some { cls:=.none,data:=.fields ps }
  exact k a _ (.inl rfl) e
 | met f y=>
  have e:h.get? a=some (PySem.W.methodObj (.ref f) (.ref y)):=x
  show h'.get? a=some (PySem.W.methodObj (.ref f) (.ref y))
  exact k a _ (.inl rfl) e
 | ext φ=>obtain ⟨p,⟨o,e⟩,st⟩:=x;exact ⟨st _ _ p fun o q=>k _ _ (.inl rfl) q,⟨o,k _ _ (.inl rfl) e⟩,st⟩
theorem HOk.lt (x:HOk P w H h) (e:H a=some o):a<h.objs.size:=(x a o e).lt
theorem HOk.fresh (x:HOk P w H h) (e:h.objs.size<=a):H a=none:=by
 cases q:H a with
 | none=>rfl
 | some u=>exact absurd (Q5 (x.lt q) e) (Qo _)
theorem HOk.kept (x:HOk P w H h) (k:∀ b u,h.get? b=some u->h'.get? b=some u):HOk P w H h':=fun a o e=>
 (x a o e).stay (fun b u _ q=>k b u q) (fun _ q=>q) fun _ _ q=>q
theorem HOk.laid (x:HOk P w H h) (k:∀ b u,h.get? b=some u->h'.get? b=some u) (hp:h.objs.size<=a) (new:ObjOk P w (upd H a o) h' a o):HOk P w (upd H a o) h':=fun b u e=>by
 have hn:=x.fresh hp
 by_cases hb:b=a
 ·subst hb;rw [yE] at e;cases e;exact new
 ·rw [zl hb] at e
  exact (x b u e).stay (fun c v _ q=>k c v q) (fun c q=>by rw [zl (yG q hn)];exact q) fun c xs q=>by rw [zl (yG q hn)];exact q
end
def Rd (H:Hp) (a:Addr) (u:HO):Prop:=H a=some u\/∃ o,H a=some (.frz o u)
theorem Rd.ok {a:Addr} {u:HO} (r:Rd H a u) (x:HOk P w H h):ObjOk P w H h a u:=by
 rcases r with r | ⟨o,r⟩
 ·exact x a u r
 ·obtain ⟨_,q⟩:=x a _ r
  exact q
noncomputable def Mut:Option HO->Prop
 | some (.lst _)=>True
 | some (.dK _)=>True
 | some (.dT _)=>True
 | some (.set _ _)=>True
 | some (.ins _ _ _)=>True
 | some (.ext _)=>True
 | _=>False
section
variable {x e:Addr} {o':HO}
theorem HOk.write (ok:HOk P w H h) (mu:Mut (H x)) (he:e=x\/H e=some (.own x)) (k:∀ b u,b ≠ e->h.get? b=some u->h'.get? b=some u) (heo:∃ u,h'.get? e=some u)
  (new:ObjOk P w (upd H x o') h' x o'):HOk P w (upd H x o') h':=fun b u q=>by
 have nown:∀ c y,H c=some (.own y)->c ≠ x:=fun c y r z=>by subst z;rw [r] at mu;exact mu
 have ntup:∀ c xs,H c=some (.tup xs)->c ≠ x:=fun c xs r z=>by subst z;rw [r] at mu;exact mu
 by_cases hb:b=x
 ·subst hb;rw [yE] at q;cases q;exact new
 ·rw [zl hb] at q
  by_cases hbe:b=e
  ·have q':H b=some (.own x):=by
    rcases he with z | z
    ·exact absurd (hbe.trans z) hb
    ·rw [hbe];exact z
   rw [q] at q';cases q'
   obtain ⟨v,hv⟩:=heo
   exact ⟨v,by rw [hbe];exact hv⟩
  ·refine (ok b u q).stay (fun c v hc r=>k c v ?_ r) (fun c r=>by rw [zl (nown c b r)];exact r) fun c xs r=>by rw [zl (ntup c xs r)];exact r
   rcases hc with rfl | hc
   ·exact hbe
   ·rintro rfl
    rcases he with z | z
    ·exact nown c b hc z
    ·rw [hc] at z;cases z;exact hb rfl
end
structure Un (fs ex:List Addr) (H H':Hp) (h h':Heap):Prop where
 keep:∀ b o,h.get? b=some o->H b=none->b ∉ fs->b ∉ ex->h'.get? b=some o
 slot:∀ b o,h.get? b=some o->H b=none->b ∈ fs->b ∉ ex->∃ sl,h'.get? b=some { o with slots:=sl }
 free:∀ b o,h.get? b=some o->H b=none->b ∉ ex->H' b=none
 there:∀ b o,h.get? b=some o->b ∉ ex->∃ o',h'.get? b=some o'
 tups:∀ b xs,H b=some (.tup xs)->H' b=some (.tup xs)
 frzs:∀ b o u,H b=some (.frz o u)->H' b=some (.frz o u)
 tbls:∀ b ps,H b=some (.tbl ps)->∃ more,H' b=some (.tbl (ps++more))
section
variable {fs fs' ex ex':List Addr} {H1 H2:Hp} {h1 h2:Heap} {a x e:Addr}
theorem Un.any (u:Un fs ex H H1 h h1) {b:Addr} {ob:Obj} (q:h.get? b=some ob) (n:H b=none) (hx:b ∉ ex):∃ sl,h1.get? b=some { ob with slots:=sl }:=by
 by_cases hb:b ∈ fs
 ·exact u.slot b ob q n hb hx
 ·exact ⟨ob.slots,u.keep b ob q n hb hx⟩
theorem Un.kept (k:∀ b u,h.get? b=some u->h'.get? b=some u):Un fs ex H H h h':=
 ⟨fun b ob q _ _ _=>k b ob q,fun b ob q _ _ _=>⟨ob.slots,k b ob q⟩,fun _ _ _ n _=>n,fun b ob q _=>⟨ob,k b ob q⟩,fun _ _ q=>q,fun _ _ _ q=>q,fun _ ps q=>⟨#[],by rw [q];simp⟩⟩
theorem Un.refl:Un fs ex H H h h:=Un.kept fun _ _ q=>q
theorem Un.laid (k:∀ b u,h.get? b=some u->h'.get? b=some u) (hp:h.objs.size<=a) (hn:H a=none):Un fs ex H (upd H a o) h h' where
 keep:=fun b u q _ _ _=>k b u q
 slot:=fun b u q _ _ _=>⟨u.slots,k b u q⟩
 free:=fun b u q n _=>by rw [zl (Qk (Q5 (Qe q) hp))];exact n
 there:=fun b u q _=>⟨u,k b u q⟩
 tups:=fun b xs q=>by rw [zl (yG q hn)];exact q
 frzs:=fun b u xs q=>by rw [zl (yG q hn)];exact q
 tbls:=fun b ps q=>⟨#[],by rw [zl (yG q hn),q];simp⟩
theorem Un.write (mu:Mut (H x)) (he:e=x\/H e=some (.own x)) (k:∀ b u,b ≠ e->h.get? b=some u->h'.get? b=some u) (heo:∃ u,h'.get? e=some u):Un fs ex H (upd H x o) h h':=by
 have hx:∀ b,H b=none->b ≠ x:=fun b n z=>by subst z;rw [n] at mu;exact mu
 have hb:∀ b,H b=none->b ≠ e:=fun b n z=>by
  subst z
  rcases he with r | r
  ·exact hx b n r
  ·rw [n] at r;cases r
 have hm:∀ b u,H b=some u->¬ Mut (some u)->b ≠ x:=fun b u q nm z=>by subst z;rw [q] at mu;exact nm mu
 refine ⟨fun b u q n _ _=>k b u (hb b n) q,fun b u q n _ _=>⟨u.slots,k b u (hb b n) q⟩,fun b u q n _=>by rw [zl (hx b n)];exact n,fun b u q _=>?_,
  fun b xs q=>by rw [zl (hm b _ q fun z=>z)];exact q,fun b u xs q=>by rw [zl (hm b _ q fun z=>z)];exact q,fun b ps q=>⟨#[],by rw [zl (hm b _ q fun z=>z),q];simp⟩⟩
 by_cases hbe:b=e
 ·subst hbe;exact heo
 ·exact ⟨u,k b u hbe q⟩
end
noncomputable def trk (h:Heap) (H:Hp):List Addr:=(List.range h.objs.size).filter fun a=>(H a).isSome
noncomputable def zea (h:Heap) (H:Hp):Heap:=PySem.W.hideAll h (trk h H)
theorem zk9 (h:Heap) (H:Hp):(zea h H).objs.size=h.objs.size:=PySem.W.hideAll_size _ _
theorem zmm {b:Addr} {o:Obj} (e:h.get? b=some o) (n:H b=none):(zea h H).get? b=some o:=
 PySem.W.hideAll_get _ e fun hm=>by
  have q:(H b).isSome=true:=(mem_filter.mp hm).2
  rw [n] at q;simp at q
theorem znK {b:Addr} {o:Obj} (e:(zea h H).get? b=some o):h.get? b=some o/\H b=none:=by
 have e':h.get? b=some o:=PySem.W.of_hideAll (trk h H) e
 refine ⟨e',?_⟩
 cases q:H b with
 | none=>rfl
 | some x=>
  have hm:b ∈ trk h H:=mem_filter.mpr ⟨mem_range.mpr (Qe e'),by simp [q]⟩
  have z:(zea h H).get? b=none:=PySem.W.hideAll_none (trk h H) hm
  rw [z] at e;cases e
noncomputable def zoC (g h:Heap) (L:Addr):List (Addr × Obj):=(List.range h.objs.size).filterMap fun a=>if a=L\/(g.get? a).isSome=true then none else (h.get? a).map fun o=>(a,o)
noncomputable def rest (g h:Heap) (L d:Addr):List (Addr × Obj):=(zoC g h L).filter fun p=>decide (p.1 ≠ d)
structure Mod (K:Frag) (mg:Str->Option Value) (base:Heap):Prop where
 kin:K.In base
 glob:base.Ns mainGlobals mg
 blt:∃ mb,base.Ns builtinsNs mb/\∀ x:Str,x ≠ "__name__"->mb x=bootBuiltins x
 nolimit:base.NoLimit
structure Cx where
 prog:Program
 w:World
 K:Frag
 mg:Str->Option Value
 base:Heap
 A:Around
 N:List Str
 s₀:Shared
 H₀:Hp
 env:Env
 outer:List Env
 stack:List Env
 ex:List Addr
 fn:Str->Bool
 calm:Bool
 pn:List (Addr × Obj)
 xe:Value->Shared->Prop
noncomputable def frs (l:List Env):List Addr:=l.filterMap (·.frame)
noncomputable abbrev Cx.fs (X:Cx):List Addr:=frs X.outer
def Vis (sc:Scope) (x:Str):Prop:=sc.names.lookup x=some .local\/sc.names.lookup x=some .cell\/sc.names.lookup x=some .free
def Loc (sc:Scope) (x:Str):Prop:=sc.names.lookup x=some .local\/sc.names.lookup x=some .cell
def Look (env:Env) (h:Heap) (m:Str->Option Value) (x:Str) (u:Value):Prop:=
 (env.kindOf x=some .local/\m x=some u)\/((env.kindOf x=some .cell\/env.kindOf x=some .free)/\∃ c,env.cells.lookup x=some c/\h.IsCell c (some u))
structure Cx.Ok (X:Cx):Prop where
 mod:Mod X.K X.mg X.base
 kind:X.env.scope.kind = .function
 glob:X.env.globals=mainGlobals
 blt:X.env.builtins=builtinsNs
 above:X.s₀.heap.objs.size<=X.env.locals
 inj:∀ x y c,X.env.cells.lookup x=some c->X.env.cells.lookup y=some c->x=y
 has:∀ x,(X.env.kindOf x=some .cell\/X.env.kindOf x=some .free)->∃ c,X.env.cells.lookup x=some c
 cab:∀ x c,X.fn x=true->X.env.cells.lookup x=some c->X.s₀.heap.objs.size<=c
 hd:X.calm=true->X.A.handled=none
 frames:X.A.frames=some X.stack
 stk:X.stack=X.outer\/(X.stack=X.env::X.outer/\X.env.frame=some X.env.locals)
 exf:∀ b ∈ X.ex,b ≠ X.env.locals/\∀ x c,X.env.cells.lookup x=some c->c ≠ b
 bs:∀ b o,X.base.get? b=some o->X.s₀.heap.get? b=some o/\X.H₀ b=none
 bsz:X.base.objs.size<=X.s₀.heap.objs.size
 noex:∀ b o,X.base.get? b=some o->b ∉ X.ex
 exfs:∀ b ∈ X.ex,b ∉ X.fs
 funs:X.s₀.heap.FunFrames X.base X.outer
 frf:∀ b ∈ X.fs,X.H₀ b=none
structure Inv (X:Cx) (pins:List (Addr × Obj)) (σ:List (Option V)) (H:Hp) (s:Shared):Prop where
 ok:X.Ok
 os:s.os=X.s₀.os
 bare:AllBare s.gens
 base:Un X.fs X.ex X.H₀ H X.s₀.heap s.heap
 loc:∃ m,s.heap.Ns X.env.locals m/\∀ (i:Nat) (x:Str) (v:V),X.N[i]? = some x->σ[i]? = some (some v)->Vis X.env.scope x->∃ u,RelV v u/\Look X.env s.heap m x u
 cell:∀ x c,X.env.cells.lookup x=some c->∃ v,s.heap.IsCell c v
 free:H X.env.locals=none
 freeC:∀ x c,X.env.cells.lookup x=some c->H c=none
 pin:∀ p ∈ X.pn++pins,s.heap.get? p.1=some p.2/\H p.1=none/\p.1 ≠ X.env.locals/\p.1 ∉ X.fs/\∀ v,p.2.data ≠ .cell v
 hok:HOk X.prog X.w H s.heap
 len:σ.length=X.N.length
variable {it:Addr} {A:Around} {g':Array GenState} {X:Cx} {d':Drawn} {pins:List (Addr × Obj)} {ch:List Addr} {N:List Str} {M:Model} {i j t':Nat} {s s':Shared} {x:Str} {v:V} {u:Value} {E:Value->Shared->Prop}
section
variable {σ:List (Option V)}
theorem Cx.Ok.nofr (ok:X.Ok) {b:Addr} {o:Obj} (e:X.base.get? b=some o):b ∉ X.fs:=fun hb=>by
 have:=(ok.funs.mem hb).1
 rw [e] at this;cases this
theorem Inv.bs (I:Inv X pins σ H s):∀ b o,X.base.get? b=some o->s.heap.get? b=some o/\H b=none:=fun b o e=>
 ⟨I.base.keep b o (I.ok.bs b o e).1 (I.ok.bs b o e).2 (I.ok.nofr e) (I.ok.noex b o e),I.base.free b o (I.ok.bs b o e).1 (I.ok.bs b o e).2 (I.ok.noex b o e)⟩
theorem Inv.bk (I:Inv X pins σ H s):∀ b o,X.base.get? b=some o->s.heap.get? b=some o:=fun b o e=>(I.bs b o e).1
theorem Inv.mod (I:Inv X pins σ H s):Mod X.K X.mg X.base:=I.ok.mod
theorem Inv.kIn (I:Inv X pins σ H s):X.K.In s.heap:=I.ok.mod.kin.keeps I.bk
theorem Inv.fr (I:Inv X pins σ H s):∃ m,Fr X.base X.env.locals s.heap m:=
 let ⟨m,hn,_⟩:=I.loc
 ⟨m,hn,I.bk,Qj I.ok.bsz I.ok.above⟩
theorem Inv.lt (I:Inv X pins σ H s):X.env.locals<s.heap.objs.size:=let ⟨_,hn,_⟩:=I.loc;hn.lt
theorem Inv.sz (I:Inv X pins σ H s):X.s₀.heap.objs.size<=s.heap.objs.size:=Qj I.ok.above (Nat.le_of_lt I.lt)
theorem Inv.nofs (I:Inv X pins σ H s) {a:Addr} (h:s.heap.objs.size<=a):a ∉ X.fs:=fun hb=>by
 obtain ⟨_,o,ho,_⟩:=I.ok.funs.mem hb
 exact absurd (Q5 (Qe ho) (Qj I.sz h)) (Qo _)
theorem Inv.cne (I:Inv X pins σ H s):∀ x c,X.env.cells.lookup x=some c->c ≠ X.env.locals:=fun x c e z=>by
 obtain ⟨v,o,ho,hd⟩:=I.cell x c e
 obtain ⟨m,⟨o',es,ep,ho',hd',_⟩,_⟩:=I.loc
 rw [z,ho'] at ho;cases ho;rw [hd'] at hd;cases hd
theorem Inv.funs (I:Inv X pins σ H s):s.heap.FunFrames X.base X.outer:=by
 have all:∀ (l:List Env),(∀ b ∈ frs l,b ∈ X.fs)->X.s₀.heap.FunFrames X.base l->s.heap.FunFrames X.base l:=by
  intro l
  induction l with
  | nil=>intro _ _;trivial
  | cons env r ih=>
   intro hs hl
   obtain ⟨hk,⟨L,o,hf,hn,ho,hd⟩,hr⟩:=hl
   have hL:L ∈ X.fs:=hs L (by unfold frs;rw [filterMap_cons,hf];exact mem_cons_self)
   obtain ⟨sl,e⟩:=I.base.slot L o ho (I.ok.frf L hL) hL fun z=>I.ok.exfs L z hL
   exact ⟨hk,⟨L,_,hf,hn,e,hd⟩,ih (fun b hb=>hs b (by unfold frs;rw [filterMap_cons,hf];exact mem_cons_of_mem _ hb)) hr⟩
 exact all X.outer (fun _ hb=>hb) I.ok.funs
theorem Inv.stack (I:Inv X pins σ H s):s.heap.FunFrames X.base X.stack:=by
 rcases I.ok.stk with e | ⟨e,hf⟩
 ·rw [e];exact I.funs
 ·rw [e]
  obtain ⟨m,hn,_⟩:=I.loc
  refine .cons (by rw [I.ok.kind];decide) hf hn ?_ I.funs
  exact Heap.get?_none_of_le (Qj I.ok.bsz I.ok.above)
theorem Inv.stkSub (I:Inv X pins σ H s):∀ b ∈ frs X.stack,b ∈ X.env.locals::X.fs:=fun b hb=>by
 rcases I.ok.stk with e | ⟨e,hf⟩
 ·rw [e] at hb;exact mem_cons_of_mem _ hb
 ·rw [e] at hb
  unfold frs at hb
  rw [filterMap_cons,hf] at hb
  exact hb
theorem Inv.stkFree (I:Inv X pins σ H s):∀ b ∈ frs X.stack,H b=none:=fun b hb=>by
 rcases QF.mp (I.stkSub b hb) with e | hb
 ·rw [e];exact I.free
 ·obtain ⟨_,o,ho,_⟩:=I.ok.funs.mem hb
  exact I.base.free b o ho (I.ok.frf b hb) fun z=>I.ok.exfs b z hb
theorem Inv.step {t':Nat} {d':Drawn} (I:Inv X pins σ H s)
 (hch:∀ b ∈ ch,(b ∈ X.ex\/X.s₀.heap.objs.size<=b)/\b ≠ X.env.locals/\(∀ x c,X.env.cells.lookup x=some c->c ≠ b)/\∀ p ∈ X.pn++pins,p.1 ≠ b)
 (keep:∀ b o,b ≠ X.env.locals->b ∉ X.fs->b ∉ ch->s.heap.get? b=some o->H b=none->h'.get? b=some o)
 (slot:∀ b o,b ≠ X.env.locals->b ∈ X.fs->b ∉ ch->s.heap.get? b=some o->H b=none->∃ sl,h'.get? b=some { o with slots:=sl }) (free:∀ b o,b ∉ ch->s.heap.get? b=some o->H b=none->H' b=none)
 (there:∀ b o,b ∉ ch->s.heap.get? b=some o->∃ o',h'.get? b=some o')
 (tups:∀ b xs,H b=some (.tup xs)->H' b=some (.tup xs)) (frzs:∀ b o u,H b=some (.frz o u)->H' b=some (.frz o u)) (tbls:∀ b ps,H b=some (.tbl ps)->∃ more,H' b=some (.tbl (ps++more)))
 (ns:∀ m,s.heap.Ns X.env.locals m->h'.Ns X.env.locals m) (hok:HOk X.prog X.w H' h') (hg:AllBare g') :
  Inv X pins σ H' { s with heap:=h',gens:=g',drawn:=d',toks:=t' }:=by
 have neL:∀ b o,X.s₀.heap.get? b=some o->b ≠ X.env.locals:=fun b o e=>Qk (Q5 (Qe e) I.ok.above)
 have neC:∀ b o,X.s₀.heap.get? b=some o->b ∉ X.ex->b ∉ ch:=fun b o e hx hb=>by
  rcases (hch b hb).1 with z | z
  ·exact hx z
  ·exact absurd (Q5 (Qe e) z) (Qo _)
 have cellK:∀ x c,X.env.cells.lookup x=some c->∀ v,s.heap.IsCell c v->h'.IsCell c v:=fun x c e v h9=>by
  obtain ⟨o,ho,hd⟩:=h9
  have nch:c ∉ ch:=fun z=>(hch c z).2.2.1 x c e rfl
  by_cases hc:c ∈ X.fs
  ·obtain ⟨sl,q⟩:=slot c o (I.cne x c e) hc nch ho (I.freeC x c e)
   exact ⟨_,q,hd⟩
  ·exact ⟨o,keep c o (I.cne x c e) hc nch ho (I.freeC x c e),hd⟩
 refine ⟨I.ok,I.os,hg,⟨fun b o e n hb hx=>?_,fun b o e n hb hx=>?_,fun b o e n hx=>?_,fun b o e hx=>?_,fun b xs e=>tups b xs (I.base.tups b xs e),fun b o xs e=>frzs b o xs (I.base.frzs b o xs e),fun b ps e=>?_⟩,?_,fun x c e=>?_,?_,fun x c e=>?_,fun p hp=>?_,hok,I.len⟩
 ·exact keep b o (neL b o e) hb (neC b o e hx) (I.base.keep b o e n hb hx) (I.base.free b o e n hx)
 ·obtain ⟨sl,e1⟩:=I.base.slot b o e n hb hx
  obtain ⟨sl',e2⟩:=slot b _ (neL b o e) hb (neC b o e hx) e1 (I.base.free b o e n hx)
  exact ⟨sl',e2⟩
 ·obtain ⟨o',e1⟩:=I.base.there b o e hx
  exact free b o' (neC b o e hx) e1 (I.base.free b o e n hx)
 ·obtain ⟨o',e1⟩:=I.base.there b o e hx
  exact there b o' (neC b o e hx) e1
 ·obtain ⟨m1,e1⟩:=I.base.tbls b ps e
  obtain ⟨m2,e2⟩:=tbls b _ e1
  exact ⟨m1++m2,by rw [e2,Array.append_assoc]⟩
 ·obtain ⟨m,hn,hl⟩:=I.loc
  refine ⟨m,ns m hn,fun i x v e1 e2 e3=>?_⟩
  obtain ⟨u,r,l⟩:=hl i x v e1 e2 e3
  refine ⟨u,r,?_⟩
  rcases l with l | ⟨k,c,e,z⟩
  ·exact .inl l
  ·exact .inr ⟨k,c,e,cellK x c e _ z⟩
 ·obtain ⟨v,z⟩:=I.cell x c e
  exact ⟨v,cellK x c e v z⟩
 ·obtain ⟨m,⟨o,_,_,ho,_⟩,_⟩:=I.loc
  exact free _ o (fun z=>(hch _ z).2.1 rfl) ho I.free
 ·obtain ⟨v,o,ho,hd⟩:=I.cell x c e
  exact free c o (fun z=>(hch c z).2.2.1 x c e rfl) ho (I.freeC x c e)
 ·obtain ⟨e,n,ne,nf,d⟩:=I.pin p hp
  have nch:p.1 ∉ ch:=fun z=>(hch p.1 z).2.2.2 p hp rfl
  exact ⟨keep p.1 p.2 ne nf nch e n,free p.1 p.2 nch e n,ne,nf,d⟩
theorem Inv.un {t':Nat} (I:Inv X pins σ H s) (u:Un X.fs [] H H' s.heap h') (hok:HOk X.prog X.w H' h'):Inv X pins σ H' { s with heap:=h',toks:=t' }:=by
 obtain ⟨m,⟨o,es,ep,ho,r⟩,_⟩:=id I.loc
 obtain ⟨sl,hL⟩:=u.any ho I.free (by simp)
 exact I.step (g':=s.gens) (d':=s.drawn) (ch:=[]) (fun _ z=>nomatch z) (fun b o _ hb _ e n=>u.keep b o e n hb (by simp)) (fun b o _ hb _ e n=>u.slot b o e n hb (by simp)) (fun b o _ e n=>u.free b o e n (by simp)) (fun b o _ e=>u.there b o e (by simp)) u.tups u.frzs u.tbls (fun m' hm=>by
  obtain ⟨o',es',ep',ho',r'⟩:=hm
  rw [ho] at ho';cases ho'
  exact ⟨_,es',ep',hL,r'⟩) hok I.bare
theorem Inv.call {t':Nat} {d':Drawn} (I:Inv X pins σ H s) (u:Un (frs X.stack) ch H H' s.heap h') (hok:HOk X.prog X.w H' h') (hg:AllBare g')
 (hch:∀ b ∈ ch,(b ∈ X.ex\/X.s₀.heap.objs.size<=b)/\b ≠ X.env.locals/\(∀ x c,X.env.cells.lookup x=some c->c ≠ b)/\∀ p ∈ X.pn++pins,p.1 ≠ b) :
  Inv X pins σ H' { s with heap:=h',gens:=g',drawn:=d',toks:=t' }:=by
 obtain ⟨m,⟨o,es,ep,ho,r⟩,_⟩:=id I.loc
 obtain ⟨sl,hL⟩:=u.any ho I.free fun z=>(hch _ z).2.1 rfl
 exact I.step (ch:=ch) hch (fun b o hL hb hc e n=>u.keep b o e n (fun z=>(QF.mp (I.stkSub b z)).elim hL hb) hc) (fun b o _ _ hc e n=>u.any e n hc) (fun b o hc e n=>u.free b o e n hc) (fun b o hc e=>u.there b o e hc) u.tups u.frzs u.tbls (fun m' hm=>by
  obtain ⟨o',es',ep',ho',r'⟩:=hm
  rw [ho] at ho';cases ho'
  exact ⟨_,es',ep',hL,r'⟩) hok hg
theorem Inv.turned {t':Nat} (I:Inv X pins σ H s) (k:∀ b o,b ≠ it->s.heap.get? b=some o->h'.get? b=some o) (hn:H it=none) (hL:it ≠ X.env.locals)
 (h1:it ∈ X.ex\/X.s₀.heap.objs.size<=it) (h2:∀ x c,X.env.cells.lookup x=some c->c ≠ it) (h3:∀ p ∈ X.pn++pins,p.1 ≠ it):Inv X pins σ H { s with heap:=h',toks:=t' }:=by
 have nit:∀ b u,H b=some u->b ≠ it:=fun b u e z=>by rw [z,hn] at e;cases e
 refine I.step (g':=s.gens) (d':=s.drawn) (ch:=[it]) (fun b hb=>?_) (fun b o _ _ hc e _=>k b o (fun z=>hc (by simp [z])) e) (fun b o _ _ hc e _=>⟨o.slots,k b o (fun z=>hc (by simp [z])) e⟩) (fun _ _ _ _ n=>n)
  (fun b o hc e=>⟨o,k b o (fun z=>hc (by simp [z])) e⟩) (fun _ _ e=>e) (fun _ _ _ e=>e) (fun b ps e=>⟨#[],by rw [e];simp⟩) (fun m hm=>?_) (fun b u e=>?_) I.bare
 ·have e:b=it:=by simpa using hb
  subst e
  exact ⟨h1,hL,h2,h3⟩
 ·obtain ⟨o,es,ep,ho,r⟩:=hm
  exact ⟨o,es,ep,k _ o (Ne.symm hL) ho,r⟩
 ·refine (I.hok b u e).stay (fun c v hc q=>k c v ?_ q) (fun _ q=>q) fun _ _ q=>q
  rcases hc with z | z
  ·rw [z];exact nit b u e
  ·exact nit c _ z
theorem Inv.tok (I:Inv X pins σ H s) (t:Nat):Inv X pins σ H { s with toks:=t }:=I.un (h':=s.heap) (t':=t) Un.refl I.hok
theorem Inv.kept {t':Nat} (I:Inv X pins σ H s) (k:∀ b u,s.heap.get? b=some u->h'.get? b=some u):Inv X pins σ H { s with heap:=h',toks:=t' }:=I.un (Un.kept k) (I.hok.kept k)
theorem Inv.laid {a:Addr} {t':Nat} (I:Inv X pins σ H s) (k:∀ b u,s.heap.get? b=some u->h'.get? b=some u) (hp:s.heap.objs.size<=a) (new:ObjOk X.prog X.w (upd H a o) h' a o) :
  Inv X pins σ (upd H a o) { s with heap:=h',toks:=t' }:=I.un (Un.laid k hp (I.hok.fresh hp)) (I.hok.laid k hp new)
theorem Inv.write {x e:Addr} {t':Nat} (I:Inv X pins σ H s) (mu:Mut (H x)) (he:e=x\/H e=some (.own x)) (k:∀ b u,b ≠ e->s.heap.get? b=some u->h'.get? b=some u) (heo:∃ u,h'.get? e=some u)
 (new:ObjOk X.prog X.w (upd H x o) h' x o):Inv X pins σ (upd H x o) { s with heap:=h',toks:=t' }:=I.un (Un.write mu he k heo) (I.hok.write mu he k heo new)
theorem Inv.pins_of {pins':List (Addr × Obj)} (I:Inv X pins σ H s) (h:∀ p ∈ pins',s.heap.get? p.1=some p.2/\H p.1=none/\p.1 ≠ X.env.locals/\p.1 ∉ X.fs/\∀ v,p.2.data ≠ .cell v):Inv X pins' σ H s:=
 ⟨I.ok,I.os,I.bare,I.base,I.loc,I.cell,I.free,I.freeC,fun p hp=>(mem_append.mp hp).elim (fun z=>I.pin p (mem_append_left _ z)) (h p),I.hok,I.len⟩
theorem zh4 (hN:N.Nodup) (a:N[i]? = some x) (b:N[j]? = some x):i=j:=by
 obtain ⟨h1,e1⟩:=Qx.mp a
 obtain ⟨h2,e2⟩:=Qx.mp b
 exact (List.getElem_inj hN).mp (e1.trans e2.symm)
theorem zkC {Q:Unit->Shared->Prop} (I:Inv X pins σ H s) (hN:X.N.Nodup) (hi:X.N[i]? = some x) (hx:Loc X.env.scope x) (r:RelV v u)
 (h:∀ s',Inv X pins (σ.set i (some v)) H s'->(∃ a,Heap.SameBut a s.heap s'.heap/\(a=X.env.locals\/X.env.cells.lookup x=some a))->Q () s') (hf:X.fn x=true\/X.env.scope.names.lookup x=some .local:=by first | exact .inl rfl | exact .inr rfl | assumption):wpAny M A (storeName X.env x u) Q E s:=by
 obtain ⟨m,hn,hl⟩:=id I.loc
 have hcls:(X.env.scope.kind == .class || (X.env.scope.kind == .module && X.env.locals != X.env.globals))=false:=by rw [I.ok.kind];rfl
 have hiσ:i<σ.length:=by rw [I.len];exact (Qx.mp hi).1
 have cne:=I.cne
 have tracked:∀ {a:Addr} {h':Heap},(∃ o,s.heap.get? a=some o/\H a=none)->Heap.SameBut a s.heap h'->HOk X.prog X.w H h':=fun {a h'} ha hs b ob e=>by
  obtain ⟨_,_,hfree⟩:=ha
  refine (I.hok b ob e).stay (fun c w' hc q=>(hs.2 c ?_).trans q) (fun _ q=>q) fun _ _ q=>q
  rintro rfl
  rcases hc with rfl | hc
  ·rw [hfree] at e;cases e
  ·rw [hfree] at hc;cases hc
 rcases hx with hk | hk
 ·refine wpAny_storeName_local hk hn (fun h' hn' hs=>?_) hcls
  obtain ⟨oL,_,_,hoL,_⟩:=id hn
  refine h _ ⟨I.ok,I.os,I.bare,⟨fun b o e n hb hx=>?_,fun b o e n hb hx=>?_,I.base.free,fun b o e hx=>?_,I.base.tups,I.base.frzs,I.base.tbls⟩,⟨_,hn',fun j y v' e1 e2 e3=>?_⟩,fun y c e=>?_,I.free,I.freeC,fun p hp=>?_,tracked ⟨oL,hoL,I.free⟩ hs,by simpa using I.len⟩ ⟨_,hs,.inl rfl⟩
  ·exact (hs.2 b (Qk (Q5 (Qe e) I.ok.above))).trans (I.base.keep b o e n hb hx)
  ·obtain ⟨sl,e1⟩:=I.base.slot b o e n hb hx
   exact ⟨sl,(hs.2 b (Qk (Q5 (Qe e) I.ok.above))).trans e1⟩
  ·obtain ⟨o',e1⟩:=I.base.there b o e hx
   exact ⟨o',(hs.2 b (Qk (Q5 (Qe e) I.ok.above))).trans e1⟩
  ·by_cases hj:j=i
   ·subst hj
    rw [hi] at e1;cases e1
    rw [List.getElem?_set_self hiσ] at e2
    cases e2
    exact ⟨u,r,.inl ⟨hk,by simp⟩⟩
   ·rw [List.getElem?_set_ne (Ne.symm hj)] at e2
    obtain ⟨u',r',q⟩:=hl j y v' e1 e2 e3
    refine ⟨u',r',?_⟩
    rcases q with ⟨k,e⟩ | ⟨k,c,e,z⟩
    ·refine .inl ⟨k,?_⟩
     have:y ≠ x:=fun e=>hj (zh4 hN e1 (e ▸ hi))
     simp [this,e]
    ·exact .inr ⟨k,c,e,z.sameBut hs (cne y c e)⟩
  ·obtain ⟨w',z⟩:=I.cell y c e
   exact ⟨w',z.sameBut hs (cne y c e)⟩
  ·obtain ⟨e,n,ne,nf,d⟩:=I.pin p hp
   exact ⟨(hs.2 p.1 ne).trans e,n,ne,nf,d⟩
 ·have hfn:X.fn x=true:=by
   rcases hf with z | z
   ·exact z
   ·rw [z] at hk;cases hk
  obtain ⟨c,hc⟩:=I.ok.has x (.inl hk)
  obtain ⟨w',z⟩:=I.cell x c hc
  refine wpAny_storeName_cell I.ok.kind hk hc z (fun h' hc' hs=>?_)
  obtain ⟨oc,hoc,hocd⟩:=id z
  refine h { s with heap:=h' } ⟨I.ok,I.os,I.bare,⟨fun b o e n hb hx=>?_,fun b o e n hb hx=>?_,I.base.free,fun b o e hx=>?_,I.base.tups,I.base.frzs,I.base.tbls⟩,⟨m,hn.sameBut hs (Ne.symm (cne x c hc)),fun j y v' e1 e2 e3=>?_⟩,fun y c' e=>?_,I.free,I.freeC,fun p hp=>?_,tracked ⟨oc,hoc,I.freeC x c hc⟩ hs,by simpa using I.len⟩ ⟨c,hs,.inr hc⟩
  ·exact (hs.2 b (Qk (Q5 (Qe e) (I.ok.cab x c hfn hc)))).trans (I.base.keep b o e n hb hx)
  ·obtain ⟨sl,e1⟩:=I.base.slot b o e n hb hx
   exact ⟨sl,(hs.2 b (Qk (Q5 (Qe e) (I.ok.cab x c hfn hc)))).trans e1⟩
  ·obtain ⟨o',e1⟩:=I.base.there b o e hx
   exact ⟨o',(hs.2 b (Qk (Q5 (Qe e) (I.ok.cab x c hfn hc)))).trans e1⟩
  ·by_cases hj:j=i
   ·subst hj
    rw [hi] at e1;cases e1
    rw [List.getElem?_set_self hiσ] at e2
    cases e2
    exact ⟨u,r,.inr ⟨.inl hk,c,hc,hc'⟩⟩
   ·rw [List.getElem?_set_ne (Ne.symm hj)] at e2
    obtain ⟨u',r',q⟩:=hl j y v' e1 e2 e3
    refine ⟨u',r',?_⟩
    rcases q with q | ⟨k,c',e,z'⟩
    ·exact .inl q
    ·refine .inr ⟨k,c',e,z'.sameBut hs ?_⟩
     rintro rfl
     exact hj (zh4 hN e1 (I.ok.inj _ _ _ e hc ▸ hi))
  ·by_cases hcc:c'=c
   ·subst hcc;exact ⟨_,hc'⟩
   ·obtain ⟨w2,z2⟩:=I.cell y c' e
    exact ⟨w2,z2.sameBut hs hcc⟩
  ·obtain ⟨e,n,ne,nf,d⟩:=I.pin p hp
   refine ⟨(hs.2 p.1 ?_).trans e,n,ne,nf,d⟩
   intro q
   rw [q,hoc] at e
   have q':oc=p.2:=Qd e
   exact d w' (by rw [← q'];exact hocd)
theorem zhH {Q:Unit->Shared->Prop} (I:Inv X pins σ H s) (hN:X.N.Nodup) (hi:X.N[i]? = some x) (hx:Loc X.env.scope x) (r:RelV v u)
 (h:∀ s',Inv X pins (σ.set i (some v)) H s'->Q () s') (hf:X.fn x=true\/X.env.scope.names.lookup x=some .local:=by first | exact .inl rfl | exact .inr rfl | assumption):wpAny M A (storeName X.env x u) Q E s:=
 zkC I hN hi hx r (fun s' I' _=>h s' I') hf
theorem Inv.call' (I:Inv X pins σ H s) (ho:s'.os=s.os) (u:Un (frs X.stack) ch H H' s.heap s'.heap) (hok:HOk X.prog X.w H' s'.heap) (hg:AllBare s'.gens)
 (hch:∀ b ∈ ch,(b ∈ X.ex\/X.s₀.heap.objs.size<=b)/\b ≠ X.env.locals/\(∀ x c,X.env.cells.lookup x=some c->c ≠ b)/\∀ p ∈ X.pn++pins,p.1 ≠ b):Inv X pins σ H' s':=by
 obtain ⟨h',g',d',t',o'⟩:=s'
 have e:o'=s.os:=ho
 subst e
 exact I.call (g':=g') (t':=t') (d':=d') u hok hg hch
end
noncomputable abbrev XK:=Value->Option Addr->Hp->Prop
noncomputable abbrev St:=List (Option V)
noncomputable abbrev VK:=V->Hp->Prop
noncomputable abbrev TE:=St->Hp->VK->Prop
noncomputable abbrev TT:=St->Hp->(Bool->Hp->Prop)->Prop
noncomputable abbrev TA:=St->Hp->(List V->Hp->Prop)->Prop
structure Ends where
 nx:St->Hp->Prop
 rt:VK
 bk:St->Hp->Prop:=fun _ _=>False
 ct:St->Hp->Prop:=fun _ _=>False
noncomputable abbrev TS:=Ends->St->Hp->Prop
def EP (X:Cx) (pins:List (Addr × Obj)) (σ:St) (Q:VK) (u:Value) (s':Shared):Prop:=∃ v H',Inv X pins σ H' s'/\RelV v u/\Q v H'
def TP (X:Cx) (pins:List (Addr × Obj)) (σ:St) (Q:Bool->Hp->Prop) (b:Bool) (s':Shared):Prop:=∃ H',Inv X pins σ H' s'/\Q b H'
def AP (X:Cx) (pins:List (Addr × Obj)) (σ:St) (Q:List V->Hp->Prop) (us:List Value) (s':Shared):Prop:=∃ vs H',Inv X pins σ H' s'/\Vals vs us/\Q vs H'
def SP (X:Cx) (pins:List (Addr × Obj)) (D:Ends) (f:Flow) (s':Shared):Prop:=
 match f with
 | .next=>∃ σ' H',Inv X pins σ' H' s'/\D.nx σ' H'
 | .brk=>∃ σ' H',Inv X pins σ' H' s'/\D.bk σ' H'
 | .cont=>∃ σ' H',Inv X pins σ' H' s'/\D.ct σ' H'
 | .ret u=>∃ v σ' H',Inv X pins σ' H' s'/\RelV v u/\D.rt v H'
def PE (X:Cx) (e:Expr) (t:TE):Prop:=
 ∀ (pins:List (Addr × Obj)) (s:Shared) (σ:St) (H:Hp) (Q:VK),Inv X pins σ H s->t σ H Q->wpAny (model X.prog X.w) X.A (eval e X.env) (EP X pins σ Q) X.xe s
def PT (X:Cx) (e:Expr) (t:TT):Prop:=
 ∀ (pins:List (Addr × Obj)) (s:Shared) (σ:St) (H:Hp) (Q:Bool->Hp->Prop),Inv X pins σ H s->t σ H Q->wpAny (model X.prog X.w) X.A (isTrue e X.env (eval e X.env)) (TP X pins σ Q) X.xe s
def PW (X:Cx) (e:Expr) (t:TT):Prop:=
 ∀ (whole:Sem Value) (pins:List (Addr × Obj)) (s:Shared) (σ:St) (H:Hp) (Q:Bool->Hp->Prop),Inv X pins σ H s->t σ H Q->wpAny (model X.prog X.w) X.A (isTrue e X.env whole) (TP X pins σ Q) X.xe s
variable {e:Expr}
theorem PW.pt {t:TT} (h:PW X e t):PT X e t:=h _
def PA (X:Cx) (es:List Expr) (t:TA):Prop:=
 ∀ (pos:Pos) (pins:List (Addr × Obj)) (s:Shared) (σ:St) (H:Hp) (Q:List V->Hp->Prop),Inv X pins σ H s->t σ H Q->wpAny (model X.prog X.w) X.A (spliced (backTo pos (starEach es X.env))) (AP X pins σ Q) X.xe s
def PS (X:Cx) (st:Stmt) (t:TS):Prop:=
 ∀ (pins:List (Addr × Obj)) (s:Shared) (σ:St) (H:Hp) (D:Ends),Inv X pins σ H s->t D σ H->wpAny (model X.prog X.w) X.A (exec st X.env) (SP X pins D) X.xe s
def PSs (X:Cx) (st:List Stmt) (t:TS):Prop:=
 ∀ (pins:List (Addr × Obj)) (s:Shared) (σ:St) (H:Hp) (D:Ends),Inv X pins σ H s->t D σ H->wpAny (model X.prog X.w) X.A (execs st X.env) (SP X pins D) X.xe s
theorem thn {α:Type} {t:Sem α} {Q Q':α->Shared->Prop} (h:wpAny M A t Q E s) (hQ:∀ a s,Q a s->Q' a s):wpAny M A t Q' E s:=Qg h hQ fun _ _ x=>x
variable {op:CmpOp} {pos:Pos} {σ:St} {t ta tb:TE} {R:V->V->Hp->Prop} {Q:Value->Shared->Prop}
section
theorem bin {a b:Expr} (ha:PE X a ta) (hb:PE X b tb) (I:Inv X pins σ H s) (h:ta σ H fun x H1=>tb σ H1 fun y H2=>R x y H2)
 {α:Type} {Q:α->Shared->Prop} {f:Value->Value->Sem α}
 (hf:∀ v u s2 x y H2,Inv X pins σ H2 s2->RelV x v->RelV y u->R x y H2->wpAny (model X.prog X.w) X.A (f v u) Q X.xe s2) :
  wpAny (model X.prog X.w) X.A (eval a X.env) (fun v s₁=>wpAny (model X.prog X.w) X.A (eval b X.env) (fun u s₂=>wpAny (model X.prog X.w) X.A (f v u) Q X.xe s₂) X.xe s₁) X.xe s:=by
 refine thn (ha pins s σ H _ I h) fun v s1 ⟨x,H1,I1,r1,q1⟩=>?_
 refine thn (hb pins s1 σ H1 _ I1 q1) fun u s2 ⟨y,H2,I2,r2,q2⟩=>?_
 exact hf v u s2 x y H2 I2 r1 r2 q2
noncomputable def zjS (i:Nat):TE:=fun σ H Q=>∃ v,σ[i]? = some (some v)/\Q v H
noncomputable def tC (v:V):TE:=fun _ H Q=>Q v H
theorem zhZ (hN:X.N[i]? = some x) (hv:Vis X.env.scope x) (hd:(x==("__debug__":Str))=false:=by decide) (hcd:(x==("__classdict__":Str))=false:=by decide):PE X (.Name x pos) (zjS i):=by
 apply?
 obtain ⟨v,e,h⟩:=h
 obtain ⟨m,hn,hl⟩:=I.loc
 obtain ⟨u,r,l⟩:=hl i x v hN e hv
 have fin:EP X pins σ Q u s:=⟨v,H,I,r,h⟩
 rcases l with ⟨hk,hm⟩ | ⟨hk,c,hc,hcell⟩
 ·exact wpAny_Name (wpAny_loadName_local I.ok.kind hk hn hm fin) hd
 ·rcases hk with hk | hk
  ·exact wpAny_Name (wpAny_loadName_cell I.ok.kind hk hc hcell fin) hd
  ·exact wpAny_Name (wpAny_loadName_free I.ok.kind hk hc hcell fin hcd) hd
theorem zkP {i j pos}:PE X (.Constant (.int i) j pos) (tC (.int i)):=fun _ _ _ H _ I h=>wpAny_Constant_int ⟨.int i,H,I.tok _,⟨_,rfl⟩,h⟩
theorem zq6 {b j pos}:PE X (.Constant (.bool b) j pos) (tC (.bl b)):=fun _ _ _ H _ I h=>Constant_bool ⟨.bl b,H,I,rfl,h⟩
theorem zpf {j pos}:PE X (.Constant .none j pos) (tC .non):=fun _ _ _ H _ I h=>Constant_none ⟨.non,H,I,rfl,h⟩
theorem zpb {x j pos}:PE X (.Constant (.str x) j pos) (tC (.str x)):=fun _ _ _ H _ I h=>Calls.Constant_str ⟨.str x,H,I.tok _,⟨_,rfl⟩,h⟩
def Gl (X:Cx) (x:Str):Prop:=X.env.kindOf x=some .globalImplicit
theorem zgC (I:Inv X pins σ H s) (hg:Gl X x) (hm:X.mg x=some u) (h:Q u s)
 (hd:(x==("__debug__":Str))=false:=by decide):wpAny (model X.prog X.w) X.A (eval (.Name x pos) X.env) Q E s:=
 Calls.Name_function_global I.ok.kind hg (Calls.loadGlobal_global (by rw [I.ok.glob];exact I.mod.glob.keeps I.bk) hm h) hd
theorem zeC (I:Inv X pins σ H s) (hg:Gl X x) (hm:X.mg x=none) (hv:bootBuiltins x=some u) (h:Q u s)
 (hn:x ≠ "__name__":=by decide) (hd:(x==("__debug__":Str))=false:=by decide):wpAny (model X.prog X.w) X.A (eval (.Name x pos) X.env) Q E s:=by
 obtain ⟨mb,h1,h2⟩:=I.mod.blt
 exact Calls.Name_function_global I.ok.kind hg (Calls.loadGlobal_builtin (by rw [I.ok.glob];exact I.mod.glob.keeps I.bk) hm (by rw [I.ok.blt];exact h1.keeps I.bk) ((h2 x hn).trans hv) h) hd
theorem znv (hg:Gl X x) (hm:X.mg x=some u) (r:RelV v u) (hd:(x==("__debug__":Str))=false:=by decide):PE X (.Name x pos) (tC v):=
 fun _ _ _ H _ I h=>zgC I hg hm ⟨v,H,I,r,h⟩ hd
theorem zny (hg:Gl X x) (hm:X.mg x=none) (hv:bootBuiltins x=some u) (r:RelV v u) (hn:x ≠ "__name__":=by decide) (hd:(x==("__debug__":Str))=false:=by decide):PE X (.Name x pos) (tC v):=
 fun _ _ _ H _ I h=>zeC I hg hm hv ⟨v,H,I,r,h⟩ hn hd
variable {a b:Expr}
def PC (X:Cx) (op:CmpOp) (a b:Expr) (t:TE):Prop:=
 ∀ (pins:List (Addr × Obj)) (s:Shared) (σ:St) (H:Hp) (Q:VK),Inv X pins σ H s->t σ H Q->
  wpAny (model X.prog X.w) X.A (eval a X.env) (fun v s₁=>wpAny (model X.prog X.w) X.A (eval b X.env) (fun u s₂=>wpAny (model X.prog X.w) X.A (compareOp op v u) (EP X pins σ Q) X.xe s₂) X.xe s₁) X.xe s
theorem zl9 (b:Expr) (h:op ≠ .In) (h2:op ≠ .NotIn):behindInMarks op b=false:=by
 have e1:(op==CmpOp.In)=false:=by cases op <;> first | rfl | exact absurd rfl h
 have e2:(op==CmpOp.NotIn)=false:=by cases op <;> first | rfl | exact absurd rfl h2
 cases b <;> simp [behindInMarks,e1,e2]
noncomputable def tB (t:TE):TT:=fun σ H Q=>t σ H fun x H1=>∃ c,x = .bl c/\Q c H1
theorem zsC (h:PC X op a b t) (h1:behindInMarks op b=false:=by first | exact zl9 _ (by decide) (by decide) | rfl):PT X (.Compare a [op] [b] pos) (tB t):=by
 intro pins s σ H Q I hw
 refine wpAny_isTrue_Compare1 (thn (h pins s σ H _ I hw) fun v s1 h1=>thn h1 fun u s2 h2=>thn h2 fun c s3 ⟨x,H1,I1,r1,q1⟩=>?_) h1
 obtain ⟨d,rfl,q⟩:=q1
 cases r1
 exact wpAny_truthy_bool ⟨H1,I1,q⟩
theorem zo1 (h:PE X e t) (he:∀ whole,isTrue e X.env whole=(do let v ← whole;standAt e.pos;holding [v] (truthy v)):=by intro _;rfl):PT X e (tB t):=by
 intro pins s σ H Q I hw
 refine isTrue_plain (thn (h pins s σ H _ I hw) fun v s1 ⟨x,H1,I1,r1,q1⟩=>?_) (he _)
 obtain ⟨d,rfl,q⟩:=q1
 cases r1
 exact wpAny_truthy_bool ⟨H1,I1,q⟩
variable {tA tB':TT} {rest:List Expr}
noncomputable def zrR (t u:TT):TT:=fun σ H Q=>t σ H fun c H1=>if c=true then u σ H1 Q else Q false H1
noncomputable def tOr (t u:TT):TT:=fun σ H Q=>t σ H fun c H1=>if c=true then Q true H1 else u σ H1 Q
noncomputable def zrK (t:TT):TT:=fun σ H Q=>t σ H fun c H1=>Q (!c) H1
theorem znh (ha:PT X a tA):PW X (.BoolOp .And [a] pos) tA:=by
 intro wh pins s σ H Q I h
 refine isTrue_and (thn (ha pins s σ H Q I h) fun c s1 e=>?_)
 cases c with
 | true=>exact isTrue_and_nil e
 | false=>exact e
theorem zoZ (ha:PT X a tA):PW X (.BoolOp .Or [a] pos) tA:=by
 intro wh pins s σ H Q I h
 refine isTrue_or (thn (ha pins s σ H Q I h) fun c s1 e=>?_)
 cases c with
 | false=>exact isTrue_or_nil e
 | true=>exact e
theorem zo0 (ha:PT X a tA) (hb:PW X (.BoolOp .And (b::rest) pos) tB'):PW X (.BoolOp .And (a::b::rest) pos) (zrR tA tB'):=by
 intro wh pins s σ H Q I h
 refine isTrue_and (thn (ha pins s σ H _ I h) fun c s1 ⟨H1,I1,q1⟩=>?_)
 cases c with
 | true=>exact hb wh pins s1 σ H1 Q I1 q1
 | false=>exact ⟨H1,I1,q1⟩
theorem zq0 (ha:PT X a tA) (hb:PW X (.BoolOp .Or (b::rest) pos) tB'):PW X (.BoolOp .Or (a::b::rest) pos) (tOr tA tB'):=by
 intro wh pins s σ H Q I h
 refine isTrue_or (thn (ha pins s σ H _ I h) fun c s1 ⟨H1,I1,q1⟩=>?_)
 cases c with
 | true=>exact ⟨H1,I1,q1⟩
 | false=>exact hb wh pins s1 σ H1 Q I1 q1
theorem zo2 (ha:PT X a tA):PT X (.UnaryOp .Not a pos) (zrK tA):=by
 apply?
 exact isTrue_not (ha pins s σ H (fun c H1=>Q (!c) H1) I h)
noncomputable def zqQ (ta tb:TE):TE:=fun σ H Q=>ta σ H fun x H1=>∃ c,x = .bl c/\if c=true then tb σ H1 Q else Q (.bl false) H1
noncomputable def zrJ (ta tb:TE):TE:=fun σ H Q=>ta σ H fun x H1=>∃ c,x = .bl c/\if c=true then Q (.bl true) H1 else tb σ H1 Q
noncomputable def zqK (ta:TE):TE:=fun σ H Q=>ta σ H fun x H1=>∃ c,x = .bl c/\Q (.bl (!c)) H1
theorem zpd {op} (h:PE X a t):PE X (.BoolOp op [a] pos) t:=fun pins s σ H Q I hw=>BoolOp_one (h pins s σ H Q I hw)
theorem zpk (ha:PE X a ta) (hb:PE X (.BoolOp .And (b::rest) pos) tb):PE X (.BoolOp .And (a::b::rest) pos) (zqQ ta tb):=by
 apply?
 refine BoolOp_and (thn (ha pins s σ H _ I h) fun v s1 ⟨x,H1,I1,r1,q1⟩=>?_)
 obtain ⟨c,rfl,q1⟩:=q1
 cases r1
 refine wpAny_truthy_bool ?_
 cases c with
 | true=>exact hb pins s1 σ H1 Q I1 q1
 | false=>exact ⟨.bl false,H1,I1,rfl,q1⟩
theorem zq4 (ha:PE X a ta) (hb:PE X (.BoolOp .Or (b::rest) pos) tb):PE X (.BoolOp .Or (a::b::rest) pos) (zrJ ta tb):=by
 apply?
 refine BoolOp_or (thn (ha pins s σ H _ I h) fun v s1 ⟨x,H1,I1,r1,q1⟩=>?_)
 obtain ⟨c,rfl,q1⟩:=q1
 cases r1
 refine wpAny_truthy_bool ?_
 cases c with
 | false=>exact hb pins s1 σ H1 Q I1 q1
 | true=>exact ⟨.bl true,H1,I1,rfl,q1⟩
theorem zpe (ha:PE X a ta):PE X (.UnaryOp .Not a pos) (zqK ta):=by
 apply?
 refine UnaryOp_ (thn (ha pins s σ H _ I h) fun v s1 ⟨x,H1,I1,r1,q1⟩=>?_)
 obtain ⟨c,rfl,q1⟩:=q1
 cases r1
 exact not_of (wpAny_truthy_bool ⟨.bl (!c),H1,I1,rfl,q1⟩)
noncomputable def tIf (t:TT) (ta tb:TE):TE:=fun σ H Q=>t σ H fun c H1=>if c=true then ta σ H1 Q else tb σ H1 Q
theorem zl1 {c:Expr} (hc:PT X c tA) (ha:PE X a ta) (hb:PE X b tb):PE X (.IfExp c a b pos) (tIf tA ta tb):=by
 apply?
 refine wpAny_IfExp (thn (hc pins s σ H _ I h) fun d s1 ⟨H1,I1,q1⟩=>?_)
 cases d with
 | true=>exact ha pins s1 σ H1 Q I1 q1
 | false=>exact hb pins s1 σ H1 Q I1 q1
end
def SqL (K:Frag) (H:Hp) (a:Addr) (xs:List V):Prop:=
 Rd H a (.lst xs) \/
  ∃ (o:Obj) (its:Array Value) (n:Nat),K.lookup a=some o/\o.cls = .type "list"/\o.dict=none/\o.data = .seq its n/\its.size<=sizeLine/\Vals xs its.toList
def SqT (K:Frag) (H:Hp) (a:Addr) (xs:List V):Prop:=
 Rd H a (.tup xs) \/
  ∃ (o:Obj) (its:Array Value) (n:Nat),K.lookup a=some o/\o.cls = .type "tuple"/\o.dict=none/\o.data = .seq its n/\its.size<=sizeLine/\Vals xs its.toList
noncomputable def zsm:Value->Option V
 | .none=>some .non
 | .bool b=>some (.bl b)
 | .int i _=>some (.int i)
 | .str x _=>some (.str x)
 | .bytes b _=>some (.byt b)
 | .float b _=>some (.flt b)
 | .ref a=>some (.ref a)
 | .type n=>some (.ty n)
 | _=>none
theorem RelV.abs {x:V} (r:RelV x u):zsm u=some x:=by
 cases x with
 | non=>cases r;rfl
 | bl _=>cases r;rfl
 | int _=>obtain ⟨t,rfl⟩:=r;rfl
 | str _=>obtain ⟨t,rfl⟩:=r;rfl
 | byt _=>obtain ⟨t,rfl⟩:=r;rfl
 | flt _=>obtain ⟨t,rfl⟩:=r;rfl
 | ref _=>cases r;rfl
 | ty _=>cases r;rfl
variable {y:V}
theorem RelV.inj {x:V} (r:RelV x u) (q:RelV y u):x=y:=Qd (r.abs.symm.trans q.abs)
theorem Vals.inj:∀ {xs ys:List V} {us:List Value},Vals xs us->Vals ys us->xs=ys
 | _,_,_,.nil,.nil=>rfl
 | _,_,_,.cons r t,.cons r' t'=>by rw [r.inj r',Vals.inj t t']
section
variable {a:Addr} {ys:List V}
theorem Inv.list (I:Inv X pins σ H s) (h:SqL X.K H a xs):∃ its:List Value,Vals xs its/\PlainL s.heap a its.toArray/\xs.length<=sizeLine:=by
 rcases h with h | ⟨o,its,n,hk,hc,hd,hs,hz,r⟩
 ·obtain ⟨z,its,n,r,e⟩:=h.ok I.hok
  exact ⟨its,r,⟨_,n,e,rfl,rfl,rfl⟩,z⟩
 ·refine ⟨its.toList,r,⟨o,n,I.kIn a o hk,hc,hd,by simpa using hs⟩,?_⟩
  have e:=r.length
  simp only [Array.length_toList] at e
  omega
theorem Inv.tuple (I:Inv X pins σ H s) (h:SqT X.K H a xs):∃ its:List Value,Vals xs its/\IsTup s.heap a its.toArray/\xs.length<=sizeLine:=by
 rcases h with h | ⟨o,its,n,hk,hc,_,hs,hz,r⟩
 ·obtain ⟨z,its,r,p,_⟩:=h.ok I.hok
  exact ⟨its,r,p,z⟩
 ·refine ⟨its.toList,r,⟨o,I.kIn a o hk,hc,n,by simpa using hs⟩,?_⟩
  have e:=r.length
  simp only [Array.length_toList] at e
  omega
theorem Inv.list_inj (I:Inv X pins σ H s) (h:SqL X.K H a xs) (h':SqL X.K H a ys):xs=ys:=by
 obtain ⟨its,r,⟨o,n,e,_,_,d⟩,_⟩:=I.list h
 obtain ⟨its',r',⟨o',n',e',_,_,d'⟩,_⟩:=I.list h'
 rw [e] at e';cases e'
 rw [d] at d'
 injection d' with d1 _
 have:its=its':=by simpa using congrArg Array.toList d1
 subst this
 exact r.inj r'
theorem Inv.tuple_inj (I:Inv X pins σ H s) (h:SqT X.K H a xs) (h':SqT X.K H a ys):xs=ys:=by
 obtain ⟨its,r,⟨o,e,_,n,d⟩,_⟩:=I.tuple h
 obtain ⟨its',r',⟨o',e',_,n',d'⟩,_⟩:=I.tuple h'
 rw [e] at e';cases e'
 rw [d] at d'
 injection d' with d1 _
 have:its=its':=by simpa using congrArg Array.toList d1
 subst this
 exact r.inj r'
end
noncomputable abbrev Cx.wish (X:Cx) (E:Value->Shared->Prop):Cx:={ X with xe:=E }
noncomputable abbrev Cx.nox (X:Cx):Cx:=X.wish fun _ _=>False
theorem Cx.Ok.wish (ok:X.Ok) (E:Value->Shared->Prop):(X.wish E).Ok:=
 ⟨ok.mod,ok.kind,ok.glob,ok.blt,ok.above,ok.inj,ok.has,ok.cab,ok.hd,ok.frames,ok.stk,ok.exf,ok.bs,ok.bsz,ok.noex,ok.exfs,ok.funs,ok.frf⟩
theorem Cx.Ok.unwish (ok:(X.wish E).Ok):X.Ok:=
 ⟨ok.mod,ok.kind,ok.glob,ok.blt,ok.above,ok.inj,ok.has,ok.cab,ok.hd,ok.frames,ok.stk,ok.exf,ok.bs,ok.bsz,ok.noex,ok.exfs,ok.funs,ok.frf⟩
section
theorem Inv.wish (I:Inv X pins σ H s) (E:Value->Shared->Prop):Inv (X.wish E) pins σ H s:=⟨I.ok.wish E,I.os,I.bare,I.base,I.loc,I.cell,I.free,I.freeC,I.pin,I.hok,I.len⟩
theorem Inv.unwish (I:Inv (X.wish E) pins σ H s):Inv X pins σ H s:=⟨I.ok.unwish,I.os,I.bare,I.base,I.loc,I.cell,I.free,I.freeC,I.pin,I.hok,I.len⟩
theorem SP.unwish {D:Ends} {f:Flow} (h:SP (X.wish E) pins D f s'):SP X pins D f s':=by
 cases f with
 | next=>obtain ⟨σ',H',I,q⟩:=h;exact ⟨σ',H',I.unwish,q⟩
 | brk=>obtain ⟨σ',H',I,q⟩:=h;exact ⟨σ',H',I.unwish,q⟩
 | cont=>obtain ⟨σ',H',I,q⟩:=h;exact ⟨σ',H',I.unwish,q⟩
 | ret u=>obtain ⟨v,σ',H',I,r,q⟩:=h;exact ⟨v,σ',H',I.unwish,r,q⟩
theorem PE.nox (h:PE X.nox e t):PE X e t:=fun pins s σ H Q I hw=>
 Qg (h pins s σ H Q (I.wish _) hw) (fun _ _ ⟨v,H',I',r,q⟩=>⟨v,H',I'.unwish,r,q⟩) fun _ _ z=>False.elim z
theorem PT.nox {t:TT} (h:PT X.nox e t):PT X e t:=fun pins s σ H Q I hw=>
 Qg (h pins s σ H Q (I.wish _) hw) (fun _ _ ⟨H',I',q⟩=>⟨H',I'.unwish,q⟩) fun _ _ z=>False.elim z
theorem PSs.nox {st:List Stmt} {t:TS} (h:PSs X.nox st t):PSs X st t:=fun pins s σ H D I hw=>
 Qg (h pins s σ H D (I.wish _) hw) (fun _ _ q=>q.unwish) fun _ _ z=>False.elim z
end
variable {te:TE} {tc:TT}
section
variable {st:Stmt} {rest:List Stmt} {t u:TS}
noncomputable def zqL:TS:=fun D σ H=>D.nx σ H
noncomputable def zrH (t u:TS):TS:=fun D σ H=>t { D with nx:=u D } σ H
theorem znn:PSs X [] zqL:=fun _ _ σ H _ I h=>wpAny_execs_nil ⟨σ,H,I,h⟩
theorem zlY (h1:PS X st t) (h2:PSs X rest u):PSs X (st::rest) (zrH t u):=by
 intro pins s σ H D I h
 refine wpAny_execs_cons (thn (h1 pins s σ H { D with nx:=u D } I h) fun f s1 q=>?_)
 cases f with
 | next=>
  obtain ⟨σ',H',I',q⟩:=q
  exact h2 pins s1 σ' H' D I' q
 | ret v=>exact q
 | brk=>exact q
 | cont=>exact q
theorem zjd (h1:PS X st t):PSs X [st] t:=by
 intro pins s σ H D I h
 refine wpAny_execs_cons (thn (h1 pins s σ H D I h) fun f s1 q=>?_)
 cases f with
 | next=>exact wpAny_execs_nil q
 | ret v=>exact q
 | brk=>exact q
 | cont=>exact q
theorem Inv.quiet (I:Inv X pins σ H s):interactive X.env=false:=by simp [interactive,I.ok.kind]
noncomputable def zqN (te:TE):TS:=fun D σ H=>te σ H fun _ H1=>D.nx σ H1
theorem zno (he:PE X e te) (hs:swapsWith e none pos.line X.env=pure false:=by rfl):PS X (.Expr e pos) (zqN te):=by
 intro pins s σ H D I h
 exact wpAny_Expr_any (thn (he pins s σ H _ I h) fun v s1 ⟨x,H1,I1,r1,q1⟩=>⟨σ,H1,I1,q1⟩) I.quiet hs
noncomputable def zrI (te:TE):TS:=fun D σ H=>te σ H D.rt
theorem zo5 (he:PE X e te):PS X (.Return (some e) pos) (zrI te):=by
 intro pins s σ H D I h
 exact wpAny_Return_some (thn (he pins s σ H _ I h) fun v s1 ⟨x,H1,I1,r1,q1⟩=>⟨x,σ,H1,I1,r1,q1⟩)
noncomputable def zrN (c:TT) (t u:TS):TS:=fun D σ H=>c σ H fun b H1=>if b=true then t D σ H1 else u D σ H1
theorem zq1 {c:Expr} {a b:List Stmt} (hc:PT X c tc) (ha:PSs X a t) (hb:PSs X b u):PS X (.If c a b pos) (zrN tc t u):=by
 intro pins s σ H D I h
 refine wpAny_If (thn (hc pins s σ H _ I h) fun d s1 ⟨H1,I1,q1⟩=>?_)
 cases d with
 | true=>exact ha pins s1 σ H1 D I1 q1
 | false=>exact hb pins s1 σ H1 D I1 q1
end
noncomputable abbrev TG:=V->St->Hp->(St->Hp->Prop)->Prop
noncomputable abbrev TGs:=List V->St->Hp->(St->Hp->Prop)->Prop
def PG (X:Cx) (target:Expr) (t:TG):Prop:=
 ∀ (pins:List (Addr × Obj)) (s:Shared) (σ:St) (H:Hp) (v:V) (u:Value) (Q:St->Hp->Prop),Inv X pins σ H s->RelV v u->t v σ H Q->
  wpAny (model X.prog X.w) X.A (assign target X.env u) (fun _ s'=>∃ σ' H',Inv X pins σ' H' s'/\Q σ' H') X.xe s
def PGs (X:Cx) (ts:List Expr) (t:TGs):Prop:=
 ∀ (pins:List (Addr × Obj)) (s:Shared) (σ:St) (H:Hp) (vs:List V) (us:List Value) (Q:St->Hp->Prop),Inv X pins σ H s->Vals vs us->t vs σ H Q->
  wpAny (model X.prog X.w) X.A (assignInOrder ((assignEach ts X.env).map (·.2)) us) (fun _ s'=>∃ σ' H',Inv X pins σ' H' s'/\Q σ' H') X.xe s
noncomputable abbrev zgP:=V->V->V->Hp->(Hp->Prop)->Prop
def zek (X:Cx) (t:zgP):Prop:=
 ∀ (pins:List (Addr × Obj)) (s:Shared) (σ:St) (H:Hp) (o i v:V) (ov iv u:Value) (Q:Hp->Prop),Inv X pins σ H s->RelV o ov->RelV i iv->RelV v u->t o i v H Q->
  wpAny (model X.prog X.w) X.A (setItem ov iv u) (fun _ s'=>∃ H',Inv X pins σ H' s'/\Q H') X.xe s
noncomputable abbrev TIp:=V->V->Hp->VK->Prop
def PIp (X:Cx) (op:Operator) (t:TIp):Prop:=
 ∀ (pins:List (Addr × Obj)) (s:Shared) (σ:St) (H:Hp) (x y:V) (v u:Value) (Q:VK),Inv X pins σ H s->RelV x v->RelV y u->t x y H Q->
  wpAny (model X.prog X.w) X.A (inplaceOp op v u) (EP X pins σ Q) X.xe s
variable {tg:Expr} {es:List Expr} {pos' tpos:Pos} {ti to:TE} {g:TG}
section
noncomputable def zhs (i:Nat):TG:=fun v σ H Q=>Q (σ.set i (some v)) H
theorem yr (hN:X.N.Nodup) (hi:X.N[i]? = some x) (hx:Loc X.env.scope x) (hf:X.fn x=true\/X.env.scope.names.lookup x=some .local:=by first | exact .inl rfl | exact .inr rfl | assumption):PG X (.Name x pos) (zhs i):=by
 intro pins s σ H v u Q I r h
 exact wpAny_assign_Name (zhH I hN hi hx r (fun s' I'=>⟨_,H,I',h⟩) hf)
noncomputable def zsf:TGs:=fun vs σ H Q=>vs=[]/\Q σ H
noncomputable def zkd (t:TG) (u:TGs):TGs:=fun vs σ H Q=>∃ v r,vs=v::r/\t v σ H fun σ' H'=>u r σ' H' Q
theorem znt:PGs X [] zsf:=by
 intro pins s σ H vs us Q I r h
 obtain ⟨e,h⟩:=h
 subst e
 cases r
 exact assignInOrder_nil ⟨σ,H,I,h⟩
theorem yJ {t:TG} {u:TGs} (h1:PG X e t) (h2:PGs X es u)
 (hs:(assignEach (e::es) X.env).map (·.2)=assign e X.env::(assignEach es X.env).map (·.2):=by rfl):PGs X (e::es) (zkd t u):=by
 intro pins s σ H vs us Q I r h
 obtain ⟨v,vr,e1,h⟩:=h
 subst e1
 cases r with
 | cons r rr=>
  rw [hs]
  refine assignInOrder_cons (thn (h1 pins s σ H _ _ _ I r h) fun _ s1 ⟨σ1,H1,I1,q1⟩=>?_)
  exact h2 pins s1 σ1 H1 _ _ Q I1 rr q1
noncomputable def zmy (K:Frag) (n:Nat) (t:TGs):TG:=fun v σ H Q=>∃ a xs,v = .ref a/\SqT K H a xs/\xs.length=n/\t xs σ H Q
theorem zfR {k:Nat} {t:TGs} (hc:X.calm=true) (h:PGs X es t)
 (hn:(assignEach es X.env).length=n:=by rfl) (hst:(assignEach es X.env).findIdx? (·.1)=none:=by rfl):PG X (.Tuple es k pos) (zmy X.K n t):=by
 intro pins s σ H v u Q I r hw
 obtain ⟨a,xs,e1,hq,hl,hw⟩:=hw
 subst e1
 cases r
 obtain ⟨its,rv,ht,hz⟩:=I.tuple hq
 refine assign_Tuple_tuple (I.ok.hd hc) ht (by simp [hn,← hl,rv.length]) hst fun h' hx=>?_
 have I1:Inv X pins σ H { s with heap:=h' }:=I.kept (t':=s.toks) fun b o e=>hx b o (Qk (Qe e)) e
 exact h pins _ σ H xs _ Q I1 (by simpa using rv) hw
noncomputable def zse (to ti:TE) (t:zgP):TG:=fun v σ H Q=>to σ H fun o H1=>ti σ H1 fun i H2=>t o i v H2 fun H3=>Q σ H3
theorem zo9 {o i:Expr} {t:zgP} (ho:PE X o to) (hi:PE X i ti) (hs:zek X t)
 (ha:∀ v,assign (.Subscript o i pos) X.env v=(do
 let ov ← holding [v] (eval o X.env)
 let iv ← holding [v,ov] (eval i X.env)
 standAt pos
 holding [v,ov,iv] (setItem ov iv v)
 release [v,ov,iv] []):=by intro _;rfl):PG X (.Subscript o i pos) (zse to ti t):=by
 intro pins s σ H v u Q I r h
 rw [ha]
 refine Q1 (wpAny_holding (thn (ho pins s σ H _ I h) fun ov s1 ⟨x,H1,I1,r1,q1⟩=>?_))
 refine Q1 (wpAny_holding (thn (hi pins s1 σ H1 _ I1 q1) fun iv s2 ⟨y,H2,I2,r2,q2⟩=>?_))
 refine Q1 (wpAny_standAt (Q1 (wpAny_holding (thn (hs pins s2 σ H2 x y v ov iv u _ I2 r1 r2 r q2) fun _ s3 ⟨H3,I3,q3⟩=>?_))))
 exact wpAny_release ⟨σ,H3,I3,q3⟩
noncomputable def zoL (te:TE) (g:TG):TS:=fun D σ H=>te σ H fun x H1=>g x σ H1 D.nx
theorem zo7 (he:PE X e te) (hg:PG X tg g) (hs:swapsWithSole [tg] e pos.line X.env=pure false:=by rfl) (hw:swappedStores [tg] e X.env=pure none:=by rfl)
 (h1:(assignEach [tg] X.env).map (·.2)=[assign tg X.env]:=by rfl):PS X (.Assign [tg] e pos) (zoL te g):=by
 intro pins s σ H D I h
 refine wpAny_Assign_stores (thn (he pins s σ H _ I h) fun v s1 ⟨x,H1,I1,r1,q1⟩=>?_) hs hw
 rw [h1]
 exact thn (hg pins s1 σ H1 x v _ I1 r1 q1) fun _ s2 q=>q
theorem zo4 (hN:X.N.Nodup) (hi:X.N[i]? = some x) (hx:Loc X.env.scope x) (he:PE X e te) (hs:swapsWith e (some (.Name x pos')) pos.line X.env=pure false:=by rfl) (hf:X.fn x=true\/X.env.scope.names.lookup x=some .local:=by first | exact .inl rfl | exact .inr rfl | assumption) :
  PS X (.Assign [.Name x pos'] e pos) (zoL te (zhs i)):=by
 intro pins s σ H D I h
 refine wpAny_Assign_Name (thn (he pins s σ H _ I h) fun v s1 ⟨y,H1,I1,r1,q1⟩=>?_) hs
 exact zhH I1 hN hi hx r1 (fun s2 I2=>⟨_,H1,I2,q1⟩) hf
noncomputable def zqP (to ti te:TE) (tget:V->V->Hp->VK->Prop) (tip:TIp) (tset:zgP):TS:=fun D σ H=>to σ H fun o H1=>ti σ H1 fun i H2=>tget o i H2 fun x H3=>te σ H3 fun y H4=>tip x y H4 fun z H5=>tset o i z H5 fun H6=>D.nx σ H6
def ziN (X:Cx) (t:V->V->Hp->VK->Prop):Prop:=
 ∀ (pins:List (Addr × Obj)) (s:Shared) (σ:St) (H:Hp) (o i:V) (ov iv:Value) (Q:VK),Inv X pins σ H s->RelV o ov->RelV i iv->t o i H Q->
  wpAny (model X.prog X.w) X.A (getItem ov iv) (EP X pins σ Q) X.xe s
theorem znp {o i:Expr} {tget:V->V->Hp->VK->Prop} {tip:TIp} {tset:zgP} {op:Operator} (ho:PE X o to) (hi:PE X i ti) (hg:ziN X tget) (he:PE X e te) (hp:PIp X op tip) (hs:zek X tset)
 (ha:∀ ov iv new,augStore i ov iv new=(do holding [new,ov,iv] (setItem ov iv new);release [new,ov,iv] [];pure .next):=by intros;rfl):PS X (.AugAssign (.Subscript o i tpos) op e pos) (zqP to ti te tget tip tset):=by
 intro pins s σ H D I h
 refine wpAny_AugAssign_SubscriptAny (thn (ho pins s σ H _ I h) fun ov s1 ⟨x1,H1,I1,r1,q1⟩=>?_) ha
 refine thn (hi pins s1 σ H1 _ I1 q1) fun iv s2 ⟨x2,H2,I2,r2,q2⟩=>?_
 refine thn (hg pins s2 σ H2 x1 x2 ov iv _ I2 r1 r2 q2) fun old s3 ⟨x3,H3,I3,r3,q3⟩=>?_
 refine thn (he pins s3 σ H3 _ I3 q3) fun v s4 ⟨x4,H4,I4,r4,q4⟩=>?_
 refine thn (hp pins s4 σ H4 x3 x4 old v _ I4 r3 r4 q4) fun new s5 ⟨x5,H5,I5,r5,q5⟩=>?_
 exact thn (hs pins s5 σ H5 x1 x2 x5 ov iv new _ I5 r1 r2 r5 q5) fun _ s6 ⟨H6,I6,q6⟩=>⟨σ,H6,I6,q6⟩
noncomputable def ipI (f:Int->Int->Int):TIp:=fun x y H Q=>∃ i j,x = .int i/\y = .int j/\Q (.int (f i j)) H
theorem zpR:PIp X .Add (ipI fun i j=>i+j):=by
 intro pins s σ H x y v u Q I r1 r2 h
 obtain ⟨i,j,e1,e2,q⟩:=h
 subst e1;subst e2
 obtain ⟨t,rfl⟩:=r1
 obtain ⟨t',rfl⟩:=r2
 exact iadd_int ⟨.int _,H,I.tok _,⟨_,rfl⟩,q⟩
end
variable {body:List Stmt}
section
noncomputable def zoI (c:TT) (tb:TS):TS:=fun D σ H=>∃ W:Nat->St->Hp->Prop,(∃ m,W m σ H)/\∀ m σ H,W m σ H->
 c σ H fun b H1=>if b=true then ∃ N:St->Hp->Prop,(∀ σ' H',N σ' H'->∃ m',m'<m/\W m' σ' H')/\tb { D with nx:=N,ct:=N,bk:=D.nx } σ H1 else D.nx σ H1
theorem zlZ {c:Expr} {tb:TS} (hp:PassesOwn (model X.prog X.w) X.A X.env X.xe) (hc:PT X c tc) (hb:PSs X body tb):PS X (.While c body [] pos) (zoI tc tb):=by
 intro pins s σ H D I h
 obtain ⟨W,⟨m0,w0⟩,turn⟩:=h
 refine wpAny_While (codeAny_whileLoop (fun n s'=>∃ σ' H',Inv X pins σ' H' s'/\W n σ' H') ?_ m0 ⟨σ,H,I,w0⟩)
 rintro n s1 ⟨σ1,H1,I1,w1⟩
 refine wpAny_passesOwn hp (thn (hc pins s1 σ1 H1 _ I1 (turn n σ1 H1 w1)) fun b s2 ⟨H2,I2,q2⟩=>?_)
 cases b with
 | true=>
  obtain ⟨N,hN,q2⟩:=q2
  rw [Qy rfl]
  refine wpAny_passesOwn hp (thn (hb pins s2 σ1 H2 _ I2 q2) fun f s3 q3=>?_)
  cases f with
  | next=>
   obtain ⟨σ3,H3,I3,n3⟩:=q3
   obtain ⟨m',hm,w3⟩:=hN σ3 H3 n3
   exact ⟨m',hm,σ3,H3,I3,w3⟩
  | cont=>
   obtain ⟨σ3,H3,I3,n3⟩:=q3
   obtain ⟨m',hm,w3⟩:=hN σ3 H3 n3
   exact ⟨m',hm,σ3,H3,I3,w3⟩
  | brk=>exact q3
  | ret v=>exact q3
 | false=>
  rw [Qz Q4]
  exact wpAny_execs_nil ⟨σ1,H2,I2,q2⟩
end
structure It where
 go:Nat->Hp->Prop
 yld:Nat->Hp->V->Hp->Prop
 stop:Nat->Hp->Prop
def zfI (X:Cx) (pins:List (Addr × Obj)) (H:Hp) (b:Addr):Prop:=
 H b=none/\b ≠ X.env.locals/\b ∉ X.fs/\(b ∈ X.ex\/X.s₀.heap.objs.size<=b)/\(∀ x c,X.env.cells.lookup x=some c->c ≠ b)/\∀ p ∈ X.pn++pins,p.1 ≠ b
theorem Inv.fpOk {b:Addr} (I:Inv X pins σ H s) (hb:s.heap.objs.size<=b) (hn:H' b=none):zfI X pins H' b:=by
 refine ⟨hn,Nat.ne_of_gt (Q5 I.lt hb),I.nofs hb,.inr (Qj I.sz hb),fun x c e z=>?_,fun p hp z=>?_⟩
 ·obtain ⟨v,q⟩:=I.cell x c e
  exact absurd (Q5 q.lt (by rw [z];exact hb)) (Qo _)
 ·exact absurd (Q5 (Qe (I.pin p hp).1) (by rw [z];exact hb)) (Qo _)
structure Turn (P:Program) (w:World) (K:Frag) (tg:Expr) (J:It) (fp:List Addr) (it:Addr) (tn:Nat->Heap->Prop):Prop where
 mem:it ∈ fp
 obj:∀ i h,tn i h->∀ b ∈ fp,∃ o,h.get? b=some o/\∀ v,o.data ≠ .cell v
 keep:∀ i h h',tn i h->(∀ b ∈ fp,∀ o,h.get? b=some o->h'.get? b=some o)->tn i h'
 item:∀ (X:Cx),X.prog=P->X.w=w->X.K=K->X.calm=true->∀ (i:Nat) (pins:List (Addr × Obj)) (s:Shared) (σ:St) (H:Hp) (E:Value->Shared->Prop),Inv X pins σ H s->(∀ b ∈ fp,zfI X pins H b)->tn i s.heap->J.go i H->
  wpAny (model P w) X.A (pyNext (.ref it)) (fun r s1=>∃ u,r=some u /\
   wpAny (model P w) X.A (letOwnedTupleGo tg (.ref it) u) (fun _ s2=>∃ x H',Inv X pins σ H' s2/\RelV x u/\J.yld i H x H'/\tn (i+1) s2.heap/\∀ b ∈ fp,H' b=none) E s1) E s
 done:∀ (X:Cx),X.prog=P->X.w=w->X.K=K->X.calm=true->∀ (i:Nat) (pins:List (Addr × Obj)) (s:Shared) (σ:St) (H:Hp) (E:Value->Shared->Prop),Inv X pins σ H s->(∀ b ∈ fp,zfI X pins H b)->tn i s.heap->J.stop i H->
  wpAny (model P w) X.A (pyNext (.ref it)) (fun r s1=>r=none/\Inv X pins σ H s1) E s
 self:∀ (A:Around) (i:Nat) (s:Shared) (Q:Value->Shared->Prop) (E:Value->Shared->Prop),tn i s.heap->Q (.ref it) s->wpAny (model P w) A (pyIter (.ref it)) Q E s
noncomputable abbrev TI:=St->Hp->(It->Hp->Prop)->Prop
def PIE (X:Cx) (pins:List (Addr × Obj)) (σ:St) (tg:Expr) (R:It->Hp->Prop) (itv:Value) (s2:Shared):Prop:=
 ∃ (it:Addr) (fp:List Addr) (tn:Nat->Heap->Prop) (J:It) (H':Hp),itv = .ref it/\Inv X pins σ H' s2/\Turn X.prog X.w X.K tg J fp it tn/\tn 0 s2.heap/\(∀ b ∈ fp,zfI X pins H' b)/\R J H'
def PI (X:Cx) (tg iter:Expr) (wi:TI):Prop:=
 ∀ (pins:List (Addr × Obj)) (s:Shared) (σ:St) (H:Hp) (R:It->Hp->Prop),Inv X pins σ H s->wi σ H R->
  wpAny (model X.prog X.w) X.A (eval iter X.env) (fun v s1=>wpAny (model X.prog X.w) X.A (pyIter v) (PIE X pins σ tg R) X.xe s1) X.xe s
theorem zkb {o:Obj} {n:String} {vs:Array Value} {Q:Unit->Shared->Prop} (ho:s.heap.get? it=some o) (hc:o.cls = .type n) (hd:o.data = .fields vs)
 (hn:["enumerate","zip","dict_itemiterator","dict_reverseitemiterator","odict_iterator","itertools.zip_longest","itertools.pairwise"].contains n=false) (hQ:Q () s):wpAny M A (letOwnedTupleGo tg (.ref it) u) Q E s:=by
 unfold letOwnedTupleGo
 cases tg <;> first
  | exact Qf hQ
  | (cases u <;> first
    | exact Qf hQ
    | (refine Q1 (wpAny_load ho ?_)
       rw [hc,hd]
       show wpAny M A (if (["enumerate","zip","dict_itemiterator","dict_reverseitemiterator","odict_iterator","itertools.zip_longest","itertools.pairwise"].contains n && vs[0]? == some (rawInt _))=true then _ else _) Q E s
       rw [Qz (by intro h;rw [hn,Bool.false_and] at h;cases h)]
       exact Qf hQ))
noncomputable def Itl (K:Frag) (a:Addr):It:=
 ⟨fun i H=>∃ xs x,SqL K H a xs/\xs[i]? = some x,fun i H x H'=>H'=H/\∀ xs,SqL K H a xs->xs[i]? = some x,fun i H=>∃ xs,SqL K H a xs/\xs.length<=i⟩
noncomputable def Itt (K:Frag) (a:Addr):It:=
 ⟨fun i H=>∃ xs x,SqT K H a xs/\xs[i]? = some x,fun i H x H'=>H'=H/\∀ xs,SqT K H a xs->xs[i]? = some x,fun i H=>∃ xs,SqT K H a xs/\xs.length<=i⟩
noncomputable def Itr (lo:Int) (n:Nat):It:=⟨fun i _=>i<n,fun i H x H'=>H'=H/\x = .int (lo+i),fun i _=>n<=i⟩
variable {K:Frag}
theorem zkz (a it:Addr):Turn P w K tg (Itl K a) [it] it (fun i h=>h.IsListIter it a i) where
 mem:=by simp
 obj:=fun i h st b hb=>by
  have e:b=it:=by simpa using hb
  subst e
  obtain ⟨o,e,c,d⟩:=st
  exact ⟨o,e,fun v z=>by rw [d] at z;cases z⟩
 keep:=fun i h h' st k=>st.at fun o e=>k it (by simp) o e
 item:=by
  intro X hP hw hK hc i pins s σ H E I hf st hg
  subst hP hw hK
  obtain ⟨xs,x,hq,hx⟩:=hg
  obtain ⟨its,rv,p,hz⟩:=I.list hq
  obtain ⟨u,hu,ru⟩:=rv.get hx
  obtain ⟨f0,f1,f2,f3,f4,f5⟩:=hf it (by simp)
  refine wpAny_pyNext_list_item st p.isList (x:=u) (by simpa using hu) fun h' st' sb=>?_
  have I1:Inv X pins σ H { s with heap:=h' }:=I.turned (t':=s.toks) (fun b o hb e=>(sb.2 b hb).trans e) f0 f1 f3 f4 f5
  obtain ⟨o,e,c,d⟩:=id st'
  exact ⟨u,rfl,zkb (s:={ s with heap:=h' }) e c d (by decide) ⟨x,H,I1,ru,⟨rfl,fun ys hy=>by rw [I.list_inj hy hq];exact hx⟩,st',fun b hb=>(hf b hb).1⟩⟩
 done:=by
  intro X hP hw hK hc i pins s σ H E I hf st hg
  subst hP hw hK
  obtain ⟨xs,hq,hx⟩:=hg
  obtain ⟨its,rv,p,hz⟩:=I.list hq
  obtain ⟨f0,f1,f2,f3,f4,f5⟩:=hf it (by simp)
  have hl:=rv.length
  exact wpAny_pyNext_list_end (I.ok.hd hc) st p.isList (by simp;omega) fun h' eb=>⟨rfl,I.turned (t':=s.toks) (fun b o hb e=>eb b o hb e) f0 f1 f3 f4 f5⟩
 self:=fun _ _ _ _ _ st h=>wpAny_pyIter_listiter st h
theorem zjO (a it:Addr):Turn P w K tg (Itt K a) [it] it (fun i h=>h.IsTupleIter it a i) where
 mem:=by simp
 obj:=fun i h st b hb=>by
  have e:b=it:=by simpa using hb
  subst e
  obtain ⟨o,e,c,d⟩:=st
  exact ⟨o,e,fun v z=>by rw [d] at z;cases z⟩
 keep:=fun i h h' st k=>st.at fun o e=>k it (by simp) o e
 item:=by
  intro X hP hw hK hc i pins s σ H E I hf st hg
  subst hP hw hK
  obtain ⟨xs,x,hq,hx⟩:=hg
  obtain ⟨its,rv,p,hz⟩:=I.tuple hq
  obtain ⟨u,hu,ru⟩:=rv.get hx
  obtain ⟨f0,f1,f2,f3,f4,f5⟩:=hf it (by simp)
  refine wpAny_pyNext_tuple_item st (show s.heap.IsTuple a its.toArray from p) (x:=u) (by simpa using hu) fun h' st' sb=>?_
  have I1:Inv X pins σ H { s with heap:=h' }:=I.turned (t':=s.toks) (fun b o hb e=>(sb.2 b hb).trans e) f0 f1 f3 f4 f5
  obtain ⟨o,e,c,d⟩:=id st'
  exact ⟨u,rfl,zkb (s:={ s with heap:=h' }) e c d (by decide) ⟨x,H,I1,ru,⟨rfl,fun ys hy=>by rw [I.tuple_inj hy hq];exact hx⟩,st',fun b hb=>(hf b hb).1⟩⟩
 done:=by
  intro X hP hw hK hc i pins s σ H E I hf st hg
  subst hP hw hK
  obtain ⟨xs,hq,hx⟩:=hg
  obtain ⟨its,rv,p,hz⟩:=I.tuple hq
  obtain ⟨f0,f1,f2,f3,f4,f5⟩:=hf it (by simp)
  have hl:=rv.length
  exact wpAny_pyNext_tuple_end (I.ok.hd hc) st (show s.heap.IsTuple a its.toArray from p) (by simp;omega) fun h' eb=>⟨rfl,I.turned (t':=s.toks) (fun b o hb e=>eb b o hb e) f0 f1 f3 f4 f5⟩
 self:=fun _ _ _ _ _ st h=>wpAny_pyIter_tupleiter st h
theorem zjP (it:Addr) (lo:Int) (n:Nat):Turn P w K tg (Itr lo n) [it] it (fun i h=>IsRangeIter h it (lo+(i:Nat)*1) ((n:Int)-(i:Nat)) 1) where
 mem:=by simp
 obj:=fun i h st b hb=>by
  have e:b=it:=by simpa using hb
  subst e
  exact ⟨_,st,fun v z=>by
   have z':Data.fields _=Data.cell v:=z
   cases z'⟩
 keep:=fun i h h' st k=>k it (by simp) _ st
 item:=by
  intro X hP hw hK hc i pins s σ H E I hf st hg
  subst hP hw hK
  obtain ⟨f0,f1,f2,f3,f4,f5⟩:=hf it (by simp)
  have W:=Walks.range (prog:=X.prog) (w:=X.w) (I.ok.hd hc) it lo 1 n
  refine W.item i s _ _ hg st fun v h' tk hv st' kk=>?_
  obtain ⟨t,rfl⟩:=hv
  have I1:Inv X pins σ H { s with heap:=h',toks:=tk }:=I.turned (fun b o hb e=>kk b o (by simpa using hb) e) f0 f1 f3 f4 f5
  refine ⟨_,rfl,zkb (s:={ s with heap:=h',toks:=tk }) (n:="range_iterator") st' rfl rfl (by decide) ⟨.int (lo+i),H,I1,⟨t,?_⟩,⟨rfl,rfl⟩,st',fun b hb=>(hf b hb).1⟩⟩
  rw [Int.mul_one]
 done:=by
  intro X hP hw hK hc i pins s σ H E I hf st hg
  subst hP hw hK
  obtain ⟨f0,f1,f2,f3,f4,f5⟩:=hf it (by simp)
  exact wpAny_pyNext_range_end (I.ok.hd hc) st (by have:n<=i:=hg;omega) fun h' eb=>⟨rfl,I.turned (t':=s.toks) (fun b o hb e=>eb b o hb e) f0 f1 f3 f4 f5⟩
 self:=fun _ _ _ _ _ st h=>wpAny_pyIter_rangeiter st h
variable {l:Expr} {fp:List Addr} {p:Pos} {tl:TE}
section
noncomputable def zmV (K:Frag) (tl:TE):TI:=fun σ H R=>tl σ H fun x H1=>∃ a,x = .ref a/\(∃ xs,SqL K H1 a xs)/\R (Itl K a) H1
noncomputable def zsd (K:Frag) (tl:TE):TI:=fun σ H R=>tl σ H fun x H1=>∃ a,x = .ref a/\(∃ xs,SqT K H1 a xs)/\R (Itt K a) H1
theorem zgs (hl:PE X l tl):PI X tg l (zmV X.K tl):=by
 intro pins s σ H R I h
 refine thn (hl pins s σ H _ I h) fun v s1 ⟨x,H1,I1,r1,q1⟩=>?_
 obtain ⟨a,e,⟨xs,hq⟩,q⟩:=q1
 subst e
 cases r1
 obtain ⟨its,rv,p,hz⟩:=I1.list hq
 refine wpAny_pyIter_list p.isList ?_
 refine ⟨s1.heap.objs.size,[s1.heap.objs.size],_,_,H1,rfl,I1.kept (t':=s1.toks) fun b o e=>Q2 _ e,zkz a _,⟨_,Ql _ rfl,rfl,rfl⟩,fun b hb=>?_,q⟩
 have e:b=s1.heap.objs.size:=by simpa using hb
 subst e
 exact I1.fpOk (Q3 _) (I1.hok.fresh (Q3 _))
theorem zkL (hl:PE X l tl):PI X tg l (zsd X.K tl):=by
 intro pins s σ H R I h
 refine thn (hl pins s σ H _ I h) fun v s1 ⟨x,H1,I1,r1,q1⟩=>?_
 obtain ⟨a,e,⟨xs,hq⟩,q⟩:=q1
 subst e
 cases r1
 obtain ⟨its,rv,p,hz⟩:=I1.tuple hq
 refine wpAny_pyIter_tuple (show s1.heap.IsTuple a its.toArray from p) ?_
 refine ⟨s1.heap.objs.size,[s1.heap.objs.size],_,_,H1,rfl,I1.kept (t':=s1.toks) fun b o e=>Q2 _ e,zjO a _,⟨_,Ql _ rfl,rfl,rfl⟩,fun b hb=>?_,q⟩
 have e:b=s1.heap.objs.size:=by simpa using hb
 subst e
 exact I1.fpOk (Q3 _) (I1.hok.fresh (Q3 _))
theorem zhX {R:It->Hp->Prop} {lo hi:Int} {t u v:Tok} {tk:Nat} (I:Inv X pins σ H s) (h1:-(2 ^ 62)<=lo) (h2:lo<2 ^ 62) (h3:-(2 ^ 62)<=hi) (h4:hi<2 ^ 62)
 (q:R (Itr lo (hi-lo).toNat) H):wpAny (model X.prog X.w) X.A (pyIter (.ref s.heap.objs.size)) (PIE X pins σ tg R) E { s with heap:=s.heap.push { cls:=.type "range",data:=.fields #[.int lo t,.int hi u,.int 1 v] },toks:=tk }:=by
 refine wpAny_pyIter_range (IsRange.new ..) (small_one h1 h2 h3 h4) ?_
 have I1:Inv X pins σ H { s with heap:=s.heap.push { cls:=.type "range",data:=.fields #[.int lo t,.int hi u,.int 1 v] },toks:=tk }:=I.kept fun b o e=>Q2 _ e
 refine ⟨(s.heap.push { cls:=.type "range",data:=.fields #[.int lo t,.int hi u,.int 1 v] }).objs.size,[(s.heap.push { cls:=.type "range",data:=.fields #[.int lo t,.int hi u,.int 1 v] }).objs.size],_,_,H,rfl,
  I1.kept (t':=tk) fun b o e=>Q2 _ e,zjP _ lo (hi-lo).toNat,?_,fun b hb=>?_,q⟩
 ·have e1:lo+((0:Nat):Int)*1=lo:=by simp
  have e2:(((hi-lo).toNat:Nat):Int)-((0:Nat):Int)=Builtin.Range.rangeSize lo hi 1:=by rw [rangeSize_one];split <;> omega
  show IsRangeIter _ _ (lo+((0:Nat):Int)*1) ((((hi-lo).toNat:Nat):Int)-((0:Nat):Int)) 1
  rw [e1,e2]
  exact Ql _ rfl
 ·have e:b=(s.heap.push { cls:=.type "range",data:=.fields #[.int lo t,.int hi u,.int 1 v] }).objs.size:=by simpa using hb
  subst e
  exact I1.fpOk (Q3 _) (I1.hok.fresh (Q3 _))
noncomputable def zrh (ta:TA):TI:=fun σ H R=>ta σ H fun vs H1=>∃ j:Int,vs=[.int j]/\-(2 ^ 62)<=j/\j<2 ^ 62/\R (Itr 0 j.toNat) H1
noncomputable def zrg (ta:TA):TI:=fun σ H R=>ta σ H fun vs H1=>∃ i j:Int,vs=[.int i,.int j]/\(-(2 ^ 62)<=i/\i<2 ^ 62/\-(2 ^ 62)<=j/\j<2 ^ 62)/\R (Itr i (j-i).toNat) H1
theorem zkN {a:Expr} {ta:TA} (hg:Gl X "range") (hm:X.mg "range" = none) (ha:PA X [a] ta) (hs:starEach [a] X.env=[(false,eval a X.env)]:=by rfl):PI X tg (.Call (.Name "range" p) [a] [] pos) (zrh ta):=by
 intro pins s σ H R I h
 refine Call_ (zeC I hg hm boot_range (PyProof.Rows.callWith_type1 (thn (ha pos pins s σ H _ I h) fun us s1 ⟨vs,H1,I1,r1,q1⟩=>?_) hs rfl))
 obtain ⟨j,e,q1,q2,q⟩:=q1
 subst e
 cases r1 with
 | cons r rr=>
  cases rr
  obtain ⟨t,rfl⟩:=r
  exact call_range_1 (zhX I1 (by omega) (by omega) q1 q2 (by simpa using q))
theorem zkM {a b:Expr} {ta:TA} (hg:Gl X "range") (hm:X.mg "range" = none) (ha:PA X [a,b] ta) (hs:starEach [a,b] X.env=[(false,eval a X.env),(false,eval b X.env)]:=by rfl) (hs2:starEach [b] X.env=[(false,eval b X.env)]:=by rfl) :
  PI X tg (.Call (.Name "range" p) [a,b] [] pos) (zrg ta):=by
 intro pins s σ H R I h
 refine Call_ (zeC I hg hm boot_range (PyProof.Rows.callWith_type1 (thn (ha pos pins s σ H _ I h) fun us s1 ⟨vs,H1,I1,r1,q1⟩=>?_) (by rw [hs,hs2]) (by rw [hs2];rfl)))
 obtain ⟨i,j,e,⟨q1,q2,q3,q4⟩,q⟩:=q1
 subst e
 cases r1 with
 | cons r rr=>
  cases rr with
  | cons r' rr=>
   cases rr
   obtain ⟨t,rfl⟩:=r
   obtain ⟨t',rfl⟩:=r'
   exact call_range_2 (zhX I1 q1 q2 q3 q4 q)
noncomputable def zrO (wi:TI) (g:TG) (tb:TS):TS:=fun D σ H=>wi σ H fun J H1=>∃ W:Nat->Nat->St->Hp->Prop,(∃ m,W 0 m σ H1)/\∀ i m σ H,W i m σ H->
 (J.stop i H/\D.nx σ H)\/(J.go i H/\∃ N:St->Hp->Prop,(∀ σ' H',N σ' H'->∃ m',m'<m/\W (i+1) m' σ' H')/\∀ x H',J.yld i H x H'->g x σ H' fun σ2 H2=>tb { D with nx:=N,ct:=N,bk:=D.nx } σ2 H2)
noncomputable def zez (fp:List Addr) (h:Heap):List (Addr × Obj):=fp.filterMap fun b=>(h.get? b).map fun o=>(b,o)
theorem zcO {b:Addr} {o:Obj} (hb:b ∈ fp) (e:h.get? b=some o):(b,o) ∈ zez fp h:=List.mem_filterMap.mpr ⟨b,hb,by rw [e];rfl⟩
theorem zkT {p:Addr × Obj} (hp:p ∈ zez fp h):p.1 ∈ fp/\h.get? p.1=some p.2:=by
 obtain ⟨b,hb,e⟩:=List.mem_filterMap.mp hp
 cases q:h.get? b with
 | none=>rw [q] at e;cases e
 | some o=>
  rw [q] at e
  have e':(b,o)=p:=Qd e
  subst e'
  exact ⟨hb,q⟩
theorem Inv.pinned (I:Inv X pins σ H s) (hf:∀ b ∈ fp,zfI X pins H b) (ho:∀ b ∈ fp,∃ o,s.heap.get? b=some o/\∀ v,o.data ≠ .cell v):Inv X (pins++zez fp s.heap) σ H s:=
 I.pins_of fun p hp=>(mem_append.mp hp).elim (fun z=>I.pin p (Qm _ z)) fun z=>by
  obtain ⟨hb,e⟩:=zkT z
  obtain ⟨f0,f1,f2,_⟩:=hf p.1 hb
  obtain ⟨o,e',d⟩:=ho p.1 hb
  rw [e] at e';cases e'
  exact ⟨e,f0,f1,f2,d⟩
theorem Inv.unpinned {pl:List (Addr × Obj)} (I:Inv X (pins++pl) σ H s):Inv X pins σ H s:=I.pins_of fun p hp=>I.pin p (Qm _ (mem_append_left _ hp))
theorem zkI {iter:Expr} {wi:TI} {tb:TS} (hp:PassesOwn (model X.prog X.w) X.A X.env X.xe) (hc:X.calm=true) (hi:PI X tg iter wi) (hg:PG X tg g) (hb:PSs X body tb)
 (hs:∀ x,foldedSetIterable iter X.env x=pure x:=by intro _;rfl):PS X (.For tg iter body [] pos) (zrO wi g tb):=by
 intro pins s σ H D I h
 refine wpAny_For (thn (hi pins s σ H _ I h) fun v s1 h1=>thn h1 fun itv s2 h2=>?_) hs
 obtain ⟨it,fp,tn,J,H2,e,I2,T,st2,f2,W,⟨m0,w0⟩,turn⟩:=h2
 subst e
 -- what stays true of the iterator's objects through the loop
 have stat:∀ {H':Hp},(∀ b ∈ fp,H' b=none)->∀ b ∈ fp,zfI X pins H' b:=fun hn b hb=>⟨hn b hb,(f2 b hb).2⟩
 refine codeAny_forLoop_any (fun n s'=>∃ i σ' H',Inv X pins σ' H' s'/\tn i s'.heap/\(∀ b ∈ fp,H' b=none)/\W i n σ' H') ?_ m0 ⟨0,σ,H2,I2,st2,fun b hb=>(f2 b hb).1,w0⟩
 rintro n s3 ⟨i,σ3,H3,I3,st3,fr3,w3⟩
 rcases turn i n σ3 H3 w3 with ⟨stop,qn⟩ | ⟨go,N,hN,step⟩
 ·refine wpAny_passesOwn hp (thn (T.done X rfl rfl rfl hc i pins s3 σ3 H3 X.xe I3 (stat fr3) st3 stop) fun r s4 ⟨hr,I4⟩=>?_)
  subst hr
  exact wpAny_execs_nil ⟨σ3,H3,I4,qn⟩
 ·refine wpAny_passesOwn hp (thn (T.item X rfl rfl rfl hc i pins s3 σ3 H3 X.xe I3 (stat fr3) st3 go) fun r s4 ⟨u,hr,h4⟩=>?_)
  subst hr
  refine wpAny_passesOwn hp (thn h4 fun _ s5 ⟨x,H5,I5,r5,y5,st5,fr5⟩=>?_)
  have I5':=I5.pinned (stat fr5) (T.obj _ _ st5)
  refine wpAny_passesOwn hp (thn (hg _ s5 σ3 H5 x u _ I5' r5 (step x H5 y5)) fun _ s6 ⟨σ6,H6,I6,q6⟩=>?_)
  refine wpAny_passesOwn hp (thn (hb _ s6 σ6 H6 _ I6 q6) fun f s7 q7=>?_)
  have again:∀ {σ7:St} {H7:Hp},Inv X (pins++zez fp s5.heap) σ7 H7 s7->N σ7 H7->∃ m,m<n/\∃ i σ' H',Inv X pins σ' H' s7/\tn i s7.heap/\(∀ b ∈ fp,H' b=none)/\W i m σ' H':=fun {σ7 H7} I7 n7=>by
   obtain ⟨m',hm,w7⟩:=hN σ7 H7 n7
   refine ⟨m',hm,i+1,σ7,H7,I7.unpinned,T.keep _ _ _ st5 fun b hb o e=>(I7.pin (b,o) (Qm _ (Qm _ (zcO hb e)))).1,fun b hb=>?_,w7⟩
   obtain ⟨o,e,d⟩:=T.obj _ _ st5 b hb
   exact (I7.pin (b,o) (Qm _ (Qm _ (zcO hb e)))).2.1
  cases f with
  | next=>obtain ⟨σ7,H7,I7,n7⟩:=q7;exact again I7 n7
  | cont=>obtain ⟨σ7,H7,I7,n7⟩:=q7;exact again I7 n7
  | brk=>obtain ⟨σ7,H7,I7,q7⟩:=q7;exact ⟨σ7,H7,I7.unpinned,q7⟩
  | ret v=>obtain ⟨x7,σ7,H7,I7,r7,q7⟩:=q7;exact ⟨x7,σ7,H7,I7.unpinned,r7,q7⟩
end
noncomputable abbrev R2:=V->V->Hp->VK->Prop
def OpR (X:Cx) (f:Value->Value->Sem Value) (r:R2):Prop:=
 ∀ (pins:List (Addr × Obj)) (s:Shared) (σ:St) (H:Hp) (x y:V) (v u:Value) (Q:VK),Inv X pins σ H s->RelV x v->RelV y u->r x y H Q->
  wpAny (model X.prog X.w) X.A (f v u) (EP X pins σ Q) X.xe s
def UnR (X:Cx) (f:Value->Sem Value) (r:V->Hp->VK->Prop):Prop:=
 ∀ (pins:List (Addr × Obj)) (s:Shared) (σ:St) (H:Hp) (x:V) (v:Value) (Q:VK),Inv X pins σ H s->RelV x v->r x H Q->
  wpAny (model X.prog X.w) X.A (f v) (EP X pins σ Q) X.xe s
def CallR (X:Cx) (f:Value) (r:List V->Hp->VK->Prop):Prop:=
 ∀ (pins:List (Addr × Obj)) (s:Shared) (σ:St) (H:Hp) (xs:List V) (us:List Value) (Q:VK),Inv X pins σ H s->Vals xs us->r xs H Q->
  wpAny (model X.prog X.w) X.A (call f us) (EP X pins σ Q) X.xe s
noncomputable def tOp (r:R2) (ta tb:TE):TE:=fun σ H Q=>ta σ H fun x H1=>tb σ H1 fun y H2=>r x y H2 Q
noncomputable def tUn (r:V->Hp->VK->Prop) (ta:TE):TE:=fun σ H Q=>ta σ H fun x H1=>r x H1 Q
noncomputable def rI (C:Int->Int->Prop) (g:Int->Int->V):R2:=fun x y H Q=>∃ i j,x = .int i/\y = .int j/\C i j/\Q (g i j) H
noncomputable def rI0 (g:Int->Int->V):R2:=fun x y H Q=>∃ i j,x = .int i/\y = .int j/\Q (g i j) H
noncomputable def rU (g:Int->V):V->Hp->VK->Prop:=fun x H Q=>∃ i,x = .int i/\Q (g i) H
variable {f:Value->Value->Sem Value}
section
variable {a b c:Expr} {tc:TE}
theorem zmL (ha:PE X a ta) (hb:PE X b tb) (I:Inv X pins σ H s)
 (h:ta σ H fun x H1=>tb σ H1 fun y H2=>R x y H2) 
 (hf:∀ v u s2 x y H2,Inv X pins σ H2 s2->RelV x v->RelV y u->R x y H2->wpAny (model X.prog X.w) X.A (f v u) Q X.xe s2) :
  wpAny (model X.prog X.w) X.A (eval a X.env) (fun v s₁=>wpAny (model X.prog X.w) X.A (eval b X.env) (fun u s₂=>wpAny (model X.prog X.w) X.A (f v u) Q X.xe s₂) X.xe s₁) X.xe s:=by
 refine thn (ha pins s σ H _ I h) fun v s1 ⟨x,H1,I1,r1,q1⟩=>?_
 refine thn (hb pins s1 σ H1 _ I1 q1) fun u s2 ⟨y,H2,I2,r2,q2⟩=>?_
 exact hf v u s2 x y H2 I2 r1 r2 q2
theorem zmR {op:Operator} {r:R2} (ho:OpR X (binaryOp op) r) (ha:PE X a ta) (hb:PE X b tb):PE X (.BinOp a op b pos) (tOp r ta tb):=by
 apply?
 exact wpAny_BinOp (zmL ha hb I h fun v u s2 x y H2 I2 rx ry q=>ho pins s2 σ H2 x y v u Q I2 rx ry q)
theorem zq3 {op:UnaryOp} {r:V->Hp->VK->Prop} (ho:UnR X (unaryOp op) r) (ha:PE X a ta):PE X (.UnaryOp op a pos) (tUn r ta):=by
 apply?
 exact UnaryOp_ (thn (ha pins s σ H _ I h) fun v s1 ⟨x,H1,I1,r1,q1⟩=>ho pins s1 σ H1 x v Q I1 r1 q1)
theorem opI {C:Int->Int->Prop} {g:Int->Int->Int}
 (rule:∀ (i j:Int) (t u:Tok) (s:Shared) (Q:Value->Shared->Prop) (E:Value->Shared->Prop),C i j->Q (.int (g i j) s.toks) { s with toks:=s.toks+1 }->wpAny (model X.prog X.w) X.A (f (.int i t) (.int j u)) Q E s) :
  OpR X f (rI C fun i j=>.int (g i j)):=by
 infer_instance
 obtain ⟨i,j,rfl,rfl,hc,q⟩:=h
 obtain ⟨t,rfl⟩:=rx
 obtain ⟨t',rfl⟩:=ry
 exact rule i j t t' s _ _ hc ⟨.int (g i j),H,I.tok _,⟨_,rfl⟩,q⟩
theorem zpt {g:Int->Int->Int}
 (rule:∀ (i j:Int) (t u:Tok) (s:Shared) (Q:Value->Shared->Prop) (E:Value->Shared->Prop),Q (.int (g i j) s.toks) { s with toks:=s.toks+1 }->wpAny (model X.prog X.w) X.A (f (.int i t) (.int j u)) Q E s) :
  OpR X f (rI0 fun i j=>.int (g i j)):=by
 infer_instance
 obtain ⟨i,j,rfl,rfl,q⟩:=h
 obtain ⟨t,rfl⟩:=rx
 obtain ⟨t',rfl⟩:=ry
 exact rule i j t t' s _ _ ⟨.int (g i j),H,I.tok _,⟨_,rfl⟩,q⟩
theorem zl6 {g:Int->Int->Bool}
 (rule:∀ (i j:Int) (t u:Tok) (s:Shared) (Q:Value->Shared->Prop) (E:Value->Shared->Prop),Q (.bool (g i j)) s->wpAny (model X.prog X.w) X.A (f (.int i t) (.int j u)) Q E s) :
  OpR X f (rI0 fun i j=>.bl (g i j)):=by
 infer_instance
 obtain ⟨i,j,rfl,rfl,q⟩:=h
 obtain ⟨t,rfl⟩:=rx
 obtain ⟨t',rfl⟩:=ry
 exact rule i j t t' s _ _ ⟨.bl (g i j),H,I,rfl,q⟩
def zsn (i j:Int):Prop:=0<=j/\j<=1000000/\i.natAbs<2 ^ 64
def CMul (i j:Int):Prop:=(-(2 ^ 64)<i/\i<2 ^ 64)\/(-(2 ^ 64)<j/\j<2 ^ 64)
theorem CMul.ok {i j:Int} (h:CMul i j):IntMulOk i j:=by
 rcases h with ⟨h1,h2⟩ | ⟨h1,h2⟩
 ·exact .of_left (intBits_le_64 h1 h2)
 ·exact .of_right (intBits_le_64 h1 h2)
theorem zps:OpR X (binaryOp .Add) (rI0 fun i j=>.int (i+j)):=zpt fun _ _ _ _ _ _ _ q=>add_int q
theorem zpm:OpR X (binaryOp .Sub) (rI0 fun i j=>.int (i-j)):=zpt fun _ _ _ _ _ _ _ q=>sub_int q
theorem znH:OpR X (binaryOp .Mod) (rI (fun _ j=>j ≠ 0) fun i j=>.int (i.fmod j)):=opI fun _ _ _ _ _ _ _ hc q=>mod_int' hc q
theorem zpn:OpR X (binaryOp .Pow) (rI zsn fun i j=>.int (i ^ j.toNat)):=opI fun _ _ _ _ _ _ _ hc q=>pow_int_small hc.1 hc.2.1 hc.2.2 q
theorem unI {f:Value->Sem Value} {g:Int->Int}
  (rule:∀ (i:Int) (t:Tok) (s:Shared) (Q:Value->Shared->Prop) (E:Value->Shared->Prop),Q (.int (g i) s.toks) { s with toks:=s.toks+1 }->wpAny (model X.prog X.w) X.A (f (.int i t)) Q E s) :
  UnR X f (rU fun i=>.int (g i)):=by
 intro pins s σ H x v Q I rx h
 obtain ⟨i,rfl,q⟩:=h
 obtain ⟨t,rfl⟩:=rx
 exact rule i t s _ _ ⟨.int (g i),H,I.tok _,⟨_,rfl⟩,q⟩
theorem zoH:UnR X (unaryOp .USub) (rU fun i=>.int (-i)):=unI fun _ _ _ _ _ q=>neg_int q
end
section
variable {a b c:Expr} {tc:TE}
theorem zll {Q:VK} {k k':Bool} (I:Inv X pins σ H s) (q:Q (.bl k) H) (e:k=k'):EP X pins σ Q (.bool k') s:=by
 subst e
 exact ⟨.bl k,H,I,rfl,q⟩
theorem zq7:OpR X (compareOp .Lt) (rI0 fun i j=>.bl (decide (i<j))):=zl6 fun _ _ _ _ _ _ _ q=>lt_int q
theorem zq8:OpR X (compareOp .LtE) (rI0 fun i j=>.bl (decide (i<=j))):=zl6 fun _ _ _ _ _ _ _ q=>le_int q
theorem zq9:OpR X (compareOp .Gt) (rI0 fun i j=>.bl (decide (j<i))):=zl6 fun _ _ _ _ _ _ _ q=>gt_int q
theorem zpo:OpR X (compareOp .Is) (fun x y H Q=>y = .non/\Q (.bl (decide (x = .non))) H):=by
 infer_instance
 obtain ⟨rfl,q⟩:=h
 cases ry
 refine is_none_gen (zll I q ?_)
 cases x <;> first
  | (cases rx;rfl)
  | (obtain ⟨t,rfl⟩:=rx;rfl)
theorem znD:OpR X (compareOp .IsNot) (fun x y H Q=>y = .non/\Q (.bl (!decide (x = .non))) H):=by
 infer_instance
 obtain ⟨rfl,q⟩:=h
 cases ry
 refine isnot_none_gen (zll I q ?_)
 cases x <;> first
  | (cases rx;rfl)
  | (obtain ⟨t,rfl⟩:=rx;rfl)
theorem zk (b:Expr) (h:op ≠ .In:=by decide) (h2:op ≠ .NotIn:=by decide):behindInMarks op b=false:=by
 have e1:(op==CmpOp.In)=false:=by cases op <;> first | rfl | exact absurd rfl h
 have e2:(op==CmpOp.NotIn)=false:=by cases op <;> first | rfl | exact absurd rfl h2
 cases b <;> simp [behindInMarks,e1,e2]
theorem znw {r:R2} (ho:OpR X (compareOp op) r) (ha:PE X a ta) (hb:PE X b tb) (hm:behindInMarks op b=false):PE X (.Compare a [op] [b] pos) (tOp r ta tb):=by
 apply?
 exact wpAny_Compare1 (zmL ha hb I h fun v u s2 x y H2 I2 rx ry q=>ho pins s2 σ H2 x y v u Q I2 rx ry q) hm
noncomputable def zqI (t:TE):TT:=fun σ H Q=>t σ H fun x H'=>∃ k,x = .bl k/\Q k H'
theorem znm {r:R2} (ho:OpR X (compareOp op) r) (ha:PE X a ta) (hb:PE X b tb) (hm:behindInMarks op b=false):PT X (.Compare a [op] [b] pos) (zqI (tOp r ta tb)):=by
 apply?
 refine wpAny_isTrue_Compare1 (thn (ha pins s σ H _ I h) fun v s1 ⟨x,H1,I1,r1,q1⟩=>thn (hb pins s1 σ H1 _ I1 q1) fun u s2 ⟨y,H2,I2,r2,q2⟩=>
  thn (ho pins s2 σ H2 x y v u _ I2 r1 r2 q2) fun c s3 ⟨z,H3,I3,r3,k,e,q3⟩=>?_) hm
 subst e
 cases r3
 exact wpAny_truthy_bool ⟨H3,I3,q3⟩
noncomputable def zkB (r r':R2) (ta tb tc:TE):TE:=fun σ H Q=>ta σ H fun x H1=>tb σ H1 fun y H2=>r x y H2 fun z H3=>∃ k,z = .bl k /\
 (if k=true then tc σ H3 fun w' H4=>r' y w' H4 Q else Q (.bl false) H3)
theorem zl3 {op':CmpOp} {r r':R2} (ho:OpR X (compareOp op) r) (ho':OpR X (compareOp op') r') (ha:PE X a ta) (hb:PE X b tb) (hc:PE X c tc)
 (hm:lastMarks [op,op'] [b,c]=false:=by with_unfolding_all rfl):PE X (.Compare a [op,op'] [b,c] pos) (zkB r r' ta tb tc):=by
 apply?
 refine Compare_chain (thn (ha pins s σ H _ I h) fun v s1 ⟨x,H1,I1,r1,q1⟩=>chain_link (thn (hb pins s1 σ H1 _ I1 q1) fun u s2 ⟨y,H2,I2,r2,q2⟩=>
  thn (ho pins s2 σ H2 x y v u _ I2 r1 r2 q2) fun d s3 ⟨z,H3,I3,r3,k,e,q3⟩=>?_)) hm
 subst e
 cases r3
 refine wpAny_truthy_bool ?_
 cases k with
 | false=>exact ite_ff ⟨.bl false,H3,I3,rfl,q3⟩
 | true=>exact ite_tt (chain_last (thn (hc pins s3 σ H3 _ I3 q3) fun w' s4 ⟨z',H4,I4,r4,q4⟩=>ho' pins s4 σ H4 y z' u w' Q I4 r2 r4 q4))
theorem zcw:(sizeLine:Nat)<2 ^ 63:=by rw [sizeLine_eq];decide
theorem zj2:OpR X (binaryOp .Add) (fun x y H Q=>∃ i j,x = .str i/\y = .str j/\i.length+j.length<=sizeLine/\Q (.str (i++j)) H):=by
 infer_instance
 obtain ⟨i,j,rfl,rfl,hz,q⟩:=h
 obtain ⟨t,rfl⟩:=rx
 obtain ⟨t',rfl⟩:=ry
 exact add_str (fun t' tk=>⟨.str (i++j),H,I.tok _,⟨_,rfl⟩,q⟩) hz
theorem vals1 {x:V} (r:Vals [x] us):∃ u,us=[u]/\RelV x u:=by
 cases r with
 | cons r1 r2=>cases r2;exact ⟨_,rfl,r1⟩
theorem vals2 {x:V} (r:Vals [x,y] us):∃ u w',us=[u,w']/\RelV x u/\RelV y w':=by
 cases r with
 | cons r1 r2=>
  cases r2 with
  | cons r3 r4=>cases r4;exact ⟨_,_,rfl,r1,r3⟩
theorem zlC (hc:X.calm=true):CallR X (.builtin "max") (fun xs H Q=>∃ i j,xs=[.int i,.int j]/\Q (.int (if j > i then j else i)) H):=by
 intro pins s σ H xs us Q I r h
 obtain ⟨i,j,rfl,q⟩:=h
 obtain ⟨u,w',rfl,⟨t,rfl⟩,⟨t',rfl⟩⟩:=vals2 r
 refine max_two_ints (I.ok.hd hc) fun h' tk k=>⟨_,H,I.kept k,?_,q⟩
 by_cases hj:j > i
 ·rw [Qy hj,Qy hj];exact ⟨_,rfl⟩
 ·rw [Qz hj,Qz hj];exact ⟨_,rfl⟩
theorem zlB (hc:X.calm=true):CallR X (.builtin "min") (fun xs H Q=>∃ i j,xs=[.int i,.int j]/\Q (.int (if j<i then j else i)) H):=by
 intro pins s σ H xs us Q I r h
 obtain ⟨i,j,rfl,q⟩:=h
 obtain ⟨u,w',rfl,⟨t,rfl⟩,⟨t',rfl⟩⟩:=vals2 r
 refine min_two_ints (I.ok.hd hc) fun h' tk k=>⟨_,H,I.kept k,?_,q⟩
 by_cases hj:j<i
 ·rw [Qy hj,Qy hj];exact ⟨_,rfl⟩
 ·rw [Qz hj,Qz hj];exact ⟨_,rfl⟩
end
structure ObjM (h:Heap) (x dx C:Addr) (mA:Str->Option Value):Prop where
 obj:h.get? x=some (PySem.W.instObj C dx)
 ns:h.Ns1 dx mA
 ne:dx ≠ x
variable {dx:Addr} {mA:Str->Option Value}
theorem zkY (n:h.Ns1 dx mA):∃ od,h.get? dx=some od/\∀ name,PySem.W.lookIn name od=some (mA name):=by
 obtain ⟨o,es,ep,ho,hd,hk,_,hm⟩:=n
 refine ⟨o,ho,fun name=>?_⟩
 have e:=hm name
 unfold nsFind findBy at e
 rw [← Array.find?_toList] at e
 unfold PySem.W.lookIn
 rw [hd]
 dsimp only
 split
 ·rename_i y q
  rw [q] at e
  exact congrArg some e
 ·rename_i q
  rw [q] at e
  have a:es.toList.any (·.refKey)=false:=by
   rw [List.any_eq_false]
   intro y hy
   obtain ⟨z,t,hkey⟩:=hk y (Array.mem_toList_iff.mp hy)
   simp [DictEntry.refKey,hkey]
  have a':¬ es.toList.any (·.refKey)=true:=by rw [a];exact Q4
  rw [Qz a']
  exact congrArg some e
variable {C:Addr}
theorem ObjM.look {x:Addr} (I:ObjM h x dx C mA):∃ od,PySem.W.InstAt h x (PySem.W.instObj C dx) C (some od)/\∀ name,PySem.W.lookIn name od=some (mA name):=
 let ⟨od,ho,hl⟩:=zkY I.ns
 ⟨od,⟨I.obj,rfl,rfl,ho⟩,hl⟩
variable {kw:List (Str × Value)} {prog:Program} {name:Str}
section
variable {x f:Addr} {v:Value}
theorem get_map {expr:Bool} (X:K.In s.heap) (I:ObjM s.heap x dx C mA) (hg:PySem.W.plainGet K C name=true) (hh:PySem.W.hasDictIn K C=true)
 (ha:PySem.W.findIn K (.ref C) name=some none) (hv:mA name=some v) (hv':PySem.W.handedIn v=true) (h:Q v { s with toks:=s.toks+1 }) :
  wpAny (model prog w) A (getAttr (.ref x) name expr) Q E s:=by
 obtain ⟨od,J,hl⟩:=I.look
 exact PySem.W.get_value X J (PySem.W.plainGet_of hg).1 (PySem.W.findObj_own hh ha rfl (by rw [hl,hv])) hv' h
theorem znb {ns:List Str} {Q:Unit->Shared->Prop} (X:K.In s.heap) (I:ObjM s.heap x dx C mA)
  (hs:PySem.W.findIn K (.ref C) "__setattr__" = some (some (.builtin "object.__setattr__"))) (hp:PySem.W.plainOver K C=true) (ht:PySem.W.takerIn K C name=some none) (hh:PySem.W.hasDictIn K C=true)
  (hw:PySem.Within mA ns) (hsz:ns.length<=sizeLine)
  (h:∀ h',ObjM h' x dx C (fun y=>if y=name then some v else mA y)->Heap.SameBut dx s.heap h'->Q () { s with heap:=h',toks:=s.toks+2 }) :
  wpAny (model prog w) A (setAttr (.ref x) name v) Q E s:=by
 obtain ⟨od,J,hl⟩:=I.look
 refine PySem.W.set_plain X J hs (PySem.W.osa_open (s:={ s with toks:=s.toks+1 }) (r:=none) X J hp ht fun b=>?_)
 obtain ⟨cd,hc,hd'⟩:=PySem.W.any_some hh
 have hx:s.heap.get? x=some ⟨.ref C,some dx,.plain,#[]⟩:=I.obj
 refine Q1 (Qf (Q1 (Q1 (wpAny_loadPart hx (Q1 (PySem.W.Looks.here (s:={ s with toks:=s.toks+1 }) (PySem.W.looks_clsIn X hc) ?_))))))
 rw [hd']
 refine Qf (a:=some dx) (Q1 (Qf (Q1 ?_)))
 refine wpAny_nsSet1 (s:={ s with toks:=s.toks+1 }) I.ns fun h' hn2 hs2=>?_
 obtain ⟨oD,esD,epD,hoD,hdD,hcD⟩:=hn2.count (PySem.Within.cons name v hw)
 refine Q1 (wpAny_lookBehind hoD (by rw [hdD];exact pastItsLine_dict (Qj hcD (by rw [Qp];omega))) ?_)
 exact Qf (h _ ⟨(hs2.2 _ (Ne.symm I.ne)).trans I.obj,hn2,I.ne⟩ hs2)
theorem zmc {R:Result->Shared->Prop} {vs:List Value} (X:K.In s.heap) (hm:PySem.W.makesIn K C=true)
 (hi:PySem.W.findIn K (.ref C) "__init__" = some (some (.ref f))) (hf:PySem.W.typeIn K (.ref f)=some (.type "function"))
 (h:codeAny (model prog w) (A.under (.builtin "type.__call__" ⟨.ref C::vs,kw⟩)) (.call (.ref f) ⟨.ref (s.heap.objs.size+1)::vs,kw⟩) (PySem.W.InitBack (s.heap.objs.size+1) R)
 { s with heap:=(s.heap.push PySem.W.emptyDict).push (PySem.W.instObj C s.heap.objs.size) }) :
  codeAny (model prog w) A (.call (.ref C) ⟨vs,kw⟩) R s:=by
 obtain ⟨hh,g,d,t,os⟩:=s
 exact PySem.W.make_core (PySem.W.makes_of X hm) (PySem.W.looks_findIn X hi) (fun self=>PySem.W.bind_fn X self hf) (.inl rfl) h
end
noncomputable def z8 (f:Str) (v:V):List (Str × V)->List (Str × V)
 | []=>[(f,v)]
 | (g,x)::r=>if g=f then (g,v)::r else (g,x)::z8 f v r
theorem ze3 (f g:Str) (v:V):∀ fs:List (Str × V),(z8 f v fs).lookup g=if g=f then some v else fs.lookup g
 | []=>by
  show List.lookup g [(f,v)]=_
  by_cases h:g=f
  ·have hb:(g==f)=true:=beq_iff_eq.mpr h
   simp only [List.lookup,hb,Qy h]
  ·have hb:(g==f)=false:=beq_eq_false_iff_ne.mpr h
   simp only [List.lookup,hb,Qz h]
 | (k,x)::r=>by
  have ih:=ze3 f g v r
  rw [show z8 f v ((k,x)::r)=(if k=f then (k,v)::r else (k,x)::z8 f v r) from rfl]
  by_cases hk:k=f
  ·rw [Qy hk]
   by_cases h:g=k
   ·have hb:(g==k)=true:=beq_iff_eq.mpr h
    simp only [List.lookup,hb,Qy (h.trans hk)]
   ·have hb:(g==k)=false:=beq_eq_false_iff_ne.mpr h
    simp only [List.lookup,hb,Qz (fun e:g=f=>h (e.trans hk.symm))]
  ·rw [Qz hk]
   by_cases h:g=k
   ·have hb:(g==k)=true:=beq_iff_eq.mpr h
    simp only [List.lookup,hb,Qz (fun e:g=f=>hk (h.symm.trans e))]
   ·have hb:(g==k)=false:=beq_eq_false_iff_ne.mpr h
    simp only [List.lookup,hb]
    exact ih
theorem zeD (f:Str) (v:V):∀ fs:List (Str × V),f ∈ (z8 f v fs).map (·.1)/\∀ g,g ∈ fs.map (·.1)->g ∈ (z8 f v fs).map (·.1)
 | []=>⟨by simp [z8],fun g h=>by simp at h⟩
 | (k,x)::r=>by
  obtain ⟨i1,i2⟩:=zeD f v r
  rw [show z8 f v ((k,x)::r)=(if k=f then (k,v)::r else (k,x)::z8 f v r) from rfl]
  by_cases hk:k=f
  ·rw [Qy hk]
   subst hk
   exact ⟨by simp,fun g h=>by simpa using h⟩
  ·rw [Qz hk]
   refine ⟨?_,fun g h=>?_⟩
   ·rw [QE]
    exact mem_cons_of_mem _ i1
   ·rw [QE] at h ⊢
    rcases QF.mp h with e | e
    ·exact QF.mpr (.inl e)
    ·exact mem_cons_of_mem _ (i2 g e)
theorem ze5 (f:Str) (v:V):∀ fs:List (Str × V),(z8 f v fs).length<=fs.length+1
 | []=>by simp [z8]
 | (k,x)::r=>by
  have ih:=ze5 f v r
  rw [show z8 f v ((k,x)::r)=(if k=f then (k,v)::r else (k,x)::z8 f v r) from rfl]
  by_cases hk:k=f
  ·rw [Qy hk,Qp,Qp];omega
  ·rw [Qz hk,Qp,Qp];omega
theorem RelO.some_of {o:Option Value} (r:RelO (some v) o):∃ u,o=some u/\RelV v u:=by
 cases o with
 | none=>exact (show False from r).elim
 | some u=>exact ⟨u,rfl,r⟩
theorem zla (r:RelV v u):PySem.W.handedIn u=true:=by
 cases v with
 | non=>cases (show u=Value.none from r);rfl
 | bl b=>cases (show u=Value.bool b from r);rfl
 | int i=>obtain ⟨t,e⟩:=(show ∃ t,u=Value.int i t from r);cases e;rfl
 | str x=>obtain ⟨t,e⟩:=(show ∃ t,u=Value.str x t from r);cases e;rfl
 | byt b=>obtain ⟨t,e⟩:=(show ∃ t,u=Value.bytes b t from r);cases e;rfl
 | flt b=>obtain ⟨t,e⟩:=(show ∃ t,u=Value.float b t from r);cases e;rfl
 | ref a=>cases (show u=Value.ref a from r);rfl
 | ty n=>cases (show u=Value.type n from r);rfl
section
variable {a:Addr} {fs fs':List (Str × V)}
theorem zjp (hok:HOk P w H h) (e:H a=some (.ins C dx fs)):∃ mA,ObjM h a dx C mA/\(∀ f,RelO (fs.lookup f) (mA f))/\PySem.Within mA (fs.map (·.1))/\fs.length<=1000/\H dx=some (.own a):=by
 obtain ⟨d,z,ne,ob,mA,n,r,q⟩:=(show ObjOk P w H h a (.ins C dx fs) from hok a _ e)
 exact ⟨mA,⟨ob,n,ne⟩,r,q,z,d⟩
end
structure Cls (K:Frag) (C:Addr):Prop where
 pg:PySem.W.plainGet K C Str.empty=true
 hd:PySem.W.hasDictIn K C=true
 po:PySem.W.plainOver K C=true
 sa:PySem.W.findIn K (.ref C) "__setattr__" = some (some (.builtin "object.__setattr__"))
theorem Cls.get (c:Cls K C) (f:Str):PySem.W.plainGet K C f=true:=c.pg
def NoAttr (K:Frag) (C:Addr) (f:Str):Prop:=PySem.W.findIn K (.ref C) f=some none
theorem NoAttr.taker {f:Str} (n:NoAttr K C f):PySem.W.takerIn K C f=some none:=by
 unfold PySem.W.takerIn
 rw [show PySem.W.findIn K (.ref C) f=some none from n]
 rfl
structure Con (K:Frag) (C:Addr) (f:Str) (v:V) (u:Value):Prop where
 at_:PySem.W.findIn K (.ref C) f=some (some u)
 rel:RelV v u
 get:PySem.W.specialIn K u "__get__" = some none
 cp:PySem.W.copiedNames.contains f=false
structure Meth (K:Frag) (C:Addr) (m:Str) (f:Addr):Prop where
 at_:PySem.W.findIn K (.ref C) m=some (some (.ref f))
 fn:PySem.W.isFn K (.ref f)=true
 kp:PySem.W.keepIn K (.ref f)=true
section
variable {a:Addr} {fs:List (Str × V)} {f:Str}
theorem zfW {b:Bool} (I:Inv X pins σ H s) (e:H a=some (.ins C dx fs)) (c:Cls X.K C) (n:NoAttr X.K C f) (l:fs.lookup f=some v)
 (h:∀ u s',Inv X pins σ H s'->RelV v u->Q u s'):wpAny (model X.prog X.w) A (getAttr (.ref a) f b) Q E s:=by
 obtain ⟨mA,O,r,_,_,_⟩:=zjp I.hok e
 obtain ⟨u,hu,ru⟩:=RelO.some_of (v:=v) (o:=mA f) (by rw [← l];exact r f)
 exact get_map I.kIn O (c.get f) c.hd n hu (zla ru) (h u _ (I.tok _) ru)
theorem zfL {Q:Unit->Shared->Prop} (I:Inv X pins σ H s) (e:H a=some (.ins C dx fs)) (c:Cls X.K C) (n:NoAttr X.K C f) (hl:fs.length<1000) (ry:RelV y u)
 (h:∀ s',Inv X pins σ (upd H a (.ins C dx (z8 f y fs))) s'->Q () s'):wpAny (model X.prog X.w) A (setAttr (.ref a) f u) Q E s:=by
 obtain ⟨mA,O,r,wi,_,ho⟩:=zjp I.hok e
 have hz:(fs.map (·.1)).length<=sizeLine:=by rw [Qh,sizeLine_eq];omega
 refine znb I.kIn O c.sa c.po n.taker c.hd wi hz fun h' O' sb=>h _ ?_
 have hd:∃ o,h'.get? dx=some o:=let ⟨o,_,_,e',_⟩:=O'.ns;⟨o,e'⟩
 refine I.write (x:=a) (e:=dx) (by rw [e];exact True.intro) (.inr ho) (fun b q hb z=>(sb.2 b hb).trans z) hd ?_
 refine ⟨by rw [zl O.ne];exact ho,?_,O.ne,O'.obj,_,O'.ns,fun g=>?_,fun g hg=>?_⟩
 ·have:=ze5 f y fs;omega
 ·show RelO ((z8 f y fs).lookup g) (if g=f then some u else mA g)
  rw [ze3]
  by_cases q:g=f
  ·rw [Qy q,Qy q];exact ry
  ·rw [Qz q,Qz q];exact r g
 ·by_cases q:g=f
  ·rw [q];exact (zeD f y fs).1
  ·refine (zeD f y fs).2 g (wi g fun z=>hg ?_)
   show (if g=f then some u else mA g)=none
   rw [Qz q];exact z
theorem Inv.made (I:Inv X pins σ H s):Inv X pins σ (upd (upd H s.heap.objs.size (.own (s.heap.objs.size+1))) (s.heap.objs.size+1) (.ins C s.heap.objs.size []))
  { s with heap:=(s.heap.push PySem.W.emptyDict).push (PySem.W.instObj C s.heap.objs.size) }:=by
 have e1:(s.heap.push PySem.W.emptyDict).get? s.heap.objs.size=some PySem.W.emptyDict:=Ql s.heap rfl
 have e2:((s.heap.push PySem.W.emptyDict).push (PySem.W.instObj C s.heap.objs.size)).get? (s.heap.objs.size+1)=some (PySem.W.instObj C s.heap.objs.size):=by
  have:=Ql (s.heap.push PySem.W.emptyDict) (o:=PySem.W.instObj C s.heap.objs.size) rfl
  rwa [Heap.size_push] at this
 have e3:(s.heap.push PySem.W.emptyDict).Ns s.heap.objs.size (fun _=>none):=⟨PySem.W.emptyDict,#[],_,e1,rfl,(fun e he=>absurd he (by simp)),fun _=>rfl⟩
 have I1:=I.laid (a:=s.heap.objs.size) (o:=.own (s.heap.objs.size+1)) (h':=s.heap.push PySem.W.emptyDict) (t':=s.toks) (fun b u q=>Q2 _ q) (Q3 _) ⟨_,e1⟩
 refine I1.laid (a:=s.heap.objs.size+1) (o:=.ins C s.heap.objs.size []) (t':=s.toks) (fun b u q=>Q2 _ q) (Nat.le_of_eq (Heap.size_push _ _)) ?_
 have ne:s.heap.objs.size ≠ s.heap.objs.size+1:=Qk (Nat.lt_succ_self _)
 refine ⟨by rw [zl ne,yE],Nat.zero_le _,ne,e2,fun _=>none,(Heap.Ns1.of_empty e3).at fun o q=>Q2 _ q,fun _=>True.intro,fun y hy=>absurd rfl hy⟩
theorem zoA {env:Env} (hb:attributeBase e f env (eval e env)=eval e env)
 (h:wpAny (model prog w) A (eval e env) (fun o s₁=>wpAny (model prog w) A (getAttr o f true) Q E s₁) E s):wpAny (model prog w) A (eval (.Attribute e f pos) env) Q E s:=
 Attribute_any_ h (by rw [arm_eval_Attribute,hb])
end
noncomputable def zrP (K:Frag) (ta:TE) (f:Str):TE:=fun σ H Q=>ta σ H fun x H1=>∃ a C dx fs v,x = .ref a/\H1 a=some (.ins C dx fs)/\Cls K C/\NoAttr K C f/\fs.lookup f=some v/\Q v H1
noncomputable def zrT (K:Frag) (ta tv:TE) (f:Str):TS:=fun D σ H=>tv σ H fun y H1=>ta σ H1 fun x H2=>∃ a C dx fs,x = .ref a/\H2 a=some (.ins C dx fs)/\Cls K C/\NoAttr K C f/\fs.length<1000 /\
 D.nx σ (upd H2 a (.ins C dx (z8 f y fs)))
def zqE (X:Cx) (op:Operator) (rd:V->V->Hp->VK->Prop):Prop:=
 ∀ (pins:List (Addr × Obj)) (s:Shared) (σ:St) (H:Hp) (x y:V) (u v:Value) (Q:VK),Inv X pins σ H s->RelV x u->RelV y v->rd x y H Q->wpAny (model X.prog X.w) X.A (inplaceOp op u v) (EP X pins σ Q) X.xe s
noncomputable def znd (K:Frag) (ta tv:TE) (rd:V->V->Hp->VK->Prop) (f:Str):TS:=fun D σ H=>ta σ H fun x H1=>∃ a C dx fs v,x = .ref a/\H1 a=some (.ins C dx fs)/\Cls K C/\NoAttr K C f/\fs.lookup f=some v /\
 tv σ H1 fun y H2=>rd v y H2 fun z H3=>∃ dx' fs',H3 a=some (.ins C dx' fs')/\fs'.length<1000/\D.nx σ (upd H3 a (.ins C dx' (z8 f z fs')))
section
variable {o value:Expr} {f:Str} {tv:TE}
theorem zph (he:PE X e ta) (hb:attributeBase e f X.env (eval e X.env)=eval e X.env):PE X (.Attribute e f pos) (zrP X.K ta f):=by
 apply?
 refine zoA hb (thn (he pins s σ H _ I h) fun u s1 ⟨x,H1,I1,rx,a,C,dx,fs,v,ex,ea,c,n,l,q⟩=>?_)
 subst ex
 obtain rfl:u=Value.ref a:=rx
 exact zfW I1 ea c n l fun u' s2 I2 ru=>⟨v,H1,I2,ru,q⟩
theorem zo6 (ha:PE X o ta) (hv:PE X value tv) (hs:swapsWith value (some (.Attribute o f pos')) pos.line X.env=pure false):PS X (.Assign [.Attribute o f pos'] value pos) (zrT X.K ta tv f):=by
 intro pins s σ H D I h
 refine plainObj_wpAny_Assign_Attribute (thn (hv pins s σ H _ I h) fun u s1 ⟨y,H1,I1,ry,q⟩=>thn (ha pins s1 σ H1 _ I1 q) fun ov s2 ⟨x,H2,I2,rx,a,C,dx,fs,ex,ea,c,n,l,q2⟩=>?_) hs
 subst ex
 obtain rfl:ov=Value.ref a:=rx
 exact zfL I2 ea c n l ry fun s3 I3=>⟨σ,_,I3,q2⟩
theorem zkJ {op:Operator} {rd:V->V->Hp->VK->Prop} (ha:PE X o ta) (hv:PE X value tv) (hop:zqE X op rd):PS X (.AugAssign (.Attribute o f tpos) op value pos) (znd X.K ta tv rd f):=by
 intro pins s σ H D I h
 refine wpAny_AugAssign_AttributeAny (thn (ha pins s σ H _ I h) fun ov s1 ⟨x,H1,I1,rx,a,C,dx,fs,v,ex,ea,c,n,l,q⟩=>?_)
 subst ex
 obtain rfl:ov=Value.ref a:=rx
 refine zfW I1 ea c n l fun u s2 I2 ru=>thn (hv pins s2 σ H1 _ I2 q) fun w3 s3 ⟨y,H2,I3,ry,q3⟩=>thn (hop pins s3 σ H2 v y u w3 _ I3 ru ry q3) fun w4 s4 ⟨z,H3,I4,rz,dx',fs',ea',l',q4⟩=>?_
 exact zfL I4 ea' c n l' rz fun s5 I5=>⟨σ,_,I5,q4⟩
noncomputable def zrZ:V->V->Hp->VK->Prop:=fun x y H Q=>∃ i j,x = .int i/\y = .int j/\Q (.int (i+j)) H
theorem zpU:zqE X .Add zrZ:=by
 rintro pins s σ H x y u v Q I rx ry ⟨i,j,rfl,rfl,q⟩
 obtain ⟨t,rfl⟩:=(show ∃ t,u=Value.int i t from rx)
 obtain ⟨t',rfl⟩:=(show ∃ t',v=Value.int j t' from ry)
 exact PyProof.Rows.iadd_int ⟨.int (i+j),H,I.tok _,⟨_,rfl⟩,q⟩
end
section
variable {c:Value} {b:Bool}
inductive TyOf (K:Frag) (H:Hp):V->Value->Prop where
 | non:TyOf K H .non (.type "NoneType")
 | bl (x:Bool):TyOf K H (.bl x) (.type "bool")
 | int (i:Int):TyOf K H (.int i) (.type "int")
 | str (x:Str):TyOf K H (.str x) (.type "str")
 | flt (x:UInt64):TyOf K H (.flt x) (.type "float")
 | lst {a:Addr} {xs:List V} (e:H a=some (.lst xs)):TyOf K H (.ref a) (.type "list")
 | frz {a:Addr} {o:Obj} {xs:List V} (e:H a=some (.frz o (.lst xs))):TyOf K H (.ref a) (.type "list")
 | tup {a:Addr} {xs:List V} (e:H a=some (.tup xs)):TyOf K H (.ref a) (.type "tuple")
 | dK {a:Addr} {kvs:List (Key × V)} (e:H a=some (.dK kvs)):TyOf K H (.ref a) (.type "dict")
 | dT {a:Addr} {kvs:List (List Key × V)} (e:H a=some (.dT kvs)):TyOf K H (.ref a) (.type "dict")
 | ins {a C dx:Addr} {fs:List (Str × V)} (e:H a=some (.ins C dx fs)) (cl:Cls K C) (ha:PySem.W.findIn K (.ref C) "__class__" = some (some (.builtin "object.__class__")))
   (hn:PySem.W.specialIn K (.builtin "object.__class__") "__get__" = some (some (.builtin "getset_descriptor.__get__"))) (htk:PySem.W.takesIn K (.builtin "object.__class__")=some true)
   (hm:PySem.W.mroIn K C (.type "object")=some true):TyOf K H (.ref a) (.ref C)
end
structure Room (k:Nat) (A:Around):Prop where
 hd:A.handled=none
 dp:A.depth+3*k+5<recursionLimit
 un:A.units+16*k+200<cLine
theorem Room.mono {k:Nat} (r:Room k A) (h:j<=k):Room j A:=⟨r.hd,by have:=r.dp;omega,by have:=r.un;omega⟩
theorem Room.deeper {k:Nat} (r:Room (k+1) A) (env:Env):Room k (A.deeper env):=
 ⟨r.hd,by have:=r.dp;show A.depth+1+3*k+5<_;omega,by have:=r.un;show A.units+3+16*k+200<_;omega⟩
theorem Room.in1 {k:Nat} (r:Room (k+1) A):Room k A.in1:=
 ⟨r.hd,by have:=r.dp;show A.depth+3*k+5<_;omega,by have:=r.un;show A.units+1+16*k+200<_;omega⟩
theorem zj6:(A.under (.builtin "type.__call__" ⟨.ref C::us,kw⟩)).depth=A.depth+1:=by
 first | rfl | simp [Around.under,Code.weight,Code.isCreation,Code.isGuard,Code.isCaller,Code.frames,Code.isFrame,guardIds]
theorem zj5:(A.under (.builtin "type.__call__" ⟨.ref C::us,kw⟩)).units=A.units+1:=by
 first | rfl | simp [Around.under,Code.cUnits,Code.frames,Code.isFrame]
theorem Room.make {k:Nat} (r:Room (k+1) A) (C:Addr) (us:List Value) (kw:List (Str × Value)):Room k (A.under (.builtin "type.__call__" ⟨.ref C::us,kw⟩)):=
 ⟨r.hd,by have:=r.dp;rw [zj6];omega,by have:=r.un;rw [zj5];omega⟩
theorem Room.depth {k:Nat} (r:Room k A):A.depth<recursionLimit:=by have:=r.dp;omega
theorem Room.units {k:Nat} (r:Room k A):A.units+64<cLine:=by have:=r.un;omega
theorem Room.units0 {k:Nat} (r:Room k A):A.units<cLine:=by have:=r.un;omega
noncomputable def zrL:TA:=fun _ H Q=>Q [] H
noncomputable def zqO (ta:TE) (tr:TA):TA:=fun σ H Q=>ta σ H fun x H1=>tr σ H1 fun xs H2=>Q (x::xs) H2
section
variable {t:TA}
theorem zpl:PA X [] zrL:=fun _ _ _ _ H Q I h=>Calls.spliced_nil ⟨[],H,I,.nil,h⟩
theorem znz (ha:PE X e te) (hr:PA X es t) (hs:starEach (e::es) X.env=(false,eval e X.env)::starEach es X.env:=by rfl):PA X (e::es) (zqO te t):=by
 intro pos pins s σ H Q I h
 rw [hs]
 show wpAny _ _ (spliced ((false,eval e X.env)::backTo pos (starEach es X.env))) _ _ s
 refine Calls.spliced_cons (thn (ha pins s σ H _ I h) fun u s1 ⟨x,H1,I1,r1,q1⟩=>?_)
 exact thn (hr pos pins s1 σ H1 _ I1 q1) fun us s2 ⟨xs,H2,I2,r2,q2⟩=>⟨x::xs,H2,I2,.cons r1 r2,q2⟩
noncomputable def zrG (t:TA):TE:=fun σ H Q=>t σ H fun xs H1=>xs.length<=sizeLine/\∀ p,H1 p=none->Q (.ref p) (upd H1 p (.tup xs))
noncomputable def zrM (t:TA):TE:=fun σ H Q=>t σ H fun xs H1=>xs.length<=sizeLine/\∀ p,H1 p=none->Q (.ref p) (upd H1 p (.lst xs))
theorem zpa {x1} (h:PA X es t):PE X (.Tuple es x1 pos) (zrG t):=by
 intro pins s σ H Q I hq
 refine wpAny_Tuple_spliced (thn (h pos pins s σ H _ I hq) fun us s1 ⟨xs,H1,I1,r,z,q⟩=>⟨by rw [← r.length];exact z,?_⟩)
 have hf:H1 s1.heap.objs.size=none:=I1.hok.fresh (Q3 _)
 refine ⟨.ref s1.heap.objs.size,upd H1 s1.heap.objs.size (.tup xs),I1.laid (t':=s1.toks) (fun b u e=>Q2 _ e) (Q3 _) ?_,rfl,q _ hf⟩
 exact ⟨z,us,r,⟨_,Ql _ rfl,rfl,_,rfl⟩,NoDict.new⟩
theorem zpg (h:PA X es t):PE X (.List es pos) (zrM t):=by
 intro pins s σ H Q I hq
 refine wpAny_List_spliced (thn (h pos pins s σ H _ I hq) fun us s1 ⟨xs,H1,I1,r,z,q⟩=>⟨by rw [← r.length];exact z,?_⟩)
 have hf:H1 s1.heap.objs.size=none:=I1.hok.fresh (Q3 _)
 refine ⟨.ref s1.heap.objs.size,upd H1 s1.heap.objs.size (.lst xs),I1.laid (t':=s1.toks) (fun b u e=>Q2 _ e) (Q3 _) ?_,rfl,q _ hf⟩
 exact ⟨z,us,0,r,Ql _ rfl⟩
end
noncomputable abbrev Sp:=List V->Hp->VK->XK->Prop
noncomputable abbrev CXT:=List Env->Hp->Shared->XK->Value->Shared->Prop
structure Env0 (P:Program) (w:World) (K:Frag) (mg:Str->Option Value) (base:Heap) (A:Around) (outer:List Env) (s:Shared) (H:Hp):Prop where
 frames:A.frames=some outer
 mod:Mod K mg base
 bs:∀ b o,base.get? b=some o->s.heap.get? b=some o/\H b=none
 bsz:base.objs.size<=s.heap.objs.size
 funs:s.heap.FunFrames base outer
 frf:∀ b ∈ frs outer,H b=none
 hok:HOk P w H s.heap
 bare:AllBare s.gens
def CE (outer:List Env) (P:Program) (w:World) (H:Hp) (s:Shared) (Q:VK) (u:Value) (s':Shared):Prop:=
 ∃ v H',s'.os=s.os/\AllBare s'.gens/\Un (frs outer) [] H H' s.heap s'.heap/\HOk P w H' s'.heap/\RelV v u/\Q v H'
def CR (CX:CXT) (outer:List Env) (P:Program) (w:World) (H:Hp) (s:Shared) (Q:VK) (E:XK) (r:Result) (s':Shared):Prop:=
 match r with
 | .ok (.ret u)=>CE outer P w H s Q u s'
 | .ok _=>False
 | .error e=>CX outer H s E e s'
structure FnOk (P:Program) (w:World) (K:Frag) (mg:Str->Option Value) (base:Heap) (CX:CXT) (k:Nat) (f:Addr) (fd:FuncData) (ps:List Str) (sp:Sp):Prop where
 len:∀ vs H Q E,sp vs H Q E->vs.length=ps.length
 run:∀ (A:Around) (outer:List Env) (s:Shared) (H:Hp) (args:Args) (us:List Value) (vs:List V) (Q:VK) (E:XK),Room k A->Env0 P w K mg base A outer s H->BindsTo s fd args (ps.zip us)->Vals vs us->sp vs H Q E->
  codeAny (model P w) A (.call (.ref f) args) (CR CX outer P w H s Q E) s
variable {CX:CXT} {fd:FuncData} {base:Heap} {ps:List Str} {sp:Sp} {mg:Str->Option Value}
theorem FnOk.mono {k:Nat} {f:Addr} (F:FnOk P w K mg base CX j f fd ps sp) (h:j<=k) :
  FnOk P w K mg base CX k f fd ps sp:=⟨F.len,fun A outer s H args us vs Q E hr=>F.run A outer s H args us vs Q E (hr.mono h)⟩
variable {outer:List Env}
theorem Env0.make (e:Env0 P w K mg base A outer s H) (C:Addr) (us:List Value) (kw:List (Str × Value)) :
  Env0 P w K mg base (A.under (.builtin "type.__call__" ⟨.ref C::us,kw⟩)) outer s H:=⟨by first | exact e.frames | (simpa [Around.under,Code.envs,Code.isFrame,pushEnvs] using e.frames),e.mod,e.bs,e.bsz,e.funs,e.frf,e.hok,e.bare⟩
section
theorem Inv.env0 (I:Inv X pins σ H s):Env0 X.prog X.w X.K X.mg X.base X.A X.stack s H:=
 ⟨I.ok.frames,I.ok.mod,I.bs,Qj I.ok.bsz I.sz,I.stack,I.stkFree,I.hok,I.bare⟩
theorem Inv.after {Q:VK} (I:Inv X pins σ H s) (h:CE X.stack X.prog X.w H s Q u s'):EP X pins σ Q u s':=by
 obtain ⟨v,H',os,bare,un,hok,r,q⟩:=h
 obtain ⟨hh,g,d,t,os'⟩:=s'
 obtain rfl:os'=s.os:=os
 exact ⟨v,H',I.call (h':=hh) (g':=g) (d':=d) (t':=t) (ch:=[]) un hok bare (fun b z=>absurd z (by simp)),r,q⟩
end
noncomputable def zmO (sp:Sp) (dvs:List V) (E:XK) (t:TA):TE:=fun σ H Q=>t σ H fun vs H1=>sp (vs++dvs) H1 Q E
noncomputable def zqM (C:Addr) (sp:Sp) (dvs:List V) (E:XK) (t:TA):TE:=fun σ H Q=>t σ H fun vs H1=>∀ x dx,H1 x=none->H1 dx=none->dx ≠ x->
 sp (.ref x::(vs++dvs)) (upd (upd H1 dx (.own x)) x (.ins C dx [])) (fun v H2=>v = .non/\Q (.ref x) H2) E
def Binds (K:Frag) (fd:FuncData) (ps:List Str) (ds:List Value):Prop:=
 ∀ (s:Shared) (us:List Value),K.In s.heap->(us++ds).length=ps.length->BindsTo s fd ⟨us,[]⟩ (ps.zip (us++ds))
theorem Binds.all (h:∀ us:List Value,us.length=ps.length->bindArgs fd ⟨us,[]⟩=pure (ps.zip us)):Binds K fd ps []:=fun s us _ hl=>by
 rw [append_nil] at hl ⊢
 exact .of_eq (h us hl)
def Passes (CX:CXT) (X:Cx) (E:XK):Prop:=∀ (pins:List (Addr × Obj)) (σ:St) (H:Hp) (s:Shared) (e:Value) (s':Shared),Inv X pins σ H s->CX X.stack H s E e s'->X.xe e s'
variable {vs:List V} {apos:Pos} {m:Str}
section
variable {k:Nat} {f:Addr} {dvs:List V} {ds:List Value} {E:XK} {o:Expr} {t:TA}
theorem zoS {Q:VK} (F:FnOk X.prog X.w X.K X.mg X.base CX k f fd ps sp) (hr:Room k X.A) (hb:Binds X.K fd ps ds) (hd:Vals dvs ds) (hx:Passes CX X E)
 (I:Inv X pins σ H s) (r:Vals vs us) (h:sp (vs++dvs) H Q E):wpAny (model X.prog X.w) X.A (call (.ref f) us) (EP X pins σ Q) X.xe s:=by
 have r2:Vals (vs++dvs) (us++ds):=r.append hd
 have hl:(us++ds).length=ps.length:=by rw [← r2.length];exact F.len _ _ _ _ h
 refine wpAny_call (codeAny_mono (F.run X.A X.stack s H ⟨us,[]⟩ (us++ds) (vs++dvs) Q E hr I.env0 (hb s us I.kIn hl) r2 h) fun r s' hq=>?_)
 cases r with
 | error e=>exact hx pins σ H s e s' I hq
 | ok fl=>
  cases fl with
  | ret u=>exact I.after hq
  | next=>exact False.elim hq
  | brk=>exact False.elim hq
  | cont=>exact False.elim hq
theorem znx (F:FnOk X.prog X.w X.K X.mg X.base CX k f fd ps sp) (hr:Room k X.A) (hg:Gl X x) (hm:X.mg x=some (.ref f)) (hk:PySem.W.keepIn X.K (.ref f)=true) (hb:Binds X.K fd ps ds) (hd:Vals dvs ds) (hx:Passes CX X E)
  (ha:PA X (e::es) t) (hdb:(x==("__debug__":Str))=false:=by decide) (he:starEach (e::es) X.env=(false,eval e X.env)::starEach es X.env:=by rfl) (hpl:(backTo pos (starEach es X.env)).any (·.1)=false:=by rfl) :
  PE X (.Call (.Name x p) (e::es) [] pos) (zmO sp dvs E t):=by
 apply?
 refine wpAny_Call_Name_kw (zgC I hg hm ?_ hdb)
 refine PySem.W.callWith_K (h₀:=X.base) I.ok.mod.kin hk (thn (ha pos pins s σ H _ I h) fun us s1 ⟨vs,H1,I1,r,q⟩=>⟨I1.kIn,?_⟩) he hpl
 exact zoS F hr hb hd hx I1 r q
structure Mk (K:Frag) (C f:Addr):Prop where
 makes:PySem.W.makesIn K C=true
 init:PySem.W.findIn K (.ref C) "__init__" = some (some (.ref f))
 fn:PySem.W.isFn K (.ref f)=true
 kp:PySem.W.keepIn K (.ref C)=true
theorem zlS {Q:VK} (M:Mk X.K C f) (F:FnOk X.prog X.w X.K X.mg X.base CX k f fd ps sp) (hr:Room (k+1) X.A) (hb:Binds X.K fd ps ds) (hd:Vals dvs ds)
 (hx:Passes CX X E) (I:Inv X pins σ H s) (r:Vals vs us)
 (h:∀ x dx,H x=none->H dx=none->dx ≠ x->sp (.ref x::(vs++dvs)) (upd (upd H dx (.own x)) x (.ins C dx [])) (fun v H2=>v = .non/\Q (.ref x) H2) E) :
  wpAny (model X.prog X.w) X.A (call (.ref C) us) (EP X pins σ Q) X.xe s:=by
 have hq:=h (s.heap.objs.size+1) s.heap.objs.size (I.hok.fresh (Nat.le_succ _)) (I.hok.fresh (Q3 _)) (Qk (Nat.lt_succ_self _))
 have I2:=Inv.made (C:=C) I
 have r2:Vals (V.ref (s.heap.objs.size+1)::(vs++dvs)) (Value.ref (s.heap.objs.size+1)::(us++ds)):=.cons rfl (r.append hd)
 have hl:(Value.ref (s.heap.objs.size+1)::us++ds).length=ps.length:=by
  have e:=r2.length
  rw [F.len _ _ _ _ hq] at e
  exact e.symm
 refine wpAny_call (zmc (f:=f) I.kIn M.makes M.init (beq_iff_eq.mp M.fn) (codeAny_mono (F.run _ X.stack _ _ ⟨Value.ref (s.heap.objs.size+1)::us,[]⟩ (Value.ref (s.heap.objs.size+1)::(us++ds)) _ _ E (hr.make C us [])
  (I2.env0.make C us []) (hb _ (Value.ref (s.heap.objs.size+1)::us) I2.kIn hl) r2 hq) fun r s' hq'=>?_))
 cases r with
 | error e=>exact hx pins σ _ _ e s' I2 hq'
 | ok fl=>
  cases fl with
  | ret u=>
   obtain ⟨v,H',I3,rv,ev,q3⟩:=I2.after hq'
   subst ev
   exact ⟨rv,⟨V.ref (s.heap.objs.size+1),H',I3,rfl,q3⟩⟩
  | next=>exact False.elim hq'
  | brk=>exact False.elim hq'
  | cont=>exact False.elim hq'
theorem znu (M:Mk X.K C f) (F:FnOk X.prog X.w X.K X.mg X.base CX k f fd ps sp) (hr:Room (k+1) X.A) (hg:Gl X x) (hm:X.mg x=some (.ref C)) (hb:Binds X.K fd ps ds) (hd:Vals dvs ds) (hx:Passes CX X E)
  (ha:PA X (e::es) t) (hdb:(x==("__debug__":Str))=false:=by decide) (he:starEach (e::es) X.env=(false,eval e X.env)::starEach es X.env:=by rfl) (hpl:(backTo pos (starEach es X.env)).any (·.1)=false:=by rfl) :
  PE X (.Call (.Name x p) (e::es) [] pos) (zqM C sp dvs E t):=by
 apply?
 refine wpAny_Call_Name_kw (zgC I hg hm ?_ hdb)
 refine PySem.W.callWith_K (h₀:=X.base) I.ok.mod.kin M.kp (thn (ha pos pins s σ H _ I h) fun us s1 ⟨vs,H1,I1,r,q⟩=>⟨I1.kIn,?_⟩) he hpl
 exact zlS M F hr hb hd hx I1 r q
end
section
variable {k:Nat} {f:Addr} {ks:List Str} {E:XK} {kpos:Pos} {o:Expr} {kws:List Keyword} {t tk:TA} {nm:Option Str}
structure KBinds (K:Frag) (fd:FuncData) (ps ks:List Str) (g:List Value->List Value->List Value) (gV:List V->List V->List V):Prop where
 to:∀ (s:Shared) (us ws:List Value),K.In s.heap->(g us ws).length=ps.length->BindsTo s fd ⟨us,ks.zip ws⟩ (ps.zip (g us ws))
 rel:∀ {vs:List V} {us:List Value} {zs:List V} {ws:List Value},Vals vs us->Vals zs ws->Vals (gV vs zs) (g us ws)
end
structure FnScope (N P:List Str) (sc:Scope):Prop where
 kind:sc.kind = .function
 co:sc.isCoroutine=false
 gen:sc.isGenerator=false
 nd:N.Nodup
 pre:N.take P.length=P
 par:∀ x ∈ P,sc.names.lookup x=some .local\/sc.names.lookup x=some .cell
 nofree:∀ y ∈ sc.names,y.2 ≠ .free
theorem zha {kindOf:Str->Option NameKind} {x:Str}:∀ {binds:List (Str × Value)} {m:Str->Option Value},(∀ v,(x,v) ∉ binds)->bindL kindOf binds m x=m x
 | [],_,_=>rfl
 | (n,v)::r,m,h=>by
  unfold bindL
  rw [zha fun w hw=>h w (mem_cons_of_mem _ hw)]
  split
  ·have:x ≠ n:=by rintro rfl;exact h v mem_cons_self
   simp [this]
  ·rfl
theorem zhc {kindOf:Str->Option NameKind} {x:Str}:∀ {binds:List (Str × Value)} {m:Str->Option Value},(∀ v,(x,v) ∉ binds)->bindC kindOf binds m x=m x
 | [],_,_=>rfl
 | (n,v)::r,m,h=>by
  unfold bindC
  rw [zhc fun w hw=>h w (mem_cons_of_mem _ hw)]
  split
  ·rfl
  ·have:x ≠ n:=by rintro rfl;exact h v mem_cons_self
   simp [this]
theorem zhb {kindOf:Str->Option NameKind} {x:Str} {v:Value}:∀ {P:List Str} {vs:List Value} {i:Nat} {m:Str->Option Value},P.Nodup->P[i]? = some x->vs[i]? = some v->kindOf x=some .local->
  bindL kindOf (P.zip vs) m x=some v
 | [],_,_,_,_,h,_,_=>by simp at h
 | _::_,[],_,_,_,_,h,_=>by simp at h
 | p::P,w::vs,0,m,nd,h1,h2,hk=>by
  simp at h1 h2;subst h1;subst h2
  show bindL kindOf ((p,w)::P.zip vs) m p=_
  unfold bindL
  rw [zha fun v hv=>(nodup_cons.mp nd).1 (of_mem_zip hv).1,Qy hk]
  simp
 | p::P,w::vs,i+1,m,nd,h1,h2,hk=>by
  show bindL kindOf ((p,w)::P.zip vs) m x=_
  unfold bindL
  exact zhb (i:=i) (nodup_cons.mp nd).2 (by simpa using h1) (by simpa using h2) hk
theorem zhd {kindOf:Str->Option NameKind} {x:Str} {v:Value}:∀ {P:List Str} {vs:List Value} {i:Nat} {m:Str->Option Value},P.Nodup->P[i]? = some x->vs[i]? = some v->kindOf x ≠ some .local->
  bindC kindOf (P.zip vs) m x=some v
 | [],_,_,_,_,h,_,_=>by simp at h
 | _::_,[],_,_,_,_,h,_=>by simp at h
 | p::P,w::vs,0,m,nd,h1,h2,hk=>by
  simp at h1 h2;subst h1;subst h2
  show bindC kindOf ((p,w)::P.zip vs) m p=_
  unfold bindC
  rw [zhc fun v hv=>(nodup_cons.mp nd).1 (of_mem_zip hv).1,Qz hk]
  simp
 | p::P,w::vs,i+1,m,nd,h1,h2,hk=>by
  show bindC kindOf ((p,w)::P.zip vs) m x=_
  unfold bindC
  exact zhd (i:=i) (nodup_cons.mp nd).2 (by simpa using h1) (by simpa using h2) hk
noncomputable def start (N:List Str) (vs:List V):St:=vs.map some++List.replicate (N.length-vs.length) none
noncomputable def zcj (CX:CXT) (P:Program) (w:World) (K:Frag) (mg:Str->Option Value) (base:Heap) (N:List Str) (qual:Str) (scope:Scope) (f:Addr) (cd:Value) (A:Around) (outer:List Env) (s:Shared) (H:Hp) (E:XK):Cx where
 prog:=P
 w:=w
 K:=K
 mg:=mg
 base:=base
 A:=A.deeper (envOfC qual scope s.heap.objs.size f cd)
 N:=N
 s₀:=s
 H₀:=H
 env:=envOfC qual scope s.heap.objs.size f cd
 outer:=outer
 stack:=envOfC qual scope s.heap.objs.size f cd::outer
 ex:=[]
 calm:=true
 fn:=fun _=>true
 pn:=[]
 xe:=fun e s'=>wpAny (model P w) (A.deeper (envOfC qual scope s.heap.objs.size f cd)) (leaving (envOfC qual scope s.heap.objs.size f cd) e) (fun _ s''=>CX outer H s E e s'') (fun e' s''=>CX outer H s E e' s'') s'
theorem ziD {sc:Scope} (h:sc.names.lookup x=some .cell):∃ c,(cellsFrom n sc.names []).lookup x=some c:=by
 have q:=PySem.W.cellsFrom_some sc.names n [] (.inl h)
 exact Option.isSome_iff_exists.mp q
variable {scope:Scope} {qual:Str}
theorem zk8 {f:Addr} {cd:Value} {s1:Shared} {E:XK} 
 (S:FnScope N ps scope) (hd:A.handled=none) (e0:Env0 P w K mg base A outer s H) (hl:vs.length=ps.length) (r:Vals vs us)
 (x:InCallC s s.heap.objs.size (bindL (envOfC qual scope s.heap.objs.size f cd).kindOf (ps.zip us) fun _=>none) (cellsFrom (s.heap.objs.size+1) scope.names []) (bindC (envOfC qual scope s.heap.objs.size f cd).kindOf (ps.zip us) fun _=>none) s1) :
  Inv (zcj CX P w K mg base N qual scope f cd A outer s H E) [] (start N vs) H s1:=by
 have hpl:ps.length<=N.length:=by have:=congrArg List.length S.pre;rw [Qr] at this;omega
 obtain ⟨h1,tk,rfl,hk⟩:=x.done
 have noA:∀ b:Addr,b ∉ (zcj CX P w K mg base N qual scope f cd A outer s H E).ex:=fun b z=>absurd (show b ∈ ([]:List Addr) from z) (by simp)
 refine ⟨⟨e0.mod,S.kind,rfl,rfl,Q3 _,fun y z c h1 h2=>?_,fun y hy=>?_,fun y c _ h=>?_,fun _=>hd,Around.frames_deeper e0.frames,.inr ⟨rfl,rfl⟩,fun b z=>absurd z (noA b),e0.bs,e0.bsz,fun b _ _=>noA b,fun b z=>absurd z (noA b),e0.funs,e0.frf⟩,
  rfl,e0.bare,Un.kept hk,⟨_,x.toInCall.ns,fun i y v h1 h2 h3=>?_⟩,fun y c h=>⟨_,x.cell y c h⟩,e0.hok.fresh (Q3 _),fun y c h=>?_,fun p hp=>absurd (show p ∈ ([]:List (Addr × Obj)) from hp) (by simp),e0.hok.kept hk,?_⟩
 ·exact name_of_addr x.apart (PySem.mem_of_lookup h1) (PySem.mem_of_lookup h2)
 ·have hy:scope.names.lookup y=some .cell\/scope.names.lookup y=some .free:=hy
  rcases hy with hy | hy
  ·exact ziD hy
  ·exact absurd rfl (S.nofree _ (PySem.mem_of_lookup hy))
 ·exact Nat.le_of_lt (x.above y c (PySem.mem_of_lookup h))
 ·have hi:i<vs.length:=by
   unfold start at h2
   by_cases hi:i<vs.length
   ·exact hi
   ·rw [Q8 (by simpa using hi)] at h2
    rw [List.getElem?_replicate] at h2
    split at h2 <;> cases h2
  have ha:vs[i]? = some v:=by
   unfold start at h2
   rw [Q6 (by simpa using hi),Qb] at h2
   cases e:vs[i]? with
   | none=>rw [e] at h2;cases h2
   | some a=>rw [e] at h2;cases h2;rfl
  obtain ⟨u,hu,rv⟩:=r.get ha
  have hp:ps[i]? = some y:=by
   rw [← S.pre,List.getElem?_take_of_lt (by omega)];exact h1
  have ndP:ps.Nodup:=by rw [← S.pre];exact S.nd.sublist (List.take_sublist _ _)
  refine ⟨u,rv,?_⟩
  rcases S.par y (Qa hp) with k | k
  ·exact .inl ⟨k,zhb ndP hp hu k⟩
  ·obtain ⟨c,e⟩:=ziD (n:=s.heap.objs.size+1) k
   refine .inr ⟨.inl k,c,e,?_⟩
   have q:=x.cell y c e
   rw [zhd ndP hp hu (by show scope.names.lookup y ≠ _;rw [k];decide)] at q
   exact q
 ·exact e0.hok.fresh (Nat.le_of_lt (x.above y c (PySem.mem_of_lookup h)))
 ·unfold start
  show _=N.length
  rw [Qn,Qh,length_replicate]
  omega
theorem zrw {k:Nat} {f:Addr} {params:Arguments} {dV kV doc pm cdv ct oc:Value} {an od:Option Addr}
 {osl:Array (Option Value)} (lk:K.lookup f=some ⟨oc,od,.func (PySem.W.fnOf name qual params body scope dV kV doc pm an cdv ct),osl⟩) (hcd:PySem.W.codeIn K cdv qual=true) (S:FnScope N ps scope)
 (len:∀ vs H Q E,sp vs H Q E->vs.length=ps.length)
 (hbody:∀ (A:Around) (outer:List Env) (s:Shared) (H:Hp) (vs:List V) (Q:VK) (E:XK),Room k (A.deeper (envOfC qual scope s.heap.objs.size f cdv))->sp vs H Q E->
 ∃ t,PSs (zcj CX P w K mg base N qual scope f cdv A outer s H E) body t/\t { nx:=fun _ H'=>Q .non H',rt:=Q } (start N vs) H) :
  FnOk P w K mg base CX (k+1) f (PySem.W.fnOf name qual params body scope dV kV doc pm an cdv ct) ps sp:=by
 refine ⟨len,fun A outer s H args us vs Q E hr e0 hb r hsp=>?_⟩
 have hl:=len _ _ _ _ hsp
 have KX:K.In s.heap:=e0.mod.kin.keeps fun b o e=>(e0.bs b o e).1
 have lim:s.heap.NoLimit:=e0.mod.nolimit.keeps fun b o e=>(e0.bs b o e).1
 have hkind:∀ y ∈ ps.zip us,scope.names.lookup y.1=some .local\/(scope.names.lookup y.1=some .cell/\((cellsFrom (s.heap.objs.size+1) scope.names []).lookup y.1).isSome=true):=fun ⟨n,v⟩ hy=>by
  rcases S.par n (of_mem_zip hy).1 with q | q
  ·exact .inl q
  ·exact .inr ⟨q,PySem.W.cellsFrom_some _ _ _ (.inl q)⟩
 refine codeAny_call_function hr.depth (KX _ _ lk) rfl S.co S.gen rfl (PySem.W.codeRec_of KX hcd) (hb _ _ _ _ ?_)
 refine wpAny_newFunctionEnv_cells S.kind hkind fun env he s1 x=>?_
 subst he
 refine ⟨lim.keeps x.toInCall.keep,codeAny_func ?_⟩
 obtain ⟨t,ht,hq⟩:=hbody A outer s H vs Q E (hr.deeper _) hsp
 have I:Inv (zcj CX P w K mg base N qual scope f cdv A outer s H E) [] (start N vs) H s1:=zk8 S hr.hd e0 hl r x
 refine Qg (ht [] s1 (start N vs) H _ I hq) (fun fl s' hs=>?_) fun e s' hs=>hs
 have fin:∀ {σ':St} {H':Hp} {v:V} {u:Value},Inv (zcj CX P w K mg base N qual scope f cdv A outer s H E) [] σ' H' s'->RelV v u->Q v H'->CE outer P w H s Q u s':=
  fun {σ' H' v u} J rv q=>⟨v,H',J.os,J.bare,J.base,J.hok,rv,q⟩
 cases fl with
 | ret u=>
  obtain ⟨v,σ',H',J,rv,q⟩:=hs
  exact fin J rv q
 | next=>
  obtain ⟨σ',H',J,q⟩:=hs
  exact fin (v:=V.non) (u:=Value.none) J rfl q
 | brk=>
  obtain ⟨_,_,_,q⟩:=hs
  exact False.elim q
 | cont=>
  obtain ⟨_,_,_,q⟩:=hs
  exact False.elim q
section
variable {t:TA} {id T:String} {r:List V->Hp->VK->Prop}
noncomputable def tCB (r:List V->Hp->VK->Prop) (t:TA):TE:=fun σ H Q=>t σ H fun vs H1=>r vs H1 Q
theorem zl4 (hc:CallR X (.builtin id) r) (hg:Gl X x) (hm:X.mg x=none) (hv:bootBuiltins x=some (.builtin id)) (ha:PA X (e::es) t) (hn:x ≠ "__name__":=by decide) (hdb:(x==("__debug__":Str))=false:=by decide)
  (he:starEach (e::es) X.env=(false,eval e X.env)::starEach es X.env:=by rfl) (hpl:(backTo pos (starEach es X.env)).any (·.1)=false:=by rfl):PE X (.Call (.Name x p) (e::es) [] pos) (tCB r t):=by
 apply?
 refine wpAny_Call_Name_kw (zeC I hg hm hv ?_ hn hdb)
 exact PyProof.Rows.callWith_builtin1 (thn (ha pos pins s σ H _ I h) fun us s1 ⟨vs,H1,I1,r1,q1⟩=>hc pins s1 σ H1 vs us Q I1 r1 q1) he hpl
theorem zgV (hc:CallR X (.type T) r) (hg:Gl X x) (hm:X.mg x=none) (hv:bootBuiltins x=some (.type T)) (ha:PA X (e::es) t) (hn:x ≠ "__name__":=by decide) (hdb:(x==("__debug__":Str))=false:=by decide)
  (he:starEach (e::es) X.env=(false,eval e X.env)::starEach es X.env:=by rfl) (hpl:(backTo pos (starEach es X.env)).any (·.1)=false:=by rfl):PE X (.Call (.Name x p) (e::es) [] pos) (tCB r t):=by
 apply?
 refine wpAny_Call_Name_kw (zeC I hg hm hv ?_ hn hdb)
 exact PyProof.Rows.callWith_type1 (thn (ha pos pins s σ H _ I h) fun us s1 ⟨vs,H1,I1,r1,q1⟩=>hc pins s1 σ H1 vs us Q I1 r1 q1) he hpl
end
end L2
namespace HT
open PySem PyProof.Rows
variable {sl t:Addr} {vl vu:Value} {Q:Value->Shared->Prop}
section
variable {prog:Program} {w:World} {A:Around} {E:Value->Shared->Prop} {s:Shared}
theorem zoy {b:Addr} {vs ws:List Value} (ht:IsTup s.heap t vs.toArray) (hb:IsTup s.heap b ws.toArray) (hv:vs ≠ [])
 (h1:ws=[]->Q (.ref t) s) (h2:ws ≠ []->Q (.ref s.heap.objs.size) { s with heap:=s.heap.push { cls:=.type "tuple",data:=.seq (vs++ws).toArray } })
 (hsz:vs.length+ws.length<=sizeLine):wpAny (model prog w) A (binaryOp .Add (.ref t) (.ref b)) Q E s:=by
 obtain ⟨⟨cls,dd,data,sl⟩,ho,hc,n,hd⟩:=id ht
 obtain ⟨⟨cls2,dd2,data2,sl2⟩,ho2,hc2,n2,hd2⟩:=id hb
 simp only at hc hd hc2 hd2
 subst hc hd hc2 hd2
 have e:vs.toArray++ws.toArray=(vs++ws).toArray:=by simp
 by_cases hw:ws=[]
 ·exact concat_meets ⟨_,ho,rfl⟩ ⟨_,ho2,rfl⟩ noFill_tuple_add seq_tuple_add PySem.F.slot_tuple_add PySem.F.entry_tuple_add (PySem.F.args_tuple_add_2 _ _)
   (tuple_addW1 t b vs.toArray ws.toArray n n2 dd dd2 sl sl2 (by simpa using hv) (by simp [hw])) ⟨ho,ho2,h1 hw⟩
 ·refine concat_meets ⟨_,ho,rfl⟩ ⟨_,ho2,rfl⟩ noFill_tuple_add seq_tuple_add PySem.F.slot_tuple_add PySem.F.entry_tuple_add (PySem.F.args_tuple_add_2 _ _)
   (tuple_addW2 t b vs.toArray ws.toArray n n2 dd dd2 sl sl2 (by simpa using hv) (by simpa using hw) (by rw [Qi,Qi];exact hsz)) ⟨ho,ho2,?_⟩
  rw [e]
  exact h2 hw
noncomputable def sIx (n d:Nat):Option Int->Nat
 | none=>d
 | some v=>if v<0 then (v+(n:Int)).toNat else min v.toNat n
theorem zhU (n d:Nat):sIx n d none=d:=rfl
theorem zgn (n d k:Nat):sIx n d (some (k:Int))=min k n:=by
 show (if (k:Int)<0 then ((k:Int)+(n:Int)).toNat else min (k:Int).toNat n)=min k n
 rw [Qz (by omega),QD]
theorem zoQ (n d:Nat) (hd:d<=n) (o:Option Int):sIx n d o<=n:=by
 cases o with
 | none=>exact hd
 | some v=>
  show (if v<0 then (v+(n:Int)).toNat else min v.toNat n)<=n
  by_cases hv:v<0
  ·rw [Qy hv];omega
  ·rw [Qz hv];exact Nat.min_le_right _ _
theorem zjF (v:Int) (n d:Nat):(if v<0 then max (v+(n:Int)) 0 else min v (n:Int))=((sIx n d (some v):Nat):Int):=by
 show (if v<0 then max (v+(n:Int)) 0 else min v (n:Int))=(((if v<0 then (v+(n:Int)).toNat else min v.toNat n):Nat):Int)
 by_cases hv:v<0
 ·simp only [Qy hv];omega
 ·simp only [Qz hv];omega
theorem zkp (lo hi:Option Int) (n:Nat):Builtin.Slice.sliceAdjust lo hi 1 (n:Int)=(((sIx n 0 lo:Nat):Int),((sIx n n hi:Nat):Int)):=by
 have h1:¬ ((1:Int)<0):=by omega
 unfold Builtin.Slice.sliceAdjust
 simp only [h1,if_false]
 refine Prod.ext ?_ ?_
 ·cases lo with
  | none=>rfl
  | some v=>exact zjF v n 0
 ·cases hi with
  | none=>rfl
  | some v=>exact zjF v n n
theorem zj0 (i j:Nat):Builtin.Slice.slicePlaces (i:Int) (j:Int) 1=j-i:=by
 unfold Builtin.Slice.slicePlaces
 have h1:(1:Int) > 0:=by omega
 simp only [h1,if_true,Int.ediv_one]
 split <;> omega
theorem zfK {v:Value} {o:Option Int} {Q:Option Int->Shared->Prop} (p:IsPart v o) (h:Q o s):wpAny (model prog w) A (Builtin.Slice.slicePartIndex v) Q E s:=by
 cases p with
 | none=>exact slicePart_none h
 | int i t=>exact slicePart_int h
theorem zcX {lo hi:Option Int} {n:Nat} {Q:Int × Int × Nat->Shared->Prop} (hs:s.heap.IsSliceOf sl vl vu .none) (pl:IsPart vl lo) (pu:IsPart vu hi)
 (h:Q (((sIx n 0 lo:Nat):Int),1,sIx n n hi-sIx n 0 lo) s):wpAny (model prog w) A (Builtin.Slice.sliceApplied (.ref sl) (pure (n:Int))) Q E s:=by
 obtain ⟨os,hos,hcs,hds⟩:=id hs
 unfold Builtin.Slice.sliceApplied Builtin.Slice.sliceFields
 refine Q1 (Q1 (wpAny_field hos hds (x:=vl) rfl (Q1 (wpAny_field hos hds (x:=vu) rfl (Q1 (wpAny_field hos hds (x:=.none) rfl (Qf ?_)))))))
 refine Q1 (slicePart_none ?_)
 show wpAny _ _ (if ((1:Int)==0)=true then _ else _) _ _ s
 rw [Qz (by decide)]
 refine Q1 (zfK pl (Q1 (zfK pu (Q1 (Qf ?_)))))
 show wpAny _ _ (match Builtin.Slice.sliceAdjust lo hi 1 (n:Int) with | (lo,hi)=>pure (lo,(1:Int),Builtin.Slice.slicePlaces lo hi 1)) _ _ s
 rw [zkp lo hi n]
 show wpAny _ _ (pure (((sIx n 0 lo:Nat):Int),(1:Int),Builtin.Slice.slicePlaces ((sIx n 0 lo:Nat):Int) ((sIx n n hi:Nat):Int) 1)) _ _ s
 rw [zj0]
 exact Qf h
theorem zl0 (xs:Array Value) (i k:Nat):((List.range k).filterMap fun (m:Nat)=>xs[((i:Int)+(m:Int)*1).toNat]?).toArray=((xs.toList.drop i).take k).toArray:=by
 have e:(fun (m:Nat)=>xs[((i:Int)+(m:Int)*1).toNat]?)=fun m=>xs[i+m]?:=by
  funext m
  have:((i:Int)+(m:Int)*1).toNat=i+m:=by omega
  rw [this]
 rw [e]
 have:=pick_run xs i k
 rw [List.filterMap_map] at this
 have e2:((fun x=>xs[x]?) ∘ fun x=>i+x)=fun m=>xs[i+m]?:=rfl
 rw [e2] at this
 rw [this]
theorem ze0 {items:Array Value} {lo hi:Option Int} (ht:IsTup s.heap t items) (hs:s.heap.IsSliceOf sl vl vu .none) (pl:IsPart vl lo) (pu:IsPart vu hi)
 (hw:¬ (sIx items.size 0 lo=0/\sIx items.size items.size hi=items.size))
 (h:Q (.ref s.heap.objs.size) { s with heap:=s.heap.push { cls:=.type "tuple",data:=.seq ((items.toList.drop (sIx items.size 0 lo)).take (sIx items.size items.size hi-sIx items.size 0 lo)).toArray } })
 (hsz:items.size<=sizeLine):wpAny (model prog w) A (getItem (.ref t) (.ref sl)) Q E s:=by
 have htake:sizeOk (.seq ((items.toList.drop (sIx items.size 0 lo)).take (sIx items.size items.size hi-sIx items.size 0 lo)).toArray):=by
  show ((items.toList.drop (sIx items.size 0 lo)).take (sIx items.size items.size hi-sIx items.size 0 lo)).toArray.size<=sizeLine
  rw [Qi,Qr,length_drop,Array.length_toList]
  omega
 have hj:sIx items.size items.size hi<=items.size:=zoQ _ _ (Q3 _) hi
 obtain ⟨os,hos,hcs,hds⟩:=id hs
 have hTs:s.TypeIs (.ref sl) "slice":=⟨os,hos,hcs⟩
 unfold getItem
 try with_reducible refine wpAny_holding ?_
 first | refine Q1 (Qf ?_) | skip
 refine Q1 (wpAny_sequenceKey ht.typeIs (by decide) ?_)
 refine Q1 (wpAny_callSpecial?_slot (name:=Str.ofString "__getitem__") ht.typeIs PyProof.Rows.slot_tuple_getitem
  (wpAny_call_entry PyProof.Rows.slot_tuple_getitem ht.typeIs entry_tuple_getitem ?_ (args_tuple_getitem _ _)))
 show wpAny _ _ (Builtin.Tuple.tupleItemsOf (.ref t) >>= _) _ _ s
 refine Q1 (tupleItemsOf_ ht ?_)
 refine Q1 (wpAny_typeOf hTs ?_)
 rw [Qy (by decide)]
 refine Q1 (zcX hs pl pu ?_)
 have hno:¬ ((((sIx items.size 0 lo:Nat):Int)==0 && (1:Int)==1 && (sIx items.size items.size hi-sIx items.size 0 lo)==items.size)=true):=by
  intro q
  rw [Qs,Qs] at q
  have q1:((sIx items.size 0 lo:Nat):Int)=0:=eq_of_beq q.1.1
  have q2:sIx items.size items.size hi-sIx items.size 0 lo=items.size:=eq_of_beq q.2
  exact hw ⟨by omega,by omega⟩
 show wpAny _ _ (if (((sIx items.size 0 lo:Nat):Int)==0 && (1:Int)==1 && (sIx items.size items.size hi-sIx items.size 0 lo)==items.size)=true then _ else _) _ _ s
 rw [Qz hno,zl0]
 first
  | exact Q1 (m:=Builtin.Tuple.tupleExact _) (wpAny_newObj_type (Qf ⟨_,rfl,Qf h⟩) htake)
  | exact Q1 (m:=Builtin.Tuple.tupleExact _) (wpAny_newObj_type (Q1 (Qf (Qf ⟨_,rfl,Qf h⟩))) htake)
  | exact Q1 (Q1 (m:=Builtin.Tuple.tupleExact _) (wpAny_newObj_type (Qf (Qf ⟨_,rfl,Qf h⟩)) htake))
  | exact Q1 (Q1 (m:=Builtin.Tuple.tupleExact _) (wpAny_newObj_type (Qf ⟨_,rfl,Qf h⟩) htake))
end
end HT
namespace L2
open PySem PySem.Spec PyProof.Rows
noncomputable abbrev TO:=St->Hp->(Option Int->Hp->Prop)->Prop
def PO (X:Cx) (e:Option Expr) (t:TO):Prop:=
 ∀ (pins:List (Addr × Obj)) (s:Shared) (σ:St) (H:Hp) (Q:Option Int->Hp->Prop),Inv X pins σ H s->t σ H Q->
  wpAny (model X.prog X.w) X.A (evalPart e X.env) (fun u s'=>∃ o H',Inv X pins σ H' s'/\IsPart u o/\Q o H') X.xe s
noncomputable def zm8:TO:=fun _ H Q=>Q none H
noncomputable def zqJ (t:TE):TO:=fun σ H Q=>t σ H fun x H1=>∃ i,x = .int i/\Q (some i) H1
variable {X:Cx} {e:Expr} {xs:List V} {us:List Value} {pos:Pos}
section
variable {te:TE} {lo hi:Option Expr} {tl th:TO} {p2:Pos}
theorem zns:PO X none zm8:=by
 apply?
 rw [evalPart_none]
 exact Qf ⟨none,H,I,.none,h⟩
theorem znr (h:PE X e te):PO X (some e) (zqJ te):=by
 intro pins s σ H Q I hw
 rw [evalPart_some]
 refine thn (h pins s σ H _ I hw) fun u s1 ⟨x,H1,I1,r1,q1⟩=>?_
 obtain ⟨i,rfl,q⟩:=q1
 obtain ⟨t,rfl⟩:=r1
 exact ⟨some i,H1,I1,.int i t,q⟩
def SlR (X:Cx) (r:V->Option Int->Option Int->Hp->VK->Prop):Prop:=
 ∀ (pins:List (Addr × Obj)) (s:Shared) (σ:St) (H:Hp) (x:V) (v vl vu:Value) (lo hi:Option Int) (sl:Addr) (Q:VK),Inv X pins σ H s->RelV x v->s.heap.IsSliceOf sl vl vu .none->IsPart vl lo->IsPart vu hi->r x lo hi H Q->
  ∃ T id,typeLookup (.type T) "__getitem__" = pure (some (.builtin id))/\s.TypeIs v T/\wpAny (model X.prog X.w) X.A (getItem v (.ref sl)) (EP X pins σ Q) X.xe s
noncomputable def tSl (r:V->Option Int->Option Int->Hp->VK->Prop) (te:TE) (tl th:TO):TE:=fun σ H Q=>te σ H fun x H1=>tl σ H1 fun l H2=>th σ H2 fun u H3=>r x l u H3 Q
theorem zh0 {r:V->Option Int->Option Int->Hp->VK->Prop} (hr:SlR X r) (he:PE X e te) (hl:PO X lo tl) (hu:PO X hi th):PE X (.Subscript e (.Slice lo hi none p2) pos) (tSl r te tl th):=by
 apply?
 refine Subscript_ (thn (he pins s σ H _ I h) fun v s1 ⟨x,H1,I1,r1,q1⟩=>?_)
 refine wpAny_Slice (thn (hl pins s1 σ H1 _ I1 q1) fun vl s2 ⟨l,H2,I2,pl,q2⟩=>thn (hu pins s2 σ H2 _ I2 q2) fun vu s3 ⟨u,H3,I3,pu,q3⟩=>?_)
 rw [evalPart_none]
 refine Qf ?_
 have I4:Inv X pins σ H3 { s3 with heap:=s3.heap.push { cls:=.type "slice",data:=.fields #[vl,vu,.none] } }:=I3.kept (t':=s3.toks) fun b ob q=>Q2 _ q
 obtain ⟨T,id,hT,ht,hg⟩:=hr pins { s3 with heap:=s3.heap.push { cls:=.type "slice",data:=.fields #[vl,vu,.none] } } σ H3 x v vl vu l u s3.heap.objs.size Q I4 r1 (Heap.IsSliceOf.new ..) pl pu q3
 show wpAny (model X.prog X.w) X.A (subscriptTail e (.Slice lo hi none p2) v (.ref s3.heap.objs.size)) (EP X pins σ Q) X.xe { s3 with heap:=s3.heap.push { cls:=.type "slice",data:=.fields #[vl,vu,.none] } }
 exact tail_any (ops:=[.ref s3.heap.objs.size,v]) ht hT hg (by with_unfolding_all rfl)
noncomputable def cutV (xs:List V) (lo hi:Option Int):List V:=(xs.drop (HT.sIx xs.length 0 lo)).take (HT.sIx xs.length xs.length hi-HT.sIx xs.length 0 lo)
theorem zfb (xs:List V) (lo hi:Option Int):(cutV xs lo hi).length<=xs.length:=by
 unfold cutV
 rw [Qr,length_drop]
 omega
noncomputable def zrU (K:Frag):V->Option Int->Option Int->Hp->VK->Prop:=fun x lo hi H Q=>∃ a xs,x = .ref a/\SqT K H a xs /\
 ¬ (HT.sIx xs.length 0 lo=0/\HT.sIx xs.length xs.length hi=xs.length)/\∀ p,H p=none->Q (.ref p) (upd H p (.tup (cutV xs lo hi)))
theorem zoN:SlR X (zrU X.K):=by
 intro pins s σ H x v vl vu lo hi sl Q I rx hs pl pu h
 obtain ⟨a,xs,rfl,hx,hw,q⟩:=h
 cases rx
 obtain ⟨its,r,ht,hz⟩:=I.tuple hx
 have hlen:its.toArray.size=xs.length:=by rw [Qi];exact r.length.symm
 refine ⟨"tuple",_,PyProof.Rows.slot_tuple_getitem.lookup,ht.typeIs,?_⟩
 refine HT.ze0 ht hs pl pu (by rw [hlen];exact hw) ?_ (by rw [hlen];exact hz)
 rw [hlen]
 refine ⟨.ref s.heap.objs.size,_,I.laid (t':=s.toks) (o:=.tup (cutV xs lo hi)) (fun b ob q=>Q2 _ q) (Q3 _) ?_,rfl,q _ (I.hok.fresh (Q3 _))⟩
 exact ⟨Qj (zfb xs lo hi) hz,_,(r.drop (HT.sIx xs.length 0 lo)).take (HT.sIx xs.length xs.length hi-HT.sIx xs.length 0 lo),IsTup.new _ _,NoDict.new⟩
noncomputable def zqX (K:Frag):R2:=fun x y H Q=>∃ a b xs ys,x = .ref a/\y = .ref b/\SqT K H a xs/\SqT K H b ys/\xs ≠ []/\xs.length+ys.length<=sizeLine /\
 (ys=[]->Q (.ref a) H)/\(ys ≠ []->∀ p,H p=none->Q (.ref p) (upd H p (.tup (xs++ys))))
theorem Vals.nil_iff (r:Vals xs us):us=[] ↔ xs=[]:=by
 cases r with
 | nil=>simp
 | cons _ _=>simp
theorem znI:OpR X (binaryOp .Add) (zqX X.K):=by
 infer_instance
 obtain ⟨a,b,xs,ys,rfl,rfl,ha,hb,hx,hz,q1,q2⟩:=h
 cases rx
 cases ry
 obtain ⟨its,r1,p1,_⟩:=I.tuple ha
 obtain ⟨its2,r2,p2,_⟩:=I.tuple hb
 refine HT.zoy p1 p2 (fun z=>hx (r1.nil_iff.mp z)) (fun z=>⟨.ref a,H,I,rfl,q1 (r2.nil_iff.mp z)⟩) (fun z=>?_) (by rw [← r1.length,← r2.length];exact hz)
 refine ⟨.ref s.heap.objs.size,_,I.laid (t':=s.toks) (o:=.tup (xs++ys)) (fun b ob q=>Q2 _ q) (Q3 _) ?_,rfl,q2 (fun w=>z (r2.nil_iff.mpr w)) _ (I.hok.fresh (Q3 _))⟩
 exact ⟨by rw [Qn];exact hz,_,r1.append r2,IsTup.new _ _,NoDict.new⟩
end
noncomputable def ixN (n:Nat) (i:Int):Option Nat:=if 0<=i then (if i<n then some i.toNat else none) else if -(n:Int)<=i then some (i+n).toNat else none
noncomputable def atI {α:Type} (xs:List α) (i:Int):Option α:=(ixN xs.length i).bind fun j=>xs[j]?
variable {i:Int} {j n:Nat}
theorem zjo (h:ixN n i=some j):seqIndex? i n=some j/\j<n/\-(n:Int)<=i/\i<n:=by
 unfold ixN at h
 by_cases h0:0<=i
 ·rw [Qy h0] at h
  by_cases h1:i<n
  ·rw [Qy h1] at h
   have e:i.toNat=j:=Qd h
   exact ⟨by rw [seqIndex_of h0 h1,e],by omega,by omega,h1⟩
  ·rw [Qz h1] at h;cases h
 ·rw [Qz h0] at h
  by_cases h1:-(n:Int)<=i
  ·rw [Qy h1] at h
   have e:(i+n).toNat=j:=Qd h
   exact ⟨by rw [seqIndex_neg (by omega) h1,e],by omega,h1,by omega⟩
  ·rw [Qz h1] at h;cases h
theorem zeZ {α:Type} {xs:List α} {v:α} (h:atI xs i=some v):∃ j,seqIndex? i xs.length=some j/\xs[j]? = some v/\j<xs.length/\-(xs.length:Int)<=i/\i<xs.length:=by
 unfold atI at h
 cases e:ixN xs.length i with
 | none=>rw [e] at h;cases h
 | some j=>
  rw [e] at h
  obtain ⟨h1,h2,h3,h4⟩:=zjo e
  exact ⟨j,h1,h,h2,h3,h4⟩
theorem zbl {α:Type} {xs:List α} {v:α} (h:xs[j]? = some v):atI xs (j:Int)=some v:=by
 have hj:j<xs.length:=(Qx.mp h).1
 have e:ixN xs.length (j:Int)=some j:=by
  unfold ixN
  rw [Qy (by omega),Qy (by omega)];simp
 unfold atI;rw [e];exact h
def zgQ (b:Expr):Prop:=∀ o i,subscripted b false o i=operate [o,i] (getItem o i)
def IxR (X:Cx) (r:R2):Prop:=
 ∀ (value slice:Expr) (pins:List (Addr × Obj)) (s:Shared) (σ:St) (H:Hp) (x y:V) (v u:Value) (Q:VK),Inv X pins σ H s->RelV x v->RelV y u->r x y H Q->
  subscripted slice false v u=operate [v,u] (getItem v u)->wpAny (model X.prog X.w) X.A (subscriptTail value slice v u) (EP X pins σ Q) X.xe s
def MtR (X:Cx) (id:String) (r:V->List V->Hp->VK->Prop):Prop:=
 ∀ (pins:List (Addr × Obj)) (s:Shared) (σ:St) (H:Hp) (x:V) (xs:List V) (v:Value) (us:List Value) (Q:VK),Inv X pins σ H s->RelV x v->Vals xs us->r x xs H Q->
  wpAny (model X.prog X.w) X.A (call (.builtin id) (v::us)) (EP X pins σ Q) X.xe s
variable {p:Addr} {H:Hp} {pins:List (Addr × Obj)} {ys:List V} {its its':List Value} {s:Shared} {σ:St} {x y:V} {u:Value}
section
variable {a b:Expr} {ta tb:TE}
theorem IxR.or {r r':R2} (h:IxR X r) (h':IxR X r'):IxR X (fun x y H Q=>r x y H Q\/r' x y H Q):=by
 intro value slice pins s σ H x y v u Q I rx ry q hs
 rcases q with q | q
 ·exact h value slice pins s σ H x y v u Q I rx ry q hs
 ·exact h' value slice pins s σ H x y v u Q I rx ry q hs
theorem zq5 {r:R2} (hr:IxR X r) (ha:PE X a ta) (hb:PE X b tb) (hs:zgQ b):PE X (.Subscript a b pos) (tOp r ta tb):=by
 apply?
 exact Subscript_ (zmL ha hb I h fun v u s2 x y H2 I2 rx ry q=>hr a b pins s2 σ H2 x y v u Q I2 rx ry q (hs _ _))
noncomputable def zlX (K:Frag):R2:=fun x y H Q=>∃ p xs i v,x = .ref p/\y = .int i/\SqL K H p xs/\atI xs i=some v/\Q v H
noncomputable def zoV (K:Frag):R2:=fun x y H Q=>∃ p xs i v,x = .ref p/\y = .int i/\SqT K H p xs/\atI xs i=some v/\Q v H
noncomputable def zoW:R2:=fun x y H Q=>∃ z i c,x = .str z/\y = .int i/\z.length<=sizeLine/\atI z.cps.toList i=some c/\Q (.str ⟨#[c]⟩) H
theorem znZ:IxR X (zlX X.K):=by
 intro value slice pins s σ H x y v u Q I rx ry h hs
 obtain ⟨p,xs,i,z,rfl,rfl,hq,he,q⟩:=h
 cases rx
 obtain ⟨t,rfl⟩:=ry
 obtain ⟨its,r,pl,hz⟩:=I.list hq
 obtain ⟨j,h1,h2,h3,h4,h5⟩:=zeZ he
 obtain ⟨w,ew,rw'⟩:=r.get h2
 have hl:=r.length
 have hn:=zcw
 have fin:EP X pins σ Q w s:=⟨z,H,I,rw',q⟩
 by_cases h0:0<=i
 ·have hj:i.toNat=j:=by
   rw [seqIndex_of h0 h5] at h1
   exact Qd h1
  exact item_listR pl.isList h0 (by omega) (by rw [hj];simpa using ew) fin hs
 ·have hj:(i+(its.toArray.size:Int)).toNat=j:=by
   rw [seqIndex_neg (by omega) h4] at h1
   rw [Qi,← hl]
   exact Qd h1
  exact subscriptTail_builtinR (x:=w) pl.isList.typeIs slot_list_getitem.lookup
   (wpAny_getItem_list_neg (Q:=fun r s'=>r=w/\EP X pins σ Q r s') pl.isList (by omega) (by rw [Qi] <;> omega) (by omega) (by rw [hj];simpa using ew) ⟨rfl,fin⟩) hs
theorem zpO:IxR X (zoV X.K):=by
 intro value slice pins s σ H x y v u Q I rx ry h hs
 obtain ⟨p,xs,i,z,rfl,rfl,hq,he,q⟩:=h
 cases rx
 obtain ⟨t,rfl⟩:=ry
 obtain ⟨its,r,pl,hz⟩:=I.tuple hq
 obtain ⟨j,h1,h2,h3,h4,h5⟩:=zeZ he
 obtain ⟨w,ew,rw'⟩:=r.get h2
 have hl:=r.length
 have hn:=zcw
 have fin:EP X pins σ Q w s:=⟨z,H,I,rw',q⟩
 exact subscriptTail_builtinR (x:=w) pl.typeIs slot_tuple_getitem.lookup
  (getItem_tuple (j:=j) (Q:=fun r s'=>r=w/\EP X pins σ Q r s') pl (by omega) (by omega) (by rw [Qi,← hl];exact h1) (by simpa using ew) ⟨rfl,fin⟩) hs
theorem zk5:IxR X zoW:=by
 intro value slice pins s σ H x y v u Q I rx ry h hs
 obtain ⟨z,i,c,rfl,rfl,hz,he,q⟩:=h
 obtain ⟨t,rfl⟩:=rx
 obtain ⟨t',rfl⟩:=ry
 obtain ⟨j,h1,h2,h3,h4,h5⟩:=zeZ he
 have hl:z.cps.toList.length=z.length:=by simp [Str.length]
 rw [hl] at h1 h4 h5
 have hn:=zcw
 exact tail_any (typeIs_str s z t) slot_str_getitem.lookup (getItem_str (c:=c) (by
  have e1:decide (i < -(2 ^ 63:Int))=false:=Qw (by omega)
  have e2:decide (i ≥ 2 ^ 63)=false:=Qw (by omega)
  rw [e1,e2,Bool.or_false]) (by rw [h1];simpa using h2) ⟨.str ⟨#[c]⟩,H,I.tok _,⟨_,rfl⟩,q⟩) hs
noncomputable def rIx (K:Frag):R2:=fun x y H Q=>zlX K x y H Q\/zoV K x y H Q\/zoW x y H Q
theorem zpP:IxR X (rIx X.K):=znZ.or (zpO.or zk5)
theorem zj4 (its:List Value) (n j:Nat) (u:Value):Obj.mapSeq (·.setIfInBounds j u) { cls:=.type "list",data:=.seq its.toArray n }={ cls:=.type "list",data:=.seq (its.set j u).toArray n }:=by
 simp [Obj.mapSeq]
theorem Inv.lst (I:Inv X pins σ H s) (h:H p=some (.lst xs)) :
  ∃ (its:List Value) (n:Nat),Vals xs its/\s.heap.get? p=some { cls:=.type "list",data:=.seq its.toArray n }/\xs.length<=sizeLine:=by
 obtain ⟨z,its,n,r,e⟩:=I.hok p _ h
 exact ⟨its,n,r,e,z⟩
theorem Inv.lstUpd {n':Nat} {f:Obj->Obj} (I:Inv X pins σ H s) (h:H p=some (.lst xs))
 (ho:s.heap.get? p=some { cls:=.type "list",data:=.seq its.toArray n }) (hf:f { cls:=.type "list",data:=.seq its.toArray n }={ cls:=.type "list",data:=.seq its'.toArray n' }) (r:Vals ys its') (hz:ys.length<=sizeLine) (t:Nat) :
  Inv X pins σ (upd H p (.lst ys)) { s with heap:=s.heap.update p f,toks:=t }:=by
 have e:(s.heap.update p f).get? p=some { cls:=.type "list",data:=.seq its'.toArray n' }:=by
  rw [Heap.get?_update_self f ho (by rw [hf] <;> rfl),hf]
 refine I.write (x:=p) (e:=p) (by rw [h];trivial) (.inl rfl) (fun b u hb q=>(Heap.get?_update_other _ _ (Ne.symm hb)).trans q) ⟨_,e⟩ ?_
 exact ⟨hz,its',n',r,e⟩
noncomputable def zqU:V->V->V->Hp->(Hp->Prop)->Prop:=fun o i v H Q=>∃ p xs k j,o = .ref p/\i = .int k/\H p=some (.lst xs)/\ixN xs.length k=some j/\Q (upd H p (.lst (xs.set j v)))
theorem set_list:zek X zqU:=by
 intro pins s σ H o i v ov iv u Q I ro ri rv h
 obtain ⟨p,xs,k,j,rfl,rfl,hp,hj,q⟩:=h
 cases ro
 obtain ⟨t,rfl⟩:=ri
 obtain ⟨its,n,r,ho,hz⟩:=I.lst hp
 obtain ⟨h1,h2,h3,h4⟩:=zjo hj
 have hl:=r.length
 have hn:=zcw
 have I':Inv X pins σ (upd H p (.lst (xs.set j v))) { s with heap:=s.heap.update p (Obj.mapSeq (·.setIfInBounds j u)) }:=
  I.lstUpd hp ho (zj4 its n j u) (r.set rv j) (by rw [length_set];exact hz) s.toks
 by_cases h0:0<=k
 ·have hk:k.toNat=j:=by
   rw [seqIndex_of h0 h4] at h1
   exact Qd h1
  exact PySem.W.ki_setAt ho h0 (by omega) (by rw [Qi,← hl];exact h4) (by rw [hk];exact ⟨_,I',q⟩)
 ·have hk:(k+(its.toArray.size:Int)).toNat=j:=by
   rw [seqIndex_neg (by omega) h3] at h1
   rw [Qi,← hl]
   exact Qd h1
  exact PySem.W.ki_setBack ho (by omega) (by rw [Qi,← hl];exact h3) (by omega) (by rw [hk];exact ⟨_,I',q⟩)
theorem zhK (lo hi:Option Int) (n:Nat):(sliceBounds lo hi none n).1=((HT.sIx n 0 lo:Nat):Int)/\(sliceBounds lo hi none n).2.1=((HT.sIx n n hi:Nat):Int)/\(sliceBounds lo hi none n).2.2=1:=by
 refine ⟨?_,?_,rfl⟩
 ·cases lo with
  | none=>simp [sliceBounds,HT.sIx]
  | some i=>
   simp only [sliceBounds,HT.sIx,Option.getD_none,show (1:Int) > 0 by decide,if_true]
   by_cases h:i<0
   ·simp only [h,if_true] <;> omega
   ·simp only [h,if_false] <;> omega
 ·cases hi with
  | none=>simp [sliceBounds,HT.sIx]
  | some i=>
   simp only [sliceBounds,HT.sIx,Option.getD_none,show (1:Int) > 0 by decide,if_true]
   by_cases h:i<0
   ·simp only [h,if_true] <;> omega
   ·simp only [h,if_false] <;> omega
theorem zhi (its:List Value) (lo hi:Option Int):slicePick its.toArray lo hi none=((its.drop (HT.sIx its.length 0 lo)).take (HT.sIx its.length its.length hi-HT.sIx its.length 0 lo)).toArray:=by
 obtain ⟨h1,h2,h3⟩:=zhK lo hi its.toArray.size
 unfold slicePick
 rw [h1,h2,h3]
 simp only [sliceRange_one,pick_run,Qi] <;> rfl
noncomputable def zrV (K:Frag):V->Option Int->Option Int->Hp->VK->Prop:=fun x lo hi H Q=>∃ a xs,x = .ref a/\SqL K H a xs/\∀ p,H p=none->Q (.ref p) (upd H p (.lst (cutV xs lo hi)))
theorem zna:SlR X (zrV X.K):=by
 intro pins s σ H x v vl vu lo hi sl Q I rx hs pl pu h
 obtain ⟨a,xs,rfl,hx,q⟩:=h
 cases rx
 obtain ⟨its,r,ht,hz⟩:=I.list hx
 have hlen:=r.length
 refine ⟨"list",_,slot_list_getitem.lookup,ht.isList.typeIs,?_⟩
 refine wpAny_getItem_list_slice ht.isList hs pl pu .none (by simp) ?_ (by rw [Qi] <;> omega)
 rw [zhi,← hlen]
 refine ⟨.ref s.heap.objs.size,_,I.laid (t':=s.toks) (o:=.lst (cutV xs lo hi)) (fun b ob q=>Q2 _ q) (Q3 _) ?_,rfl,q _ (I.hok.fresh (Q3 _))⟩
 exact ⟨Qj (zfb xs lo hi) hz,_,0,(r.drop (HT.sIx xs.length 0 lo)).take (HT.sIx xs.length xs.length hi-HT.sIx xs.length 0 lo),Ql _ rfl⟩
noncomputable def zaz:V->Bool
 | .non=>true
 | .bl _=>true
 | .int _=>true
 | .str _=>true
 | _=>false
noncomputable def eqV:V->V->Bool
 | .non,.non=>true
 | .bl a,.bl b=>a==b
 | .bl a,.int b=>(if a then 1 else 0)==b
 | .int a,.bl b=>a==(if b then 1 else 0)
 | .int a,.int b=>a==b
 | .str a,.str b=>a==b
 | _,_=>false
theorem zis {A:Around} {v:Value} (ry:RelV y u) (rx:RelV x v) (fy:zaz y=true) (fx:zaz x=true):SeqAt.EqAt A s u v (eqV y x):=by
 cases y with
 | non=>
  cases ry
  cases x with
  | non=>cases rx;exact SeqAt.EqAt.same _
  | bl b=>cases rx;exact SeqAt.EqAt.none_bool b
  | int b=>obtain ⟨t,rfl⟩:=rx;exact SeqAt.EqAt.none_int b t
  | str b=>obtain ⟨t,rfl⟩:=rx;exact SeqAt.EqAt.none_str b t
  | _=>exact?
 | bl a=>
  cases ry
  cases x with
  | non=>cases rx;exact SeqAt.EqAt.bool_none a
  | bl b=>cases rx;exact SeqAt.EqAt.bool_bool a b
  | int b=>obtain ⟨t,rfl⟩:=rx;exact SeqAt.EqAt.bool_int a b t
  | str b=>obtain ⟨t,rfl⟩:=rx;exact SeqAt.EqAt.bool_str a b t
  | _=>exact?
 | int a=>
  obtain ⟨t',rfl⟩:=ry
  cases x with
  | non=>cases rx;exact SeqAt.EqAt.int_none a t'
  | bl b=>cases rx;exact SeqAt.EqAt.int_bool a t' b
  | int b=>obtain ⟨t,rfl⟩:=rx;exact SeqAt.EqAt.int_int a t' b t
  | str b=>obtain ⟨t,rfl⟩:=rx;exact SeqAt.EqAt.int_str a t' b t
  | _=>exact?
 | str a=>
  obtain ⟨t',rfl⟩:=ry
  cases x with
  | non=>cases rx;exact SeqAt.EqAt.str_none a t'
  | bl b=>cases rx;exact SeqAt.EqAt.str_bool a t' b
  | int b=>obtain ⟨t,rfl⟩:=rx;exact SeqAt.EqAt.str_int a t' b t
  | str b=>obtain ⟨t,rfl⟩:=rx;exact SeqAt.EqAt.str_str a t' b t
  | _=>exact?
 | _=>exact absurd (show false=true from fy) Q4
noncomputable def eqU (x:V) (u:Value):Bool:=match u with
 | .none=>eqV .non x
 | .bool b=>eqV (.bl b) x
 | .int i _=>eqV (.int i) x
 | .str z _=>eqV (.str z) x
 | _=>false
theorem zir (r:RelV y u) (f:zaz y=true):eqU x u=eqV y x:=by
 cases y with
 | non=>cases r;rfl
 | bl b=>cases r;rfl
 | int i=>obtain ⟨t,rfl⟩:=r;rfl
 | str z=>obtain ⟨t,rfl⟩:=r;rfl
 | _=>exact absurd (show false=true from f) Q4
theorem zdT {x:V}:∀ {xs:List V} {us:List Value},Vals xs us->xs.all zaz=true->us.any (eqU x)=xs.any fun y=>eqV y x
 | _,_,.nil,_=>rfl
 | y::xs,u::us,.cons r t,f=>by
  rw [all_cons,Qs] at f
  rw [any_cons,any_cons,zir r f.1,zdT t f.2]
theorem zcf {A:Around} {s:Shared} {x:V} {v:Value} (rx:RelV x v) (fx:zaz x=true):∀ {xs:List V} {us:List Value},Vals xs us->xs.all zaz=true->∀ u ∈ us,SeqAt.EqAt A s u v (eqU x u)
 | _,_,.nil,_=>fun u hu=>by cases hu
 | y::xs,u::us,.cons r t,f=>fun u' hu=>by
  rw [all_cons,Qs] at f
  rcases QF.mp hu with rfl | hu
  ·rw [zir r f.1];exact zis r rx f.1 fx
  ·exact zcf rx fx t f.2 u' hu
noncomputable def inV (x:V) (xs:List V):Bool:=xs.any fun y=>eqV y x
noncomputable def rIn (K:Frag) (neg:Bool):R2:=fun x y H Q=>∃ p xs,y = .ref p/\(SqL K H p xs\/SqT K H p xs)/\zaz x=true/\xs.all zaz=true/\Q (.bl (if neg then !inV x xs else inV x xs)) H
theorem zkR:OpR X (compareOp .In) (rIn X.K false):=by
 infer_instance
 obtain ⟨p,xs,rfl,hq,fx,fs,q⟩:=h
 cases ry
 rcases hq with hq | hq
 ·obtain ⟨its,r,pl,hz⟩:=I.list hq
  refine SeqAt.in_listAt (eqU x) pl.isList (fun w hw=>zcf rx fx r fs w (by simpa using hw)) ⟨.bl _,H,I,rfl,?_⟩
  rw [show its.toArray.any (eqU x)=its.any (eqU x) by simp,zdT r fs]
  exact q
 ·obtain ⟨its,r,pl,hz⟩:=I.tuple hq
  refine SeqAt.in_tupleAt (eqU x) pl (fun w hw=>zcf rx fx r fs w (by simpa using hw)) ⟨.bl _,H,I,rfl,?_⟩
  rw [show its.toArray.any (eqU x)=its.any (eqU x) by simp,zdT r fs]
  exact q
theorem zh1:OpR X (compareOp .NotIn) (rIn X.K true):=by
 infer_instance
 obtain ⟨p,xs,rfl,hq,fx,fs,q⟩:=h
 cases ry
 rcases hq with hq | hq
 ·obtain ⟨its,r,pl,hz⟩:=I.list hq
  refine SeqAt.notIn_listAt (eqU x) pl.isList (fun w hw=>zcf rx fx r fs w (by simpa using hw)) ⟨.bl _,H,I,rfl,?_⟩
  rw [show its.toArray.any (eqU x)=its.any (eqU x) by simp,zdT r fs]
  exact q
 ·obtain ⟨its,r,pl,hz⟩:=I.tuple hq
  refine SeqAt.notIn_tupleAt (eqU x) pl (fun w hw=>zcf rx fx r fs w (by simpa using hw)) ⟨.bl _,H,I,rfl,?_⟩
  rw [show its.toArray.any (eqU x)=its.any (eqU x) by simp,zdT r fs]
  exact q
theorem ziG:CallR X (.builtin "len") (fun xs H Q=>∃ p ys,xs=[.ref p]/\(SqL X.K H p ys\/SqT X.K H p ys)/\Q (.int ys.length) H):=by
 intro pins s σ H xs us Q I r h
 obtain ⟨p,ys,rfl,hq,q⟩:=h
 obtain ⟨u,rfl,rx⟩:=vals1 r
 cases rx
 have hn:=zcw
 rcases hq with hq | hq
 ·obtain ⟨its,r',pl,hz⟩:=I.list hq
  have hlen:=r'.length
  exact Calls.call_len_list pl.isList (by simp only [Qi] <;> omega) ⟨.int ys.length,H,I.tok _,⟨s.toks+1,by rw [Qi,hlen]⟩,q⟩
 ·obtain ⟨its,r',pl,hz⟩:=I.tuple hq
  have hlen:=r'.length
  exact len_tuple pl (by simp only [Qi] <;> omega) ⟨.int ys.length,H,I.tok _,⟨s.toks+1,by rw [Qi,hlen]⟩,q⟩
theorem ziF:CallR X (.builtin "len") (fun xs H Q=>∃ z,xs=[.str z]/\z.length<=sizeLine/\Q (.int z.length) H):=by
 intro pins s σ H xs us Q I r h
 obtain ⟨z,rfl,hz,q⟩:=h
 obtain ⟨u,rfl,t,rfl⟩:=vals1 r
 have hn:=zcw
 exact len_str (by omega) ⟨.int z.length,H,I.tok _,⟨_,rfl⟩,q⟩
theorem ziE:CallR X (.type "list") (fun xs H Q=>∃ p ys,xs=[.ref p]/\(SqL X.K H p ys\/SqT X.K H p ys)/\∀ l,H l=none->Q (.ref l) (upd H l (.lst ys))):=by
 intro pins s σ H xs us Q I r h
 obtain ⟨p,ys,rfl,hq,q⟩:=h
 obtain ⟨u,rfl,rx⟩:=vals1 r
 cases rx
 have fin:∀ (its:List Value),Vals ys its->ys.length<=sizeLine->∀ (h':Heap) (c':Nat),(∀ b o',s.heap.get? b=some o'->h'.get? b=some o')->
   h'.get? s.heap.objs.size=some { cls:=.type "list",dict:=none,data:=.seq its.toArray c',slots:=#[] }->EP X pins σ Q (.ref s.heap.objs.size) { s with heap:=h' }:=fun its r' hz h' c' kp e=>
  ⟨.ref s.heap.objs.size,_,I.laid (t':=s.toks) kp (Q3 _) (show ObjOk X.prog X.w _ h' _ (.lst ys) from ⟨hz,its,c',r',e⟩),rfl,q _ (I.hok.fresh (Q3 _))⟩
 rcases hq with hq | hq
 ·obtain ⟨its,r',pl,hz⟩:=I.list hq
  have hlen:=r'.length
  obtain ⟨o,ho,hc,n,hd⟩:=pl.isList
  exact call_list_seq p (.inl rfl) ho hc hd (fun h' c' kp e=>fin its r' hz h' c' kp e) (by simp only [Qi] <;> omega)
 ·obtain ⟨its,r',pl,hz⟩:=I.tuple hq
  have hlen:=r'.length
  obtain ⟨o,ho,hc,n,hd⟩:=pl
  exact call_list_seq p (.inr rfl) ho hc hd (fun h' c' kp e=>fin its r' hz h' c' kp e) (by simp only [Qi] <;> omega)
theorem zhl:CallR X (.type "tuple") (fun xs H Q=>∃ p ys,xs=[.ref p]/\((SqL X.K H p ys/\∀ l,H l=none->Q (.ref l) (upd H l (.tup ys)))\/(SqT X.K H p ys/\Q (.ref p) H))):=by
 intro pins s σ H xs us Q I r h
 obtain ⟨p,ys,rfl,h⟩:=h
 obtain ⟨u,rfl,rx⟩:=vals1 r
 cases rx
 rcases h with ⟨hq,q⟩ | ⟨hq,q⟩
 ·obtain ⟨its,r',pl,hz⟩:=I.list hq
  have hlen:=r'.length
  refine call_tuple_list pl.isList (fun h' kp=>?_) (by simp only [Qi] <;> omega)
  have I1:Inv X pins σ H { s with heap:=h' }:=I.kept (t':=s.toks) kp
  have I2:Inv X pins σ (upd H h'.objs.size (.tup ys)) { s with heap:=h'.push { cls:=.type "tuple",data:=.seq its.toArray } }:=
   I1.laid (t':=s.toks) (fun b o e=>Q2 _ e) (Q3 _) (show ObjOk X.prog X.w _ _ _ (.tup ys) from ⟨hz,its,r',IsTup.new _ _,NoDict.new⟩)
  exact ⟨.ref h'.objs.size,_,I2,rfl,q _ (I1.hok.fresh (Q3 _))⟩
 ·obtain ⟨its,r',pl,hz⟩:=I.tuple hq
  exact call_tuple_same pl ⟨.ref p,H,I,rfl,q⟩
def tyV (K:Frag) (T:String) (x:V) (H:Hp):Prop:=match x with
 | .str _=>T = "str"
 | .int _=>T = "int"
 | .ref p=>(T = "list"/\∃ xs,SqL K H p xs)\/(T = "tuple"/\∃ o,K.lookup p=some o/\o.cls = .type "tuple"/\o.dict=none) \/
   (T = "dict"/\((∃ kvs,Rd H p (.dK kvs))\/∃ kvs,H p=some (.dT kvs)))\/(T = "set"/\∃ S n,H p=some (.set S n))
 | _=>False
theorem zky {pins:List (Addr × Obj)} {σ:St} {H:Hp} {s:Shared} {T:String} {x:V} {v:Value} (I:Inv X pins σ H s) (r:RelV x v) (ty:tyV X.K T x H) :
  s.TypeIs v T/\∀ a,v = .ref a->∃ ob,s.heap.get? a=some ob/\ob.dict=none:=by
 cases x with
 | str z=>
  obtain ⟨t,rfl⟩:=r
  cases (show T = "str" from ty)
  exact ⟨typeIs_str s z t,fun _ e=>nomatch e⟩
 | int i=>
  obtain ⟨t,rfl⟩:=r
  cases (show T = "int" from ty)
  exact ⟨typeIs_int s i t,fun _ e=>nomatch e⟩
 | ref p=>
  cases r
  rcases ty with ⟨rfl,xs,hq⟩ | ⟨rfl,o,hk,hc,hd⟩ | ⟨rfl,hk⟩ | ⟨rfl,S,n,hk⟩
  ·obtain ⟨its,_,pl,_⟩:=I.list hq
   refine ⟨pl.isList.typeIs,fun a e=>?_⟩
   cases e
   obtain ⟨o,n,e,c,hd,_⟩:=pl
   exact ⟨o,e,hd⟩
  ·refine ⟨⟨o,I.kIn p o hk,hc⟩,fun a e=>?_⟩
   cases e
   exact ⟨o,I.kIn _ o hk,hd⟩
  ·have z:∃ o,s.heap.get? p=some o/\o.ExactDict:=by
    rcases hk with ⟨kvs,hk⟩ | ⟨kvs,hk⟩
    ·obtain ⟨_,_,_,_,o,_,_,e,ex,_⟩:=(show ObjOk X.prog X.w H s.heap p (.dK kvs) from hk.ok I.hok)
     exact ⟨o,e,ex⟩
    ·obtain ⟨_,_,_,_,o,_,_,e,ex,_⟩:=I.hok p _ hk
     exact ⟨o,e,ex⟩
   obtain ⟨o,e,ex⟩:=z
   refine ⟨⟨o,e,ex.1⟩,fun a e2=>?_⟩
   cases e2
   exact ⟨o,e,ex.2.1⟩
  ·obtain ⟨o,_,_,_,e,ex,_⟩:=I.hok p _ hk
   refine ⟨⟨o,e,ex.1⟩,fun a e2=>?_⟩
   cases e2
   exact ⟨o,e,ex.2.1⟩
 | _=>exact False.elim ty
noncomputable def zrQ (K:Frag) (T:String) (r:V->List V->Hp->VK->Prop) (to:TE):TE:=fun σ H Q=>to σ H fun x H1=>tyV K T x H1/\r x [] H1 Q
noncomputable def tBM (K:Frag) (T:String) (r:V->List V->Hp->VK->Prop) (to:TE) (t:TA):TE:=fun σ H Q=>to σ H fun x H1=>tyV K T x H1/\t σ H1 fun xs H2=>r x xs H2 Q
variable {o:Expr} {es:List Expr} {to:TE} {t:TA} {name:Str} {apos cpos:Pos} {T id:String} {r:V->List V->Hp->VK->Prop}
theorem zpj (pa:PlainAttrs T) (slot:Slot T name id) (hty:typeOf (.builtin id)=pure (.type "method_descriptor")) (hm:MtR X id r) (ho:PE X o to)
  (hbase:attributeBase o name X.env (eval o X.env)=eval o X.env:=by rfl) (hline:(apos.endLine==cpos.line)=true:=by rfl):PE X (.Call (.Attribute o name apos) [] [] cpos) (zrQ X.K T r to):=by
 apply?
 refine wpAny_Call_method0_late hbase hline (thn (ho pins s σ H _ I h) fun v s1 ⟨x,H1,I1,r1,ty,q1⟩=>?_)
 obtain ⟨h1,h2⟩:=zky I1 r1 ty
 exact ⟨T,id,pa,slot,hty,h1,h2,Calls.callWith_builtin rfl (PySem.evalArgs_none (hm pins s1 σ H1 x [] v [] Q I1 r1 .nil q1))⟩
theorem zR (pa:PlainAttrs T) (slot:Slot T name id) (hty:typeOf (.builtin id)=pure (.type "method_descriptor")) (hm:MtR X id r) (ho:PE X o to) (ha:PA X (e::es) t)
  (hbase:attributeBase o name X.env (eval o X.env)=eval o X.env:=by rfl)
  (hfew:((backTo cpos (starEach (e::es) X.env)).all (fun x=>!x.1) && (backToKw cpos (keywordEach [] X.env)).all (fun x=>x.1.isSome)
   && decide ((e::es).length+([]:List Keyword).length+(if ([]:List Keyword).isEmpty then 0 else 1)<30))=true:=by rfl)
  (hline:(apos.endLine==cpos.line)=true:=by rfl) (hs:starEach (e::es) X.env=(false,eval e X.env)::starEach es X.env:=by rfl) (hplain:(backTo cpos (starEach es X.env)).any (·.1)=false:=by rfl) :
  PE X (.Call (.Attribute o name apos) (e::es) [] cpos) (tBM X.K T r to t):=by
 apply?
 refine wpAny_Call_method_late hbase hfew hline rfl (thn (ho pins s σ H _ I h) fun v s1 ⟨x,H1,I1,r1,ty,q1⟩=>?_)
 obtain ⟨h1,h2⟩:=zky I1 r1 ty
 refine ⟨T,id,pa,slot,hty,h1,h2,?_⟩
 have hA:=ha cpos pins s1 σ H1 _ I1 q1
 rw [hs] at hA ⊢
 refine Calls.callWith_builtin (by show (false || (backTo cpos (starEach es X.env)).any (·.1))=false;rw [hplain] <;> rfl) (Calls.evalArgs_plain ?_)
 exact thn hA fun us s2 ⟨vs,H2,I2,r2,q2⟩=>hm pins s2 σ H2 x vs v us Q I2 r1 r2 q2
end
def MtM (X:Cx) (id:String) (r:V->List V->Hp->VK->Prop):Prop:=
 ∀ (pins:List (Addr × Obj)) (s:Shared) (σ:St) (H:Hp) (x:V) (xs:List V) (v:Value) (us:List Value) (Q:VK),Inv X pins σ H s->RelV x v->Vals xs us->r x xs H Q->
  wpAny (model X.prog X.w) X.A (call (.builtin id) (v::us)) (EP X pins σ Q) X.xe s
theorem Vals.one:∀ {x:V} {us:List Value},Vals [x] us->∃ u,us=[u]/\RelV x u
 | _,_,.cons r .nil=>⟨_,rfl,r⟩
theorem Vals.two:∀ {x y:V} {us:List Value},Vals [x,y] us->∃ u v,us=[u,v]/\RelV x u/\RelV y v
 | _,_,_,.cons r (.cons q .nil)=>⟨_,_,rfl,r,q⟩
theorem Vals.zero:∀ {us:List Value},Vals [] us->us=[]
 | _,.nil=>rfl
theorem Vals.dropLast (h:Vals xs us):Vals xs.dropLast us.dropLast:=by
 induction h with
 | nil=>exact .nil
 | cons r t ih=>
  cases t with
  | nil=>exact .nil
  | cons q t'=>exact .cons r ih
theorem Vals.eraseIdx:∀ {xs:List V} {us:List Value} (i:Nat),Vals xs us->Vals (xs.eraseIdx i) (us.eraseIdx i)
 | _,_,_,.nil=>.nil
 | _,_,0,.cons _ t=>t
 | _,_,i+1,.cons r t=>.cons r (Vals.eraseIdx i t)
theorem Vals.reverse (h:Vals xs us):Vals xs.reverse us.reverse:=by
 induction h with
 | nil=>exact .nil
 | cons r t ih=>rw [List.reverse_cons,List.reverse_cons];exact Vals.append ih (.cons r .nil)
theorem Vals.rep {xs:List V} {us:List Value} (h:Vals xs us):∀ k:Nat,Vals (List.replicate k xs).flatten (List.replicate k us).flatten
 | 0=>.nil
 | k+1=>by
  rw [replicate_succ,replicate_succ,flatten_cons,flatten_cons]
  exact Vals.append h (Vals.rep h k)
theorem zke {α:Type} (l:List α):l.eraseIdx (l.length-1)=l.dropLast:=by
 induction l with
 | nil=>rfl
 | cons a r ih=>
  cases r with
  | nil=>rfl
  | cons b r=>
   have e:(a::b::r).length-1=((b::r).length-1)+1:=by
    have h1:(a::b::r).length=r.length+2:=rfl
    have h2:(b::r).length=r.length+1:=rfl
    omega
   rw [e,List.eraseIdx_cons_succ,ih]
   all_goals rfl
theorem foldl_rep (its:List Value):∀ (k:Nat) (acc:List Value),
  List.foldl (fun x1 x2=>x1++x2) acc.toArray (List.replicate k its.toArray)=(acc++(List.replicate k its).flatten).toArray
 | 0,acc=>by simp
 | k+1,acc=>by
  have e:acc.toArray++its.toArray=(acc++its).toArray:=by simp
  have e2:(acc++its)++(List.replicate k its).flatten=acc++(List.replicate (k+1) its).flatten:=by
   rw [replicate_succ,flatten_cons,QH]
  rw [← e2,← foldl_rep its k (acc++its),← e,replicate_succ,List.foldl_cons]
variable {t':Nat}
section
variable {l b:Addr} {zs:List V}
theorem Inv.lset {f:Array Value->Array Value} {t':Nat} (I:Inv X pins σ H s) (hH:H l=some (.lst xs))
 (e:s.heap.get? l=some { cls:=.type "list",data:=.seq its.toArray n }) (hf:f its.toArray=its'.toArray) (hv:Vals ys its') (hz:ys.length<=sizeLine) :
  Inv X pins σ (upd H l (.lst ys)) { s with heap:=s.heap.update l (Obj.mapSeq f),toks:=t' }:=by
 have q:=PySem.IsL.update e f
 rw [hf] at q
 refine I.write (x:=l) (e:=l) (by rw [hH];exact trivial) (.inl rfl) (fun b' u hb hu=>(Heap.get?_update_other s.heap (Obj.mapSeq f) (Ne.symm hb)).trans hu) ⟨_,q⟩ ?_
 exact ⟨hz,its',_,hv,q⟩
theorem Inv.lnew {t':Nat} (I:Inv X pins σ H s) (hv:Vals ys its) (hz:ys.length<=sizeLine) :
  Inv X pins σ (upd H s.heap.objs.size (.lst ys)) { s with heap:=s.heap.push { cls:=.type "list",data:=.seq its.toArray },toks:=t' }:=
 I.laid (fun _ _ q=>Q2 _ q) (Q3 _) ⟨hz,its,0,hv,Ql _ rfl⟩
theorem Inv.fresh (I:Inv X pins σ H s):H s.heap.objs.size=none:=I.hok.fresh (Q3 _)
theorem Inv.lstM (I:Inv X pins σ H s) (hH:H l=some (.lst xs)):xs.length<=sizeLine/\∃ (its:List Value) (n:Nat),Vals xs its/\xs.length=its.length/\s.heap.get? l=some { cls:=.type "list",data:=.seq its.toArray n }:=by
 obtain ⟨z,its,n,r,e⟩:=I.hok l _ hH
 exact ⟨z,its,n,r,r.length,e⟩
theorem zh2 (h:n<=sizeLine):Builtin.List.listTooLong n=false:=by
 unfold Builtin.List.listTooLong
 exact Qw (by omega)
end
section
noncomputable def zgr:V->List V->Hp->VK->Prop:=fun x vs H Q=>∃ l xs y,x = .ref l/\vs=[y]/\H l=some (.lst xs)/\xs.length<sizeLine/\Q .non (upd H l (.lst (xs++[y])))
theorem yD:MtM X "list.append" zgr:=by
 intro pins s σ H x vs v us Q I rx rv h
 obtain ⟨l,xs,y,rfl,rfl,hH,hz,q⟩:=h
 cases rx
 obtain ⟨u,rfl,ru⟩:=rv.one
 obtain ⟨z,its,n,r,hl,e⟩:=I.lstM hH
 refine call_meets F.slot_list_append ⟨_,e,rfl⟩ F.entry_list_append (F.args_list_append_2 _ _) (PySem.list_append l its.toArray n u (by rw [Qi];omega)) ⟨e,?_⟩
 refine ⟨.non,_,I.lset (its':=its++[u]) hH e (by simp) (r.append (.cons ru .nil)) ?_,rfl,q⟩
 rw [Qn,Qt]
 omega
noncomputable def zrY:V->List V->Hp->VK->Prop:=fun x vs H Q=>∃ l xs y,x = .ref l/\vs=[]/\H l=some (.lst xs)/\xs[xs.length-1]? = some y/\Q y (upd H l (.lst xs.dropLast))
theorem zsF:MtM X "list.pop" zrY:=by
 intro pins s σ H x vs v us Q I rx rv h
 obtain ⟨l,xs,y,rfl,rfl,hH,hy,q⟩:=h
 cases rx
 have hus:=rv.zero
 subst hus
 obtain ⟨z,its,n,r,hl,e⟩:=I.lstM hH
 obtain ⟨u,hu,ru⟩:=r.get hy
 have hy':its.toArray[its.toArray.size-1]? = some u:=by
  show its.toArray[its.length-1]? = some u
  rw [← Array.getElem?_toList,← hl]
  exact hu
 refine call_meets F.slot_list_pop ⟨_,e,rfl⟩ F.entry_list_pop (F.args_list_pop_1 _) (MeetsSeq.list_pop_last l its.toArray n u hy' (by rw [Qi];omega)) ⟨e,?_⟩
 refine ⟨y,_,I.lset (its':=its.dropLast) hH e ?_ r.dropLast ?_,ru,q⟩
 ·show its.toArray.eraseIdxIfInBounds (its.toArray.size-1)=its.dropLast.toArray
  rw [Qi,List.eraseIdxIfInBounds_toArray,zke]
 ·rw [List.length_dropLast]
  omega
noncomputable def zoX:V->List V->Hp->VK->Prop:=fun x vs H Q=>∃ l xs,x = .ref l/\vs=[]/\H l=some (.lst xs)/\Q .non (upd H l (.lst []))
theorem zmb:MtM X "list.clear" zoX:=by
 intro pins s σ H x vs v us Q I rx rv h
 obtain ⟨l,xs,rfl,rfl,hH,q⟩:=h
 cases rx
 have hus:=rv.zero
 subst hus
 obtain ⟨z,its,n,r,hl,e⟩:=I.lstM hH
 refine call_meets F.slot_list_clear ⟨_,e,rfl⟩ F.entry_list_clear (F.args_list_clear_1 _) (AutoSeq1.list_clear_list_0 l its.toArray n (by rw [Qi];omega)) ⟨e,?_⟩
 exact ⟨.non,_,I.lset (its':=[]) (ys:=[]) hH e rfl .nil (Nat.zero_le _),rfl,q⟩
theorem len_rep {α:Type} (xs:List α) (k:Nat):(List.replicate k xs).flatten.length=k*xs.length:=by
 induction k with
 | zero=>simp
 | succ k ih=>rw [replicate_succ,flatten_cons,Qn,ih,Nat.succ_mul,Nat.add_comm]
end
end L2
namespace Att
open PySem PySem.W PySem.Calls PyProof.Rows
variable {h:Heap} {P:Params}
theorem zfV:∀ (ns:List Int) (vs:List Value),WellAll P h vs (ns.map WData.int)->IntsAre vs ns:=by
 intro ns
 induction ns with
 | nil=>
  intro vs w
  rw [map_nil] at w
  cases w
  exact .nil
 | cons n ns ih=>
  intro vs w
  rw [QE] at w
  cases w with
  | cons a b=>
   cases a
   exact .cons _ _ (ih _ b)
variable {n:Nat} {l:OpenLaw}
theorem zkD (hn:l.most=some n) {args:List WData} {vals:List Value}
 (hpre:l.row.toRowW.claim.pre args=true) (hwl:WellAll P h vals args) :
  ∃ a vs ns,vals=[Value.ref a]/\args=[WData.list (ns.map WData.int)]/\h.get? a=some { cls:=.type "list",data:=.seq vs.toArray }/\IntsAre vs ns/\ns.length<=n:=by
 have hsh:WShape.hasAll [] args [.list .int]=true:=(pre_splitW hpre).1
 have hc:l.pre.holds [] { args:=args }=true:=(pre_splitW hpre).2
 obtain ⟨d,r,rfl,h1,h2⟩:=hasAllW_cons hsh
 obtain rfl:=hasAllW_nil h2
 obtain ⟨xs,rfl,h3⟩:=hasW_list h1
 obtain ⟨ns,rfl⟩:=items_int h3
 have hlen:ns.length<=n:=by
  unfold OpenLaw.pre at hc
  have h4:(WTm.not (.lt (.lit (.int (n:Int))) (.len (.arg 0)))).holds [] { args:=[.list (ns.map .int)] }=true:=by
   have h4:=(holds_andW hc).1
   rw [hn] at h4
   exact h4
  have h5:=condW_of h4 (w_not (w_lt w_lit (w_len_list (w_arg rfl))))
  rw [Qh] at h5
  refine Nat.le_of_not_lt fun q=>?_
  have q':(n:Int)<((ns.length:Nat):Int):=by omega
  first
   | (rw [Qv q'] at h5;exact absurd h5 (by decide))
   | (simp at h5;omega)
 cases hwl with
 | cons w1 w2=>
  cases w2
  cases w1 with
  | list ho hall=>exact ⟨_,_,ns,rfl,rfl,ho,zfV ns _ hall,hlen⟩
theorem zkK (l:OpenLaw) (args:List WData):l.row.toRowW.claim.post args (.bool true) args=true:=
 postW_of (r:=l.row.toRowW) (X:=(true==true))
  (show WShape.has [] (.bool true) .bool=true by first | rfl | decide | simp [WShape.has,WShape.arms,WShape.armsAll])
  (show (WTm.eq .res (.lit (.bool true))).value [] { args:=args,res:=some (.bool true),after:=args }=some (.bool (true==true)) from w_eq_bool (w_res rfl) w_lit) rfl
theorem zi2 {q:Program} {loose:List Str} {XP:(Str->Option Value)->Heap->Prop} {YP:World->Heap->Prop} {d:DefRec}
 (hn:l.most=some n) (hdf:d.params.defaults=[])
 (call:∀ (w:World) (s₀ s₁:Shared) (mg mb:Str->Option Value) (fa:Addr) (o:Obj) (pm cd doc:Value) (a:Addr) (vs:List Value) (ns:List Int),
 Ground q loose [] XP w s₀ mg mb s₁.heap->YP w s₁.heap->
 s₁.heap.get? fa=some o->o.data = .func (docDef d.name d.params d.body d.scope pm cd doc)->s₁.heap.CodeRec cd d.name->mg d.name=some (.ref fa)->
 s₁.heap.get? a=some { cls:=.type "list",data:=.seq vs.toArray }->IntsAre vs ns->ns.length<=n->s₁.gens = #[]->
 codeAny (model l.prog w) callerA (.call (.ref fa) ⟨[.ref a],[]⟩) (fun r s'=>r = .ok (.ret (.bool true))/\OldK s₁.heap s'.heap/\s'.os=s₁.os/\AllBare s'.gens) s₁) :
  WalkO q loose XP YP l.row.toRowW d [] (fun f vs=>PySem.call f vs):=by
 intro w s₀ s₁ mg mb G Y fa o pm cd doc dV kV ho hd hcd hD hmg hg args vals as hpre hlay hrd hwl hlo
 obtain rfl:dV = .none:=Dflts.none hD hdf
 obtain rfl:kV = .none:=Dflts.noKw hD
 obtain ⟨a,vs,ns,rfl,rfl,hobj,hints,hlen⟩:=zkD hn hpre hwl
 refine enter_call (codeAny_mono (call w s₀ s₁ mg mb fa o pm cd doc a vs ns G Y ho (fd_plain hd) hcd hmg hobj hints hlen hg) fun r s' hq=>?_)
 obtain ⟨rfl,h2,h3,h4⟩:=hq
 exact ⟨.inl ⟨.bool true,.bool true,[],rfl,fun _=>rfl,.bool true,zkK l _,fun _=>⟨List.Pairwise.nil,fun _ hm=>(nomatch hm)⟩⟩,h2,h3,h4⟩
section
variable {prog:Program} {w:World} {A:Around} {E:Value->Shared->Prop} {s:Shared} {K:Frag}
noncomputable def ledger (h:Heap) (L d:Addr):List (Addr × Obj):=(List.range h.objs.size).filterMap fun a=>if a=L\/a=d then none else (h.get? a).map fun o=>(a,o)
end
end Att
namespace L2
open PySem PySem.Spec PyProof.Rows
theorem zgT:∀ {vs:List Value} {ns:List Int},IntsAre vs ns->Vals (ns.map V.int) vs
 | _,_,.nil=>.nil
 | _,_,.cons n t h=>.cons ⟨t,rfl⟩ (zgT h)
def zkq (H:Hp):Prop:=∀ b,H b=none\/∃ o xs,H b=some (.frz o (.lst xs))
variable {CX:CXT} {K:Frag} {fd:FuncData} {P:Program} {sp:Sp} {x:Str} {mg:Str->Option Value} {w:World}
theorem zmf {mb:Str->Option Value} {k:Nat} {fa a:Addr} {s₁:Shared} {vs:List Value} {ns:List Int}
 (KX:K.In s₁.heap) (hns:s₁.heap.Ns mainGlobals mg) (hb:s₁.heap.Ns builtinsNs mb) (hbb:∀ x:Str,x ≠ "__name__"->mb x=bootBuiltins x) (hlim:s₁.heap.NoLimit) (hg:s₁.gens = #[])
 (ha:s₁.heap.get? a=some { cls:=.type "list",data:=.seq vs.toArray }) (hi:IntsAre vs ns) (hl:ns.length<=sizeLine) (hr:Room k callerA)
 (F:∀ base:Heap,K.In base->base.Ns mainGlobals mg->FnOk P w K mg base CX k fa fd [x] sp) (hbind:∀ (s:Shared) (u:Value),BindsTo s fd ⟨[u],[]⟩ [(x,u)])
 (hsp:∀ H:Hp,zkq H->SqL K H a (ns.map V.int)->sp [.ref a] H (fun v _=>v = .bl true) fun _ _ _=>False)
 (hCX:∀ H e s',CX [] H s₁ (fun _ _ _=>False) e s'->False) :
  codeAny (model P w) callerA (.call (.ref fa) ⟨[.ref a],[]⟩) (fun r s'=>r = .ok (.ret (.bool true))/\OldK s₁.heap s'.heap/\s'.os=s₁.os/\AllBare s'.gens) s₁:=by
 have rv:=zgT hi
 have lenV:=hi.length
 -- from an abstract heap in which nothing but the script may be tracked
 have core:∀ H:Hp,zkq H->SqL K H a (ns.map V.int)->HOk P w H s₁.heap->(∀ b,H b ≠ none->b=a)->(H a ≠ none->K.lookup a=none)->
   codeAny (model P w) callerA (.call (.ref fa) ⟨[.ref a],[]⟩) (fun r s'=>r = .ok (.ret (.bool true))/\OldK s₁.heap s'.heap/\s'.os=s₁.os/\AllBare s'.gens) s₁:=by
  intro H hO hS hok hA hK
  have base_of:∀ {b:Addr} {o:Obj},s₁.heap.get? b=some o->H b=none->(zea s₁.heap H).get? b=some o:=fun e n=>zmm e n
  have noA:∀ {b:Addr} {o:Obj} {es:Array DictEntry} {ep:Nat},s₁.heap.get? b=some o->o.data = .dict es ep->H b=none:=fun {b o es ep} e d=>by
   cases q:H b with
   | none=>rfl
   | some u=>
    have e':b=a:=hA b (by rw [q];simp)
    subst e'
    rw [ha] at e;cases e
    have d':Data.seq vs.toArray _=Data.dict es ep:=d
    cases d'
  have nsK:∀ {b:Addr} {m:Str->Option Value},s₁.heap.Ns b m->(zea s₁.heap H).Ns b m:=fun {b m} ⟨o,es,ep,e,d,r⟩=>⟨o,es,ep,base_of e (noA e d),d,r⟩
  have hKb:K.In (zea s₁.heap H):=fun b o e=>base_of (KX b o e) (by
   cases q:H b with
   | none=>rfl
   | some u=>
    have e':b=a:=hA b (by rw [q];simp)
    subst e'
    rw [hK (by rw [q];simp)] at e;cases e)
  have hM:Mod K mg (zea s₁.heap H):=⟨hKb,nsK hns,⟨mb,nsK hb,hbb⟩,let ⟨mc,h1,h2⟩:=hlim;⟨mc,nsK h1,h2⟩⟩
  have e0:Env0 P w K mg (zea s₁.heap H) callerA [] s₁ H:=⟨rfl,hM,fun b o e=>znK e,Nat.le_of_eq (zk9 _ _),trivial,fun b hb=>absurd (show b ∈ ([]:List Addr) from hb) (by simp),hok,.of_eq hg⟩
  refine codeAny_mono ((F _ hKb (nsK hns)).run callerA [] s₁ H ⟨[.ref a],[]⟩ [.ref a] [.ref a] _ _ hr e0 (hbind s₁ (.ref a)) (.cons rfl .nil) (hsp H hO hS)) fun r s' h=>?_
  cases r with
  | error e=>exact (hCX H e s' h).elim
  | ok fl=>
   cases fl with
   | next=>exact False.elim h
   | brk=>exact False.elim h
   | cont=>exact False.elim h
   | ret u=>
    obtain ⟨v,H',os,bare,un,hok',r',q⟩:=h
    have q':v = .bl true:=q
    subst q'
    obtain rfl:u=Value.bool true:=r'
    refine ⟨rfl,OldK.of_keep fun b o e=>?_,os,bare⟩
    cases q:H b with
    | none=>exact un.keep b o e q (by intro z;exact absurd (show b ∈ ([]:List Addr) from z) (by simp)) (by simp)
    | some u=>
     rcases hO b with z | ⟨ob,xs,z⟩
     ·rw [q] at z;cases z
     ·have z2:=un.frzs b ob _ z
      obtain ⟨e1,_⟩:=hok b _ z
      obtain ⟨e2,_⟩:=hok' b _ z2
      rw [e] at e1;cases e1
      exact e2
 cases hk:K.lookup a with
 | some o=>
  -- the script is one of the module's own objects
  have e:=KX a o hk
  rw [ha] at e
  cases e
  refine core (fun _=>none) (fun _=>.inl rfl) (.inr ⟨_,vs.toArray,_,hk,rfl,rfl,rfl,by rw [Qi,lenV];exact hl,by simpa using rv⟩) (fun b u z=>by have z':(none:Option HO)=some u:=z;cases z') (fun b z=>absurd rfl z) fun z=>absurd rfl z
 | none=>
  refine core (fun b=>if b=a then some (.frz { cls:=.type "list",data:=.seq vs.toArray } (.lst (ns.map V.int))) else none) (fun b=>?_) (.inl (.inr ⟨{ cls:=.type "list",data:=.seq vs.toArray },Qy rfl⟩)) (fun b u z=>?_) (fun b z=>?_) fun _=>hk
  ·by_cases hb:b=a
   ·exact .inr ⟨_,_,Qy hb⟩
   ·exact .inl (Qz hb)
  ·by_cases hb:b=a
   ·have z':=(Qy hb).symm.trans z
    cases z'
    subst hb
    exact ⟨ha,by rw [Qh];exact hl,vs,_,rv,ha⟩
   ·have z':=(Qz hb).symm.trans z
    cases z'
  ·by_cases hb:b=a
   ·exact hb
   ·exact absurd (Qz hb) z
noncomputable abbrev KOf {K:Frag} {h:Heap} (_:K.In h):Frag:=K
variable {XP:(Str->Option Value)->Heap->Prop} {d:DefRec} {loose:List Str} {n:Nat} {q:Program} {l:PySem.W.OpenLaw} {YP:World->Heap->Prop}
theorem zm2 {k:Nat} {K:Params->Frag} {CX:World->CXT} {sp:World->Sp} 
 (hn:l.most=some n) (hn2:n<=sizeLine) (hdf:d.params.defaults=[]) (hr:Room k callerA)
 (hY:∀ (w:World) (h:Heap),YP w h->(K w.params).In h)
 (F:∀ (w:World) (mg:Str->Option Value) (fa:Addr) (h:Heap),(K w.params).In h->h.Ns mainGlobals mg->mg d.name=some (.ref fa)->
 ∃ fd:FuncData,(∀ (s:Shared) (u:Value),BindsTo s fd ⟨[u],[]⟩ [(x,u)]) /\
 ∀ base:Heap,(K w.params).In base->base.Ns mainGlobals mg->FnOk l.prog w (K w.params) mg base (CX w) k fa fd [x] (sp w))
 (hsp:∀ (w:World) (H:Hp) (a:Addr) (ns:List Int),ns.length<=n->zkq H->SqL (K w.params) H a (ns.map V.int)->sp w [.ref a] H (fun v _=>v = .bl true) fun _ _ _=>False)
 (hCX:∀ (w:World) (H:Hp) (s:Shared) (e:Value) (s':Shared),CX w [] H s (fun _ _ _=>False) e s'->False) :
  PySem.W.WalkO q loose XP YP l.row.toRowW d [] (fun f vs=>PySem.call f vs):=by
 refine Att.zi2 hn hdf fun w s₀ s₁ mg mb fa o pm cd doc a vs ns G Y ho hd hcd hmg hobj hints hlen hg=>?_
 have KX:=hY w _ Y
 obtain ⟨fd,hb,hF⟩:=F w mg fa _ KX G.T.g hmg
 exact zmf KX G.T.g G.T.b G.T.builtins G.T.nolimit hg hobj hints (Qj hlen hn2) hr hF hb (fun H hO hS=>hsp w H a ns hlen hO hS) fun H e s'=>hCX w H s₁ e s'
theorem zlL {k:Nat} {K:Params->Frag} {sp:Frag->Sp} 
 (hn:l.most=some n) (hn2:n<=sizeLine) (hdf:d.params.defaults=[]) (hr:Room k callerA)
 (hY:∀ (w:World) (h:Heap),YP w h->(K w.params).In h)
 (F:∀ (w:World) (mg:Str->Option Value) (fa:Addr) (h:Heap),(K w.params).In h->h.Ns mainGlobals mg->mg d.name=some (.ref fa)->
 ∃ fd:FuncData,(∀ (s:Shared) (u:Value),BindsTo s fd ⟨[u],[]⟩ [(x,u)]) /\
 ∀ base:Heap,(K w.params).In base->base.Ns mainGlobals mg->FnOk l.prog w (K w.params) mg base CX k fa fd [x] (sp (K w.params)))
 (hsp:∀ (K:Frag) (H:Hp) (a:Addr) (ns:List Int),ns.length<=n->zkq H->SqL K H a (ns.map V.int)->sp K [.ref a] H (fun v _=>v = .bl true) fun _ _ _=>False)
 (hCX:∀ (H:Hp) (s:Shared) (e:Value) (s':Shared),CX [] H s (fun _ _ _=>False) e s'->False) :
  PySem.W.WalkO q loose XP YP l.row.toRowW d [] (fun f vs=>PySem.call f vs):=
 zm2 (K:=K) (CX:=fun _=>CX) (sp:=fun w=>sp (K w.params)) hn hn2 hdf hr hY F (fun w H a ns h1 h2 h3=>hsp (K w.params) H a ns h1 h2 h3) fun _ H s e s'=>hCX H s e s'
noncomputable def inClass (s:Stmt) (j:Nat):Stmt:=match s with
 | .ClassDef _ _ _ body _ _ _ _ _ _ _=>body.getD j (.Pass ⟨0,0,0,0⟩)
 | _=>.Pass ⟨0,0,0,0⟩
noncomputable def zaL (s:Stmt):Arguments:=match s with
 | .FunctionDef _ a _ _ _ _ _ _ _ _=>a
 | _=>{ posonlyargs:=[],args:=[],vararg:=none,kwonlyargs:=[],kw_defaults:=[],kwarg:=none,defaults:=[] }
noncomputable def yL (s:Stmt):List Stmt:=match s with
 | .FunctionDef _ _ b _ _ _ _ _ _ _=>b
 | _=>[]
noncomputable def zg (s:Stmt):Scope:=match s with
 | .FunctionDef _ _ _ _ _ _ sc _ _ _=>sc
 | _=>{ kind:=.function,names:=[],isGenerator:=false,isCoroutine:=false }
noncomputable abbrev CX0:CXT:=fun _ _ _ _ _ _=>False
noncomputable abbrev E0:XK:=fun _ _ _=>False
variable {X:Cx}
theorem zmS:Passes CX0 X E0:=fun _ _ _ _ _ _ _ h=>h.elim
structure Fun (K:Frag) (x qual:Str) (st:Stmt) (f:Addr) (fd:FuncData):Prop where
 ex:∃ (oc:Value) (od:Option Addr) (kV doc pm:Value) (an:Option Addr) (cdv ct:Value) (osl:Array (Option Value)),
  fd=PySem.W.fnOf x qual (zaL st) (yL st) (zg st) .none kV doc pm an cdv ct/\K.lookup f=some ⟨oc,od,.func fd,osl⟩/\PySem.W.codeIn K cdv qual=true
 kp:PySem.W.keepIn K (.ref f)=true
variable {f:Addr} {ps:List Str} {st:Stmt} {qual:Str}
section
variable {base:Heap}
theorem Fun.ok {N:List Str} {k:Nat} (F:Fun K x qual st f fd) (S:FnScope N ps (zg st)) (len:∀ vs H Q E,sp vs H Q E->vs.length=ps.length)
 (hbody:∀ (cdv:Value) (A:Around) (outer:List Env) (s:Shared) (H:Hp) (vs:List V) (Q:VK) (E:XK),Room k (A.deeper (envOfC qual (zg st) s.heap.objs.size f cdv))->sp vs H Q E->
 ∃ t,PSs (zcj CX0 P w K mg base N qual (zg st) f cdv A outer s H E).nox (yL st) t/\t { nx:=fun _ H'=>Q .non H',rt:=Q } (start N vs) H):FnOk P w K mg base CX0 (k+1) f fd ps sp:=by
 obtain ⟨oc,od,kV,doc,pm,an,cdv,ct,osl,rfl,lk,hcd⟩:=F.ex
 refine zrw lk hcd S len fun A outer s H vs Q E hr hsp=>?_
 obtain ⟨t,h,q⟩:=hbody cdv A outer s H vs Q E hr hsp
 exact ⟨t,h.nox,q⟩
theorem Fun.binds (F:Fun K x qual st f fd)
 (h:∀ (kV doc pm:Value) (an:Option Addr) (cdv ct:Value) (us:List Value),us.length=ps.length->bindArgs (PySem.W.fnOf x qual (zaL st) (yL st) (zg st) .none kV doc pm an cdv ct) ⟨us,[]⟩=pure (ps.zip us)):Binds K fd ps []:=by
 obtain ⟨oc,od,kV,doc,pm,an,cdv,ct,osl,rfl,lk,hcd⟩:=F.ex
 exact .all (h kV doc pm an cdv ct)
theorem zio {oc:Value} {od an:Option Addr} {osl:Array (Option Value)} {kV doc pm cdv ct:Value} (l:K.lookup f=some ⟨oc,od,.func (PySem.W.fnOf x qual (zaL st) (yL st) (zg st) .none kV doc pm an cdv ct),osl⟩)
 (c:PySem.W.codeIn K cdv qual=true) (k:PySem.W.keepIn K (.ref f)=true):Fun K x qual st f (PySem.W.fnOf x qual (zaL st) (yL st) (zg st) .none kV doc pm an cdv ct):=⟨⟨oc,od,kV,doc,pm,an,cdv,ct,osl,rfl,l,c⟩,k⟩
end
section
theorem pv (i:Nat) {pos:Pos} (hN:X.N[i]? = some x:=by rfl) (hv:Vis X.env.scope x:=by first | exact Or.inl rfl | exact Or.inr (Or.inl rfl) | exact Or.inr (Or.inr rfl)) (hd:(x==("__debug__":Str))=false:=by decide)
 (hcd:(x==("__classdict__":Str))=false:=by decide):PE X (.Name x pos) (zjS i):=zhZ hN hv hd hcd
end
end L2
set_option maxHeartbeats 4000000
namespace L2
open PySem PySem.Spec PyProof.Rows
variable {o:Option V} {y:V} {u:Value}
section
variable {κ:Type} [DecidableEq κ]
noncomputable def zaN (kvs:List (κ × V)) (k:κ):Option V:=(kvs.find? fun kv=>decide (kv.1=k)).map (·.2)
noncomputable def putK (kvs:List (κ × V)) (k:κ) (v:V):List (κ × V):=
 if (kvs.any fun kv=>decide (kv.1=k))=true then kvs.map (fun kv=>if kv.1=k then (kv.1,v) else kv) else kvs++[(k,v)]
noncomputable def zsU (kvs:List (κ × V)) (k:κ):List (κ × V):=kvs.filter fun kv=>decide (kv.1 ≠ k)
theorem zff {p:κ × V} {r:List (κ × V)} {k:κ} (e:p.1=k):zaN (p::r) k=some p.2:=by simp [zaN,find?_cons,e]
theorem zfg {p:κ × V} {r:List (κ × V)} {k:κ} (e:¬ p.1=k):zaN (p::r) k=zaN r k:=by simp [zaN,find?_cons,e]
theorem zhD (k:κ):∀ kvs:List (κ × V),(kvs.any fun kv=>decide (kv.1=k))=(zaN kvs k).isSome
 | []=>rfl
 | p::r=>by
  rw [any_cons]
  by_cases e:p.1=k
  ·simp only [zff e,Qv e,Bool.true_or,Option.isSome_some]
  ·rw [zfg e,Qw e,Bool.false_or];exact zhD k r
theorem ze4 (kvs:List (κ × V)) (k:κ) (v:V):(putK kvs k v).length<=kvs.length+1:=by
 unfold putK
 split
 ·rw [Qh];omega
 ·rw [Qn,Qp,length_nil];omega
theorem RelO.isSome_eq {u:Option Value} (r:RelO o u):o.isSome=u.isSome:=by
 cases o with
 | none=>cases u with
  | none=>rfl
  | some _=>exact (show False from r).elim
 | some _=>cases u with
  | none=>exact (show False from r).elim
  | some _=>rfl
theorem KV.val {kvs:List (κ × V)} {vs:List (κ × Value)} (r:KV kvs vs) (k:κ):RelO (zaN kvs k) (valueAt vs k):=by
 unfold KV at r
 induction r with
 | nil=>exact True.intro
 | @cons p q ps qs h t ih=>
  obtain ⟨h1,h2⟩:=h
  by_cases e:p.1=k
  ·have e':q.1=k:=h1.symm.trans e
   have b:valueAt (q::qs) k=some q.2:=by simp [valueAt,find?_cons,e']
   rw [zff e,b];exact h2
  ·have e':¬ q.1=k:=fun z=>e (h1.trans z)
   have b:valueAt (q::qs) k=valueAt qs k:=by simp [valueAt,find?_cons,e']
   rw [zfg e,b];exact ih
theorem KV.any {kvs:List (κ × V)} {vs:List (κ × Value)} (r:KV kvs vs) (k:κ):(kvs.any fun kv=>decide (kv.1=k))=vs.any fun kv=>decide (kv.1=k):=by
 unfold KV at r
 induction r with
 | nil=>rfl
 | cons h t ih=>rw [any_cons,any_cons,ih,h.1]
theorem KV.repl {kvs:List (κ × V)} {vs:List (κ × Value)} (r:KV kvs vs) (k:κ) (ry:RelV y u) :
  KV (kvs.map fun kv=>if kv.1=k then (kv.1,y) else kv) (vs.map fun kv=>if kv.1=k then (kv.1,u) else kv):=by
 unfold KV at r ⊢
 induction r with
 | nil=>exact .nil
 | @cons p q ps qs h t ih=>
  rw [QE,QE]
  refine .cons ?_ ih
  obtain ⟨h1,h2⟩:=h
  by_cases e:p.1=k
  ·rw [Qy e,Qy (h1.symm.trans e)];exact ⟨h1,ry⟩
  ·rw [Qz e,Qz (fun z=>e (h1.trans z))];exact ⟨h1,h2⟩
theorem KV.put {kvs:List (κ × V)} {vs:List (κ × Value)} (r:KV kvs vs) (k:κ) (ry:RelV y u):KV (putK kvs k y) (stored vs k u):=by
 unfold putK stored
 rw [r.any k]
 by_cases e:(vs.any fun kv=>decide (kv.1=k))=true
 ·rw [Qy e,Qy e];exact r.repl k ry
 ·rw [Qz e,Qz e];exact Paired.snoc r ⟨rfl,ry⟩
theorem KV.length {kvs:List (κ × V)} {vs:List (κ × Value)} (r:KV kvs vs):kvs.length=vs.length:=Paired.length r
end
variable {P:Program} {w:World}
theorem zhq {k:Key} (r:RelV (kV k) u):(z6 P w).is k u=true:=by
 cases k with
 | inl i=>obtain ⟨t,e⟩:=(show ∃ t,u=Value.int i t from r);subst e;exact ziV P w i t
 | inr x=>obtain ⟨t,e⟩:=(show ∃ t,u=Value.str x t from r);subst e;exact ziU P w x t
theorem zgX {P:Program} {w:World}:∀ {ks:List Key} {us:List Value},Vals (ks.map kV) us->ItemsAre (z6 P w) ks us
 | [],_,r=>by rw [map_nil] at r;cases r;exact .nil
 | k::ks,_,r=>by
  rw [QE] at r
  cases r with
  | cons h t=>exact .cons (zhq h) (zgX t)
noncomputable abbrev KT (H:Hp):List (List Key × V)->List (List Key × Addr × Value)->Prop:=Paired fun p q=>p.1=q.1/\H q.2.1=some (.tup (p.1.map kV))/\RelV p.2 q.2.2
variable {H:Hp} {xs:List (List Key × Addr × Value)} {kvs:List (List Key × V)}
theorem KT.val (r:KT H kvs xs) (k:List Key):RelO (zaN kvs k) ((atKey xs k).map (·.2)):=by
 induction r with
 | nil=>exact True.intro
 | @cons p q ps qs h t ih=>
  obtain ⟨h1,_,h2⟩:=h
  by_cases e:p.1=k
  ·have e':q.1=k:=h1.symm.trans e
   have b:atKey (q::qs) k=some q.2:=by simp [atKey,find?_cons,e']
   rw [zff e,b];exact h2
  ·have e':¬ q.1=k:=fun z=>e (h1.trans z)
   have b:atKey (q::qs) k=atKey qs k:=by simp [atKey,find?_cons,e']
   rw [zfg e,b];exact ih
theorem KT.repl (r:KT H kvs xs) (k:List Key) (ry:RelV y u) :
  KT H (kvs.map fun kv=>if kv.1=k then (kv.1,y) else kv) (xs.map (putAt k u)):=by
 induction r with
 | nil=>exact .nil
 | @cons p q ps qs h t ih=>
  rw [QE,QE]
  refine .cons ?_ ih
  obtain ⟨h1,h2,h3⟩:=h
  unfold putAt
  by_cases e:p.1=k
  ·rw [Qy e,Qy (h1.symm.trans e)];exact ⟨h1,h2,ry⟩
  ·rw [Qz e,Qz (fun z=>e (h1.trans z))];exact ⟨h1,h2,h3⟩
theorem KT.put (r:KT H kvs xs) (k:List Key) {b:Addr} (hb:H b=some (.tup (k.map kV))) (ry:RelV y u) :
  KT H (putK kvs k y) (storedH xs k b u):=by
 have e:(kvs.any fun kv=>decide (kv.1=k))=(atKey xs k).isSome:=by
  rw [zhD,(r.val k).isSome_eq,Option.isSome_map]
 unfold putK storedH
 rw [e]
 by_cases q:(atKey xs k).isSome=true
 ·rw [Qy q,Qy q];exact r.repl k ry
 ·rw [Qz q,Qz q];exact Paired.snoc r ⟨rfl,hb,ry⟩
variable {H':Hp}
theorem KT.keeps (r:KT H kvs xs) (ht:∀ b ys,H b=some (.tup ys)->H' b=some (.tup ys)):KT H' kvs xs:=
 Paired.mapP r fun _ _ z=>⟨z.1,ht _ _ z.2.1,z.2.2⟩
variable {h:Heap}
section
variable {a:Addr}
theorem zmP {u:HO} (ok:HOk P w H h) (e:Rd H a u):ObjOk P w H h a u:=e.ok ok
theorem zkj {kvs:List (Key × V)} (ok:HOk P w H h) (e:Rd H a (.dK kvs)):kvs.length<=sizeLine/\(a==sysModules)=false/\∃ vs,KV kvs vs/\h.DictOf (z6 P w) a vs:=
 show ObjOk P w H h a (.dK kvs) from zmP ok e
theorem zrz {kvs:List (Key × V)} (ok:HOk P w H h) (e:H a=some (.dK kvs)):kvs.length<=sizeLine/\(a==sysModules)=false/\∃ vs,KV kvs vs/\h.DictOf (z6 P w) a vs:=zkj ok (.inl e)
theorem zfU {ks:List Key} (ok:HOk P w H h) (e:H a=some (.tup (ks.map kV))):(tupleKind (z6 P w)).is h ks a:=by
 obtain ⟨_,its,r,⟨o,h1,h2,n,h3⟩,_⟩:=(show ObjOk P w H h a (.tup (ks.map kV)) from ok a _ e)
 exact ⟨o,its.toArray,n,h1,h2,h3,by simpa using zgX r⟩
theorem zki (ok:HOk P w H h) (e:Rd H a (.dT kvs)):kvs.length<=sizeLine/\(a==sysModules)=false /\
  ∃ xs,KT H kvs xs/\h.DictOfH (tupleKind (z6 P w)) a xs:=by
 obtain ⟨z,y,xs,r,o,es,ep,h1,h2,h3,h4,h5⟩:=(show ObjOk P w H h a (.dT kvs) from zmP ok e)
 refine ⟨z,y,xs,r,o,es,ep,h1,h2,h3,h4,fun x hx=>?_,h5⟩
 have all:∀ {l:List (List Key × V)} {m:List (List Key × Addr × Value)},KT H l m->∀ x ∈ m,(tupleKind (z6 P w)).is h x.1 x.2.1:=by
  intro l m q
  induction q with
  | nil=>intro x hx;exact nomatch hx
  | @cons p q ps qs hq t ih=>
   intro x hx
   rcases QF.mp hx with e | hx
   ·subst e
    exact zfU ok (by rw [← hq.1];exact hq.2.1)
   ·exact ih x hx
 exact all r x hx
theorem zry (ok:HOk P w H h) (e:H a=some (.dT kvs)):kvs.length<=sizeLine/\(a==sysModules)=false /\
  ∃ xs,KT H kvs xs/\h.DictOfH (tupleKind (z6 P w)) a xs:=zki ok (.inl e)
end
def DGet (H:Hp) (a:Addr) (y:V) (r:Option V):Prop:=
 (∃ kvs k,Rd H a (.dK kvs)/\y=kV k/\r=zaN kvs k)\/∃ kvs k b,Rd H a (.dT kvs)/\y = .ref b/\H b=some (.tup (k.map kV))/\r=zaN kvs k
def DPut (H:Hp) (a:Addr) (y v:V) (H':Hp):Prop:=
 (∃ kvs k,H a=some (.dK kvs)/\y=kV k/\kvs.length<sizeLine/\H'=upd H a (.dK (putK kvs k v))) \/
 ∃ kvs k b,H a=some (.dT kvs)/\y = .ref b/\H b=some (.tup (k.map kV))/\kvs.length<sizeLine/\H'=upd H a (.dT (putK kvs k v))
variable {v:V}
theorem DPut.k {a:Addr} {kvs:List (Key × V)} {k:Key} (e:H a=some (.dK kvs)) (hl:kvs.length<sizeLine):DPut H a (kV k) v (upd H a (.dK (putK kvs k v))):=.inl ⟨kvs,k,e,rfl,hl,rfl⟩
variable {A:Around} {X:Cx} {h':Heap} {pins:List (Addr × Obj)} {s:Shared} {σ:St} {E Q:Value->Shared->Prop}
section
variable {a:Addr} {r:Value}
theorem Inv.big (I:Inv X pins σ H s):sysModules<s.heap.objs.size:=by
 have h:mainGlobals<s.heap.objs.size:=(I.mod.glob.keeps I.bk).lt
 exact Nat.lt_trans (by decide) h
theorem zsh (hu:A.units+1<cLine) (I:Inv X pins σ H s) (g:DGet H a y o) (ry:RelV y u) (h:∀ s',Inv X pins σ H s'->Q (.bool o.isSome) s') :
  wpAny (model X.prog X.w) A (compareOp .In u (.ref a)) Q E s:=by
 rcases g with ⟨kvs,k,e,ey,l⟩ | ⟨kvs,k,b,e,ey,eb,l⟩
 ·subst ey
  obtain ⟨z,hd,vs,rel,dd⟩:=zkj I.hok e
  refine wpAny_in_of (zhq ry) hd dd.mapOf ?_
  rw [← (rel.val k).isSome_eq,← l]
  exact h _ (I.tok _)
 ·subst ey
  cases (show u=Value.ref b from ry)
  obtain ⟨z,hd,xs,rel,dd⟩:=zki I.hok e
  refine wpAny_in_heap (tupleKind_room_in1 hu) (zfU I.hok eb) hd dd ?_
  have q:=(rel.val k).isSome_eq
  rw [Option.isSome_map] at q
  rw [← q,← l]
  exact h _ (I.tok _)
theorem zov (hu:A.units+1<cLine) (I:Inv X pins σ H s) (g:DGet H a y o) (ry:RelV y u) (h:∀ s',Inv X pins σ H s'->Q (.bool (!o.isSome)) s') :
  wpAny (model X.prog X.w) A (compareOp .NotIn u (.ref a)) Q E s:=by
 rcases g with ⟨kvs,k,e,ey,l⟩ | ⟨kvs,k,b,e,ey,eb,l⟩
 ·subst ey
  obtain ⟨z,hd,vs,rel,dd⟩:=zkj I.hok e
  refine wpAny_notIn_of (zhq ry) hd dd.mapOf ?_
  rw [← (rel.val k).isSome_eq,← l]
  exact h _ (I.tok _)
 ·subst ey
  cases (show u=Value.ref b from ry)
  obtain ⟨z,hd,xs,rel,dd⟩:=zki I.hok e
  refine wpAny_notIn_heap (tupleKind_room_in1 hu) (zfU I.hok eb) hd dd ?_
  have q:=(rel.val k).isSome_eq
  rw [Option.isSome_map] at q
  rw [← q,← l]
  exact h _ (I.tok _)
theorem zjE {t':Nat} {ob:HO} (I:Inv X pins σ H s) (mu:Mut (H a)) (hs:Heap.SameBut a s.heap h') (he:∃ q,h'.get? a=some q) (new:ObjOk X.prog X.w (upd H a ob) h' a ob) :
  Inv X pins σ (upd H a ob) { s with heap:=h',toks:=t' }:=
 I.write (x:=a) (e:=a) mu (.inl rfl) (fun b q hb z=>(hs.2 b hb).trans z) he new
theorem zqu {kvs:List (Key × V)} {vs:List (Key × Value)} (z:kvs.length<=sizeLine) (hd:(a==sysModules)=false) (rel:KV kvs vs) (dd:h'.DictOf (z6 P w) a vs) :
  ObjOk P w H' h' a (.dK kvs):=⟨z,hd,vs,rel,dd⟩
theorem zls {Q:Unit->Shared->Prop} (hu:A.units+1<cLine) (I:Inv X pins σ H s) (g:DPut H a y v H') (ry:RelV y u) (rv:RelV v r) (h:∀ s',Inv X pins σ H' s'->Q () s') :
  wpAny (model X.prog X.w) A (setItem (.ref a) u r) Q E s:=by
 rcases g with ⟨kvs,k,e,ey,l,eH⟩ | ⟨kvs,k,b,e,ey,eb,l,eH⟩
 ·subst ey eH
  obtain ⟨z,hd,vs,rel,dd⟩:=zrz I.hok e
  have hz:vs.length<=sizeLine:=by rw [← rel.length];exact z
  have hl:(putK kvs k v).length<=sizeLine:=by have:=ze4 kvs k v;omega
  refine wpAny_setItem_pairs (hsz:=hz) (zhq ry) dd fun h' dd' hs=>h _ ?_
  have he:∃ q,h'.get? a=some q:=let ⟨q,_,_,hq,_⟩:=dd';⟨q,hq⟩
  exact zjE I (by rw [e];exact True.intro) hs he (zqu hl hd (rel.put k rv) dd')
 ·subst ey eH
  cases (show u=Value.ref b from ry)
  obtain ⟨z,hd,xs,rel,dd⟩:=zry I.hok e
  have hz:xs.length<=sizeLine:=by rw [← Paired.length rel];exact z
  have hl:(putK kvs k v).length<=sizeLine:=by have:=ze4 kvs k v;omega
  refine wpAny_setItem_heap (hsz:=hz) (tupleKind_room_in1 hu) (zfU I.hok eb) dd fun h' dd' hs=>h _ ?_
  obtain ⟨q,es,ep,hq,h2,h3,h4,_,h5⟩:=dd'
  refine zjE I (by rw [e];exact True.intro) hs ⟨q,hq⟩ ⟨hl,hd,_,(rel.put k eb rv).keeps fun c ys ec=>?_,q,es,ep,hq,h2,h3,h4,h5⟩
  rw [zl (zdi ec e (fun z=>nomatch z))]
  exact ec
end
theorem zmG (h:Heap) (hb:sysModules<h.objs.size):ObjOk P w H (h.push { cls:=.type "dict",data:=.dict #[] }) h.objs.size (.dK []):=
 ⟨Nat.zero_le _,beq_eq_false_iff_ne.mpr (Ne.symm (Qk hb)),[],.nil,Heap.DictOf.new h⟩
noncomputable def zoK:TE:=fun _ H Q=>∀ p,H p=none->Q (.ref p) (upd H p (.dK []))
variable {pos:Pos}
section
theorem zl2:PE X (.Dict [] [] pos) zoK:=fun pins s σ H Q I h=>
 wpAny_Dict_empty ⟨.ref s.heap.objs.size,_,I.laid (a:=s.heap.objs.size) (o:=.dK []) (t':=s.toks) (fun _ _ q=>Q2 _ q) (Q3 _) (zmG s.heap I.big),rfl,h _ (I.hok.fresh (Q3 _))⟩
end
noncomputable def zkW (kvs more:List (Key × V)):List (Key × V):=more.foldl (fun acc kv=>putK acc kv.1 kv.2) kvs
structure M1 (X:Cx) (o:Expr) (m:Str) (apos:Pos) (e:Expr) (cpos:Pos):Prop where
 base:attributeBase o m X.env (eval o X.env)=eval o X.env
 few:((backTo cpos (starEach [e] X.env)).all (fun x=>!x.1) && (backToKw cpos (keywordEach [] X.env)).all (fun x=>x.1.isSome)
  && decide (([e]:List Expr).length+([]:List Keyword).length+(if ([]:List Keyword).isEmpty then 0 else 1)<30))=true
 line:(apos.endLine==cpos.line)=true
 trees:backTo cpos (starEach [e] X.env)=[(false,eval e X.env)]
structure M2 (X:Cx) (o:Expr) (m:Str) (apos:Pos) (e f:Expr) (cpos:Pos):Prop where
 base:attributeBase o m X.env (eval o X.env)=eval o X.env
 few:((backTo cpos (starEach [e,f] X.env)).all (fun x=>!x.1) && (backToKw cpos (keywordEach [] X.env)).all (fun x=>x.1.isSome)
  && decide (([e,f]:List Expr).length+([]:List Keyword).length+(if ([]:List Keyword).isEmpty then 0 else 1)<30))=true
 line:(apos.endLine==cpos.line)=true
 trees:backTo cpos (starEach [e,f] X.env)=[(false,eval e X.env),(false,eval f X.env)]
def Bnd (n:Nat) (i:Int):Prop:=i.natAbs<10 ^ n
instance (n:Nat) (i:Int):Decidable (Bnd n i):=inferInstanceAs (Decidable (i.natAbs<10 ^ n))
variable {i j:Int} {n:Nat}
theorem Bnd.add (h:Bnd n i) (k:Bnd n j):Bnd (n+1) (i+j):=by
 unfold Bnd at *
 have h1:=Int.natAbs_add_le i j
 rw [Nat.pow_succ]
 omega
theorem Bnd.neg (h:Bnd n i):Bnd n (-i):=by
 unfold Bnd at *
 rw [Int.natAbs_neg];exact h
theorem zjI (h:Bnd n i) (hn:n<=3000):Builtin.Int.intBits i<=2 ^ 20:=by
 unfold Builtin.Int.intBits
 split
 ·exact Nat.zero_le _
 ·rename_i h0
  have h1:i.natAbs ≠ 0:=by
   intro z
   have:i=0:=Int.natAbs_eq_zero.mp z
   subst this
   exact h0 rfl
  have h2:i.natAbs<2 ^ (4*n):=by
   have e:(2:Nat) ^ (4*n)=16 ^ n:=by rw [Nat.pow_mul]
   rw [e]
   exact Q5 h (Nat.pow_le_pow_left (by decide) n)
  have h3:i.natAbs.log2<4*n:=(Nat.log2_lt h1).mpr h2
  have:(2:Nat) ^ 20=1048576:=by decide
  omega
def CMulB (i j:Int):Prop:=(∃ m n,Bnd m i/\Bnd n j/\m<=3000/\n<=3000)\/CMul i j
theorem CMulB.ok (h:CMulB i j):IntMulOk i j:=by
 rcases h with ⟨m,n,h1,h2,h3,h4⟩ | h
 ·exact IntMulOk.of_bits (zjI h1 h3) (zjI h2 h4)
 ·exact h.ok
section
theorem znG:OpR X (binaryOp .Mult) (rI CMulB fun i j=>.int (i*j)):=opI fun _ _ _ _ _ _ _ hc q=>mul_int q hc.ok
noncomputable def zqY (K:Frag):R2:=fun x y H Q=>∃ l b xs zs,x = .ref l/\y = .ref b/\SqL K H l xs/\SqL K H b zs/\xs.length+zs.length<=sizeLine/\∀ p,H p=none->Q (.ref p) (upd H p (.lst (xs++zs)))
theorem zji:OpR X (binaryOp .Add) (zqY X.K):=by
 infer_instance
 obtain ⟨l,b,xs,zs,rfl,rfl,hH,hB,hz,q⟩:=h
 cases rx
 cases ry
 obtain ⟨its,r,pl,z⟩:=I.list hH
 obtain ⟨its2,r2,pl2,z2⟩:=I.list hB
 obtain ⟨⟨cls,dd,data,sl⟩,n,ho,hc,hdi,hd⟩:=pl
 obtain ⟨⟨cls2,dd2,data2,sl2⟩,n2,ho2,hc2,hdi2,hd2⟩:=pl2
 simp only at hc hd hc2 hd2
 subst hc hd hc2 hd2
 have e1:=r.length
 have e2:=r2.length
 refine concat_meets ⟨_,ho,rfl⟩ ⟨_,ho2,rfl⟩ noFill_list_add seq_list_add PySem.F.slot_list_add PySem.F.entry_list_add (PySem.F.args_list_add_2 _ _) (list_addW l b its.toArray its2.toArray n n2 dd dd2 sl sl2 (by rw [Qi,Qi];omega)) ⟨ho,ho2,?_⟩
 have ea:its.toArray++its2.toArray=(its++its2).toArray:=by simp
 rw [ea]
 exact ⟨.ref _,_,I.lnew (t':=s.toks) (r.append r2) (by rw [Qn];omega),rfl,q _ I.fresh⟩
end
structure Df (K:Frag) (mg:Str->Option Value) (x:Str) (st:Stmt) (ps:List Str):Prop where
 ex:∃ (f:Addr) (fd:FuncData),Fun K x x st f fd/\Binds K fd ps []/\mg x=some (.ref f)
structure Cal (P:Program) (w:World) (K:Frag) (mg:Str->Option Value) (base:Heap) (k:Nat) (x:Str) (ps:List Str) (sp:Sp):Prop where
 ex:∃ (f:Addr) (fd:FuncData),FnOk P w K mg base CX0 k f fd ps sp/\PySem.W.keepIn K (.ref f)=true/\Binds K fd ps []/\mg x=some (.ref f)
variable {f:Addr} {sl:Array (Option Value)} {K:Frag} {ps:List Str} {an od:Option Addr} {sp:Sp} {st:Stmt} {x:Str} {mg:Str->Option Value} {cd ct dc oc pm:Value}
section
variable {base:Heap}
theorem Df.ok {N:List Str} {k:Nat} (D:Df K mg x st ps) (S:FnScope N ps (zg st)) (len:∀ vs H Q E,sp vs H Q E->vs.length=ps.length)
 (hbody:∀ (f:Addr) (cdv:Value) (A:Around) (outer:List Env) (s:Shared) (H:Hp) (vs:List V) (Q:VK) (E:XK),Room k (A.deeper (envOfC x (zg st) s.heap.objs.size f cdv))->sp vs H Q E->
 ∃ t,PSs (zcj CX0 P w K mg base N x (zg st) f cdv A outer s H E).nox (yL st) t/\t { nx:=fun _ H'=>Q .non H',rt:=Q } (start N vs) H):Cal P w K mg base (k+1) x ps sp:=by
 obtain ⟨f,fd,F,b,g⟩:=D.ex
 exact ⟨⟨f,fd,F.ok S len (hbody f),F.kp,b,g⟩⟩
theorem zB (X:K.In h) (G:h.Ns mainGlobals mg) {kV:Value}
 (a:PySem.W.nsIn K mainGlobals x=some (some (.ref f)))
 (l:K.lookup f=some ⟨oc,od,.func (PySem.W.fnOf x x (zaL st) (yL st) (zg st) .none kV dc pm an cd ct),sl⟩) (c:PySem.W.codeIn K cd x=true) (k:PySem.W.keepIn K (.ref f)=true)
 (hb:∀ (kV doc pm:Value) (an:Option Addr) (cdv ct:Value) (us:List Value),us.length=ps.length->bindArgs (PySem.W.fnOf x x (zaL st) (yL st) (zg st) .none kV doc pm an cdv ct) ⟨us,[]⟩=pure (ps.zip us)):Df K mg x st ps:=by
 have F:=zio (st:=st) l c k
 exact ⟨⟨f,_,F,F.binds hb,PySem.W.mg_of X G a⟩⟩
end
section
theorem zpG (X:K.In h) (G:h.Ns mainGlobals mg) {kV:Value}
 (a:PySem.W.nsIn K mainGlobals "law" = some (some (.ref f)))
 (l:K.lookup f=some ⟨oc,od,.func (PySem.W.fnOf "law" "law" (zaL st) (yL st) (zg st) .none kV dc pm an cd ct),sl⟩) (c:PySem.W.codeIn K cd "law" = true) (k:PySem.W.keepIn K (.ref f)=true)
 (hb:∀ (kV dc pm:Value) (an:Option Addr) (cd ct:Value) (s:Shared) (u:Value),BindsTo s (PySem.W.fnOf "law" "law" (zaL st) (yL st) (zg st) .none kV dc pm an cd ct) ⟨[u],[]⟩ [("script",u)]) :
  ∃ (f:Addr) (fd:FuncData),Fun K "law" "law" st f fd/\mg "law" = some (.ref f)/\∀ (s:Shared) (u:Value),BindsTo s fd ⟨[u],[]⟩ [("script",u)]:=
 ⟨f,_,zio (st:=st) l c k,PySem.W.mg_of X G a,fun s u=>hb _ _ _ _ _ _ s u⟩
end
section
variable {k:Nat} {p:Pos} {e:Expr} {es:List Expr} {t:TA}
theorem zpi (C:Cal X.prog X.w X.K X.mg X.base k x ps sp) (hr:Room k X.A) (hg:Gl X x) (ha:PA X (e::es) t) (hdb:(x==("__debug__":Str))=false:=by decide)
  (he:starEach (e::es) X.env=(false,eval e X.env)::starEach es X.env:=by rfl) (hpl:(backTo pos (starEach es X.env)).any (·.1)=false:=by rfl) :
  PE X (.Call (.Name x p) (e::es) [] pos) (zmO sp [] E0 t):=by
 obtain ⟨f,fd,F,kp,b,g⟩:=C.ex
 exact znx F hr hg g kp b .nil zmS ha hdb he hpl
end
theorem Bnd.of (h1:-(10 ^ n:Int)<i) (h2:i<10 ^ n):Bnd n i:=by
 unfold Bnd
 have:((10 ^ n:Nat):Int)=(10:Int) ^ n:=by simp
 omega
theorem Bnd.hi (h:Bnd n i):i<10 ^ n:=by
 unfold Bnd at h
 have:((10 ^ n:Nat):Int)=(10:Int) ^ n:=by simp
 omega
theorem Bnd.lo (h:Bnd n i):-(10 ^ n:Int)<i:=by
 unfold Bnd at h
 have:((10 ^ n:Nat):Int)=(10:Int) ^ n:=by simp
 omega
theorem Bnd.gcd {a b:Int} (h:0<b) (k:Bnd n b):Bnd n ((Int.gcd a b:Nat):Int):=by
 unfold Bnd at *
 have h1:((Int.gcd a b:Nat):Int) ∣ b:=Int.gcd_dvd_right ..
 have h2:((Int.gcd a b:Nat):Int)<=b:=Int.le_of_dvd h h1
 omega
noncomputable abbrev zdA:List Value:=[.type "ValueError",.type "Exception",.type "BaseException",.type "object"]
structure ExcAt (K:Frag) (mg:Str->Option Value) (x:Str) (C:Addr):Prop where
 bound:mg x=some (.ref C)
 obj:∀ h:Heap,K.In h->∃ bm N nm q bs hdct sn sub ab col dd k0 k1 k2 k3 k5 mN,h.get? C=some (excClassObj nm q C N bs bm hdct sn sub ab col dd k0 k1 k2 k3 k5 "ValueError.__new__")/\h.Ns N mN/\mN "__init__" = none/\OwnTail h zdA bm
theorem ObjOk.there {a:Addr} {o:HO} (x:ObjOk P w H h a o):∃ u,h.get? a=some u:=by
 cases o with
 | lst xs=>obtain ⟨_,_,_,_,e⟩:=x;exact ⟨_,e⟩
 | tup xs=>obtain ⟨_,_,_,⟨ob,e,_⟩,_⟩:=x;exact ⟨_,e⟩
 | dK kvs=>obtain ⟨_,_,_,_,o,_,_,e,_⟩:=x;exact ⟨_,e⟩
 | dT kvs=>obtain ⟨_,_,_,_,o,_,_,e,_⟩:=x;exact ⟨_,e⟩
 | set S n=>obtain ⟨o,_,_,_,e,_⟩:=x;exact ⟨_,e⟩
 | ins C dx fs=>obtain ⟨_,_,_,e,_⟩:=x;exact ⟨_,e⟩
 | own y=>obtain ⟨_,e⟩:=x;exact ⟨_,e⟩
 | xd fs=>obtain ⟨_,⟨_,_,_,e,_⟩,_⟩:=x;exact ⟨_,e⟩
 | rng lo hi=>obtain ⟨_,_,_,e⟩:=x;exact ⟨_,e⟩
 | frz ob u=>obtain ⟨e,_⟩:=x;exact ⟨_,e⟩
 | tbl ps=>exact ⟨_,(show h.get? a=some _ from x)⟩
 | met f y=>exact ⟨_,(show h.get? a=some _ from x)⟩
 | ext φ=>obtain ⟨_,⟨_,e⟩,_⟩:=x;exact ⟨_,e⟩
noncomputable def CXC (P:Program) (w:World) (C:Addr):CXT:=fun l H s E ev s'=>∃ (e t:Addr) (B:Heap) (H':Hp),ev = .ref e/\Heap.FlyingW B l e (.ref C) (.ref t) s'.heap/\s'.os=s.os/\AllBare s'.gens /\
 Un (frs l) [] H H' s.heap s'.heap/\HOk P w H' s'.heap/\(∀ b o,s'.heap.get? b=some o->b ∉ frs l->(H' b ≠ none\/∃ o',s.heap.get? b=some o')->B.get? b=some o)/\(∀ b ∈ frs l,H' b=none)/\E (.ref C) none H'
noncomputable abbrev Cx.suite (X:Cx) (ev:Addr):Cx:={ X with A:=X.A.mark (some (.ref ev)),calm:=false,xe:=fun _ _=>False }
section
variable {ev:Addr}
theorem Inv.unsuite (ok:X.Ok) (I:Inv (X.suite ev) pins σ H s):Inv X pins σ H s:=⟨ok,I.os,I.bare,I.base,I.loc,I.cell,I.free,I.freeC,I.pin,I.hok,I.len⟩
end
theorem zmE (x:V) (f:zaz x=true):eqV x x=true:=by
 cases x with
 | non=>rfl
 | bl b=>simp [eqV]
 | int i=>simp [eqV]
 | str z=>simp [eqV]
 | _=>exact absurd (show false=true from f) Q4
section
def CDivS (_ j:Int):Prop:=j ≠ 0/\∃ n,Bnd n j/\n<=2000
theorem CDivS.ok (h:CDivS i j):Builtin.divisionGoesByPylong i j=false:=by
 obtain ⟨h0,n,h1,h2⟩:=h
 refine PyProof.noPylong_of_log2 ?_
 have hz:j.natAbs ≠ 0:=by omega
 have e:(2:Nat) ^ (4*n)=16 ^ n:=by rw [Nat.pow_mul]
 have h3:j.natAbs<2 ^ (4*n):=by
  rw [e]
  exact Q5 h1 (Nat.pow_le_pow_left (by decide) n)
 have h4:j.natAbs.log2<4*n:=(Nat.log2_lt hz).mpr h3
 omega
theorem zl5:OpR X (binaryOp .FloorDiv) (rI CDivS fun i j=>.int (i.fdiv j)):=opI fun _ _ _ _ _ _ _ hc q=>floordiv_int hc.1 q (.inl hc.ok)
end
structure CalX (P:Program) (w:World) (K:Frag) (mg:Str->Option Value) (base:Heap) (C:Addr) (k:Nat) (x:Str) (ps:List Str) (sp:Sp):Prop where
 ex:∃ (f:Addr) (fd:FuncData),FnOk P w K mg base (CXC P w C) k f fd ps sp/\PySem.W.keepIn K (.ref f)=true/\Binds K fd ps []/\mg x=some (.ref f)
theorem zcU {name:Str} {acc:List (Str × Addr)} {c:Addr} (e:((name,n)::acc).lookup x=some c):(x=name/\c=n)\/acc.lookup x=some c:=by
 rw [lookup_cons] at e
 split at e
 ·rename_i h;cases e;exact .inl ⟨eq_of_beq h,rfl⟩
 ·exact .inr e
theorem ziC:∀ (names:List (Str × NameKind)) (n:Nat) (acc:List (Str × Addr)),(∀ x y c,acc.lookup x=some c->acc.lookup y=some c->x=y)->(∀ x c,acc.lookup x=some c->c<n)->∀ x y c,(cellsFrom n names acc).lookup x=some c->(cellsFrom n names acc).lookup y=some c->x=y
 | [],_,_,h,_,x,y,c,e1,e2=>h x y c e1 e2
 | (name,kind)::r,n,acc,h,lt,x,y,c,e1,e2=>by
  unfold cellsFrom at e1 e2
  split at e1
  ·rename_i hk
   rw [Qy hk] at e2
   refine ziC r (n+1) ((name,n)::acc) (fun x y c f1 f2=>?_) (fun x c f=>?_) x y c e1 e2
   ·rcases zcU f1 with ⟨g1,g2⟩ | g1 <;> rcases zcU f2 with ⟨g3,g4⟩ | g3
    ·rw [g1,g3]
    ·subst g2;exact absurd (lt _ _ g3) (Qo _)
    ·subst g4;exact absurd (lt _ _ g1) (Qo _)
    ·exact h x y c g1 g3
   ·rcases zcU f with ⟨g1,g2⟩ | g1
    ·subst g2;exact Nat.lt_succ_self _
    ·exact Nat.lt_succ_of_lt (lt _ _ g1)
  ·rename_i hk
   rw [Qz hk] at e2
   exact ziC r n acc h lt x y c e1 e2
theorem zkm {x:Str} {c:Addr}:∀ (names:List (Str × NameKind)) (n:Nat) (acc:List (Str × Addr)),(cellsFrom n names acc).lookup x=some c->acc.lookup x=some c\/n<=c
 | [],_,_,e=>.inl e
 | (name,kind)::r,n,acc,e=>by
  unfold cellsFrom at e
  split at e
  ·rcases zkm r (n+1) _ e with f | f
   ·rcases zcU f with ⟨_,g⟩ | g
    ·exact .inr (Nat.le_of_eq g.symm)
    ·exact .inl g
   ·exact .inr (by omega)
  ·exact zkm r n acc e
theorem zkn {x:Str} {c:Addr} {lo:Nat}:∀ (names:List (Str × NameKind)) (n:Nat) (acc:List (Str × Addr)),lo<=n->(∀ c,acc.lookup x=some c->lo<=c)->(cellsFrom n names acc).lookup x=some c->lo<=c
 | [],_,_,_,h,e=>h _ e
 | (name,kind)::r,n,acc,hn,h,e=>by
  unfold cellsFrom at e
  split at e
  ·refine zkn r (n+1) _ (QI hn) (fun c f=>?_) e
   rcases zcU f with ⟨_,g⟩ | g
   ·subst g;exact hn
   ·exact h _ g
  ·exact zkn r n acc hn h e
theorem ziA {x:Str} {c:Addr}:∀ (names:List (Str × NameKind)) (n:Nat) (acc:List (Str × Addr)),names.lookup x=some .cell->(cellsFrom n names acc).lookup x=some c->n<=c
 | [],_,_,h,_=>by cases h
 | (name,kind)::r,n,acc,h,e=>by
  unfold cellsFrom at e
  rw [lookup_cons] at h
  split at h
  ·rename_i hx
   cases h
   rw [Qy (show (NameKind.cell==NameKind.cell)=true from rfl)] at e
   refine zkn r (n+1) _ (Nat.le_succ _) (fun c f=>?_) e
   rw [lookup_cons,hx] at f
   cases f;exact Q3 _
  ·split at e
   ·exact Nat.le_of_succ_le (ziA r (n+1) _ h e)
   ·exact ziA r n acc h e
theorem ziB {x:Str}:∀ (names:List (Str × NameKind)) (n:Nat) (acc:List (Str × Addr)),(∀ y ∈ names,y.2 = .cell->y.1 ≠ x)->(cellsFrom n names acc).lookup x=acc.lookup x
 | [],_,_,_=>rfl
 | (name,kind)::r,n,acc,h=>by
  unfold cellsFrom
  split
  ·rename_i hk
   rw [ziB r (n+1) _ fun y hy=>h y (mem_cons_of_mem _ hy),lookup_cons]
   have:(x==name)=false:=by
    cases q:x==name with
    | false=>rfl
    | true=>exact absurd (eq_of_beq q).symm (h (name,kind) mem_cons_self (eq_of_beq hk))
   rw [this]
  ·exact ziB r n acc fun y hy=>h y (mem_cons_of_mem _ hy)
theorem zgM:∀ (names:List (Str × NameKind)) (h:Heap) (acc:List (Str × Addr)),(∀ x c,acc.lookup x=some c->∃ v,h.IsCell c v)->∀ x c,(cellsFrom h.objs.size names acc).lookup x=some c->∃ v,(pushCells h names).IsCell c v
 | [],_,_,k,x,c,e=>k x c e
 | (name,kind)::r,h,acc,k,x,c,e=>by
  unfold cellsFrom at e
  unfold pushCells
  split at e
  ·rename_i hk
   rw [Qy hk]
   refine zgM r (h.push { cls:=.type "cell",data:=.cell none }) ((name,h.objs.size)::acc) (fun x c f=>?_) x c (by rw [Heap.size_push];exact e)
   rcases zcU f with ⟨_,g⟩ | g
   ·subst g;exact ⟨none,_,Ql _ rfl,rfl⟩
   ·obtain ⟨v,q⟩:=k x c g
    exact ⟨v,q.keeps fun b o e=>Q2 _ e⟩
  ·rename_i hk
   rw [Qz hk]
   exact zgM r h acc k x c e
variable {cl:List (Str × Addr)} {scope:Scope}
theorem zcC {M:Model} {globals:Addr} {qual:Str} {env:Env} {builtins:Addr} {Q:Env->Shared->Prop}
 (hQ:∀ h',h'.Ns s.heap.objs.size (fun _=>none)->h'=pushCells (s.heap.push { cls:=.type "dict",data:=.dict #[] }) scope.names->
 Q (newEnv scope s.heap.objs.size globals (cellsFrom (s.heap.objs.size+1) scope.names cl) qual none .none (some env) builtins) { s with heap:=h' }) :
  wpAny M A (newFunctionEnv scope globals cl [] qual none .none (some env) builtins) Q E s:=by
 simp only [newFunctionEnv,Option.isSome_some,if_true]
 refine Q1 (wpAny_alloc ?_)
 refine Q1 (wpAny_layCells _ (fun name kind cells=>by cases hkc:kind==NameKind.cell <;> simp [hkc]) _ _ _ _ ?_)
 rw [show ({ s with heap:=s.heap.push { cls:=.type "dict",data:=.dict #[] } }:Shared).heap.objs.size=s.heap.objs.size+1 from Heap.size_push ..]
 refine Q1 ?_
 rw [List.forIn_nil]
 exact Qf (Qf (hQ _ ((Heap.Ns.new s.heap (.type "dict")).keeps (pushCells_keeps _ _)) rfl))
noncomputable def ziH (scope:Scope) (cl:List (Str × Addr)) (C:Addr) (env:Env):Env:={ compEnvC scope cl C env with cells:=cellsFrom (C+1) scope.names cl }
noncomputable def Cx.block (X:Cx) (scope:Scope) (cl:List (Str × Addr)) (N:List Str) (ex:List Addr) (s0:Shared) (H0:Hp):Cx where
 prog:=X.prog
 w:=X.w
 K:=X.K
 mg:=X.mg
 base:=X.base
 A:=X.A
 N:=N
 s₀:=s0
 H₀:=H0
 env:=ziH scope cl s0.heap.objs.size X.env
 outer:=X.stack
 stack:=X.stack
 ex:=ex
 fn:=fun x=>scope.names.lookup x==some .cell
 calm:=X.calm
 pn:=[]
 xe:=fun _ _=>False
def PTs (X:Cx) (ifs:List Expr) (t:TT):Prop:=
 ∀ (pins:List (Addr × Obj)) (s:Shared) (σ:St) (H:Hp) (Q:Bool->Hp->Prop),Inv X pins σ H s->t σ H Q->
  wpAny (model X.prog X.w) X.A (forIn ifs true fun c r=>if r=true then do let ok ← isTrue c X.env (eval c X.env);pure (ForInStep.yield ok) else pure (ForInStep.yield r)) (TP X pins σ Q) X.xe s
noncomputable def zqH:TT:=fun _ H Q=>Q true H
theorem znl:PTs X [] zqH:=fun _ _ _ H _ I h=>wpAny_tests_nil ⟨H,I,h⟩
theorem znk {c:Expr} {t:TT} (h:PT X c t):PTs X [c] t:=fun pins s σ H Q I hq=>wpAny_tests_one (h pins s σ H Q I hq)
noncomputable def zc9 (tgs:List Str) (caps:List (Str × Nat)) (σ:St):St:=tgs.map (fun _=>none)++caps.map fun c=>(σ[c.2]?).join
noncomputable def zjT (wi:TI) (g:TG) (tc:TT) (te:TE) (σ0:St->St):TE:=fun σ H Q=>wi σ H fun J H1=>∀ D,H1 D=none->∃ W:Nat->Nat->St->Hp->Prop,(∃ m,W 0 m (σ0 σ) (upd H1 D (.lst [])))/\∀ i m σ' H',W i m σ' H'->
 (J.stop i H'/\Q (.ref D) H')\/(J.go i H'/\∃ N:St->Hp->Prop,(∀ σ'' H'',N σ'' H''->∃ m',m'<m/\W (i+1) m' σ'' H'')/\∀ x H2,J.yld i H' x H2->g x σ' H2 fun σ2 H3=>tc σ2 H3 fun b H4=>
  if b=true then te σ2 H4 fun v H5=>∃ ys,H5 D=some (.lst ys)/\ys.length<sizeLine/\N σ2 (upd H5 D (.lst (ys++[v]))) else N σ2 H4)
variable {elt iter:Expr} {ifs:List Expr}
theorem zei {prog:Program} {R:Result->Shared->Prop} {target:Expr} {it acc:Value} {env:Env} (I:Nat->Shared->Prop)
 (turn:∀ n s,I n s->wpAny (model prog w) A (pyNext it) (fun r s₁=>match r with
 | none=>R (.ok .next) s₁
 | some v=>wpAny (model prog w) A (letOwnedTupleGo target it v) (fun _ s₁'=>wpAny (model prog w) A (assign target env v) (fun _ s₂=>
 wpAny (model prog w) A (forIn ifs true fun c r=>if r=true then do let ok ← isTrue c env (eval c env);pure (ForInStep.yield ok) else pure (ForInStep.yield r)) (fun ok s₃=>
 if ok=true then wpAny (model prog w) A (eval elt env) (fun x s₄=>
 wpAny (model prog w) A (call (.builtin "list.append") [acc,x]) (fun _ s₅=>∃ m,m<n/\I m s₅) (notedBy (model prog w) A env fun e s'=>R (.error e) s') s₄) (notedBy (model prog w) A env fun e s'=>R (.error e) s') s₃
 else ∃ m,m<n/\I m s₃) (notedBy (model prog w) A env fun e s'=>R (.error e) s') s₂) (notedBy (model prog w) A env fun e s'=>R (.error e) s') s₁') (notedBy (model prog w) A env fun e s'=>R (.error e) s') s₁) (notedBy (model prog w) A env fun e s'=>R (.error e) s') s)
 (n:Nat) (h:I n s):codeAny (model prog w) A (.compLoop (.ListComp elt [⟨target,iter,ifs,0⟩] scope pos) 0 it acc env) R s:=by
 refine codeAny_loop rfl I (fun n s hI=>?_) n h
 show wpAny _ A ((compTurn (.ListComp elt [⟨target,iter,ifs,0⟩] scope pos) 0 it acc env).onRaise (fun x=>do noteFrame x env;theTreesLotGoes x)) _ _ s
 refine wpAny_noted ?_
 rw [compTurn_list]
 refine Q1 (wpAny_standAt (Q1 (Qg (turn n s hI) (fun r s₁ h₁=>?_) fun _ _ h'=>h')))
 cases r with
 | none=>exact Qf h₁
 | some v=>
  refine Q1 (Qg h₁ (fun _ s₁' h₁'=>?_) fun _ _ h'=>h')
  refine Q1 (Qg h₁' (fun _ s₂ h₂=>Q1 (Qg h₂ (fun ok s₃ h₃=>?_) fun _ _ h'=>h')) fun _ _ h'=>h')
  cases ok with
  | false=>exact Qf ⟨rfl,h₃⟩
  | true=>
   exact Q1 (Q1 (Qg h₃ (fun x s₄ h₄=>Q1 (Qg h₄ (fun _ s₅ h₅=>Qf (Qf ⟨rfl,h₅⟩)) fun _ _ h'=>h')) fun _ _ h'=>h'))
variable {tg:Expr} {wi:TI}
section
theorem zjf {tgs:List Str} {caps:List (Str × Nat)} {g:TG} {tc:TT} {te:TE}
 (hc:X.calm=true) (hi:PI X tg iter wi) (hclos:closureFor scope X.env=pure cl) (hcell:∀ y ∈ scope.names,y.2 = .cell->y.1 ∉ caps.map (·.1)) (hkind:scope.kind = .function)
 (hnames:∀ y ∈ scope.names,y.2 = .local->scope.names.lookup y.1=some .local)
 (hcl:∀ y c,cl.lookup y=some c->X.env.cells.lookup y=some c)
 (hhas:∀ n y,((relabel scope X.env).names.lookup y=some .cell\/(relabel scope X.env).names.lookup y=some .free)->∃ c,(cellsFrom n scope.names cl).lookup y=some c)
 (hcap:∀ c ∈ caps,X.N[c.2]? = some c.1/\X.env.kindOf c.1=some .cell/\((relabel scope X.env).names.lookup c.1=some .cell\/(relabel scope X.env).names.lookup c.1=some .free))
 (hg:∀ ex s0 H0,PG (X.block scope cl (tgs++caps.map (·.1)) ex s0 H0) tg g) (hif:∀ ex s0 H0,PTs (X.block scope cl (tgs++caps.map (·.1)) ex s0 H0) ifs tc) (hel:∀ ex s0 H0,PE (X.block scope cl (tgs++caps.map (·.1)) ex s0 H0) elt te)
 (hs:∀ x,foldedSetIterable iter X.env x=pure x:=by intro _;rfl) :
  PE X (.ListComp elt [⟨tg,iter,ifs,0⟩] scope pos) (zjT wi g tc te (zc9 tgs caps)):=by
 apply?
 rw [eval_ListComp]
 refine wpAny_comprehension_free (use:=none) rfl hs hclos hkind hnames (thn (hi pins s σ H _ I h) fun v s1 h1=>thn h1 fun itv s2 h2=>?_)
 obtain ⟨it,fp,tn,J,H2,e,I2,T,st2,f2,hrest⟩:=h2
 subst e
 -- the new list
 have hD:H2 s2.heap.objs.size=none:=I2.fresh
 obtain ⟨W,⟨m0,w0⟩,turn⟩:=hrest _ hD
 refine wpAny_newObj_type ?_ (by show 0<=sizeLine;decide)
 have I3:Inv X pins σ (upd H2 s2.heap.objs.size (.lst [])) { s2 with heap:=s2.heap.push { cls:=.type "list",data:=.seq ([]:List Value).toArray } }:=I2.lnew (t':=s2.toks) (ys:=[]) (its:=[]) .nil (by show 0<=sizeLine;decide)
 generalize hs3:({ s2 with heap:=s2.heap.push { cls:=.type "list",data:=.seq ([]:List Value).toArray } }:Shared)=s3 at I3
 have lt2:∀ b o,s2.heap.get? b=some o->s3.heap.get? b=some o:=fun b o e=>by rw [← hs3];exact Q2 _ e
 have sz3:s2.heap.objs.size<s3.heap.objs.size:=by rw [← hs3];show _<(s2.heap.push _).objs.size;rw [Heap.size_push];exact Nat.lt_succ_self _
 have st3:tn 0 s3.heap:=T.keep 0 _ _ st2 fun b _ o e=>lt2 b o e
 have fplt:∀ b ∈ fp,b<s2.heap.objs.size:=fun b hb=>by
  obtain ⟨o,e,_⟩:=T.obj 0 _ st2 b hb
  exact Qe e
 generalize hH3:upd H2 s2.heap.objs.size (.lst [])=H3 at I3 w0
 have fr3:∀ b ∈ fp,H3 b=none:=fun b hb=>by rw [← hH3,zl (Qk (fplt b hb))];exact (f2 b hb).1
 have nstk:∀ b ∈ fp,b ∉ frs X.stack:=fun b hb z=>by
  obtain ⟨_,n1,n2,_⟩:=f2 b hb
  rcases QF.mp (I2.stkSub b z) with z | z
  ·exact n1 z
  ·exact n2 z
 refine zcC fun h4 ns4 sb4=>?_
 have keep4:∀ b o,s3.heap.get? b=some o->h4.get? b=some o:=fun b o e=>by rw [sb4];exact pushCells_keeps _ _ b o (Q2 _ e)
 have clt:∀ x c,cl.lookup x=some c->c<s3.heap.objs.size:=fun x c e=>by
  obtain ⟨v,q⟩:=I3.cell x c (hcl x c e)
  exact q.lt
 have cor:∀ x c,(cellsFrom (s3.heap.objs.size+1) scope.names cl).lookup x=some c->cl.lookup x=some c\/s3.heap.objs.size+1<=c:=fun x c e=>zkm _ _ _ e
 have cne:∀ b ∈ fp,∀ x c,(cellsFrom (s3.heap.objs.size+1) scope.names cl).lookup x=some c->c ≠ b:=fun b hb x c e=>by
  rcases cor x c e with e | e
  ·exact (f2 b hb).2.2.2.2.1 x c (hcl x c e)
  ·exact Nat.ne_of_gt (Q5 (Nat.lt_trans (fplt b hb) sz3) (Nat.le_of_succ_le e))
 have neC:∀ b ∈ fp,b ≠ s3.heap.objs.size:=fun b hb=>Qk (Nat.lt_trans (fplt b hb) sz3)
 have ok':(X.block scope cl (tgs++caps.map (·.1)) fp s3 H3).Ok:=
  ⟨I.ok.mod,hkind,I.ok.glob,I.ok.blt,Q3 _,ziC _ _ _ (fun x y c e1 e2=>I.ok.inj x y c (hcl x c e1) (hcl y c e2)) (fun x c e=>Nat.lt_succ_of_lt (clt x c e)),hhas _,(fun x c z e=>Nat.le_of_succ_le (ziA _ _ _ (eq_of_beq z) e)),I.ok.hd,I.ok.frames,.inl rfl,
   fun b hb=>⟨neC b hb,cne b hb⟩,I3.bs,Qj I.ok.bsz I3.sz,fun b o e hb=>by
    rcases (f2 b hb).2.2.2.1 with z | z
    ·exact I.ok.noex b o e z
    ·exact absurd (Q5 (Qe e) (Qj I.ok.bsz z)) (Qo _),
   nstk,I3.stack,I3.stkFree⟩
 have I4:Inv (X.block scope cl (tgs++caps.map (·.1)) fp s3 H3) [] (zc9 tgs caps σ) H3 { s3 with heap:=h4 }:=by
  refine ⟨ok',rfl,I3.bare,Un.kept keep4,⟨_,ns4,fun i x v e1 e2 e3=>?_⟩,fun x c e=>?_,I3.hok.fresh (Q3 _),fun x c e=>(cor x c e).elim (fun e=>I3.freeC x c (hcl x c e)) (fun e=>I3.hok.fresh (Nat.le_of_succ_le e)),fun p hp=>by simp [Cx.block] at hp,I3.hok.kept keep4,by simp [zc9,Cx.block]⟩
  ·-- a captured name
   have hlen:(tgs.map (fun _=>(none:Option V))).length=tgs.length:=by simp
   by_cases hi:i<tgs.length
   ·have:(zc9 tgs caps σ)[i]? = some none:=by
     unfold zc9
     rw [Q6 (by simpa using hi)]
     simp [hi]
    rw [this] at e2
    cases e2
   ·have e1':(tgs++caps.map (·.1))[i]? = some x:=e1
    rw [Q8 (by omega),Qb] at e1'
    have e2':=e2
    unfold zc9 at e2'
    rw [Q8 (by simpa using hi),hlen,Qb] at e2'
    cases hcq:caps[i-tgs.length]? with
    | none=>rw [hcq] at e1';cases e1'
    | some cq=>
     rw [hcq] at e1' e2'
     have ex:cq.1=x:=Qd e1'
     have ev:(σ[cq.2]?).join=some v:=Qd e2'
     obtain ⟨c1,c2,c3⟩:=hcap cq (Qa hcq)
     have ev':σ[cq.2]? = some (some v):=by
      cases q:σ[cq.2]? with
      | none=>rw [q] at ev;cases ev
      | some o=>rw [q] at ev;cases o with
       | none=>cases ev
       | some v'=>rw [show v'=v from Qd ev]
     obtain ⟨m,hn,hl⟩:=I3.loc
     obtain ⟨u,r,lk⟩:=hl cq.2 cq.1 v c1 ev' (.inr (.inl c2))
     rcases lk with ⟨k1,_⟩ | ⟨_,c,ec,icl⟩
     ·rw [c2] at k1;cases k1
     ·obtain ⟨c',ec'⟩:=hhas (s3.heap.objs.size+1) cq.1 c3
      have ec2:=ec'
      rw [ziB _ _ _ fun y hy hk hyx=>hcell y hy hk (by rw [hyx];exact List.mem_map_of_mem (Qa hcq))] at ec2
      have:=hcl _ _ ec2
      rw [ec] at this
      cases this
      refine ⟨u,r,.inr ⟨?_,c,?_,?_⟩⟩
      ·rw [← ex];exact c3
      ·rw [← ex];exact ec'
      ·obtain ⟨o,ho,hd⟩:=icl
       exact ⟨o,keep4 _ _ ho,hd⟩
  ·show ∃ v,h4.IsCell c v
   rw [sb4]
   refine zgM scope.names _ cl (fun x c f=>?_) x c (by rw [Heap.size_push];exact e)
   obtain ⟨v,o,ho,hd⟩:=I3.cell x c (hcl x c f)
   exact ⟨v,o,Q2 _ ho,hd⟩
 have stat:∀ {H':Hp},(∀ b ∈ fp,H' b=none)->∀ b ∈ fp,zfI (X.block scope cl (tgs++caps.map (·.1)) fp s3 H3) [] H' b:=fun hn b hb=>
  ⟨hn b hb,neC b hb,nstk b hb,.inl hb,cne b hb,fun p hp=>by simp [Cx.block] at hp⟩
 have st4:tn 0 h4:=T.keep 0 _ _ st3 fun b _ o e=>keep4 b o e
 have loop:codeAny (model X.prog X.w) X.A (.compLoop (.ListComp elt [⟨tg,iter,ifs,0⟩] scope pos) 0 (.ref it) (.ref s2.heap.objs.size) (ziH scope cl s3.heap.objs.size X.env))
   (compPost (model X.prog X.w) X.A X.xe none (EP X pins σ Q) (.ref s2.heap.objs.size) s3.heap.objs.size) { s3 with heap:=h4 }:=by
  refine zei (fun n s'=>∃ i σ' H',Inv (X.block scope cl (tgs++caps.map (·.1)) fp s3 H3) [] σ' H' s'/\tn i s'.heap/\(∀ b ∈ fp,H' b=none)/\W i n σ' H') ?_ m0 ⟨0,_,H3,I4,st4,fr3,w0⟩
  rintro n s5 ⟨i,σ5,H5,I5,st5,fr5,w5⟩
  rcases turn i n σ5 H5 w5 with ⟨stop,qn⟩ | ⟨go,N,hN,step⟩
  ·refine Qg (T.done (X.block scope cl (tgs++caps.map (·.1)) fp s3 H3) rfl rfl rfl hc i [] s5 σ5 H5 (fun _ _=>False) I5 (stat fr5) st5 stop) (fun r s6 ⟨hr,I6⟩=>?_) fun _ _ z=>False.elim z
   subst hr
   obtain ⟨m6,hn6,_⟩:=I6.loc
   refine ⟨m6,hn6,fun h' sb=>?_⟩
   have nb:∀ b o,s3.heap.get? b=some o->b ≠ s3.heap.objs.size:=fun b o e=>Qk (Qe e)
   have eqb:∀ b,b ≠ s3.heap.objs.size->h'.get? b=s6.heap.get? b:=fun b hb=>sb.2 b hb
   have uX:Un (frs X.stack) fp H3 H5 s3.heap h':=by
    have u:=I6.base
    refine ⟨fun b o e a1 a2 a3=>?_,fun b o e a1 a2 a3=>?_,u.free,fun b o e a3=>?_,u.tups,u.frzs,u.tbls⟩
    ·rw [eqb b (nb b o e)];exact u.keep b o e a1 a2 a3
    ·rw [eqb b (nb b o e)];exact u.slot b o e a1 a2 a3
    ·rw [eqb b (nb b o e)];exact u.there b o e a3
   have hokX:HOk X.prog X.w H5 h':=fun a o e=>(I6.hok a o e).stay (fun b u hb eu=>by
    have hbC:b ≠ s3.heap.objs.size:=fun z=>by
     have hfC:H5 s3.heap.objs.size=none:=I6.free
     rcases hb with rfl | hb
     ·rw [z,hfC] at e;cases e
     ·rw [z,hfC] at hb;cases hb
    rw [eqb b hbC];exact eu) (fun _ q=>q) fun _ _ q=>q
   have os6:s6.os=s3.os:=I6.os
   exact ⟨.ref s2.heap.objs.size,H5,I3.call' (s':={ s6 with heap:=h' }) (ch:=fp) os6 uX hokX I6.bare (fun b hb=>⟨(f2 b hb).2.2.2.1,(f2 b hb).2.1,(f2 b hb).2.2.2.2.1,(f2 b hb).2.2.2.2.2⟩),rfl,qn⟩
  ·refine Qg (T.item (X.block scope cl (tgs++caps.map (·.1)) fp s3 H3) rfl rfl rfl hc i [] s5 σ5 H5 (fun _ _=>False) I5 (stat fr5) st5 go) (fun r s6 ⟨u,hr,h6⟩=>?_) fun _ _ z=>False.elim z
   subst hr
   refine Qg h6 (fun _ s7 ⟨x,H7,I7,r7,y7,st7,fr7⟩=>?_) fun _ _ z=>False.elim z
   have I7':=I7.pinned (stat fr7) (T.obj _ _ st7)
   have again:∀ {s9:Shared} {σ9:St} {H9:Hp},Inv (X.block scope cl (tgs++caps.map (·.1)) fp s3 H3) ([]++zez fp s7.heap) σ9 H9 s9->N σ9 H9->
     ∃ m,m<n/\∃ i σ' H',Inv (X.block scope cl (tgs++caps.map (·.1)) fp s3 H3) [] σ' H' s9/\tn i s9.heap/\(∀ b ∈ fp,H' b=none)/\W i m σ' H':=fun {s9 σ9 H9} I9 n9=>by
    obtain ⟨m',hm,w9⟩:=hN σ9 H9 n9
    refine ⟨m',hm,i+1,σ9,H9,I9.unpinned,T.keep _ _ _ st7 fun b hb o e=>(I9.pin (b,o) (Qm _ (Qm _ (zcO hb e)))).1,fun b hb=>?_,w9⟩
    obtain ⟨o,e,d⟩:=T.obj _ _ st7 b hb
    exact (I9.pin (b,o) (Qm _ (Qm _ (zcO hb e)))).2.1
   refine Qg (hg fp s3 H3 _ s7 σ5 H7 x u _ I7' r7 (step x H7 y7)) (fun _ s8 ⟨σ8,H8,I8,q8⟩=>?_) fun _ _ z=>False.elim z
   refine Qg (hif fp s3 H3 _ s8 σ8 H8 _ I8 q8) (fun b s9 ⟨H9,I9,q9⟩=>?_) fun _ _ z=>False.elim z
   cases b with
   | false=>
    rw [Qz Q4] at q9
    rw [Qz Q4]
    exact again I9 q9
   | true=>
    rw [Qy rfl] at q9
    rw [Qy rfl]
    refine Qg (hel fp s3 H3 _ s9 σ8 H9 _ I9 q9) (fun xv s10 ⟨v,H10,I10,rv,ys,hy,hl,q10⟩=>?_) fun _ _ z=>False.elim z
    refine Qg (yD (X:=X.block scope cl (tgs++caps.map (·.1)) fp s3 H3) _ s10 σ8 H10 (.ref s2.heap.objs.size) [v] (.ref s2.heap.objs.size) [xv] (fun _ H11=>N σ8 H11) I10 rfl (.cons rv .nil) ⟨_,ys,v,rfl,rfl,hy,hl,q10⟩) (fun _ s11 ⟨_,H11,I11,_,q11⟩=>again I11 q11) fun _ _ z=>False.elim z
 exact codeAny_compStart_list loop (T.self _ 0 _ _ _ st4 loop)
end
noncomputable def Each {α:Type} (P:α->Prop):List α->Prop
 | []=>True
 | a::l=>P a/\Each P l
theorem Each.of {α:Type} {P:α->Prop}:∀ {l:List α},Each P l->∀ a ∈ l,P a
 | _::_,⟨h,_⟩,_,.head _=>h
 | _::_,⟨_,h⟩,_,.tail _ m=>Each.of h _ m
variable {l:List (Str × NameKind)}
theorem lookup_mem {y:Str} {k:NameKind} (h:l.lookup y=some k):(y,k) ∈ l:=by
 induction l with
 | nil=>cases h
 | cons p l ih=>
  obtain ⟨n,k'⟩:=p
  rw [lookup_cons] at h
  cases e:y==n with
  | true=>
   rw [e] at h
   cases h
   rw [eq_of_beq e]
   exact .head _
  | false=>
   rw [e] at h
   exact .tail _ (ih h)
theorem zpV (h:Each (fun p=>(p.2 = .cell\/p.2 = .free)->∃ c,cl.lookup p.1=some c) l) (y:Str) (q:l.lookup y=some .cell\/l.lookup y=some .free):∃ c,cl.lookup y=some c:=by
 rcases q with q | q
 ·exact h.of _ (lookup_mem q) (.inl rfl)
 ·exact h.of _ (lookup_mem q) (.inr rfl)
theorem PI.or {wi':TI} (h:PI X tg iter wi) (h':PI X tg iter wi'):PI X tg iter (fun σ H R=>wi σ H R\/wi' σ H R):=fun pins s σ H R I q=>q.elim (h pins s σ H R I) (h' pins s σ H R I)
section
noncomputable def zqZ (K:Frag):R2:=fun x y H Q=>∃ a b xs ys,x = .ref a/\y = .ref b/\SqT K H a xs/\SqT K H b ys/\xs.length+ys.length<=sizeLine /\
 (xs=[]->Q (.ref b) H)/\(xs ≠ []->ys=[]->Q (.ref a) H)/\(xs ≠ []->ys ≠ []->∀ p,H p=none->Q (.ref p) (upd H p (.tup (xs++ys))))
theorem znJ:OpR X (binaryOp .Add) (zqZ X.K):=by
 infer_instance
 obtain ⟨a,b,xs,ys,rfl,rfl,ha,hb,hz,q0,q1,q2⟩:=h
 by_cases hx:xs=[]
 ·cases rx
  cases ry
  obtain ⟨its,r1,p1,_⟩:=I.tuple ha
  obtain ⟨its2,r2,p2,_⟩:=I.tuple hb
  obtain ⟨⟨cls,dd,data,sl⟩,ho,hc,n,hd⟩:=id p1
  obtain ⟨⟨cls2,dd2,data2,sl2⟩,ho2,hc2,n2,hd2⟩:=id p2
  simp only at hc hd hc2 hd2
  subst hc hd hc2 hd2
  have e:its=[]:=r1.nil_iff.mpr hx
  exact concat_meets ⟨_,ho,rfl⟩ ⟨_,ho2,rfl⟩ noFill_tuple_add seq_tuple_add PySem.F.slot_tuple_add PySem.F.entry_tuple_add (PySem.F.args_tuple_add_2 _ _)
   (tuple_addW0 a b its.toArray its2.toArray n n2 dd dd2 sl sl2 (by simp [e])) ⟨ho,ho2,⟨.ref b,H,I,rfl,q0 hx⟩⟩
 ·exact znI pins s σ H _ _ v u Q I rx ry ⟨a,b,xs,ys,rfl,rfl,ha,hb,hx,hz,q1 hx,q2 hx⟩
end
end L2
namespace HT
open PySem PySem.Spec PyProof.Rows
section
variable {prog:Program} {w:World} {A:Around} {E:Value->Shared->Prop} {s:Shared}
theorem zen {t sl:Addr} {items:Array Value} {vl vu:Value} {lo hi:Option Int} {Q:Value->Shared->Prop} (ht:IsTup s.heap t items) (hs:s.heap.IsSliceOf sl vl vu .none) (pl:IsPart vl lo) (pu:IsPart vu hi)
  (hw:sIx items.size 0 lo=0/\sIx items.size items.size hi=items.size) (h:Q (.ref t) s):wpAny (model prog w) A (getItem (.ref t) (.ref sl)) Q E s:=by
 obtain ⟨os,hos,hcs,hds⟩:=id hs
 have hTs:s.TypeIs (.ref sl) "slice":=⟨os,hos,hcs⟩
 unfold getItem
 try with_reducible refine wpAny_holding ?_
 first | refine Q1 (Qf ?_) | skip
 refine Q1 (wpAny_sequenceKey ht.typeIs (by decide) ?_)
 refine Q1 (wpAny_callSpecial?_slot (name:=Str.ofString "__getitem__") ht.typeIs PyProof.Rows.slot_tuple_getitem
  (wpAny_call_entry PyProof.Rows.slot_tuple_getitem ht.typeIs entry_tuple_getitem ?_ (args_tuple_getitem _ _)))
 show wpAny _ _ (Builtin.Tuple.tupleItemsOf (.ref t) >>= _) _ _ s
 refine Q1 (tupleItemsOf_ ht ?_)
 refine Q1 (wpAny_typeOf hTs ?_)
 rw [Qy (by decide)]
 refine Q1 (zcX hs pl pu ?_)
 have hyes:(((sIx items.size 0 lo:Nat):Int)==0 && (1:Int)==1 && (sIx items.size items.size hi-sIx items.size 0 lo)==items.size)=true:=by
  rw [hw.1,hw.2];simp
 show wpAny _ _ (if (((sIx items.size 0 lo:Nat):Int)==0 && (1:Int)==1 && (sIx items.size items.size hi-sIx items.size 0 lo)==items.size)=true then _ else _) _ _ s
 rw [Qy hyes]
 refine Q1 ?_
 unfold Builtin.Tuple.tupleIsExact
 refine Q1 (wpAny_typeOf ht.typeIs (Qf ?_))
 rw [Qy (by decide)]
 exact Q1 (wpAny_rule (Qf ⟨_,rfl,Qf h⟩))
end
end HT
namespace L2
open PySem PySem.Spec PyProof.Rows
variable {X:Cx}
section
noncomputable def zrW (K:Frag):V->Option Int->Option Int->Hp->VK->Prop:=fun x lo hi H Q=>∃ a xs,x = .ref a/\SqT K H a xs /\
 ((HT.sIx xs.length 0 lo=0/\HT.sIx xs.length xs.length hi=xs.length)->Q (.ref a) H)/\(¬ (HT.sIx xs.length 0 lo=0/\HT.sIx xs.length xs.length hi=xs.length)->∀ p,H p=none->Q (.ref p) (upd H p (.tup (cutV xs lo hi))))
theorem zm9:SlR X (zrW X.K):=by
 intro pins s σ H x v vl vu lo hi sl Q I rx hs pl pu h
 obtain ⟨a,xs,rfl,hx,q1,q2⟩:=h
 by_cases hw:HT.sIx xs.length 0 lo=0/\HT.sIx xs.length xs.length hi=xs.length
 ·cases rx
  obtain ⟨its,r,ht,hz⟩:=I.tuple hx
  have hlen:its.toArray.size=xs.length:=by rw [Qi];exact r.length.symm
  refine ⟨"tuple",_,PyProof.Rows.slot_tuple_getitem.lookup,ht.typeIs,?_⟩
  refine HT.zen ht hs pl pu (by rw [hlen];exact hw) ⟨.ref a,H,I,rfl,q1 hw⟩
 ·exact zoN pins s σ H _ v vl vu lo hi sl Q I rx hs pl pu ⟨a,xs,rfl,hx,hw,q2 hw⟩
theorem zfs:fillsNumberSlot (.type "tuple") "mul" = pure false:=
 PySem.fillsNumberSlot_seq (id:="tuple.__mul__") (r:=some (.builtin "tuple.__rmul__")) PySem.F.slot_tuple_mul.lookup (by decide +kernel) PySem.F.slot_tuple_rmul.lookup (by decide +kernel)
theorem zhW:seqRepeat? (.type "tuple")=pure (some (.builtin "tuple.__mul__")):=by
 unfold seqRepeat?
 rw [PySem.seqSlot_of (T:="tuple") (name:="__mul__") (id:="tuple.__mul__") PySem.F.slot_tuple_mul.lookup (by decide +kernel),PySem.seqSlot_of (T:="tuple") (name:="__rmul__") (id:="tuple.__rmul__") PySem.F.slot_tuple_rmul.lookup (by decide +kernel)]
 rfl
theorem zgp (a:Int) (t:Tok) (l:Addr) (items:Array Value) (n:Nat) (dd:Option Addr) (sl:Array (Option Value)) :
  Meets (Builtin.«int.__rmul__» ⟨[.int a t,.ref l],[]⟩) (fun _ R s=>s.heap.get? l=some { cls:=.type "tuple",dict:=dd,data:=.seq items n,slots:=sl }/\R (.ok (.ret Value.notImplemented)) s):=
 .of_wp fun prog w A R s h=>by obtain ⟨hp,g,d,tk,os⟩:=s;obtain ⟨hl,h⟩:=h;wp_walk;exact ⟨_,rfl,h⟩
theorem zjQ (l:Addr) (items:Array Value) (n:Nat) (x:Int) (u:Tok) (dd:Option Addr) (sl:Array (Option Value)) (h0:items.isEmpty=false) (h1:2<=x) (h2:x<2 ^ 63) (h3:items.size*x.toNat<=sizeLine) :
  Meets (Builtin.«tuple.__mul__» ⟨[.ref l,.int x u],[]⟩) (fun _ R s=>s.heap.get? l=some { cls:=.type "tuple",dict:=dd,data:=.seq items n,slots:=sl }/\R (.ok (.ret (Value.ref s.heap.objs.size))) { s with heap:=s.heap.push { cls:=Value.type "tuple",data:=Data.seq (List.foldl (fun x1 x2=>x1++x2) #[] (List.replicate x.toNat items)) },toks:=s.toks }):=
 .of_wp fun prog w A R s h=>by
  obtain ⟨hp,g,d,tk,os⟩:=s;obtain ⟨hl,h⟩:=h
  have f1:=AutoSeq1.idx_int
  have hA:¬(decide (x < -2 ^ 63) || decide (x ≥ 2 ^ 63))=true:=by simp;omega
  have hB:¬(items.isEmpty || x==1)=true:=by rw [h0];simp;omega
  have hC:¬(decide (x<=0) || items.isEmpty)=true:=by rw [h0];simp;omega
  have hm:((items.size:Nat):Int)*x=((items.size*x.toNat:Nat):Int):=by
   rw [Int.natCast_mul,Int.toNat_of_nonneg (by omega)]
  have hs2:(sizeLine:Nat)<=(2 ^ 63-1) / 8:=by decide
  have hD:¬((items.size:Nat):Int)*x > (2 ^ 63-1) / 8:=by rw [hm];omega
  have hE:¬Builtin.Tuple.tupleTooMany (((items.size:Nat):Int)*x)=true:=by
   rw [hm]
   show ¬ decide (((items.size*x.toNat:Nat):Int) > ((sizeLine:Nat):Int))=true
   rw [decide_eq_true_iff];omega
  have hT:IsTup hp l items:=⟨_,hl,rfl,n,rfl⟩
  wp_walk using wpAny_loadPart' hl
  rw [Qz hA]
  refine Q1 (tupleItemsOf_ hT ?_)
  show wpAny _ _ (if (items.isEmpty || x==1)=true then _ else _) _ _ _
  rw [Qz hB]
  show wpAny _ _ (if (decide (x<=0) || items.isEmpty)=true then _ else _) _ _ _
  rw [Qz hC]
  show wpAny _ _ (if ((items.size:Nat):Int)*x > (2 ^ 63-1) / 8 then _ else _) _ _ _
  rw [Qz hD]
  show wpAny _ _ (if Builtin.Tuple.tupleTooMany (((items.size:Nat):Int)*x)=true then _ else _) _ _ _
  rw [Qz hE]
  have hj:(List.foldl (fun x1 x2=>x1++x2) #[] (List.replicate x.toNat items)).size<=sizeLine:=by
   have:=foldl_rep items.toList x.toNat []
   rw [nil_append,Array.toArray_toList] at this
   rw [this,Qi,len_rep,Nat.mul_comm,Array.length_toList]
   exact h3
  exact Q1 (m:=Builtin.Tuple.tupleExact _) (wpAny_newObj_type (Qf ⟨_,rfl,h⟩) hj)
noncomputable def zqV (K:Frag):R2:=fun x y H Q=>∃ l k xs,x = .ref l/\y = .int k/\SqT K H l xs/\xs ≠ []/\2<=k/\k<2 ^ 63/\xs.length*k.toNat<=sizeLine /\
 ∀ p,H p=none->Q (.ref p) (upd H p (.tup (List.replicate k.toNat xs).flatten))
theorem znA:OpR X (binaryOp .Mult) (zqV X.K):=by
 infer_instance
 obtain ⟨l,k,xs,rfl,rfl,hH,hx,h1,h2,hz,q⟩:=h
 cases rx
 obtain ⟨t,rfl⟩:=ry
 obtain ⟨its,r,pl,_⟩:=I.tuple hH
 have hl:=r.length
 obtain ⟨⟨cls,dd,data,sl⟩,ho,hc,n,hd⟩:=id pl
 simp only at hc hd
 subst hc hd
 have hlen:its.toArray.size*k.toNat<=sizeLine:=by rw [Qi,← hl];exact hz
 have hne:its.toArray.isEmpty=false:=by
  cases its with
  | nil=>exact absurd (r.nil_iff.mp rfl) hx
  | cons a b=>rfl
 have hnew:List.foldl (fun x1 x2=>x1++x2) #[] (List.replicate k.toNat its.toArray)=(List.replicate k.toNat its).flatten.toArray:=by
  have:=foldl_rep its k.toNat []
  rw [nil_append] at this
  exact this
 refine wpAny_binaryOp_repeat_ref (T:="tuple") (U:="int") (by decide) ⟨_,ho,rfl⟩ (fun s'=>typeIs_int s' k t) zfs F.fills_int_mul F.slot_int_rmul zhW F.slot_int_index.lookup
  (call_meets F.slot_int_rmul (typeIs_int s k t) F.entry_int_rmul (F.args_int_rmul_2 _ _) (zgp k t l its.toArray n dd sl)
   ⟨ho,rfl,⟨_,ho,rfl⟩,call_meets F.slot_tuple_mul ⟨_,ho,rfl⟩ F.entry_tuple_mul (F.args_tuple_mul_2 _ _) (zjQ l its.toArray n k t dd sl hne h1 h2 hlen) ⟨ho,?_⟩⟩)
 rw [hnew]
 refine ⟨.ref s.heap.objs.size,_,I.laid (t':=s.toks) (o:=.tup (List.replicate k.toNat xs).flatten) (fun b ob q=>Q2 _ q) (Q3 _) ?_,rfl,q _ (I.hok.fresh (Q3 _))⟩
 exact ⟨by rw [len_rep,Nat.mul_comm];exact hz,_,r.rep k.toNat,IsTup.new _ _,NoDict.new⟩
end
section
theorem zms:ziN X (zlX X.K):=by
 infer_instance
 obtain ⟨p,xs,i,z,rfl,rfl,hq,he,q⟩:=h
 cases rx
 obtain ⟨t,rfl⟩:=ry
 obtain ⟨its,r,pl,hz⟩:=I.list hq
 obtain ⟨j,h1,h2,h3,h4,h5⟩:=zeZ he
 obtain ⟨w,ew,rw'⟩:=r.get h2
 have hl:=r.length
 have hn:=zcw
 have fin:EP X pins σ Q w s:=⟨z,H,I,rw',q⟩
 by_cases h0:0<=i
 ·have hj:i.toNat=j:=by
   rw [seqIndex_of h0 h5] at h1
   exact Qd h1
  exact wpAny_getItem_list pl.isList h0 (by omega) (by rw [hj];simpa using ew) fin
 ·have hj:(i+(its.toArray.size:Int)).toNat=j:=by
   rw [seqIndex_neg (by omega) h4] at h1
   rw [Qi,← hl]
   exact Qd h1
  exact wpAny_getItem_list_neg pl.isList (by omega) (by rw [Qi] <;> omega) (by omega) (by rw [hj];simpa using ew) fin
end
end L2
namespace L2
open PySem PySem.Spec PyProof.Rows PySem.Builtin PySem.Builtin.ObjectAttr
inductive Tl (h:Heap) (bmB:List Value) (ns:List Str):List Value->Prop
 | base:Tl h bmB ns bmB
 | own {a:Addr} {c:Value} {dd:Option Addr} {cd:ClassData} {sl:Array (Option Value)} {mA:Str->Option Value} {tl:List Value} (e:h.get? a=some ⟨c,dd,.cls cd,sl⟩) (hn:h.Ns cd.ns mA) (no:∀ n ∈ ns,mA n=none) (t:Tl h bmB ns tl):Tl h bmB ns (.ref a::tl)
variable {C N:Addr} {A:Around} {g:Array GenState} {ab:Bool} {d:Drawn} {h:Heap} {ns sn:List Str} {bm:List Value} {M:Model} {t:Nat} {dd:Option Addr} {col:Option Bool} {k0 k1 k2 k3 k5 y:Option Value} {Q:Option Value->Shared->Prop} {os:OsState} {n nm q:Str} {mN:Str->Option Value} {newId:String} {E:Value->Shared->Prop}
section
variable {h':Heap} {bmB tl:List Value}
theorem Tl.tail (T:Tl h bmB ns tl) (hi:("__init__":Str) ∈ ns):OwnTail h bmB tl:=by
 induction T with
 | base=>exact .base
 | own e hn no _ ih=>exact .own e hn (no _ hi) ih
theorem Tl.along (T:Tl h bmB ns tl) (hm:n ∈ ns) (hB:lookupAlong bmB n=pure y) (hq:Q y ⟨h,g,d,t,os⟩):wpAny M A (lookupAlong tl n) Q E ⟨h,g,d,t,os⟩:=by
 induction T with
 | base=>rw [hB];exact Qf hq
 | own e hn no _ ih=>
  rw [lookupAlong_cons]
  exact Q1 (wpAny_classOwn_cls e hn (by rw [no _ hm];exact ih))
variable {bs:List Value} {hdct:Bool} {sub:List Value} {B:String}
theorem zh9 (hC:h.get? C=some (excClassObj nm q C N bs bm hdct sn sub ab col dd k0 k1 k2 k3 k5 newId)) (hn:h.Ns N mN) (T:Tl h bmB ns bm) (hm:n ∈ ns)
 (hbm:mroOf (.type B)=pure bmB) (hB:typeLookup (.type B) n=pure y) (hq:Q ((mN n).or y) ⟨h,g,d,t,os⟩):wpAny M A (typeLookup (.ref C) n) Q E ⟨h,g,d,t,os⟩:=by
 have hr:lookupAlong bmB n=pure y:=by rw [typeLookup_eq,hbm] at hB;exact hB
 rw [typeLookup_eq]
 refine Q1 (wpAny_mroOf_exc hC ?_)
 rw [lookupAlong_cons]
 refine Q1 (wpAny_classOwn_exc hC hn ?_)
 cases hv:mN n with
 | some v=>rw [hv] at hq;exact Qf hq
 | none=>rw [hv] at hq;exact T.along hm hr hq
end
variable {w:World}
section
variable {prog:Program}
variable {name:Str} {x:Addr} {bs:List Value} {sub:List Value} {v:Value} {o:Obj}
theorem zjL {u:Value} {Q:Unit->Shared->Prop} (hC:h.get? C=some (excClassObj nm q C N bs bm true sn sub ab col dd k0 k1 k2 k3 k5 newId)) (T:Tl h zdA ns bm) (hi:("__init__":Str) ∈ ns) (hx:h.get? x=some o) (hc:o.cls = .ref C) (hq:Q () ⟨h,g,d,t,os⟩) :
  wpAny M A (checkBuiltinCall "object.__setattr__" ⟨[.ref x,u,v],[]⟩) Q E ⟨h,g,d,t,os⟩:=by
 have hb:(Value.ref C::bm).contains (.type "object")=true:=by rw [List.contains_cons,(T.tail hi).hasType PySem.F.store_ValueError.hasOwner,Bool.or_true]
 simp only [checkBuiltinCall,PySem.F.store_ValueError.kind,PySem.F.store_ValueError.split]
 refine Q1 ?_
 unfold isInstance
 repeat (first | (with_reducible refine wpAny_loadPart_at hx ?_;rw [hc]) | (with_reducible refine wpAny_isSubtype_exc hC ?_;rw [hb]) | wp_step)
 exact hq
theorem zjK {tk:Tok} {Q:Fin->Shared->Prop} (hC:h.get? C=some (excClassObj nm q C N bs bm true sn sub ab col dd k0 k1 k2 k3 k5 newId)) (hn:h.Ns N mN) (T:Tl h zdA ns bm) (m2:mN name=none) (hm:name ∈ ns)
  (hB:typeLookup (.type "ValueError") name=pure none) (hx:h.get? x=some o) (hc:o.cls = .ref C) (hnc:∀ c,o.data ≠ .cls c) (hd:o.dict=none)
  (hq:∀ h' tk' dx,h.get? dx=none->dx ≠ x->h'.get? x=some { o with dict:=some dx }->h'.Ns1 dx (fun y=>if y=name then some v else none)->(∀ b ob,b ≠ x->h.get? b=some ob->h'.get? b=some ob)->Q (.done (.ret .none)) ⟨h',g,d,tk',os⟩) :
  wpAny (model prog w) A (Builtin.«object.__setattr__» ⟨[.ref x,.str name tk,v],[]⟩) Q E ⟨h,g,d,t,os⟩:=by
 have hp:∀ l,Tl h zdA ns l->refuseLoop (.ref x) "__setattr__" l=pure ():=by
  intro l T
  induction T with
  | base=>exact PySem.F.store_ValueError.passes (.ref x)
  | own _ _ _ _ ih=>rw [refuseLoop_ref];exact ih
 have hp:=hp bm T
 unfold Builtin.«object.__setattr__»
 repeat (first | rw [refuse_eq] | (rw [refuseLoop_ref,hp]) | (with_reducible refine wpAny_loadPart_at hx ?_;rw [hc]) | with_reducible refine wpAny_mroOf_exc hC ?_ | (with_reducible refine zh9 hC hn T hm PySem.F.store_ValueError.mro hB ?_;rw [m2]) | wp_step)
 rw [hd,Qz (by simp [typeHasDict])]
 have e1:(h.push ⟨.type "dict",none,.dict #[] 0,#[]⟩).get? x=some o:=Q2 _ hx
 have ne:x ≠ h.objs.size:=Qk (Qe hx)
 have hfr:=(Heap.get?_some_iff.mp hx).2
 have key:wpAny (model prog w) A (do let d ← alloc ⟨.type "dict",none,.dict #[] 0,#[]⟩;update x fun o=>{ o with dict:=some d };dictMade (.ref C) x d) (fun a s'=>wpAny (model prog w) A (match a with | some d=>storeInDict d (Value.str name tk) name v | none=>noDictFor (Value.ref x) (Value.ref C) name (none.or none:Option Value).isSome) Q E s') E ⟨h,g,d,t,os⟩:=by
  refine Q1 (wpAny_alloc' (Q1 (wpAny_update' e1 (Qf ?_))))
  generalize hg2:(h.push ⟨.type "dict",none,.dict #[] 0,#[]⟩).update x (fun o=>{ o with dict:=some h.objs.size })=h2
  have gd:h2.get? h.objs.size=some ⟨.type "dict",none,.dict #[] 0,#[]⟩:=by
   rw [← hg2];exact (Heap.get?_update_ne _ _ _ _ ne.symm).trans (Heap.get?_push_at rfl rfl)
  have gx:h2.get? x=some { o with dict:=some h.objs.size }:=by
   rw [← hg2]
   refine Heap.get?_update_self _ e1 ?_
   obtain ⟨oc,od,odt,osl⟩:=o
   cases odt <;> first | rfl | exact hfr
  have nd:h2.Ns h.objs.size (fun _=>none):=⟨_,#[],_,gd,rfl,fun e he=>absurd he (by simp),fun _=>rfl⟩
  show wpAny _ _ (storeInDict h.objs.size (.str name tk) name v) _ _ _
  unfold storeInDict newKeyGuard
  refine Q1 (Qf (Q1 (wpAny_nsSet1 (Heap.Ns1.of_empty nd) fun h' n1 hs=>?_)))
  obtain ⟨oD,esD,epD,a1,a2,a3⟩:=n1.count (Within.cons name v Within.nil)
  refine Q1 (wpAny_lookBehind a1 (by rw [a2];exact pastItsLine_dict (Qj a3 (by rw [Qp,length_nil,sizeLine_eq];omega))) ?_)
  wp_walk
  refine hq h' _ h.objs.size (Heap.get?_none_of_le (Q3 _)) ne.symm ((hs.2 x ne).trans gx) n1 fun b ob hb e=>(hs.2 b (Qk (Qe e))).trans ?_
  rw [← hg2]
  exact (Heap.get?_update_ne _ _ _ _ hb).trans (Q2 _ e)
 cases hdt:o.data with
 | cls c=>exact absurd hdt (hnc c)
 | _=>exact key
theorem zrC {Q:Unit->Shared->Prop} (hC:h.get? C=some (excClassObj nm q C N bs bm true sn sub ab col dd k0 k1 k2 k3 k5 newId)) (hn:h.Ns N mN) (T:Tl h zdA ns bm) (hi:("__init__":Str) ∈ ns) (m1:mN "__setattr__" = none) (hs:("__setattr__":Str) ∈ ns) (m2:mN name=none) (hm:name ∈ ns)
  (hB:typeLookup (.type "ValueError") name=pure none) (hx:h.get? x=some o) (hc:o.cls = .ref C) (hnc:∀ c,o.data ≠ .cls c) (hd:o.dict=none)
  (hq:∀ h' tk' dx,h.get? dx=none->dx ≠ x->h'.get? x=some { o with dict:=some dx }->h'.Ns1 dx (fun y=>if y=name then some v else none)->(∀ b ob,b ≠ x->h.get? b=some ob->h'.get? b=some ob)->Q () ⟨h',g,d,tk',os⟩) :
  wpAny (model prog w) A (setAttr (.ref x) name v) Q E ⟨h,g,d,t,os⟩:=by
 have f3:=PySem.F.store_ValueError.slot.bind (.ref x)
 unfold setAttr callSpecial? specialOf
 repeat (any_goals (first | assumption | (with_reducible refine wpAny_loadPart_at hx ?_;rw [hc]) | (with_reducible refine zh9 hC hn T hs PySem.F.store_ValueError.mro PySem.F.store_ValueError.slot.lookup ?_;rw [m1]) | wp_step))
 refine codeAny_call_builtin PySem.F.store_ValueError.slot.plain PySem.F.store_ValueError.entry (zjL hC T hi hx hc (zjK hC hn T m2 hm hB hx hc hnc hd fun h' tk' dx a1 a2 a3 a4 a5=>?_))
 repeat (any_goals (first | assumption | wp_step))
 exact hq h' tk' dx a1 a2 a3 a4 a5
end
noncomputable abbrev zlm (C:Addr) (t:Addr) (od:Option Addr):Obj:=⟨.ref C,od,.fields #[.ref t,.none,.none,.none,.bool false,.none],#[]⟩
noncomputable def ExO (e C:Addr) (od:Option Addr):Heap->Prop:=fun h=>∃ ob,h.get? e=some ob/\ob.cls = .ref C/\ob.dict=od/\∀ c,ob.data ≠ .cls c
noncomputable def ExN (e C t:Addr) (od:Option Addr):Heap->Prop:=fun h=>h.get? e=some (zlm C t od)
variable {e:Addr} {H:Hp} {P:Program}
theorem zqo {t:Addr} {od:Option Addr} (x:ExN e C t od h):ObjOk P w H h e (.ext (ExN e C t od)):=
 ⟨x,⟨_,x⟩,fun _ _ q k=>k _ q⟩
noncomputable def zhE (H:Hp) (e:Addr):Hp:=fun b=>if b=e then none else H b
theorem zcR {b:Addr} (h:b ≠ e):zhE H e b=H b:=Qz h
theorem zkx:zhE H e e=none:=Qy rfl
variable {X:Cx} {pins:List (Addr × Obj)} {s:Shared} {σ:St}
section
theorem Inv.take {o:HO} (I:Inv X pins σ H s) (h0:X.s₀.heap.get? e=none) (hn:H e=none) (hl:e ≠ X.env.locals) (hc:∀ x c,X.env.cells.lookup x=some c->c ≠ e) (hp:∀ p ∈ X.pn++pins,p.1 ≠ e) (new:ObjOk X.prog X.w (upd H e o) s.heap e o):Inv X pins σ (upd H e o) s:=by
 have ne:∀ b ob,X.s₀.heap.get? b=some ob->b ≠ e:=fun b ob q z=>by rw [z,h0] at q;cases q
 have nh:∀ b u,H b=some u->b ≠ e:=fun b u q z=>by rw [z,hn] at q;cases q
 refine ⟨I.ok,I.os,I.bare,⟨I.base.keep,I.base.slot,fun b ob q n x=>by rw [zl (ne b ob q)];exact I.base.free b ob q n x,I.base.there,fun b xs q=>?_,fun b u xs q=>?_,fun b ps q=>?_⟩,I.loc,I.cell,by rw [zl hl.symm];exact I.free,fun x c q=>by rw [zl (hc x c q)];exact I.freeC x c q,fun p q=>?_,?_,I.len⟩
 ·have:=I.base.tups b xs q;rw [zl (nh b _ this)];exact this
 ·have:=I.base.frzs b u xs q;rw [zl (nh b _ this)];exact this
 ·obtain ⟨m,this⟩:=I.base.tbls b ps q;exact ⟨m,by rw [zl (nh b _ this)];exact this⟩
 ·obtain ⟨a,b,c⟩:=I.pin p q
  exact ⟨a,by rw [zl (hp p q)];exact b,c⟩
 ·intro b u q
  by_cases hb:b=e
  ·subst hb;rw [yE] at q;cases q;exact new
  ·rw [zl hb] at q
   exact (I.hok b u q).stay (fun _ _ _ z=>z) (fun c z=>by rw [zl (nh c _ z)];exact z) fun c xs z=>by rw [zl (nh c _ z)];exact z
theorem Inv.let {φ:Heap->Prop} (I:Inv X pins σ H s) (he:H e=some (.ext φ)):Inv X pins σ (zhE H e) s:=by
 have nh:∀ b u,H b=some u->(∀ ψ,u ≠ .ext ψ)->b ≠ e:=fun b u q n z=>by rw [z,he] at q;cases q;exact n φ rfl
 have nn:∀ b,H b=none->zhE H e b=none:=fun b q=>by
  unfold zhE
  split
  ·rfl
  ·exact q
 refine ⟨I.ok,I.os,I.bare,⟨I.base.keep,I.base.slot,fun b ob q n x=>nn b (I.base.free b ob q n x),I.base.there,fun b xs q=>?_,fun b u xs q=>?_,fun b ps q=>?_⟩,I.loc,I.cell,nn _ I.free,fun x c q=>nn _ (I.freeC x c q),fun p q=>?_,?_,I.len⟩
 ·have:=I.base.tups b xs q;rw [zcR (nh b _ this (fun _ z=>by cases z))];exact this
 ·have:=I.base.frzs b u xs q;rw [zcR (nh b _ this (fun _ z=>by cases z))];exact this
 ·obtain ⟨m,this⟩:=I.base.tbls b ps q;exact ⟨m,by rw [zcR (nh b _ this (fun _ z=>by cases z))];exact this⟩
 ·obtain ⟨a,b,c⟩:=I.pin p q
  exact ⟨a,nn _ b,c⟩
 ·intro b u q
  by_cases hb:b=e
  ·subst hb;rw [zkx] at q;cases q
  ·rw [zcR hb] at q
   exact (I.hok b u q).stay (fun _ _ _ z=>z) (fun c z=>by rw [zcR (nh c _ z (fun _ y=>by cases y))];exact z) fun c xs z=>by rw [zcR (nh c _ z (fun _ y=>by cases y))];exact z
end
noncomputable def CXX (P:Program) (w:World):CXT:=fun l H s E ev s'=>∃ (e t C:Addr) (oe:Obj) (B:Heap) (H':Hp),ev = .ref e/\Heap.FlyingW B l e (.ref C) (.ref t) s'.heap/\s'.heap.get? e=some oe/\s'.os=s.os/\AllBare s'.gens /\
 Un (frs l) [] H H' s.heap s'.heap/\HOk P w H' s'.heap/\(∀ b o,s'.heap.get? b=some o->b ∉ frs l->(H' b ≠ none\/∃ o',s.heap.get? b=some o')->B.get? b=some o)/\(∀ b ∈ frs l,H' b=none)/\E (.ref C) oe.dict H'
noncomputable abbrev xns:List Str:=["__setattr__","at","__getattribute__","__getattr__"]
structure XcAt (K:Frag) (mg:Str->Option Value) (x:Str) (C fI:Addr):Prop where
 bound:mg x=some (.ref C)
 obj:∀ h:Heap,K.In h->∃ bm N nm q bs sn sub ab col dd k0 k1 k2 k3 k5 mN,h.get? C=some (excClassObj nm q C N bs bm true sn sub ab col dd k0 k1 k2 k3 k5 "ValueError.__new__")/\h.Ns N mN/\mN "__init__" = some (.ref fI)/\(∀ n ∈ xns,mN n=none)/\Tl h zdA ("__init__" :: xns) bm
 fn:∃ oI,K.lookup fI=some oI/\oI.cls = .type "function"
theorem znU:typeLookup (.type "ValueError") "at" = pure none:=by rw [typeLookup_type,builtinLookup_eq_fast];kernel_rfl
section
variable {E:XK} {o value:Expr} {ta tv:TE} {pos pos':Pos}
theorem Inv.new0 (I:Inv X pins σ H s) (hex:X.ex=[]) (he:s.heap.get? e=none):X.s₀.heap.get? e=none/\H e=none/\e ≠ X.env.locals/\(∀ x c,X.env.cells.lookup x=some c->c ≠ e)/\∀ p ∈ X.pn++pins,p.1 ≠ e:=by
 refine ⟨?_,?_,fun z=>?_,fun x c q z=>?_,fun p q z=>?_⟩
 ·cases q:X.s₀.heap.get? e with
  | none=>rfl
  | some u=>
   obtain ⟨o',e'⟩:=I.base.there e u q (by rw [hex];simp)
   rw [he] at e';cases e'
 ·cases q:H e with
  | none=>rfl
  | some u=>
   obtain ⟨o',e'⟩:=(I.hok e u q).there
   rw [he] at e';cases e'
 ·obtain ⟨m,⟨ob,_,_,e',_⟩,_⟩:=I.loc
  rw [← z,he] at e';cases e'
 ·obtain ⟨v,ob,e',_⟩:=I.cell x c q
  rw [z,he] at e';cases e'
 ·have:=(I.pin p q).1
  rw [z,he] at this;cases this
theorem zo3 (hex:X.ex=[]) (ha:PE X o ta) (hv:PE X value tv) (hs:swapsWith value (some (.Attribute o "at" pos')) pos.line X.env=pure false:=by rfl):PS X (.Assign [.Attribute o "at" pos'] value pos)
  (fun D σ H=>tv σ H fun y H1=>ta σ H1 fun x H2=>∃ e C fI t nm,x = .ref e/\XcAt X.K X.mg nm C fI/\H2 e=some (.ext (ExN e C t none))/\∀ d,H2 d=none->d ≠ e->D.nx σ (upd (upd H2 e (.ext (ExN e C t (some d)))) d (.xd [("at",y)]))):=by
 intro pins s σ H D I h
 refine plainObj_wpAny_Assign_Attribute (thn (hv pins s σ H _ I h) fun u s1 ⟨y,H1,I1,ry,q⟩=>thn (ha pins s1 σ H1 _ I1 q) fun ov s2 ⟨x,H2,I2,rx,e,C,fI,t,nm,ex,O,ee,q2⟩=>?_) hs
 subst ex
 obtain rfl:ov=Value.ref e:=rx
 obtain ⟨bm,N,nm,q,bs,sn,sub,ab,col,dd,k0,k1,k2,k3,k5,mN,hC,hN,hi,hno,T⟩:=O.obj s2.heap I2.kIn
 obtain ⟨g0,_,_⟩:=I2.hok e _ ee
 have g0:s2.heap.get? e=some (zlm C t none):=g0
 obtain ⟨h2,ge,dr,tk,os⟩:=s2
 refine zrC hC hN T (by decide) (hno _ (by decide)) (by decide) (hno _ (by decide)) (by decide) znU g0 rfl (fun c z=>by cases z) rfl fun h' tk' dx a1 a2 a3 a4 a5=>?_
 have I3:Inv X pins σ (upd H2 e (.ext (ExN e C t (some dx)))) ⟨h',ge,dr,tk',os⟩:=I2.write (t':=tk') (by rw [ee];trivial) (.inl rfl) (fun b u nb e'=>a5 b u nb e') ⟨_,a3⟩ (zqo a3)
 obtain ⟨b1,b2,b3,b4,b5⟩:=I2.new0 hex a1
 have I4:Inv X pins σ (upd (upd H2 e (.ext (ExN e C t (some dx)))) dx (.xd [("at",y)])) ⟨h',ge,dr,tk',os⟩:=I3.take b1 (by rw [zl a2];exact b2) b3 b4 b5 ⟨_,a4,fun f=>by
  by_cases hf:f = "at"
  ·subst hf;exact ry
  ·rw [Qz hf]
   show RelO (List.lookup f [("at",y)]) none
   rw [lookup_cons]
   simp only [beq_eq_false_iff_ne.mpr hf,List.lookup_nil]
   trivial⟩
 exact ⟨σ,_,I4,q2 dx b2 a2⟩
end
theorem zjq {K:Frag} {mg:Str->Option Value} {base:Heap} {x qual:Str} {st:Stmt} {f:Addr} {fd:FuncData} {p1 p2 p3 p4:Pos} (O:XcAt K mg x C f) (F:Fun K "__init__" qual st f fd) (S:FnScope ["self","at"] ["self","at"] (zg st))
 (hb:yL st=[.Assign [.Attribute (.Name "self" p1) "at" p2] (.Name "at" p3) p4]) (l1:(zg st).names.lookup ("self":Str)=some NameKind.local) (l2:(zg st).names.lookup ("at":Str)=some NameKind.local) :
  FnOk P w K mg base CX0 1 f fd ["self","at"] (fun vs H Q E=>(∃ e t v,vs=[.ref e,v]/\H e=some (.ext (ExN e C t none))/\∀ d,H d=none->d ≠ e->Q .non (upd (upd H e (.ext (ExN e C t (some d)))) d (.xd [("at",v)])))):=by
 refine F.ok S (fun vs H Q E ⟨e,t,v,h,_⟩=>by rw [h];rfl) fun cdv A outer s H vs Q E hr ⟨e,t,v,h1,h2,h3⟩=>?_
 subst h1
 rw [hb]
 refine ⟨_,zjd (zo3 rfl (zhZ (i:=0) rfl (.inl l1)) (zhZ (i:=1) rfl (.inl l2))),?_⟩
 exact ⟨v,rfl,.ref e,rfl,e,C,f,t,x,rfl,O,h2,h3⟩
structure Sup (K:Frag) (mg:Str->Option Value) (y:Str) (C C':Addr):Prop where
 bound:mg y=some (.ref C)
 obj:∀ h:Heap,K.In h->(∃ bm N nm q bs hdct sn sub ab col dd k0 k1 k2 k3 k5,h.get? C=some (excClassObj nm q C N bs bm hdct sn sub ab col dd k0 k1 k2 k3 k5 "ValueError.__new__")/\bm.contains (.type "BaseException")=true) /\
  ∃ bm N nm q bs hdct sn sub ab col dd k0 k1 k2 k3 k5,h.get? C'=some (excClassObj nm q C' N bs bm hdct sn sub ab col dd k0 k1 k2 k3 k5 "ValueError.__new__")/\(Value.ref C'::bm).contains (.ref C)=true
def PX (X:Cx) (sts:List Stmt) (t:XK->TS):Prop:=
 ∀ (E:XK) (pins:List (Addr × Obj)) (s:Shared) (σ:St) (H:Hp) (D:Ends),Inv X pins σ H s->t E D σ H->
  wpAny (model X.prog X.w) X.A (execs sts X.env) (SP X pins D) (fun ev s'=>∃ H1 s1,Inv X pins σ H1 s1/\CXX X.prog X.w X.stack H1 s1 E ev s') s
end L2
namespace FT
open PySem PySem.Spec PyProof.Rows L2
noncomputable def noStar:Expr->Bool
 | .Starred _ _=>false
 | _=>true
variable {e:Expr} {es:List Expr}
theorem zaR {env:PySem.Env} (h:noStar e=true):starEach (e::es) env=(false,eval e env)::starEach es env:=by
 cases e <;> first | rfl | cases h
variable {pos:Pos}
theorem zcW {env:PySem.Env} :∀ {es:List Expr},es.all noStar=true->(backTo pos (starEach es env)).any (·.1)=false:=by
 intro es h
 have h1:(starEach es env).any (·.1)=false:=by
  induction es with
  | nil=>rfl
  | cons e es ih=>
   rw [all_cons,Qs] at h
   rw [zaR h.1,any_cons,ih h.2]
   rfl
 have h2:∀ l:List (Bool × Sem Value),l.any (·.1)=false->(backTo pos l).any (·.1)=false:=by
  intro l hl
  unfold backTo
  rw [List.any_map]
  exact hl
 exact h2 _ h1
inductive T where
 | non | bl (b:Bool) | int (i:Int) | str (x:Str) | ty (n:String) | tup (xs:List T) | lst (xs:List T) | ref (a:Nat) | dct (kvs:List (Key × T)) | exc (C:Addr) (fs:List (Str × T))
inductive Cell where
 | lst (xs:List T) | dic (kvs:List (Key × T)) | ins (C:Addr) (fs:List (Str × T)) | dtu (kvs:List (List Key × T))
noncomputable abbrev Mem:=List Cell
noncomputable abbrev Ev:=List (Option T)
inductive Out (β:Type) where
 | ok (b:β) (M:Mem) | exn (C:Addr) (fs:List (Str × T)) (M:Mem) | bad
noncomputable def Out.bind {β γ:Type} (o:Out β) (k:β->Mem->Out γ):Out γ:=match o with
 | .ok b M=>k b M
 | .exn C fs M=>.exn C fs M
 | .bad=>.bad
theorem zsy {β γ:Type} (b:β) (M:Mem) (k:β->Mem->Out γ):(Out.ok b M).bind k=k b M:=rfl
theorem zsk {β γ:Type} (k:β->Mem->Out γ):(Out.bad:Out β).bind k = .bad:=rfl
structure Sit where
 α:Nat->Addr
 M:Mem
 H:Hp
 hid:List Addr
def Sit.off (S:Sit) (p:Addr):Prop:=(∀ a,a<S.M.length->S.α a ≠ p)/\p ∉ S.hid
def KL (K:Frag) (a:Addr) (xs:List V):Prop:=
 ∃ (o:Obj) (its:Array Value) (n:Nat),K.lookup a=some o/\o.cls = .type "list"/\o.dict=none/\o.data = .seq its n/\its.size<=sizeLine/\Vals xs its.toList
inductive Rep (K:Frag) (S:Sit):T->V->Prop where
 | non:Rep K S .non .non
 | bl (b:Bool):Rep K S (.bl b) (.bl b)
 | int (i:Int):Rep K S (.int i) (.int i)
 | str (x:Str):Rep K S (.str x) (.str x)
 | ty (x:String):Rep K S (.ty x) (.ty x)
 | tup {ts:List T} {p:Addr} {vs:List V} (h:SqT K S.H p vs) (l:ts.length=vs.length) (r:∀ (i:Nat) t v,ts[i]? = some t->vs[i]? = some v->Rep K S t v):Rep K S (.tup ts) (.ref p)
 | lst {ts:List T} {p:Addr} {vs:List V} (h:(Rd S.H p (.lst vs)/\S.off p)\/KL K p vs) (l:ts.length=vs.length) (r:∀ (i:Nat) t v,ts[i]? = some t->vs[i]? = some v->Rep K S t v):Rep K S (.lst ts) (.ref p)
 | ref {a:Nat} (h:a<S.M.length):Rep K S (.ref a) (.ref (S.α a))
 | dct {kvs:List (Key × T)} {us:List (Key × V)} {p:Addr} {o:Obj} (h:S.H p=some (.frz o (.dK us))) (l:kvs.map (·.1)=us.map (·.1)) (r:∀ (i:Nat) t v,(kvs.map (·.2))[i]? = some t->(us.map (·.2))[i]? = some v->Rep K S t v):Rep K S (.dct kvs) (.ref p)
 | exc {C:Addr} {fs:List (Str × T)} {us:List (Str × V)} {p:Addr} {od:Option Addr} (h:S.H p=some (.ext (ExO p C od))) (hd:(od=none/\us=[])\/∃ d,od=some d/\S.H d=some (.xd us)) (l:fs.map (·.1)=us.map (·.1)) (r:∀ (i:Nat) t v,(fs.map (·.2))[i]? = some t->(us.map (·.2))[i]? = some v->Rep K S t v):Rep K S (.exc C fs) (.ref p)
def Reps (K:Frag) (S:Sit) (ts:List T) (vs:List V):Prop:=ts.length=vs.length/\∀ (i:Nat) t v,ts[i]? = some t->vs[i]? = some v->Rep K S t v
def RepF (K:Frag) (S:Sit) (fs:List (Str × T)) (us:List (Str × V)):Prop:=fs.map (·.1)=us.map (·.1)/\Reps K S (fs.map (·.2)) (us.map (·.2))
def RepK {κ:Type} (K:Frag) (S:Sit) (fs:List (κ × T)) (us:List (κ × V)):Prop:=fs.map (·.1)=us.map (·.1)/\Reps K S (fs.map (·.2)) (us.map (·.2))
noncomputable def CellOk (K:Frag) (S:Sit) (p:Addr):Cell->Prop
 | .lst ts=>∃ vs,S.H p=some (.lst vs)/\Reps K S ts vs
 | .dic kvs=>∃ us,S.H p=some (.dK us)/\RepK K S kvs us
 | .ins C fs=>∃ dx us,S.H p=some (.ins C dx us)/\RepF K S fs us
 | .dtu kvs=>∃ us,S.H p=some (.dT us)/\RepK K S kvs us
structure MemOk (K:Frag) (S:Sit):Prop where
 cell:∀ a c,S.M[a]? = some c->CellOk K S (S.α a) c
 inj:∀ a b,a<S.M.length->b<S.M.length->S.α a=S.α b->a=b
 hd:∀ p ∈ S.hid,(∀ a,a<S.M.length->S.α a ≠ p)/\∃ vs,S.H p=some (.lst vs)
structure Grow (S S':Sit):Prop where
 le:S.M.length<=S'.M.length
 al:∀ a,a<S.M.length->S'.α a=S.α a
 fr:∀ a,S.M.length<=a->a<S'.M.length->S.H (S'.α a)=none
 kp:∀ b o,S.H b=some o->S.off b->S'.H b=some o
 hk:∀ p ∈ S.hid,p ∈ S'.hid/\S'.H p=S.H p
 hf:∀ p ∈ S'.hid,p ∈ S.hid\/S.H p=none
structure Stp (K:Frag) (S S':Sit):Prop extends Grow S S' where
 mok:MemOk K S'
variable {p:Addr} {K:Frag} {ts:List T} {vs:List V} {S':Sit} {t:T} {v:V}
section
variable {S S'':Sit}
theorem MemOk.some (m:MemOk K S) {a:Nat} (h:a<S.M.length):∃ o,S.H (S.α a)=Option.some o/\Mut (Option.some o):=by
 have e:S.M[a]? = Option.some S.M[a]:=by simp [h]
 have c:=m.cell a _ e
 cases q:S.M[a] with
 | lst ts=>rw [q] at c;obtain ⟨vs,e,_⟩:=c;exact ⟨_,e,trivial⟩
 | dic ts=>rw [q] at c;obtain ⟨vs,e,_⟩:=c;exact ⟨_,e,trivial⟩
 | ins C fs=>rw [q] at c;obtain ⟨dx,vs,e,_⟩:=c;exact ⟨_,e,trivial⟩
 | dtu ts=>rw [q] at c;obtain ⟨vs,e,_⟩:=c;exact ⟨_,e,trivial⟩
theorem MemOk.off_of (m:MemOk K S) {o:Option HO} (e:S.H p=o) (h:¬ Mut o):S.off p:=by
 refine ⟨fun a ha z=>?_,fun z=>?_⟩
 ·obtain ⟨o',e',mu⟩:=m.some ha
  rw [z,e] at e'
  rw [e'] at h
  exact h mu
 ·obtain ⟨_,vs,q⟩:=m.hd p z
  rw [e] at q
  rw [q] at h
  exact h trivial
theorem MemOk.off_ext (m:MemOk K S) {φ:Heap->Prop} (e:S.H p=Option.some (.ext φ)):S.off p:=by
 refine ⟨fun a ha z=>?_,fun z=>?_⟩
 ·have ea:S.M[a]? = Option.some S.M[a]:=by simp [ha]
  have c:=m.cell a _ ea
  cases q:S.M[a] with
  | lst ts=>rw [q] at c;obtain ⟨vs,e',_⟩:=c;rw [z,e] at e';cases e'
  | dic ts=>rw [q] at c;obtain ⟨vs,e',_⟩:=c;rw [z,e] at e';cases e'
  | ins C fs=>rw [q] at c;obtain ⟨dx,vs,e',_⟩:=c;rw [z,e] at e';cases e'
  | dtu ts=>rw [q] at c;obtain ⟨vs,e',_⟩:=c;rw [z,e] at e';cases e'
 ·obtain ⟨_,vs,q⟩:=m.hd p z
  rw [e] at q;cases q
theorem MemOk.off_none (m:MemOk K S) (e:S.H p=none):S.off p:=m.off_of e (fun z=>z)
theorem Grow.tup (g:Grow S S') (m:MemOk K S) (h:SqT K S.H p vs):SqT K S'.H p vs:=by
 rcases h with (h | ⟨o,h⟩) | h
 ·exact .inl (.inl (g.kp _ _ h (m.off_of h (fun z=>z))))
 ·exact .inl (.inr ⟨o,g.kp _ _ h (m.off_of h (fun z=>z))⟩)
 ·exact .inr h
theorem Grow.off (g:Grow S S') {o:HO} (h:S.H p=some o) (f:S.off p):S'.off p:=by
 refine ⟨fun a ha z=>?_,fun z=>?_⟩
 ·by_cases hl:a<S.M.length
  ·rw [g.al a hl] at z;exact f.1 a hl z
  ·have:=g.fr a (Nat.le_of_not_lt hl) ha
   rw [z,h] at this
   cases this
 ·rcases g.hf p z with q | q
  ·exact f.2 q
  ·rw [h] at q;cases q
theorem Grow.rd (g:Grow S S') {u:HO} (h:Rd S.H p u) (f:S.off p):Rd S'.H p u/\S'.off p:=by
 rcases h with h | ⟨o,h⟩
 ·exact ⟨.inl (g.kp _ _ h f),g.off h f⟩
 ·exact ⟨.inr ⟨o,g.kp _ _ h f⟩,g.off h f⟩
theorem Rep.grow (m:MemOk K S) (g:Grow S S') (r:Rep K S t v):Rep K S' t v:=by
 induction r with
 | non=>exact .non
 | bl b=>exact .bl b
 | int b=>exact .int b
 | str b=>exact .str b
 | ty b=>exact .ty b
 | tup h l _ ih=>exact .tup (g.tup m h) l ih
 | lst h l _ ih=>
  refine .lst ?_ l ih
  rcases h with ⟨h,f⟩ | h
  ·exact .inl (g.rd h f)
  ·exact .inr h
 | ref h=>rw [← g.al _ h];exact .ref (Q5 h g.le)
 | dct h l _ ih=>exact .dct (g.kp _ _ h (m.off_of h (fun z=>z))) l ih
 | exc h hd l _ ih=>exact .exc (g.kp _ _ h (m.off_ext h)) (hd.imp (fun z=>z) fun ⟨d,a,b⟩=>⟨d,a,g.kp _ _ b (m.off_of b (fun z=>z))⟩) l ih
theorem Reps.grow (m:MemOk K S) (g:Grow S S') (r:Reps K S ts vs):Reps K S' ts vs:=⟨r.1,fun i t v e1 e2=>(r.2 i t v e1 e2).grow m g⟩
theorem RepF.grow (m:MemOk K S) (g:Grow S S') {ts:List (Str × T)} {vs:List (Str × V)} (r:RepF K S ts vs):RepF K S' ts vs:=⟨r.1,r.2.grow m g⟩
theorem RepK.grow {κ:Type} (m:MemOk K S) (g:Grow S S') {ts:List (κ × T)} {vs:List (κ × V)} (r:RepK K S ts vs):RepK K S' ts vs:=⟨r.1,r.2.grow m g⟩
theorem Reps.nil:Reps K S [] []:=⟨rfl,fun _ _ _ e _=>by simp at e⟩
theorem Reps.cons (r:Rep K S t v) (rs:Reps K S ts vs):Reps K S (t::ts) (v::vs):=by
 refine ⟨by simp [rs.1],fun i a b e1 e2=>?_⟩
 cases i with
 | zero=>simp at e1 e2;subst e1;subst e2;exact r
 | succ i=>exact rs.2 i a b (by simpa using e1) (by simpa using e2)
theorem Reps.nil_inv (r:Reps K S ts []):ts=[]:=List.length_eq_zero_iff.mp (by rw [r.1];rfl)
theorem Reps.consT (r:Reps K S (t::ts) vs):∃ v vs',vs=v::vs'/\Rep K S t v/\Reps K S ts vs':=by
 cases vs with
 | nil=>have:=r.1;simp at this
 | cons v vs'=>exact ⟨v,vs',rfl,r.2 0 t v rfl rfl,by have:=r.1;simpa using this,fun i a b e1 e2=>r.2 (i+1) a b (by simpa using e1) (by simpa using e2)⟩
theorem Reps.nilT (r:Reps K S [] vs):vs=[]:=List.length_eq_zero_iff.mp (by rw [← r.1];rfl)
theorem Reps.app {ts':List T} {vs':List V} (r:Reps K S ts vs) (r':Reps K S ts' vs'):Reps K S (ts++ts') (vs++vs'):=by
 induction ts generalizing vs with
 | nil=>rw [r.nilT];exact r'
 | cons t ts ih=>
  obtain ⟨v,vs1,rfl,r1,r2⟩:=r.consT
  exact (ih r2).cons r1
theorem Reps.get (r:Reps K S ts vs) {i:Nat} (e:ts[i]? = some t):∃ v,vs[i]? = some v/\Rep K S t v:=by
 have hi:i<vs.length:=by rw [← r.1];exact (Qx.mp e).1
 have e2:vs[i]? = some vs[i]:=by simp [hi]
 exact ⟨_,e2,r.2 i t _ e e2⟩
theorem Reps.set (r:Reps K S ts vs) (q:Rep K S t v) (j:Nat):Reps K S (ts.set j t) (vs.set j v):=by
 refine ⟨by simp [r.1],fun i a b e1 e2=>?_⟩
 rw [Qc] at e1 e2
 by_cases h:j=i
 ·subst h
  by_cases hl:j<ts.length
  ·rw [Qy rfl,Qy hl] at e1
   rw [Qy rfl,Qy (by rw [← r.1];exact hl)] at e2
   cases e1;cases e2;exact q
  ·rw [Qy rfl,Qz hl] at e1;cases e1
 ·rw [Qz h] at e1 e2
  exact r.2 i a b e1 e2
theorem Reps.sub (r:Reps K S ts vs) (a b:Nat):Reps K S ((ts.drop a).take b) ((vs.drop a).take b):=by
 refine ⟨by simp [r.1],fun i x y e1 e2=>?_⟩
 rw [List.getElem?_take] at e1 e2
 split at e1
 ·rename_i h
  rw [Qy h] at e2
  rw [List.getElem?_drop] at e1 e2
  exact r.2 _ x y e1 e2
 ·cases e1
theorem CellOk.grow (m:MemOk K S) (g:Grow S S') {c:Cell} (e:S'.H p=S.H p) (h:CellOk K S p c):CellOk K S' p c:=by
 cases c with
 | lst ts=>obtain ⟨vs,q,r⟩:=h;exact ⟨vs,by rw [e];exact q,r.grow m g⟩
 | dic ts=>obtain ⟨vs,q,r⟩:=h;exact ⟨vs,by rw [e];exact q,r.grow m g⟩
 | ins C ts=>obtain ⟨dx,vs,q,r⟩:=h;exact ⟨dx,vs,by rw [e];exact q,r.grow m g⟩
 | dtu ts=>obtain ⟨vs,q,r⟩:=h;exact ⟨vs,by rw [e];exact q,r.grow m g⟩
theorem Stp.refl (m:MemOk K S):Stp K S S:=⟨⟨Q3 _,fun _ _=>rfl,fun a h1 h2=>absurd (Q5 h2 h1) (Qo _),fun _ _ e _=>e,fun _ h=>⟨h,rfl⟩,fun _ h=>.inl h⟩,m⟩
theorem Stp.trans (a:Stp K S S') (b:Stp K S' S''):Stp K S S'':=by
 have nn:∀ p,S'.H p=none->S.H p=none:=fun p hn=>by
  cases q:S.H p with
  | none=>rfl
  | some o=>
   by_cases f:S.off p
   ·rw [a.kp _ _ q f] at hn;cases hn
   ·exfalso
    apply f
    refine ⟨fun c hc z=>?_,fun z=>?_⟩
    ·have h3:c<S'.M.length:=Q5 hc a.le
     obtain ⟨o',e',_⟩:=a.mok.some h3
     rw [a.al c hc,z,hn] at e'
     cases e'
    ·rw [(a.hk p z).2,q] at hn;cases hn
 refine ⟨⟨Qj a.le b.le,fun i hi=>(b.al i (Q5 hi a.le)).trans (a.al i hi),fun i h1 h2=>?_,fun p o e f=>b.kp _ _ (a.kp _ _ e f) (a.off e f),fun p h=>⟨(b.hk p (a.hk p h).1).1,(b.hk p (a.hk p h).1).2.trans (a.hk p h).2⟩,fun p h=>?_⟩,b.mok⟩
 ·by_cases hl:i<S'.M.length
  ·rw [b.al i hl];exact a.fr i h1 hl
  ·exact nn _ (b.fr i (Nat.le_of_not_lt hl) h2)
 ·rcases b.hf p h with q | q
  ·exact a.hf p q
  ·exact .inr (nn p q)
theorem Stp.new (m:MemOk K S) (hp:S.H p=none) (o:HO):Stp K S ⟨S.α,S.M,upd S.H p o,S.hid⟩:=by
 have g:Grow S ⟨S.α,S.M,upd S.H p o,S.hid⟩:=⟨Q3 _,fun _ _=>rfl,fun a h1 h2=>absurd (Q5 h2 h1) (Qo _),fun b u e _=>by show upd S.H p o b=_;rw [zl (yG e hp)];exact e,fun q h=>⟨h,by obtain ⟨_,vs,e⟩:=m.hd q h;exact zl (yG e hp)⟩,fun q h=>.inl h⟩
 refine ⟨g,⟨fun a c e=>?_,m.inj,fun q h=>?_⟩⟩
 rotate_left
 ·obtain ⟨h1,vs,e⟩:=m.hd q h
  exact ⟨h1,vs,(zl (yG e hp)).trans e⟩
 refine (m.cell a c e).grow m g ?_
 have ha:a<S.M.length:=(Qx.mp e).1
 exact zl ((m.off_none hp).1 a ha)
noncomputable def Sit.more (S:Sit) (p:Addr) (o:HO) (c:Cell):Sit:=⟨fun a=>if a=S.M.length then p else S.α a,S.M++[c],upd S.H p o,S.hid⟩
theorem Grow.more (m:MemOk K S) (hp:S.H p=none) (o:HO) (c:Cell):Grow S (S.more p o c):=by
 refine ⟨by show _<=(S.M++[c]).length;simp,fun a h=>Qz (Qk h),fun a h1 h2=>?_,fun b u e _=>?_,fun q h=>⟨h,by obtain ⟨_,vs,e⟩:=m.hd q h;exact zl (yG e hp)⟩,fun q h=>.inl h⟩
 ·have h3:a<(S.M++[c]).length:=h2
  have:a=S.M.length:=by simp at h3;omega
  show S.H (if a=S.M.length then p else S.α a)=none
  rw [Qy this];exact hp
 ·show upd S.H p o b=_;rw [zl (yG e hp)];exact e
theorem Stp.more (m:MemOk K S) (hp:S.H p=none) (o:HO) (c:Cell) (hc:CellOk K (S.more p o c) p c):Stp K S (S.more p o c):=by
 have g:=Grow.more m hp o c
 refine ⟨g,⟨fun a d e=>?_,fun a b h1 h2 e=>?_,fun q h=>?_⟩⟩
 rotate_right
 ·obtain ⟨h1,vs,e⟩:=m.hd q h
  refine ⟨fun a ha z=>?_,vs,(zl (yG e hp)).trans e⟩
  have z':(if a=S.M.length then p else S.α a)=q:=z
  by_cases hl:a=S.M.length
  ·rw [Qy hl] at z';rw [← z',hp] at e;cases e
  ·rw [Qz hl] at z'
   have h3:a<(S.M++[c]).length:=ha
   exact h1 a (by simp at h3;omega) z'
 ·have e':(S.M++[c])[a]? = some d:=e
  by_cases ha:a<S.M.length
  ·rw [Q6 ha] at e'
   show CellOk K _ (if a=S.M.length then p else S.α a) d
   rw [Qz (Qk ha)]
   exact (m.cell a d e').grow m g (zl ((m.off_none hp).1 a ha))
  ·rw [Q8 (Nat.le_of_not_lt ha)] at e'
   have h3:a-S.M.length=0:=by
    cases q:a-S.M.length with
    | zero=>rfl
    | succ k=>rw [q] at e';simp at e'
   rw [h3] at e'
   cases e'
   show CellOk K _ (if a=S.M.length then p else S.α a) c
   rw [Qy (by omega)]
   exact hc
 ·have h1':a<(S.M++[c]).length:=h1
  have h2':b<(S.M++[c]).length:=h2
  have e':(if a=S.M.length then p else S.α a)=(if b=S.M.length then p else S.α b):=e
  simp at h1' h2'
  by_cases ha:a=S.M.length
  ·by_cases hb:b=S.M.length
   ·omega
   ·rw [Qy ha,Qz hb] at e'
    exact absurd e'.symm ((m.off_none hp).1 b (by omega))
  ·by_cases hb:b=S.M.length
   ·rw [Qz ha,Qy hb] at e'
    exact absurd e' ((m.off_none hp).1 a (by omega))
   ·rw [Qz ha,Qz hb] at e'
    exact m.inj a b (by omega) (by omega) e'
noncomputable def Sit.put (S:Sit) (a:Nat) (o:HO) (c:Cell):Sit:=⟨S.α,S.M.set a c,upd S.H (S.α a) o,S.hid⟩
theorem Grow.put (m:MemOk K S) {a:Nat} (ha:a<S.M.length) (o:HO) (c:Cell):Grow S (S.put a o c):=by
 refine ⟨by show _<=(S.M.set a c).length;simp,fun _ _=>rfl,fun b h1 h2=>?_,fun b u e f=>?_,fun q h=>⟨h,zl (Ne.symm ((m.hd q h).1 a ha))⟩,fun q h=>.inl h⟩
 ·have h3:b<(S.M.set a c).length:=h2
  simp at h3
  exact absurd (Q5 h3 h1) (Qo _)
 ·show upd S.H (S.α a) o b=_
  rw [zl (Ne.symm (f.1 a ha))];exact e
theorem Stp.put (m:MemOk K S) {a:Nat} (ha:a<S.M.length) (o:HO) (c:Cell) (hc:CellOk K (S.put a o c) (S.α a) c):Stp K S (S.put a o c):=by
 have g:=Grow.put m ha o c
 refine ⟨g,⟨fun b d e=>?_,fun i j h1 h2 e=>?_,fun q h=>?_⟩⟩
 rotate_right
 ·obtain ⟨h1,vs,e⟩:=m.hd q h
  refine ⟨fun b hb z=>?_,vs,(zl (Ne.symm (h1 a ha))).trans e⟩
  have h3:b<(S.M.set a c).length:=hb
  simp at h3
  exact h1 b h3 z
 ·have e':(S.M.set a c)[b]? = some d:=e
  rw [Qc] at e'
  by_cases h:a=b
  ·subst h
   rw [Qy rfl,Qy ha] at e'
   cases e'
   exact hc
  ·rw [Qz h] at e'
   refine (m.cell b d e').grow m g (zl fun z=>h ?_)
   exact (m.inj b a (Qx.mp e').1 ha z).symm
 ·have h1':i<(S.M.set a c).length:=h1
  have h2':j<(S.M.set a c).length:=h2
  simp at h1' h2'
  exact m.inj i j h1' h2' e
end
def EvR (K:Frag) (S:Sit) (στ:Ev) (σ:L2.St):Prop:=στ.length=σ.length/\∀ (i:Nat) t,στ[i]? = some (some t)->∃ v,σ[i]? = some (some v)/\Rep K S t v
class Mo (K:Frag) {β γ:Type} (R:Sit->β->γ->Prop):Prop where
 mo:∀ {S S' b c},MemOk K S->Stp K S S'->R S b c->R S' b c
noncomputable def UnR:Sit->Unit->Unit->Prop:=fun _ _ _=>True
noncomputable def EqR {β:Type}:Sit->β->β->Prop:=fun _ b c=>b=c
noncomputable def PrR {A AV B BV:Type} (RA:Sit->A->AV->Prop) (RB:Sit->B->BV->Prop):Sit->A × B->AV × BV->Prop:=fun S a v=>RA S a.1 v.1/\RB S a.2 v.2
instance (K):Mo K (Rep K):=⟨fun m s r=>r.grow m s.toGrow⟩
instance (K):Mo K (Reps K):=⟨fun m s r=>r.grow m s.toGrow⟩
instance (K):Mo K (EvR K):=⟨fun m s r=>⟨r.1,fun i t e=>let ⟨v,e',q⟩:=r.2 i t e;⟨v,e',q.grow m s.toGrow⟩⟩⟩
instance (K):Mo K UnR:=⟨fun _ _ r=>r⟩
instance (K) {β:Type}:Mo K (EqR (β:=β)):=⟨fun _ _ r=>r⟩
instance (K) {A AV B BV:Type} (RA:Sit->A->AV->Prop) (RB:Sit->B->BV->Prop) [Mo K RA] [Mo K RB]:Mo K (PrR RA RB):=⟨fun m s r=>⟨Mo.mo m s r.1,Mo.mo m s r.2⟩⟩
def zqB (K:Frag) (S:Sit) (fs:List (Str × T)) (od:Option Addr):Prop:=(fs=[]/\od=none)\/∃ d us,od=some d/\S.H d=some (.xd us)/\RepF K S fs us
def Fin {β γ:Type} (XE:XK) (R:Sit->β->γ->Prop) (K:Frag) (S:Sit) (o:Out β) (Q:γ->Hp->Prop):Prop:=match o with
 | .ok b M'=>∀ S' c,S'.M=M'->Stp K S S'->R S' b c->Q c S'.H
 | .exn C fs M'=>∀ S' od,S'.M=M'->Stp K S S'->zqB K S' fs od->XE (.ref C) od S'.H
 | .bad=>False
variable {S1:Sit} {XE:XK}
theorem Fin.later {β γ:Type} {R:Sit->β->γ->Prop} {S:Sit} {o:Out β} {Q:γ->Hp->Prop} (s:Stp K S S1) (h:Fin XE R K S o Q):Fin XE R K S1 o Q:=by
 cases o with
 | ok b M'=>exact fun S' c e s' r=>h S' c e (s.trans s') r
 | exn C fs M'=>exact fun S' c e s' r=>h S' c e (s.trans s') r
 | bad=>exact h
theorem Fin.mono {β γ:Type} {R:Sit->β->γ->Prop} {S:Sit} {o:Out β} {Q Q':γ->Hp->Prop} (i:∀ c H,Q c H->Q' c H) (h:Fin XE R K S o Q):Fin XE R K S o Q':=by
 cases o with
 | ok b M'=>exact fun S' c e s' r=>i _ _ (h S' c e s' r)
 | exn C fs M'=>exact h
 | bad=>exact h
def LN {A AV β γ:Type} (XE:XK) (R:Sit->β->γ->Prop) (K:Frag) (RA:Sit->A->AV->Prop) (k:A->Ev->Mem->Out β) (av:AV) (σ:L2.St) (H:Hp) (Q:γ->Hp->Prop):Prop:=
 ∃ (S:Sit) (στ:Ev) (a:A),S.H=H/\MemOk K S/\EvR K S στ σ/\RA S a av/\Fin XE R K S (k a στ S.M) Q
def L0 {A AV β γ:Type} (XE:XK) (R:Sit->β->γ->Prop) (K:Frag) (RA:Sit->A->AV->Prop) (k:A->Mem->Out β) (av:AV) (H:Hp) (Q:γ->Hp->Prop):Prop:=
 ∃ (S:Sit) (a:A),S.H=H/\MemOk K S/\RA S a av/\Fin XE R K S (k a S.M) Q
variable {H:Hp} {σ:L2.St}
section
theorem LN.bind {A AV B BV β γ:Type} {R:Sit->β->γ->Prop} {RA:Sit->A->AV->Prop} {RB:Sit->B->BV->Prop} [Mo K RA] {f:A->Ev->Mem->Out B} {k:A->B->Ev->Mem->Out β} {av:AV} {Q:γ->Hp->Prop}
 (h:LN XE R K RA (fun a σ M=>(f a σ M).bind fun b M1=>k a b σ M1) av σ H Q) :
  LN XE RB K RA f av σ H (fun bv H1=>LN XE R K (PrR RA RB) (fun ab=>k ab.1 ab.2) (av,bv) σ H1 Q):=by
 obtain ⟨S,στ,a,e,m,ev,ra,fin⟩:=h
 refine ⟨S,στ,a,e,m,ev,ra,?_⟩
 replace fin:Fin XE R K S ((f a στ S.M).bind fun b M1=>k a b στ M1) Q:=fin
 cases q:f a στ S.M with
 | bad=>rw [q] at fin;exact fin
 | exn C fs M'=>rw [q] at fin;exact fin
 | ok b M1=>
  rw [q] at fin
  intro S1 c e1 s1 r1
  refine ⟨S1,στ,(a,b),rfl,s1.mok,Mo.mo m s1 ev,⟨Mo.mo m s1 ra,r1⟩,?_⟩
  rw [e1]
  exact fin.later s1
theorem LN.l0 {A AV β γ:Type} {R:Sit->β->γ->Prop} {RA:Sit->A->AV->Prop} {k:A->Mem->Out β} {av:AV} {Q:γ->Hp->Prop} (h:LN XE R K RA (fun a _ M=>k a M) av σ H Q):L0 XE R K RA k av H Q:=by
 obtain ⟨S,στ,a,e,m,ev,ra,fin⟩:=h
 exact ⟨S,a,e,m,ra,fin⟩
theorem LN.mono {A AV β γ:Type} {R:Sit->β->γ->Prop} {RA:Sit->A->AV->Prop} {k:A->Ev->Mem->Out β} {av:AV} {Q Q':γ->Hp->Prop} (h:LN XE R K RA k av σ H Q) (i:∀ c H,Q c H->Q' c H):LN XE R K RA k av σ H Q':=by
 obtain ⟨S,στ,a,e,m,ev,ra,fin⟩:=h
 exact ⟨S,στ,a,e,m,ev,ra,fin.mono i⟩
theorem LN.env {A AV β γ:Type} {R:Sit->β->γ->Prop} {RA:Sit->A->AV->Prop} {f:Ev->Mem->Out β} {av:AV} {Q:γ->Hp->Prop} (h:LN XE R K RA (fun _ σ M=>f σ M) av σ H Q):LN XE R K UnR (fun _ σ M=>f σ M) () σ H Q:=by
 obtain ⟨S,στ,a,e,m,ev,ra,fin⟩:=h
 exact ⟨S,στ,(),e,m,ev,trivial,fin⟩
end
noncomputable def lE (XE:XK) (K:Frag) (f:Ev->Mem->Out T):TE:=fun σ H Q=>LN XE (Rep K) K UnR (fun _ σ M=>f σ M) () σ H Q
noncomputable def lT (XE:XK) (K:Frag) (f:Ev->Mem->Out Bool):TT:=fun σ H Q=>LN XE EqR K UnR (fun _ σ M=>f σ M) () σ H Q
noncomputable def lA (XE:XK) (K:Frag) (f:Ev->Mem->Out (List T)):TA:=fun σ H Q=>LN XE (Reps K) K UnR (fun _ σ M=>f σ M) () σ H Q
def GE (X:Cx) (XE:XK) (e:Expr) (f:Ev->Mem->Out T):Prop:=PE X e (lE XE X.K f)
def GT (X:Cx) (XE:XK) (e:Expr) (f:Ev->Mem->Out Bool):Prop:=PT X e (lT XE X.K f)
def GW (X:Cx) (XE:XK) (e:Expr) (f:Ev->Mem->Out Bool):Prop:=PW X e (lT XE X.K f)
def GA (X:Cx) (XE:XK) (es:List Expr) (f:Ev->Mem->Out (List T)):Prop:=PA X es (lA XE X.K f)
variable {X:Cx}
theorem PE.imp {t t':TE} (h:PE X e t) (i:∀ σ H Q,t' σ H Q->t σ H Q):PE X e t':=fun pins s σ H Q I q=>h pins s σ H Q I (i σ H Q q)
variable {t':TT}
theorem PT.imp {t:TT} (h:PT X e t) (i:∀ σ H Q,t' σ H Q->t σ H Q):PT X e t':=fun pins s σ H Q I q=>h pins s σ H Q I (i σ H Q q)
theorem PW.imp {t:TT} (h:PW X e t) (i:∀ σ H Q,t' σ H Q->t σ H Q):PW X e t':=fun whole pins s σ H Q I q=>h whole pins s σ H Q I (i σ H Q q)
theorem PA.imp {e:List Expr} {t t':TA} (h:PA X e t) (i:∀ σ H Q,t' σ H Q->t σ H Q):PA X e t':=fun pos pins s σ H Q I q=>h pos pins s σ H Q I (i σ H Q q)
theorem PS.imp {e:Stmt} {t t':TS} (h:PS X e t) (i:∀ D σ H,t' D σ H->t D σ H):PS X e t':=fun pins s σ H D I q=>h pins s σ H D I (i D σ H q)
theorem PSs.imp {e:List Stmt} {t t':TS} (h:PSs X e t) (i:∀ D σ H,t' D σ H->t D σ H):PSs X e t':=fun pins s σ H D I q=>h pins s σ H D I (i D σ H q)
noncomputable def yb (i:Nat):Ev->Mem->Out T:=fun σ M=>match σ[i]? with
 | some (some t)=>.ok t M
 | _=>.bad
noncomputable def eC (t:T):Ev->Mem->Out T:=fun _ M=>.ok t M
noncomputable def eOp (o:T->T->Mem->Out T) (f g:Ev->Mem->Out T):Ev->Mem->Out T:=fun σ M=>(f σ M).bind fun x M1=>(g σ M1).bind fun y M2=>o x y M2
noncomputable def eUn (o:T->Mem->Out T) (f:Ev->Mem->Out T):Ev->Mem->Out T:=fun σ M=>(f σ M).bind fun x M1=>o x M1
noncomputable def blT {β:Type} (t:T) (M:Mem) (k:Bool->Mem->Out β):Out β:=match t with
 | .bl b=>k b M
 | _=>.bad
noncomputable def zq (f:Ev->Mem->Out T):Ev->Mem->Out Bool:=fun σ M=>(f σ M).bind fun x M1=>blT x M1 fun b M2=>.ok b M2
noncomputable def zaw (f g:Ev->Mem->Out Bool):Ev->Mem->Out Bool:=fun σ M=>(f σ M).bind fun c M1=>if c=true then g σ M1 else .ok false M1
noncomputable def zca (f g:Ev->Mem->Out Bool):Ev->Mem->Out Bool:=fun σ M=>(f σ M).bind fun c M1=>if c=true then .ok true M1 else g σ M1
noncomputable def zbP (f:Ev->Mem->Out Bool):Ev->Mem->Out Bool:=fun σ M=>(f σ M).bind fun c M1=>.ok (!c) M1
noncomputable def ziw (f g:Ev->Mem->Out T):Ev->Mem->Out T:=fun σ M=>(f σ M).bind fun x M1=>blT x M1 fun b M2=>if b=true then g σ M2 else .ok (.bl false) M2
noncomputable def eOr (f g:Ev->Mem->Out T):Ev->Mem->Out T:=fun σ M=>(f σ M).bind fun x M1=>blT x M1 fun b M2=>if b=true then .ok (.bl true) M2 else g σ M2
noncomputable def zkf (f:Ev->Mem->Out T):Ev->Mem->Out T:=fun σ M=>(f σ M).bind fun x M1=>blT x M1 fun b M2=>.ok (.bl (!b)) M2
noncomputable def eIf (c:Ev->Mem->Out Bool) (f g:Ev->Mem->Out T):Ev->Mem->Out T:=fun σ M=>(c σ M).bind fun b M1=>if b=true then f σ M1 else g σ M1
noncomputable def ze:Ev->Mem->Out (List T):=fun _ M=>.ok [] M
noncomputable def zb (f:Ev->Mem->Out T) (g:Ev->Mem->Out (List T)):Ev->Mem->Out (List T):=fun σ M=>(f σ M).bind fun x M1=>(g σ M1).bind fun xs M2=>.ok (x::xs) M2
noncomputable def yF (g:Ev->Mem->Out (List T)):Ev->Mem->Out T:=fun σ M=>(g σ M).bind fun xs M1=>if xs.length<=sizeLine then .ok (.tup xs) M1 else .bad
noncomputable def yx (g:Ev->Mem->Out (List T)):Ev->Mem->Out (List T):=fun σ M=>(g σ M).bind fun xs M1=>if xs.length<=sizeLine then .ok xs M1 else .bad
noncomputable def eFz (g:Ev->Mem->Out (List T)):Ev->Mem->Out T:=fun σ M=>(g σ M).bind fun xs M1=>.ok (.lst xs) M1
noncomputable def eTk (g:Ev->Mem->Out (List T)):Ev->Mem->Out T:=fun σ M=>(g σ M).bind fun xs M1=>.ok (.ref M1.length) (M1++[.lst xs])
noncomputable def yf (f:List T->Mem->Out T) (g:Ev->Mem->Out (List T)):Ev->Mem->Out T:=fun σ M=>(g σ M).bind fun ts M1=>f ts M1
noncomputable def zf6 (o o':T->T->Mem->Out T) (f g h:Ev->Mem->Out T):Ev->Mem->Out T:=fun σ M=>(f σ M).bind fun x M1=>(g σ M1).bind fun y M2=>(o x y M2).bind fun z M3=>blT z M3 fun b M4=>if b=true then (h σ M4).bind fun w M5=>o' y w M5 else .ok (.bl false) M4
noncomputable def lR2 (XE:XK) (K:Frag) (o:T->T->Mem->Out T):R2:=fun x y H Q=>L0 XE (Rep K) K (PrR (Rep K) (Rep K)) (fun a M=>o a.1 a.2 M) (x,y) H Q
noncomputable def lR1 (XE:XK) (K:Frag) (o:T->Mem->Out T):V->Hp->VK->Prop:=fun x H Q=>L0 XE (Rep K) K (Rep K) o x H Q
noncomputable def lRN (XE:XK) (K:Frag) (o:List T->Mem->Out T):List V->Hp->VK->Prop:=fun xs H Q=>L0 XE (Rep K) K (Reps K) o xs H Q
def FinL (XE:XK) (K:Frag) (S:Sit) (o:Out (List T)) (Q:VK):Prop:=match o with
 | .ok xs M'=>∀ S' p vs,S'.M=M'->Stp K S S'->S.H p=none->p ∈ S'.hid->S'.H p=some (.lst vs)->Reps K S' xs vs->Q (.ref p) S'.H
 | .exn C fs M'=>∀ S' od,S'.M=M'->Stp K S S'->zqB K S' fs od->XE (.ref C) od S'.H
 | .bad=>False
variable {Q:VK}
theorem FinL.later {S:Sit} {o:Out (List T)} (s:Stp K S S1) (h:FinL XE K S o Q):FinL XE K S1 o Q:=by
 have nn:∀ p,S1.H p=none->S.H p=none:=fun p hn=>by
  cases q:S.H p with
  | none=>rfl
  | some o=>
   by_cases f:S.off p
   ·rw [s.kp _ _ q f] at hn;cases hn
   ·exfalso
    apply f
    refine ⟨fun c hc z=>?_,fun z=>?_⟩
    ·have h3:c<S1.M.length:=Q5 hc s.le
     obtain ⟨o',e',_⟩:=s.mok.some h3
     rw [s.al c hc,z,hn] at e'
     cases e'
    ·rw [(s.hk p z).2,q] at hn;cases hn
 cases o with
 | ok b M'=>exact fun S' p vs e s' f=>h S' p vs e (s.trans s') (nn p f)
 | exn C fs M'=>exact fun S' c e s' r=>h S' c e (s.trans s') r
 | bad=>exact h
noncomputable def lL (XE:XK) (K:Frag) (f:Ev->Mem->Out (List T)):TE:=fun σ H Q=>∃ (S:Sit) (στ:Ev),S.H=H/\MemOk K S/\EvR K S στ σ/\FinL XE K S (f στ S.M) Q
def GL (X:Cx) (XE:XK) (e:Expr) (f:Ev->Mem->Out (List T)):Prop:=PE X e (lL XE X.K f)
variable {q:Addr} {h hh:List Addr} {xs:List T}
section
variable {S:Sit}
noncomputable def Sit.show (S':Sit) (h:List Addr):Sit:=⟨S'.α,S'.M,S'.H,h⟩
theorem Rep.show (sub:∀ p ∈ h,p ∈ S'.hid) (r:Rep K S' t v):Rep K (S'.show h) t v:=by
 induction r with
 | non=>exact .non
 | bl b=>exact .bl b
 | int b=>exact .int b
 | str b=>exact .str b
 | ty b=>exact .ty b
 | tup h l _ ih=>exact .tup h l ih
 | lst h l _ ih=>
  refine .lst ?_ l ih
  rcases h with ⟨h,f⟩ | h
  ·exact .inl ⟨h,f.1,fun z=>f.2 (sub _ z)⟩
  ·exact .inr h
 | ref h=>exact .ref (S:=S'.show _) h
 | dct h l _ ih=>exact .dct h l ih
 | exc h hd l _ ih=>exact .exc h hd l ih
theorem Reps.show (sub:∀ p ∈ h,p ∈ S'.hid) (r:Reps K S' ts vs):Reps K (S'.show h) ts vs:=⟨r.1,fun i t v e1 e2=>(r.2 i t v e1 e2).show sub⟩
theorem CellOk.show (sub:∀ p ∈ h,p ∈ S'.hid) {c:Cell} (q:CellOk K S' p c):CellOk K (S'.show h) p c:=by
 cases c with
 | lst ts=>obtain ⟨vs,q,r⟩:=q;exact ⟨vs,q,r.show sub⟩
 | dic ts=>obtain ⟨vs,q,r⟩:=q;exact ⟨vs,q,r.1,r.2.show sub⟩
 | ins C ts=>obtain ⟨dx,vs,q,r⟩:=q;exact ⟨dx,vs,q,r.1,r.2.show sub⟩
 | dtu ts=>obtain ⟨vs,q,r⟩:=q;exact ⟨vs,q,r.1,r.2.show sub⟩
theorem Stp.show (s:Stp K S S'):Stp K S (S'.show S.hid):=by
 have sub:∀ p ∈ S.hid,p ∈ S'.hid:=fun p h=>(s.hk p h).1
 exact ⟨⟨s.le,s.al,s.fr,s.kp,fun p h=>⟨h,(s.hk p h).2⟩,fun p h=>.inl h⟩,⟨fun a c e=>(s.mok.cell a c e).show sub,s.mok.inj,fun p h=>s.mok.hd p (sub p h)⟩⟩
theorem zn2 (s:Stp K S S') (hn:S.H p=none) (m:MemOk K S) (hp:p ∈ S'.hid) (e:S'.H p=some (.lst vs)) (r:Reps K S' xs vs):Rep K (S'.show S.hid) (.lst xs) (.ref p):=by
 have sub:∀ p ∈ S.hid,p ∈ S'.hid:=fun p h=>(s.hk p h).1
 refine .lst (.inl ⟨.inl e,(s.mok.hd p hp).1,fun z=>?_⟩) r.1 (r.show sub).2
 obtain ⟨_,us,q⟩:=m.hd p z
 rw [hn] at q
 cases q
noncomputable def Sit.track (S':Sit) (p:Addr) (xs:List T) (h:List Addr):Sit:=⟨fun a=>if a=S'.M.length then p else S'.α a,S'.M++[.lst xs],S'.H,h⟩
theorem Rep.track (hp:p ∈ S'.hid) (sub:∀ p ∈ hh,p ∈ S'.hid) (r:Rep K S' t v):Rep K (S'.track p xs hh) t v:=by
 induction r with
 | non=>exact .non
 | bl b=>exact .bl b
 | int b=>exact .int b
 | str b=>exact .str b
 | ty b=>exact .ty b
 | tup h l _ ih=>exact .tup h l ih
 | lst h l _ ih=>
  refine .lst ?_ l ih
  rcases h with ⟨h,f⟩ | h
  ·refine .inl ⟨h,fun a ha z=>?_,fun z=>f.2 (sub _ z)⟩
   have z':(if a=S'.M.length then p else S'.α a)=_:=z
   by_cases hl:a=S'.M.length
   ·rw [Qy hl] at z';rw [← z'] at f;exact f.2 hp
   ·rw [Qz hl] at z'
    have h3:a<(S'.M++[Cell.lst xs]).length:=ha
    exact f.1 a (by simp at h3;omega) z'
  ·exact .inr h
 | @ref a h=>
  have:S'.α a=(S'.track p xs hh).α a:=(Qz (Qk h)).symm
  rw [this]
  exact .ref (by show a<(S'.M++[Cell.lst xs]).length;simp;omega)
 | dct h l _ ih=>exact .dct h l ih
 | exc h hd l _ ih=>exact .exc h hd l ih
theorem Reps.track (hp:p ∈ S'.hid) (sub:∀ p ∈ h,p ∈ S'.hid) (r:Reps K S' ts vs):Reps K (S'.track p xs h) ts vs:=⟨r.1,fun i t v e1 e2=>(r.2 i t v e1 e2).track hp sub⟩
theorem CellOk.track (hp:p ∈ S'.hid) (sub:∀ p ∈ h,p ∈ S'.hid) {c:Cell} (o:CellOk K S' q c):CellOk K (S'.track p xs h) q c:=by
 cases c with
 | lst ts=>obtain ⟨vs,q,r⟩:=o;exact ⟨vs,q,r.track hp sub⟩
 | dic ts=>obtain ⟨vs,q,r⟩:=o;exact ⟨vs,q,r.1,r.2.track hp sub⟩
 | ins C ts=>obtain ⟨dx,vs,q,r⟩:=o;exact ⟨dx,vs,q,r.1,r.2.track hp sub⟩
 | dtu ts=>obtain ⟨vs,q,r⟩:=o;exact ⟨vs,q,r.1,r.2.track hp sub⟩
theorem Stp.track (s:Stp K S S') (m:MemOk K S) (hn:S.H p=none) (hp:p ∈ S'.hid) (e:S'.H p=some (.lst vs)) (r:Reps K S' xs vs):Stp K S (S'.track p xs S.hid):=by
 have sub:∀ p ∈ S.hid,p ∈ S'.hid:=fun p h=>(s.hk p h).1
 have lt:∀ a,a<S'.M.length->(S'.track p xs S.hid).α a=S'.α a:=fun a h=>Qz (Qk h)
 refine ⟨⟨Qj s.le (by show _<=(S'.M++[Cell.lst xs]).length;simp),fun a h=>(lt a (Q5 h s.le)).trans (s.al a h),fun a h1 h2=>?_,s.kp,fun p h=>⟨h,(s.hk p h).2⟩,fun p h=>.inl h⟩,⟨fun a c e2=>?_,fun a b h1 h2 e2=>?_,fun q h=>?_⟩⟩
 ·by_cases hl:a<S'.M.length
  ·rw [lt a hl];exact s.fr a h1 hl
  ·have h3:a<(S'.M++[Cell.lst xs]).length:=h2
   have:a=S'.M.length:=by simp at h3;omega
   show S.H (if a=S'.M.length then p else S'.α a)=none
   rw [Qy this];exact hn
 ·have e':(S'.M++[Cell.lst xs])[a]? = some c:=e2
  by_cases ha:a<S'.M.length
  ·rw [Q6 ha] at e'
   rw [lt a ha]
   exact (s.mok.cell a c e').track hp sub
  ·rw [Q8 (Nat.le_of_not_lt ha)] at e'
   have h3:a-S'.M.length=0:=by
    cases q:a-S'.M.length with
    | zero=>rfl
    | succ k=>rw [q] at e';simp at e'
   rw [h3] at e'
   cases e'
   show CellOk K _ (if a=S'.M.length then p else S'.α a) _
   rw [Qy (by omega)]
   exact ⟨vs,e,r.track hp sub⟩
 ·have h1':a<(S'.M++[Cell.lst xs]).length:=h1
  have h2':b<(S'.M++[Cell.lst xs]).length:=h2
  have e':(if a=S'.M.length then p else S'.α a)=(if b=S'.M.length then p else S'.α b):=e2
  simp at h1' h2'
  by_cases ha:a=S'.M.length
  ·by_cases hb:b=S'.M.length
   ·omega
   ·rw [Qy ha,Qz hb] at e'
    exact absurd e'.symm ((s.mok.hd p hp).1 b (by omega))
  ·by_cases hb:b=S'.M.length
   ·rw [Qz ha,Qy hb] at e'
    exact absurd e' ((s.mok.hd p hp).1 a (by omega))
   ·rw [Qz ha,Qz hb] at e'
    exact s.mok.inj a b (by omega) (by omega) e'
 ·obtain ⟨h1,us,q1⟩:=s.mok.hd q (sub q h)
  refine ⟨fun a ha z=>?_,us,q1⟩
  have z':(if a=S'.M.length then p else S'.α a)=q:=z
  have h3:a<(S'.M++[Cell.lst xs]).length:=ha
  by_cases hl:a=S'.M.length
  ·rw [Qy hl] at z'
   obtain ⟨_,us2,q2⟩:=m.hd q h
   rw [← z',hn] at q2
   cases q2
  ·rw [Qz hl] at z'
   exact h1 a (by simp at h3;omega) z'
noncomputable def Sit.hide (S:Sit) (p:Addr) (vs:List V):Sit:=⟨S.α,S.M,upd S.H p (.lst vs),p::S.hid⟩
theorem Stp.hide (m:MemOk K S) (hp:S.H p=none) (vs:List V):Stp K S (S.hide p vs):=by
 have g:Grow S (S.hide p vs):=⟨Q3 _,fun _ _=>rfl,fun a h1 h2=>absurd (Q5 h2 h1) (Qo _),fun b u e _=>by show upd S.H p _ b=_;rw [zl (yG e hp)];exact e,fun q h=>⟨.tail _ h,by obtain ⟨_,vs,e⟩:=m.hd q h;exact zl (yG e hp)⟩,fun q h=>by
  cases h with
  | head=>exact .inr hp
  | tail _ h=>exact .inl h⟩
 refine ⟨g,⟨fun a c e=>?_,m.inj,fun q h=>?_⟩⟩
 ·have ha:a<S.M.length:=(Qx.mp e).1
  exact (m.cell a c e).grow m g (zl ((m.off_none hp).1 a ha))
 ·cases h with
  | head=>exact ⟨(m.off_none hp).1,vs,yE⟩
  | tail _ h=>
   obtain ⟨h1,us,e⟩:=m.hd q h
   exact ⟨h1,us,(zl (yG e hp)).trans e⟩
end
variable {op:CmpOp} {ga:Ev->Mem->Out (List T)} {tf:Ev->Mem->Out Bool} {f g:Ev->Mem->Out T} {M:Mem} {x:Str} {o o':T->T->Mem->Out T}
section
variable {a b c:Expr} {h:Ev->Mem->Out T}
theorem zcg (h:PE X e (tC v)) (r:∀ S,Rep X.K S t v):GE X XE e (eC t):=PE.imp h fun σ H Q h9=>by
 obtain ⟨S,στ,_,e,m,ev,_,fin⟩:=h9
 show Q v H
 rw [← e];exact fin S v rfl (.refl m) (r S)
theorem zhv (h:lE XE K (eOp o f g) σ H Q):lE XE K f σ H fun x H1=>lE XE K g σ H1 fun y H2=>lR2 XE K o x y H2 Q:=
 LN.mono (LN.bind (f:=fun _ σ M=>f σ M) (k:=fun _ x σ M1=>(g σ M1).bind fun y M2=>o x y M2) (RB:=Rep K) h) fun v H1 h1=>
  LN.mono (LN.env (f:=g) (LN.bind (f:=fun _ σ M=>g σ M) (k:=fun (ax:Unit × T) y σ M2=>o ax.2 y M2) (RB:=Rep K) h1)) fun w H2 h2=>by
   obtain ⟨S,στ,a,e,m,ev,ra,fin⟩:=h2
   exact ⟨S,(a.1.2,a.2),e,m,⟨ra.1.2,ra.2⟩,fin⟩
theorem zhu {β γ:Type} {R:Sit->β->γ->Prop} {S:Sit} {k:Bool->Mem->Out β} {Q:γ->Hp->Prop} (r:Rep K S t v) (h:Fin XE R K S (blT t M k) Q):∃ b,v = .bl b/\t = .bl b/\Fin XE R K S (k b M) Q:=by
 cases r with
 | bl b=>exact ⟨b,rfl,rfl,h⟩
 | _=>exact h.elim
theorem tif {tg:Ev->Mem->Out Bool} {Q:Bool->Hp->Prop} {p:Bool->Ev->Mem->Out Bool} (h:LN XE EqR K UnR (fun _ σ M=>(tf σ M).bind fun c M1=>p c σ M1) () σ H Q):lT XE K tf σ H fun c H1=>lT XE K (fun σ M=>p c σ M) σ H1 Q:=
 LN.mono (LN.bind (f:=fun _ σ M=>tf σ M) (k:=fun _ c σ M1=>p c σ M1) (RB:=EqR) h) fun c H1 h2=>by
  obtain ⟨S,στ,a,e,m,ev,ra,fin⟩:=h2
  have:a.2=c:=ra.2
  subst this
  exact ⟨S,στ,(),e,m,ev,trivial,fin⟩
theorem zhp {Q:Bool->Hp->Prop} {d:Bool} (h:lT XE K (fun _ M=>.ok d M) σ H Q):Q d H:=by
 obtain ⟨S,στ,a,e,m,ev,ra,fin⟩:=h
 rw [← e];exact fin S d rfl (.refl m) rfl
theorem zj8 {d:T} (h:lE XE K (fun _ M=>.ok d M) σ H Q) (r:∀ S,Rep K S d v):Q v H:=by
 obtain ⟨S,στ,a,e,m,ev,ra,fin⟩:=h
 rw [← e];exact fin S v rfl (.refl m) (r S)
variable {tg:Ev->Mem->Out Bool} {rest:List Expr}
theorem GW.gt (h:GW X XE e tf):GT X XE e tf:=PW.pt h
theorem eif {p:Bool->Ev->Mem->Out T} (h:LN XE (Rep K) K UnR (fun _ σ M=>(f σ M).bind fun x M1=>blT x M1 fun b M2=>p b σ M2) () σ H Q):lE XE K f σ H fun x H1=>∃ c,x = .bl c/\lE XE K (fun σ M=>p c σ M) σ H1 Q:=
 LN.mono (LN.bind (f:=fun _ σ M=>f σ M) (k:=fun _ x σ M1=>blT x M1 fun b M2=>p b σ M2) (RB:=Rep K) h) fun c H1 h2=>by
  obtain ⟨S,στ,a,e,m,ev,ra,fin⟩:=h2
  obtain ⟨b,e1,e2,fin⟩:=zhu ra.2 fin
  exact ⟨b,e1,S,στ,(),e,m,ev,trivial,fin⟩
theorem chain (hh:lE XE K (zf6 o o' f g h) σ H Q):zkB (lR2 XE K o) (lR2 XE K o') (lE XE K f) (lE XE K g) (lE XE K h) σ H Q:=
 LN.mono (LN.bind (f:=fun _ σ M=>f σ M) (k:=fun _ x σ M1=>(g σ M1).bind fun y M2=>(o x y M2).bind fun z M3=>blT z M3 fun b M4=>if b=true then (h σ M4).bind fun w M5=>o' y w M5 else .ok (.bl false) M4) (RB:=Rep K) hh) fun x H1 h1=>
  LN.mono (LN.env (f:=g) (LN.bind (f:=fun _ σ M=>g σ M) (k:=fun (ax:Unit × T) y σ M2=>(o ax.2 y M2).bind fun z M3=>blT z M3 fun b M4=>if b=true then (h σ M4).bind fun w M5=>o' y w M5 else .ok (.bl false) M4) (RB:=Rep K) h1)) fun y H2 h2=>by
   have h3:=LN.bind (f:=fun (a:(Unit × T) × T) _ M=>o a.1.2 a.2 M) (k:=fun a z σ M3=>blT z M3 fun b M4=>if b=true then (h σ M4).bind fun w M5=>o' a.2 w M5 else .ok (.bl false) M4) (RB:=Rep K) h2
   obtain ⟨S,a,e,m,ra,fin⟩:=LN.l0 (k:=fun (a:(Unit × T) × T) M=>o a.1.2 a.2 M) h3
   refine ⟨S,(a.1.2,a.2),e,m,⟨ra.1.2,ra.2⟩,fin.mono fun z H3 h4=>?_⟩
   obtain ⟨S3,στ,a3,e3,m3,ev3,ra3,fin3⟩:=h4
   obtain ⟨b,e1,_,fin3⟩:=zhu ra3.2 fin3
   refine ⟨b,e1,?_⟩
   cases b with
   | false=>exact (Qz Q4).mpr (by rw [← e3];exact fin3 S3 _ rfl (.refl m3) (.bl _))
   | true=>
    refine (Qy rfl).mpr ?_
    have h5:LN XE (Rep K) K (Rep K) (fun y σ M4=>(h σ M4).bind fun w M5=>o' y w M5) y σ H3 Q:=⟨S3,στ,a3.1.2,e3,m3,ev3,ra3.1.2,fin3⟩
    refine LN.mono (LN.env (f:=h) (LN.bind (f:=fun _ σ M=>h σ M) (k:=fun y w σ M5=>o' y w M5) (RB:=Rep K) h5)) fun w H4 h6=>?_
    exact LN.l0 (k:=fun (a:T × T) M=>o' a.1 a.2 M) h6
end
inductive Fl where
 | nx (σ:Ev) | rt (t:T) | bk (σ:Ev) | ct (σ:Ev)
abbrev X1:=Ev->Mem->Out (List T)
abbrev X2:=List T->Mem->Out T
abbrev X3:=T->T->Mem->Out T
abbrev X4:=List T->Mem->Out T
abbrev X5:=Ev->Mem->Out Fl
abbrev X6:=Ev->Mem->Out Bool
abbrev X7:=Ev->Mem->Out Ev
abbrev X8:=Ev->Mem->Out T
inductive FlV where
 | nx (σ:L2.St) | rt (v:V) | bk (σ:L2.St) | ct (σ:L2.St)
inductive FlR (K:Frag) (S:Sit):Fl->FlV->Prop where
 | nx {a b}:EvR K S a b->FlR K S (.nx a) (.nx b)
 | rt {a b}:Rep K S a b->FlR K S (.rt a) (.rt b)
 | bk {a b}:EvR K S a b->FlR K S (.bk a) (.bk b)
 | ct {a b}:EvR K S a b->FlR K S (.ct a) (.ct b)
noncomputable def qP (D:Ends):FlV->Hp->Prop
 | .nx σ,H=>D.nx σ H
 | .rt v,H=>D.rt v H
 | .bk σ,H=>D.bk σ H
 | .ct σ,H=>D.ct σ H
noncomputable def lS (XE:XK) (K:Frag) (g:X5):TS:=fun D σ H=>LN XE (FlR K) K UnR (fun _ σ M=>g σ M) () σ H (qP D)
def GS (X:Cx) (XE:XK) (st:Stmt) (g:X5):Prop:=PS X st (lS XE X.K g)
def GSs (X:Cx) (XE:XK) (st:List Stmt) (g:X5):Prop:=PSs X st (lS XE X.K g)
variable {στ:Ev}
theorem EvR.set {S:Sit} (r:EvR K S στ σ) (q:Rep K S t v) (i:Nat):EvR K S (στ.set i (some t)) (σ.set i (some v)):=by
 refine ⟨by simp [r.1],fun j u e=>?_⟩
 rw [Qc] at e ⊢
 by_cases h:i=j
 ·subst h
  by_cases hl:i<στ.length
  ·rw [Qy rfl,Qy hl] at e
   cases e
   exact ⟨v,by rw [Qy rfl,Qy (by rw [← r.1];exact hl)],q⟩
  ·rw [Qy rfl,Qz hl] at e;cases e
 ·rw [Qz h] at e
  obtain ⟨w,e2,q2⟩:=r.2 j u e
  exact ⟨w,by rw [Qz h];exact e2,q2⟩
noncomputable def yH:X5:=fun σ M=>.ok (.nx σ) M
noncomputable def zsB:X5:=fun σ M=>.ok (.bk σ) M
noncomputable def zsQ:X5:=fun σ M=>.ok (.ct σ) M
noncomputable def zbO (k:X5) (fl:Fl) (M:Mem):Out Fl:=match fl with
 | .nx σ=>k σ M
 | .rt t=>.ok (.rt t) M
 | .bk σ=>.ok (.bk σ) M
 | .ct σ=>.ok (.ct σ) M
noncomputable def yh (g h:X5):X5:=fun σ M=>(g σ M).bind (zbO h)
noncomputable def zF (f:X8):X5:=fun σ M=>(f σ M).bind fun t M1=>.ok (.rt t) M1
noncomputable def qB (f:X8):X5:=fun σ M=>(f σ M).bind fun _ M1=>.ok (.nx σ) M1
noncomputable def sIf (c:X6) (g h:X5):X5:=fun σ M=>(c σ M).bind fun b M1=>if b=true then g σ M1 else h σ M1
noncomputable def yq (i:Nat) (f:X8):X5:=fun σ M=>(f σ M).bind fun t M1=>.ok (.nx (σ.set i (some t))) M1
noncomputable def lG (XE:XK) (K:Frag) (bd:T->X7):TG:=fun v σ H Q=>LN XE (EvR K) K (Rep K) bd v σ H Q
noncomputable def lGs (XE:XK) (K:Frag) (bd:List T->X7):TGs:=fun v σ H Q=>LN XE (EvR K) K (Reps K) bd v σ H Q
def GG (X:Cx) (XE:XK) (tg:Expr) (bd:T->X7):Prop:=PG X tg (lG XE X.K bd)
def GGs (X:Cx) (XE:XK) (tg:List Expr) (bd:List T->X7):Prop:=PGs X tg (lGs XE X.K bd)
noncomputable def qo (i:Nat):T->X7:=fun t σ M=>.ok (σ.set i (some t)) M
noncomputable def zeL:List T->X7:=fun ts σ M=>match ts with
 | []=>.ok σ M
 | _=>.bad
noncomputable def z4 (b:T->X7) (bs:List T->X7):List T->X7:=fun ts σ M=>match ts with
 | t::r=>(b t σ M).bind fun σ1 M1=>bs r σ1 M1
 | _=>.bad
noncomputable def zgO (n:Nat) (bs:List T->X7):T->X7:=fun t σ M=>match t with
 | .tup xs=>if xs.length=n then bs xs σ M else .bad
 | _=>.bad
noncomputable def zaO (f:X8) (b:T->X7):X5:=fun σ M=>(f σ M).bind fun t M1=>(b t σ M1).bind fun σ1 M2=>.ok (.nx σ1) M2
def zdD (K:Frag) (S:Sit) (items:List T) (J:It):Prop:=∀ S',Stp K S S'->
 (∀ (i:Nat) t,items[i]? = some t->J.go i S'.H/\∀ x H',J.yld i S'.H x H'->∃ S'',S''.H=H'/\S''.M=S'.M/\Stp K S' S''/\Rep K S'' t x)/\∀ i,items.length<=i->J.stop i S'.H
instance (K):Mo K (zdD K):=⟨fun _ s r=>fun S' s'=>r S' (s.trans s')⟩
noncomputable def lI (XE:XK) (K:Frag) (f:X1):TI:=fun σ H R=>LN XE (zdD K) K UnR (fun _ σ M=>f σ M) () σ H R
def GI (X:Cx) (XE:XK) (tg iter:Expr) (f:X1):Prop:=PI X tg iter (lI XE X.K f)
noncomputable def zY (k:X5) (fl:Fl) (M:Mem):Out Fl:=match fl with
 | .nx σ=>k σ M
 | .ct σ=>k σ M
 | .bk σ=>.ok (.nx σ) M
 | .rt t=>.ok (.rt t) M
noncomputable def forL (bd:T->X7) (body:X5):List T->X5
 | [],σ,M=>.ok (.nx σ) M
 | x::xs,σ,M=>(bd x σ M).bind fun σ1 M1=>(body σ1 M1).bind (zY (forL bd body xs))
noncomputable def zcb (it:X1) (bd:T->X7) (body:X5):X5:=fun σ M=>(it σ M).bind fun xs M1=>forL bd body xs σ M1
noncomputable def whileN (c:X6) (body:X5):Nat->X5
 | 0,_,_=>.bad
 | n+1,σ,M=>(c σ M).bind fun b M1=>if b=true then (body σ M1).bind (zY (whileN c body n)) else .ok (.nx σ) M1
open Classical in
noncomputable def zbS (c:X6) (body:X5):X5:=fun σ M=>if h:∃ n,whileN c body n σ M ≠ .bad then whileN c body h.choose σ M else .bad
theorem zdq {c:X6} {body:X5}:∀ {n:Nat} {σ:Ev} {M:Mem} {r:Out Fl},whileN c body n σ M=r->r ≠ .bad->whileN c body (n+1) σ M=r
 | 0,_,_,_,e,h=>absurd e.symm h
 | n+1,σ,M,r,e,h=>by
  unfold whileN at e ⊢
  cases q:c σ M with
  | bad=>rw [q] at e;exact absurd e.symm h
  | exn C fs M'=>rw [q] at e;exact e
  | ok b M1=>
   rw [q] at e
   replace e:(if b=true then (body σ M1).bind (zY (whileN c body n)) else Out.ok (.nx σ) M1)=r:=e
   show (if b=true then (body σ M1).bind (zY (whileN c body (n+1))) else Out.ok (.nx σ) M1)=r
   cases b with
   | false=>exact e
   | true=>
    rw [Qy rfl] at e ⊢
    cases q2:body σ M1 with
    | bad=>rw [q2] at e;exact absurd e.symm h
    | exn C fs M'=>rw [q2] at e;exact e
    | ok fl M2=>
     rw [q2] at e
     cases fl with
     | nx σ2=>exact zdq (n:=n) e h
     | ct σ2=>exact zdq (n:=n) e h
     | bk σ2=>exact e
     | rt t=>exact e
variable {body:X5} {n:Nat}
theorem zgR {c:X6} {k:Nat} {σ:Ev} {r:Out Fl} (e:whileN c body n σ M=r) (h:r ≠ .bad):whileN c body (n+k) σ M=r:=by
 induction k with
 | zero=>exact e
 | succ k ih=>exact zdq ih h
theorem zkF {c:X6} {σ:Ev} {r:Out Fl} (n:Nat) (e:whileN c body n σ M=r) (h:r ≠ .bad):zbS c body σ M=r:=by
 have ex:∃ n,whileN c body n σ M ≠ .bad:=⟨n,by rw [e];exact h⟩
 unfold zbS
 rw [dif_pos ex]
 have h2:=ex.choose_spec
 have e1:=zgR (k:=ex.choose) e h
 have e2:=zgR (k:=n) rfl h2
 rw [Nat.add_comm] at e2
 rw [← e2,e1]
noncomputable def zgD (XE:XK) (K:Frag) (st:T->T->T->Mem->Out Unit):zgP:=fun o i v H Q=>L0 XE UnR K (PrR (PrR (Rep K) (Rep K)) (Rep K)) (fun a M=>st a.1.1 a.1.2 a.2 M) ((o,i),v) H (fun _ H'=>Q H')
noncomputable def za8 (st:T->T->T->Mem->Out Unit) (f g:X8):T->X7:=fun t σ M=>(f σ M).bind fun o M1=>(g σ M1).bind fun i M2=>(st o i t M2).bind fun _ M3=>.ok σ M3
noncomputable def zhn (get op:X3) (st:T->T->T->Mem->Out Unit) (f g h:X8):X5:=fun σ M=>
 (f σ M).bind fun o M1=>(g σ M1).bind fun i M2=>(get o i M2).bind fun x M3=>(h σ M3).bind fun y M4=>(op x y M4).bind fun z M5=>(st o i z M5).bind fun _ M6=>.ok (.nx σ) M6
variable {D:Ends} {iter tg:Expr} {st:Stmt} {bd:T->X7}
section
variable {a b c:Expr} {h:X8} {sts rest:List Stmt} {p q r:X5}
theorem zpH (hh:lS XE K (yh p q) D σ H):lS XE K p { D with nx:=lS XE K q D } σ H:=by
 obtain ⟨S,στ,_,e,m,ev,_,fin⟩:=hh
 refine ⟨S,στ,(),e,m,ev,trivial,?_⟩
 show Fin XE (FlR K) K S (p στ S.M) _
 replace fin:Fin XE (FlR K) K S ((p στ S.M).bind (zbO q)) (qP D):=fin
 cases o:p στ S.M with
 | bad=>rw [o] at fin;exact fin
 | exn C fs M'=>rw [o] at fin;exact fin
 | ok fl M1=>
  rw [o] at fin
  intro S1 cc e1 s1 r1
  cases r1 with
  | nx r1=>exact ⟨S1,_,(),rfl,s1.mok,r1,trivial,by rw [e1];exact Fin.later s1 fin⟩
  | rt r1=>exact fin S1 _ e1 s1 (.rt r1)
  | bk r1=>exact fin S1 _ e1 s1 (.bk r1)
  | ct r1=>exact fin S1 _ e1 s1 (.ct r1)
theorem PG.imp {t t':TG} (h:PG X tg t) (i:∀ v σ H Q,t' v σ H Q->t v σ H Q):PG X tg t':=fun pins s σ H v u Q I r q=>h pins s σ H v u Q I r (i v σ H Q q)
theorem PGs.imp {tgs:List Expr} {t t':TGs} (h:PGs X tgs t) (i:∀ v σ H Q,t' v σ H Q->t v σ H Q):PGs X tgs t':=fun pins s σ H v u Q I r q=>h pins s σ H v u Q I r (i v σ H Q q)
theorem zrd (hh:LN XE (FlR K) K (Rep K) (fun t σ M=>(bd t σ M).bind fun σ1 M2=>.ok (Fl.nx σ1) M2) v σ H (qP D)):lG XE K bd v σ H D.nx:=by
 obtain ⟨S,στ,t,e,m,ev,ra,fin⟩:=hh
 refine ⟨S,στ,t,e,m,ev,ra,?_⟩
 replace fin:Fin XE (FlR K) K S ((bd t στ S.M).bind fun σ1 M2=>.ok (Fl.nx σ1) M2) (qP D):=fin
 cases o:bd t στ S.M with
 | bad=>rw [o] at fin;exact fin
 | exn C fs M'=>rw [o] at fin;exact fin
 | ok σ1 M1=>
  rw [o] at fin
  intro S1 cc e1 s1 ev1
  exact fin S1 (.nx cc) e1 s1 (.nx ev1)
theorem PI.imp {t t':TI} (h:PI X tg iter t) (i:∀ σ H R,t' σ H R->t σ H R):PI X tg iter t':=fun pins s σ H R I q=>h pins s σ H R I (i σ H R q)
end
noncomputable def startT (n:Nat) (ts:List T):Ev:=ts.map some++List.replicate (n-ts.length) none
noncomputable def yi (p n:Nat) (g:X5):X4:=fun ts M=>if ts.length=p then match g (startT n ts) M with
 | .ok (.rt t) M'=>.ok t M'
 | .ok (.nx _) M'=>.ok .non M'
 | _=>.bad else .bad
noncomputable def spT (K:Frag) (f:X4):Sp:=fun vs H Q E=>L0 E (Rep K) K (Reps K) f vs H Q
structure CalT (P:Program) (w:World) (K:Frag) (mg:Str->Option Value) (base:Heap) (k:Nat) (x:Str) (ps:List Str) (f:X4):Prop where
 cal:Cal P w K mg base k x ps (spT K f)
 nox:∀ ts M C fs M',f ts M ≠ .exn C fs M'
theorem zfQ (p n:Nat) (g:X5):∀ ts M C fs M',yi p n g ts M ≠ .exn C fs M':=by
 intro ts M C fs M' z
 unfold yi at z
 split at z
 ·split at z <;> cases z
 ·cases z
variable {N:List Str}
theorem EvR.start {S:Sit} (r:Reps K S ts vs) (hn:N.length=n):EvR K S (startT n ts) (L2.start N vs):=by
 subst hn
 refine ⟨by simp [startT,L2.start,r.1],fun i t e=>?_⟩
 unfold startT at e
 unfold L2.start
 by_cases hi:i<ts.length
 ·rw [Q6 (by simpa using hi)] at e
  rw [Q6 (by simpa [← r.1] using hi)]
  rw [Qb] at e ⊢
  cases q:ts[i]? with
  | none=>rw [q] at e;cases e
  | some t'=>
   rw [q] at e
   have:t'=t:=Qd (Qd e)
   subst this
   obtain ⟨v,e2,r2⟩:=r.get q
   exact ⟨v,by rw [e2];rfl,r2⟩
 ·rw [Q8 (by simpa using hi)] at e
  rw [List.getElem?_replicate] at e
  split at e <;> cases e
variable {base:Heap} {ps:List Str} {P:Program} {mg:Str->Option Value} {w:World}
section
theorem zfF {st:List Stmt} {g:X5} {p:Nat} (hn:N.length=n) {E:XK} (hX:X.K=K) (h:spT K (yi p n g) vs H Q E) (hb:GSs X E0 st g) :
  ∃ t,PSs X st t/\t { nx:=fun _ H'=>Q .non H',rt:=Q } (start N vs) H:=by
 subst hX
 refine ⟨_,hb,?_⟩
 obtain ⟨S,ts,e,m,r,fin⟩:=h
 refine ⟨S,startT n ts,(),e,m,EvR.start r hn,trivial,?_⟩
 show Fin E0 (FlR X.K) X.K S (g (startT n ts) S.M) _
 unfold yi at fin
 by_cases hp:ts.length=p
 ·rw [Qy hp] at fin
  cases o:g (startT n ts) S.M with
  | bad=>rw [o] at fin;exact fin
  | exn C fs M'=>rw [o] at fin;exact fin.elim
  | ok fl M1=>
   rw [o] at fin
   cases fl with
   | nx σ1=>
    intro S1 c e1 s1 r1
    cases r1 with
    | nx r1=>exact fin S1 .non e1 s1 .non
   | rt t=>
    intro S1 c e1 s1 r1
    cases r1 with
    | rt r1=>exact fin S1 _ e1 s1 r1
   | bk σ1=>exact fin.elim
   | ct σ1=>exact fin.elim
 ·rw [Qz hp] at fin;exact fin.elim
theorem zhJ {p:Nat} {g:X5} (hp:ps.length=p):∀ vs H Q E,spT K (yi p n g) vs H Q E->vs.length=ps.length:=by
 intro vs H Q E ⟨S,ts,e,m,r,fin⟩
 rw [← r.1,hp]
 unfold yi at fin
 by_cases h:ts.length=p
 ·exact h
 ·rw [Qz h] at fin;exact fin.elim
theorem zlE {k p:Nat} {g:X5} (D:Df K mg x st ps) (Sc:FnScope N ps (zg st)) (hp:ps.length=p) (hn:N.length=n)
 (hb:∀ (f:Addr) (cdv:Value) (A:Around) (outer:List PySem.Env) (s:Shared) (H:Hp) (E:XK),Room k (A.deeper (envOfC x (zg st) s.heap.objs.size f cdv))->GSs (zcj CX0 P w K mg base N x (zg st) f cdv A outer s H E).nox E0 (yL st) g) :
  CalT P w K mg base (k+1) x ps (yi p n g):=
 ⟨D.ok Sc (zhJ hp) fun f cdv A outer s H vs Q E hr h=>zfF hn rfl h (hb f cdv A outer s H E hr),zfQ _ _ _⟩
theorem zpF {qual:Str} {f:Addr} {fd:FuncData} {k p:Nat} {g:X5} (F:Fun K x qual st f fd) (Sc:FnScope N ps (zg st)) (hp:ps.length=p) (hn:N.length=n)
 (hb:∀ (cdv:Value) (A:Around) (outer:List PySem.Env) (s:Shared) (H:Hp) (E:XK),Room k (A.deeper (envOfC qual (zg st) s.heap.objs.size f cdv))->GSs (zcj CX0 P w K mg base N qual (zg st) f cdv A outer s H E).nox E0 (yL st) g) :
  FnOk P w K mg base CX0 (k+1) f fd ps (spT K (yi p n g)):=
 F.ok Sc (zhJ hp) fun cdv A outer s H vs Q E hr h=>zfF hn rfl h (hb cdv A outer s H E hr)
theorem znW {f:X4} {a:Addr} {ns:List Int} {M':Mem} (hS:SqL K H a (ns.map V.int)) (h:f [.lst (ns.map .int)] [] = .ok (.bl true) M'):spT K f [.ref a] H (fun v _=>v = .bl true) fun _ _ _=>False:=by
 refine ⟨⟨fun _=>0,[],H,[]⟩,[.lst (ns.map .int)],rfl,⟨fun a c e=>by simp at e,fun a b h=>absurd h (Nat.not_lt_zero _),fun p h=>by simp at h⟩,.cons (.lst (vs:=ns.map V.int) ?_ (by simp) ?_) .nil,?_⟩
 ·rcases hS with h | h
  ·exact .inl ⟨h,fun a h=>absurd h (Nat.not_lt_zero _),fun z=>by simp at z⟩
  ·exact .inr h
 ·intro i t v e1 e2
  rw [Qb] at e1 e2
  cases q:ns[i]? with
  | none=>rw [q] at e1;cases e1
  | some z=>rw [q] at e1 e2;cases e1;cases e2;exact .int z
 ·show Fin _ _ K _ (f [.lst (ns.map .int)] []) _
  rw [h]
  intro S' c e s r
  cases r
  rfl
end
section
variable {k:Nat} {p:Pos} {F:X4}
end
inductive T.lt (n:Nat):T->Prop where
 | non:T.lt n .non
 | bl (b:Bool):T.lt n (.bl b)
 | int (i:Int):T.lt n (.int i)
 | str (x:Str):T.lt n (.str x)
 | ty (x:String):T.lt n (.ty x)
 | tup {ts:List T} (h:∀ t ∈ ts,T.lt n t):T.lt n (.tup ts)
 | lst {ts:List T} (h:∀ t ∈ ts,T.lt n t):T.lt n (.lst ts)
 | ref {a:Nat} (h:a<n):T.lt n (.ref a)
 | dct {kvs:List (Key × T)} (h:∀ t ∈ kvs.map (·.2),T.lt n t):T.lt n (.dct kvs)
 | exc {C:Addr} {fs:List (Str × T)} (h:∀ t ∈ fs.map (·.2),T.lt n t):T.lt n (.exc C fs)
noncomputable def Cell.lt (n:Nat):Cell->Prop
 | .lst ts=>∀ t ∈ ts,T.lt n t
 | .dic kvs=>∀ k ∈ kvs,T.lt n k.2
 | .ins _ fs=>∀ k ∈ fs,T.lt n k.2
 | .dtu kvs=>∀ k ∈ kvs,T.lt n k.2
inductive Fz (M':Mem) (n:Nat):T->T->Prop where
 | same {t:T} (h:T.lt n t):Fz M' n t t
 | tup {ts us:List T} (l:ts.length=us.length) (h:∀ (i:Nat) t u,ts[i]? = some t->us[i]? = some u->Fz M' n t u):Fz M' n (.tup ts) (.tup us)
 | lst {ts us:List T} (l:ts.length=us.length) (h:∀ (i:Nat) t u,ts[i]? = some t->us[i]? = some u->Fz M' n t u):Fz M' n (.lst ts) (.lst us)
 | ref {a:Nat} {ts us:List T} (e:M'[a]? = some (.lst ts)) (g:n<=a) (l:ts.length=us.length) (h:∀ (i:Nat) t u,ts[i]? = some t->us[i]? = some u->Fz M' n t u):Fz M' n (.ref a) (.lst us)
theorem Rep.lt {S:Sit} (r:Rep K S t v):T.lt S.M.length t:=by
 induction r with
 | non=>exact .non
 | bl b=>exact .bl b
 | int b=>exact .int b
 | str b=>exact .str b
 | ty b=>exact .ty b
 | @tup ts p vs h l _ ih=>
  refine .tup fun t ht=>?_
  obtain ⟨i,hi,rfl⟩:=getElem_of_mem ht
  exact ih i _ vs[i] (by simp [hi]) (by simp [← l,hi])
 | @lst ts p vs h l _ ih=>
  refine .lst fun t ht=>?_
  obtain ⟨i,hi,rfl⟩:=getElem_of_mem ht
  exact ih i _ vs[i] (by simp [hi]) (by simp [← l,hi])
 | ref h=>exact .ref h
 | @dct kvs us p o h l _ ih=>
  refine .dct fun t ht=>?_
  obtain ⟨i,hi,rfl⟩:=getElem_of_mem ht
  have hl:i<us.length:=by have:=congrArg List.length l;simp at this hi;omega
  exact ih i _ (us[i]'hl).2 (Q0 hi) (by simp [hl])
 | @exc C fs us p od h hd l _ ih=>
  refine .exc fun t ht=>?_
  obtain ⟨i,hi,rfl⟩:=getElem_of_mem ht
  have hl:i<us.length:=by have:=congrArg List.length l;simp at this hi;omega
  exact ih i _ (us[i]'hl).2 (Q0 hi) (by simp [hl])
theorem Reps.lt {S:Sit} (r:Reps K S ts vs):∀ t ∈ ts,T.lt S.M.length t:=fun t ht=>by
 obtain ⟨i,hi,rfl⟩:=getElem_of_mem ht
 have hv:i<vs.length:=by rw [← r.1];exact hi
 exact (r.2 i _ vs[i] (by simp [hi]) (by simp [hv])).lt
theorem zgB {κ:Type} {fs:List (κ × T)} (h:∀ t ∈ fs.map (·.2),T.lt n t):∀ k ∈ fs,T.lt n k.2:=fun k hk=>h _ (List.mem_map_of_mem (f:=(·.2)) hk)
theorem CellOk.lt {S:Sit} {c:Cell} (h:CellOk K S p c):Cell.lt S.M.length c:=by
 cases c with
 | lst ts=>obtain ⟨vs,_,r⟩:=h;exact r.lt
 | dic ts=>obtain ⟨vs,_,r⟩:=h;exact zgB r.2.lt
 | ins C ts=>obtain ⟨dx,vs,_,r⟩:=h;exact zgB r.2.lt
 | dtu ts=>obtain ⟨vs,_,r⟩:=h;exact zgB r.2.lt
variable {m:Nat}
theorem T.lt.mono (h:n<=m) (r:T.lt n t):T.lt m t:=by
 induction r with
 | non=>exact .non
 | bl b=>exact .bl b
 | int b=>exact .int b
 | str b=>exact .str b
 | ty b=>exact .ty b
 | tup _ ih=>exact .tup ih
 | lst _ ih=>exact .lst ih
 | ref g=>exact .ref (Q5 g h)
 | dct _ ih=>exact .dct ih
 | exc _ ih=>exact .exc ih
noncomputable def Sit.cut (S:Sit) (n:Nat) (h:List Addr):Sit:=⟨S.α,S.M.take n,S.H,h⟩
variable {u:T}
section
variable {S:Sit}
theorem Rep.cut (hn:n<=S'.M.length) (sub:∀ p ∈ hh,p ∈ S'.hid) (r:Rep K S' t v) (l:T.lt n t):Rep K (S'.cut n hh) t v:=by
 have ln:(S'.cut n hh).M.length=n:=by show (S'.M.take n).length=n;simp;omega
 induction r with
 | non=>exact .non
 | bl b=>exact .bl b
 | int b=>exact .int b
 | str b=>exact .str b
 | ty b=>exact .ty b
 | @tup ts p vs h l2 _ ih=>
  cases l with
  | tup hl=>exact .tup h l2 fun i t v e1 e2=>ih i t v e1 e2 (hl t (Qa e1))
 | @lst ts p vs h l2 _ ih=>
  cases l with
  | lst hl=>
   refine .lst ?_ l2 fun i t v e1 e2=>ih i t v e1 e2 (hl t (Qa e1))
   rcases h with ⟨h,f⟩ | h
   ·exact .inl ⟨h,fun a ha z=>f.1 a (by rw [ln] at ha;omega) z,fun z=>f.2 (sub _ z)⟩
   ·exact .inr h
 | @ref a h=>
  cases l with
  | ref hl=>exact .ref (S:=S'.cut n hh) (by rw [ln];exact hl)
 | dct h l2 _ ih=>
  cases l with
  | dct hl=>exact .dct (S:=S'.cut n hh) h l2 fun i t v e1 e2=>ih i t v e1 e2 (hl t (Qa e1))
 | exc h hd l2 _ ih=>
  cases l with
  | exc hl=>exact .exc (S:=S'.cut n hh) h hd l2 fun i t v e1 e2=>ih i t v e1 e2 (hl t (Qa e1))
theorem Reps.cut (hn:n<=S'.M.length) (sub:∀ p ∈ hh,p ∈ S'.hid) {t:List T} {v:List V} (r:Reps K S' t v) (l:∀ x ∈ t,T.lt n x):Reps K (S'.cut n hh) t v:=⟨r.1,fun i t v e1 e2=>(r.2 i t v e1 e2).cut hn sub (l t (Qa e1))⟩
theorem CellOk.cut (hn:n<=S'.M.length) (sub:∀ p ∈ hh,p ∈ S'.hid) {c:Cell} (r:CellOk K S' p c) (l:Cell.lt n c):CellOk K (S'.cut n hh) p c:=by
 have ms:∀ {κ:Type} {fs:List (κ × T)},(∀ k ∈ fs,T.lt n k.2)->∀ t ∈ fs.map (·.2),T.lt n t:=fun h t ht=>by
  obtain ⟨k,hk,rfl⟩:=mem_map.mp ht
  exact h k hk
 cases c with
 | lst ts=>obtain ⟨vs,q,r⟩:=r;exact ⟨vs,q,r.cut hn sub l⟩
 | dic ts=>obtain ⟨vs,q,r⟩:=r;exact ⟨vs,q,r.1,r.2.cut hn sub (ms l)⟩
 | ins C ts=>obtain ⟨dx,vs,q,r⟩:=r;exact ⟨dx,vs,q,r.1,r.2.cut hn sub (ms l)⟩
 | dtu ts=>obtain ⟨vs,q,r⟩:=r;exact ⟨vs,q,r.1,r.2.cut hn sub (ms l)⟩
theorem Stp.cut (s:Stp K S S') (h1:S.M.length<=n) (h2:n<=S'.M.length) (hl:∀ (i:Nat) c,i<n->S'.M[i]? = some c->Cell.lt n c):Stp K S (S'.cut n S.hid):=by
 have sub:∀ p ∈ S.hid,p ∈ S'.hid:=fun p h=>(s.hk p h).1
 have ln:(S'.cut n S.hid).M.length=n:=by show (S'.M.take n).length=n;simp;omega
 refine ⟨⟨by rw [ln];exact h1,s.al,fun a g1 g2=>s.fr a g1 (by rw [ln] at g2;omega),s.kp,fun p h=>⟨h,(s.hk p h).2⟩,fun p h=>.inl h⟩,⟨fun a c e=>?_,fun a b g1 g2 e=>s.mok.inj a b (by rw [ln] at g1;omega) (by rw [ln] at g2;omega) e,fun p h=>?_⟩⟩
 ·have e':(S'.M.take n)[a]? = some c:=e
  rw [List.getElem?_take] at e'
  split at e'
  ·rename_i hi
   exact (s.mok.cell a c e').cut h2 sub (hl a c hi e')
  ·cases e'
 ·obtain ⟨g1,vs,g2⟩:=s.mok.hd p (sub p h)
  exact ⟨fun a ha z=>g1 a (by rw [ln] at ha;omega) z,vs,g2⟩
theorem Rep.fz (m:MemOk K S') (hn:n<=S'.M.length) (sub:∀ p ∈ hh,p ∈ S'.hid) (z:Fz S'.M n t u):∀ {v:V},Rep K S' t v->Rep K (S'.cut n hh) u v:=by
 have ln:(S'.cut n hh).M.length=n:=by show (S'.M.take n).length=n;simp;omega
 induction z with
 | same h=>exact fun r=>r.cut hn sub h
 | @tup ts us l _ ih=>
  intro v r
  cases r with
  | @tup _ p vs h l2 rr=>
   refine .tup h (by rw [← l];exact l2) fun i t v e1 e2=>?_
   have hi:i<ts.length:=by rw [l];exact (Qx.mp e1).1
   exact ih i ts[i] t (by simp [hi]) e1 (rr i _ v (by simp [hi]) e2)
 | @lst ts us l _ ih=>
  intro v r
  cases r with
  | @lst _ p vs h l2 rr=>
   refine .lst ?_ (by rw [← l];exact l2) fun i t v e1 e2=>?_
   ·rcases h with ⟨h,f⟩ | h
    ·exact .inl ⟨h,fun a ha z=>f.1 a (by rw [ln] at ha;omega) z,fun z=>f.2 (sub _ z)⟩
    ·exact .inr h
   ·have hi:i<ts.length:=by rw [l];exact (Qx.mp e1).1
    exact ih i ts[i] t (by simp [hi]) e1 (rr i _ v (by simp [hi]) e2)
 | @ref a ts us e g l _ ih=>
  intro v r
  cases r with
  | ref ha=>
   obtain ⟨vs,q,rr⟩:=m.cell a _ e
   refine .lst (vs:=vs) (.inl ⟨.inl q,fun b hb z=>?_,fun z=>?_⟩) (by rw [← l];exact rr.1) fun i t v e1 e2=>?_
   ·rw [ln] at hb
    have:=m.inj b a (by omega) ha z
    omega
   ·exact (m.hd _ (sub _ z)).1 a ha rfl
   ·have hi:i<ts.length:=by rw [l];exact (Qx.mp e1).1
    exact ih i ts[i] t (by simp [hi]) e1 (rr.2 i _ v (by simp [hi]) e2)
end
def Refines (f g:X4):Prop:=∀ ts M t' M1,(∀ c ∈ M,Cell.lt M.length c)->f ts M = .ok t' M1->∃ t M',g ts M = .ok t M'/\M.length<=M1.length/\M1.length<=M'.length/\M1=M'.take M1.length/\(∀ (i:Nat) c,M1[i]? = some c->M[i]? = some c\/Cell.lt M1.length c)/\Fz M' M1.length t t'
theorem Cell.lt.mono (h:n<=m) {c:Cell} (r:Cell.lt n c):Cell.lt m c:=by
 cases c with
 | lst ts=>exact fun t ht=>(r t ht).mono h
 | dic ts=>exact fun t ht=>(r t ht).mono h
 | ins C ts=>exact fun t ht=>(r t ht).mono h
 | dtu ts=>exact fun t ht=>(r t ht).mono h
theorem CalT.refine {k:Nat} {f g:X4} (C:CalT P w K mg base k x ps g) (h:Refines f g) (nox:∀ ts M C fs M',f ts M ≠ .exn C fs M'):CalT P w K mg base k x ps f:=by
 refine ⟨?_,nox⟩
 obtain ⟨⟨fa,fd,F,kp,b,gg⟩⟩:=C.cal
 have key:∀ vs H Q E,spT K f vs H Q E->spT K g vs H Q E:=by
  rintro vs H Q E ⟨S,ts,e,m,r,fin⟩
  refine ⟨S,ts,e,m,r,?_⟩
  have wf:∀ c ∈ S.M,Cell.lt S.M.length c:=fun c hc=>by
   obtain ⟨i,hi,rfl⟩:=getElem_of_mem hc
   exact (m.cell i _ (by simp [hi])).lt
  cases o:f ts S.M with
  | bad=>rw [o] at fin;exact fin.elim
  | exn C' fs M'=>exact absurd o (nox _ _ _ _ _)
  | ok t' M1=>
   rw [o] at fin
   obtain ⟨t,M',eg,l1,l2,eM,hc,z⟩:=h ts S.M t' M1 wf o
   rw [eg]
   intro S' v e1 s r1
   have hl:∀ (i:Nat) c,i<M1.length->S'.M[i]? = some c->Cell.lt M1.length c:=fun i c hi ec=>by
    have e2:M1[i]? = some c:=by
     rw [eM,List.getElem?_take,Qy hi,← e1];exact ec
    rcases hc i c e2 with q | q
    ·exact (wf c (Qa q)).mono l1
    ·exact q
   have sc:=s.cut l1 (by rw [e1];exact l2) hl
   refine fin (S'.cut M1.length S.hid) v ?_ sc ?_
   ·show S'.M.take M1.length=M1
    rw [e1];exact eM.symm
   ·exact Rep.fz s.mok (by rw [e1];exact l2) (fun p h=>(s.hk p h).1) (by rw [e1];exact z) r1
 refine ⟨⟨fa,fd,⟨fun vs H Q E q=>F.len vs H Q E (key _ _ _ _ q),?_⟩,kp,b,gg⟩⟩
 intro A outer s H args us vs Q E hr h0 hb hv hq
 exact F.run A outer s H args us vs Q E hr h0 hb hv (key _ _ _ _ hq)
noncomputable def yo (t:T) (M:Mem):Option (List T):=match t with
 | .lst xs=>some xs
 | .ref a=>match M[a]? with
  | some (.lst xs)=>some xs
  | _=>none
 | _=>none
noncomputable def zhM (t:T):Option (List T):=match t with
 | .lst xs=>some xs
 | .tup xs=>some xs
 | _=>none
noncomputable def yQ (t:T) (M:Mem):Option (List T):=match t with
 | .tup xs=>some xs
 | t=>yo t M
section
variable {S:Sit}
theorem zdM (h:(Rd S.H p (.lst vs)/\S.off p)\/KL K p vs):SqL K S.H p vs:=by
 rcases h with ⟨h,_⟩ | h
 ·exact .inl h
 ·exact .inr h
theorem yC (m:MemOk K S) (r:Rep K S t v) (e:yo t S.M=some xs):∃ p vs,v = .ref p/\SqL K S.H p vs/\Reps K S xs vs:=by
 cases r with
 | @lst ts p vs h l r=>cases e;exact ⟨p,vs,rfl,zdM h,l,r⟩
 | @ref a h=>
  unfold yo at e
  dsimp only at e
  split at e
  ·rename_i ys q
   cases e
   obtain ⟨vs,q2,r2⟩:=m.cell a _ q
   exact ⟨_,vs,rfl,.inl (.inl q2),r2⟩
  ·cases e
 | _=>cases e
theorem zbH (m:MemOk K S) (r:Rep K S t v) (e:yQ t S.M=some xs):∃ p vs,v = .ref p/\(SqL K S.H p vs\/SqT K S.H p vs)/\Reps K S xs vs:=by
 cases t with
 | tup ts=>
  cases e
  cases r with
  | @tup _ p vs h l r=>exact ⟨p,vs,rfl,.inr h,l,r⟩
 | lst ts=>obtain ⟨p,vs,e1,h,r2⟩:=yC m r e;exact ⟨p,vs,e1,.inl h,r2⟩
 | ref a=>obtain ⟨p,vs,e1,h,r2⟩:=yC m r e;exact ⟨p,vs,e1,.inl h,r2⟩
 | _=>cases e
end
noncomputable def zcJ (f:X8):X1:=fun σ M=>(f σ M).bind fun t M1=>match zhM t with
 | some xs=>.ok xs M1
 | none=>.bad
noncomputable def zdx (lo:Int) (n:Nat):List T:=(List.range n).map fun (k:Nat)=>T.int (lo+(k:Int))
noncomputable def zbT (ts:List T) (M1:Mem):Out (List T):=match ts with
 | [.int j]=>@ite _ (-(2 ^ 62)<=j/\j<2 ^ 62) (Classical.propDecidable _) (.ok (zdx 0 j.toNat) M1) .bad
 | _=>.bad
noncomputable def zfq (ts:List T) (M1:Mem):Out (List T):=match ts with
 | [.int i,.int j]=>@ite _ ((-(2 ^ 62)<=i/\i<2 ^ 62)/\(-(2 ^ 62)<=j/\j<2 ^ 62)) (Classical.propDecidable _) (.ok (zdx i (j-i).toNat) M1) .bad
 | _=>.bad
noncomputable def yU (f:X1):X1:=fun σ M=>(f σ M).bind fun ts M1=>zbT ts M1
noncomputable def zgG (f:X1):X1:=fun σ M=>(f σ M).bind fun ts M1=>zfq ts M1
theorem zie (K:Frag) (S:Sit) (lo:Int) (n:Nat):zdD K S (zdx lo n) (Itr lo n):=fun S' s=>by
 refine ⟨fun i t e=>?_,fun i h=>?_⟩
 ·unfold zdx at e
  rw [Qb] at e
  cases q:(List.range n)[i]? with
  | none=>rw [q] at e;cases e
  | some k=>
   rw [q] at e
   cases e
   have hi:i<n:=by have:=(Qx.mp q).1;simpa using this
   have hk:k=i:=by rw [getElem?_range hi] at q;exact (Qd q).symm
   subst hk
   refine ⟨hi,fun x H' hy=>?_⟩
   obtain ⟨e1,e2⟩:=hy
   exact ⟨S',e1.symm,rfl,.refl s.mok,by rw [e2];exact .int _⟩
 ·show n<=i
  simpa [zdx] using h
section
variable {a b c:Expr} {h:X8} {p:Pos}
theorem zp8 (he:GE X XE e f):GI X XE tg e (zcJ f):=PI.imp (PI.or (zgs he) (zkL he)) fun σ H R h9=>by
 obtain ⟨S,στ,_,e,m,ev,_,fin⟩:=h9
 replace fin:Fin XE (zdD X.K) X.K S ((f στ S.M).bind fun t M1=>match zhM t with | some xs=>.ok xs M1 | none=>.bad) R:=fin
 cases o:f στ S.M with
 | bad=>rw [o] at fin;exact fin.elim
 | exn C fs M'=>
  rw [o] at fin
  refine .inl ⟨S,στ,(),e,m,ev,trivial,?_⟩
  show Fin XE (Rep X.K) X.K S (f στ S.M) _
  rw [o];exact fin
 | ok t M1=>
  rw [o] at fin
  cases t with
  | lst ts=>
   refine .inl ⟨S,στ,(),e,m,ev,trivial,?_⟩
   show Fin XE (Rep X.K) X.K S (f στ S.M) _
   rw [o]
   intro S1 v e1 s1 r1
   cases r1 with
   | @lst _ p vs h l r=>
    have r1:Reps X.K S1 ts vs:=⟨l,r⟩
    refine ⟨p,rfl,⟨vs,zdM h⟩,fin S1 _ e1 s1 fun S3 s3=>?_⟩
    have g3:SqL X.K S3.H p vs:=by
     rcases h with ⟨h2,f2⟩ | h2
     ·exact .inl (s3.toGrow.rd h2 f2).1
     ·exact .inr h2
    refine ⟨fun i t et=>?_,fun i hi=>⟨vs,g3,by rw [← l];exact hi⟩⟩
    obtain ⟨v2,ev3,r3⟩:=r1.get et
    refine ⟨⟨vs,v2,g3,ev3⟩,fun x H' hy=>?_⟩
    obtain ⟨ey,hy⟩:=hy
    have:=hy vs g3
    rw [ev3] at this
    cases this
    exact ⟨S3,ey.symm,rfl,.refl s3.mok,r3.grow s1.mok s3.toGrow⟩
  | tup ts=>
   refine .inr ⟨S,στ,(),e,m,ev,trivial,?_⟩
   show Fin XE (Rep X.K) X.K S (f στ S.M) _
   rw [o]
   intro S1 v e1 s1 r1
   cases r1 with
   | @tup _ p vs h l r=>
    have r1:Reps X.K S1 ts vs:=⟨l,r⟩
    refine ⟨p,rfl,⟨vs,h⟩,fin S1 _ e1 s1 fun S3 s3=>?_⟩
    have g3:SqT X.K S3.H p vs:=s3.toGrow.tup s1.mok h
    refine ⟨fun i t et=>?_,fun i hi=>⟨vs,g3,by rw [← l];exact hi⟩⟩
    obtain ⟨v2,ev3,r3⟩:=r1.get et
    refine ⟨⟨vs,v2,g3,ev3⟩,fun x H' hy=>?_⟩
    obtain ⟨ey,hy⟩:=hy
    have:=hy vs g3
    rw [ev3] at this
    cases this
    exact ⟨S3,ey.symm,rfl,.refl s3.mok,r3.grow s1.mok s3.toGrow⟩
  | _=>exact fin.elim
end
noncomputable def zy (bd:T->X7) (cond:X6) (el:X8):List T->Ev->Mem->List T->Out (List T)
 | [],_,M,acc=>.ok acc M
 | x::xs,σ,M,acc=>(bd x σ M).bind fun σ1 M1=>(cond σ1 M1).bind fun b M2=>if b=true then (el σ1 M2).bind fun t M3=>if acc.length<sizeLine then zy bd cond el xs σ1 M3 (acc++[t]) else .bad else zy bd cond el xs σ1 M2 acc
noncomputable def zck (tgs:List Str) (caps:List (Str × Nat)) (σ:Ev):Ev:=tgs.map (fun _=>none)++caps.map fun c=>(σ[c.2]?).join
noncomputable def zax (it:X1) (bd:T->X7) (cond:X6) (el:X8) (tgs:List Str) (caps:List (Str × Nat)):X1:=fun σ M=>(it σ M).bind fun xs M1=>zy bd cond el xs (zck tgs caps σ) M1 []
noncomputable def qK:X6:=fun _ M=>.ok true M
theorem EvR.cap {S:Sit} (r:EvR K S στ σ) (tgs:List Str) (caps:List (Str × Nat)):EvR K S (zck tgs caps στ) (zc9 tgs caps σ):=by
 refine ⟨by simp [zck,zc9],fun i t e=>?_⟩
 unfold zck at e
 unfold zc9
 by_cases hi:i<tgs.length
 ·rw [Q6 (by simpa using hi)] at e
  rw [Qb] at e
  cases q:tgs[i]? with
  | none=>rw [q] at e;cases e
  | some x=>rw [q] at e;cases e
 ·rw [Q8 (by simpa using hi),Qb] at e
  rw [Q8 (by simpa using hi),Qb]
  simp only [Qh] at e ⊢
  cases q:caps[i-tgs.length]? with
  | none=>rw [q] at e;cases e
  | some cq=>
   rw [q] at e
   have e2:(στ[cq.2]?).join=some t:=Qd e
   have e3:στ[cq.2]? = some (some t):=by
    cases q2:στ[cq.2]? with
    | none=>rw [q2] at e2;cases e2
    | some o=>rw [q2] at e2;cases o with
     | none=>cases e2
     | some v'=>rw [show v'=t from Qd e2]
   obtain ⟨v,e4,r4⟩:=r.2 _ _ e3
   exact ⟨v,by show some ((σ[cq.2]?).join)=_;rw [e4];rfl,r4⟩
noncomputable def Sit.hput (S:Sit) (p:Addr) (vs:List V):Sit:=⟨S.α,S.M,upd S.H p (.lst vs),S.hid⟩
section
variable {S S0:Sit} {us:List V}
theorem Rep.hput (m:MemOk K S) (hp:p ∈ S.hid) (r:Rep K S t v):Rep K (S.hput p us) t v:=by
 obtain ⟨_,ws,ew⟩:=m.hd p hp
 induction r with
 | non=>exact .non
 | bl b=>exact .bl b
 | int b=>exact .int b
 | str b=>exact .str b
 | ty b=>exact .ty b
 | @tup ts q vs h l _ ih=>
  refine .tup ?_ l ih
  rcases h with (h | ⟨o,h⟩) | h
  ·exact .inl (.inl ((zl (zdi h ew (by intro z;cases z))).trans h))
  ·exact .inl (.inr ⟨o,(zl (zdi h ew (by intro z;cases z))).trans h⟩)
  ·exact .inr h
 | @lst ts q vs h l _ ih=>
  refine .lst ?_ l ih
  rcases h with ⟨h,f⟩ | h
  ·have hne:q ≠ p:=fun z=>f.2 (by rw [z];exact hp)
   refine .inl ⟨?_,f⟩
   rcases h with h | ⟨o,h⟩
   ·exact .inl ((zl hne).trans h)
   ·exact .inr ⟨o,(zl hne).trans h⟩
  ·exact .inr h
 | ref h=>exact .ref (S:=S.hput p us) h
 | dct h l _ ih=>exact .dct (S:=S.hput p us) ((zl (zdi h ew (by intro z;cases z))).trans h) l ih
 | exc h hd l _ ih=>exact .exc (S:=S.hput p us) ((zl (zdi h ew (by intro z;cases z))).trans h) (hd.imp (fun z=>z) fun ⟨d,a,b⟩=>⟨d,a,(zl (zdi b ew (by intro z;cases z))).trans b⟩) l ih
theorem Reps.hput (m:MemOk K S) (hp:p ∈ S.hid) {t:List T} {v:List V} (r:Reps K S t v):Reps K (S.hput p us) t v:=⟨r.1,fun i a b e1 e2=>(r.2 i a b e1 e2).hput m hp⟩
theorem CellOk.hput (m:MemOk K S) (hp:p ∈ S.hid) {c:Cell} (hq:q ≠ p) (r:CellOk K S q c):CellOk K (S.hput p us) q c:=by
 cases c with
 | lst ts=>obtain ⟨vs,q,r⟩:=r;exact ⟨vs,(zl hq).trans q,r.hput m hp⟩
 | dic ts=>obtain ⟨vs,q,r⟩:=r;exact ⟨vs,(zl hq).trans q,r.1,r.2.hput m hp⟩
 | ins C ts=>obtain ⟨dx,vs,q,r⟩:=r;exact ⟨dx,vs,(zl hq).trans q,r.1,r.2.hput m hp⟩
 | dtu ts=>obtain ⟨vs,q,r⟩:=r;exact ⟨vs,(zl hq).trans q,r.1,r.2.hput m hp⟩
theorem Stp.hput (s:Stp K S0 S) (hp:p ∈ S.hid) (hn:S0.H p=none) (m0:MemOk K S0):Stp K S0 (S.hput p us):=by
 refine ⟨⟨s.le,s.al,s.fr,fun b o e f=>(zl (yG e hn)).trans (s.kp b o e f),fun q h=>⟨(s.hk q h).1,?_⟩,s.hf⟩,⟨fun a c e=>?_,s.mok.inj,fun q h=>?_⟩⟩
 ·obtain ⟨_,vs,e⟩:=m0.hd q h
  exact (zl (yG e hn)).trans (s.hk q h).2
 ·exact (s.mok.cell a c e).hput s.mok hp ((s.mok.hd p hp).1 a (Qx.mp e).1)
 ·obtain ⟨h1,vs,e⟩:=s.mok.hd q h
  refine ⟨h1,?_⟩
  by_cases z:q=p
  ·exact ⟨us,by show upd S.H p _ q=_;rw [z];exact yE⟩
  ·exact ⟨vs,(zl z).trans e⟩
end
structure CB (X:Cx) (scope:Scope) (cl:List (Str × Addr)) (caps:List (Str × Nat)):Prop where
 hc:X.calm=true
 hclos:closureFor scope X.env=pure cl
 hcell:∀ y ∈ scope.names,y.2 = .cell->y.1 ∉ caps.map (·.1)
 hkind:scope.kind = .function
 hnames:∀ y ∈ scope.names,y.2 = .local->scope.names.lookup y.1=some .local
 hcl:∀ y c,cl.lookup y=some c->X.env.cells.lookup y=some c
 hhas:∀ n y,((relabel scope X.env).names.lookup y=some .cell\/(relabel scope X.env).names.lookup y=some .free)->∃ c,(cellsFrom n scope.names cl).lookup y=some c
 hcap:∀ c ∈ caps,X.N[c.2]? = some c.1/\X.env.kindOf c.1=some .cell/\((relabel scope X.env).names.lookup c.1=some .cell\/(relabel scope X.env).names.lookup c.1=some .free)
variable {cond:X6} {caps:List (Str × Nat)} {tgs:List Str}
section
theorem zmH (hh:lL XE X.K (zax ga bd cond f tgs caps) σ H Q) :
  zjT (lI XE X.K ga) (lG XE X.K bd) (lT XE X.K cond) (lE XE X.K f) (zc9 tgs caps) σ H Q:=by
 obtain ⟨S,στ,e,m,ev,fin⟩:=hh
 replace fin:FinL XE X.K S ((ga στ S.M).bind fun xs M1=>zy bd cond f xs (zck tgs caps στ) M1 []) Q:=fin
 refine ⟨S,στ,(),e,m,ev,trivial,?_⟩
 show Fin XE (zdD X.K) X.K S (ga στ S.M) _
 cases o:ga στ S.M with
 | bad=>rw [o] at fin;exact fin
 | exn C fs M'=>rw [o] at fin;exact fin
 | ok items M1=>
  rw [o] at fin
  replace fin:FinL XE X.K S (zy bd cond f items (zck tgs caps στ) M1 []) Q:=fin
  intro S0 J e0 s0 it0 D hD
  have m0:=s0.mok
  have fin0:=fin.later s0
  have s1:=Stp.hide (K:=X.K) m0 hD []
  refine ⟨fun i n σ' H'=>∃ S στ acc vs,S.H=H'/\EvR X.K S στ σ'/\n=items.length-i/\i<=items.length/\D ∈ S.hid/\S.H D=some (.lst vs)/\Reps X.K S acc vs/\Stp X.K S0 S/\FinL XE X.K S0 (zy bd cond f (items.drop i) στ S.M acc) Q,
   ⟨items.length-0,S0.hide D [],zck tgs caps στ,[],[],rfl,(Mo.mo (K:=X.K) m0 s1 (Mo.mo (K:=X.K) m s0 ev)).cap tgs caps,rfl,Nat.zero_le _,.head _,yE,.nil,s1,by show FinL XE X.K S0 (zy bd cond f items (zck tgs caps στ) S0.M []) Q;rw [e0];exact fin0⟩,?_⟩
  rintro i n σ1 H1 ⟨S2,στ2,acc,vs,e2,ev2,en,hi2,hid2,hD2,racc,s2,fin2⟩
  subst e2
  have m2:=s2.mok
  obtain ⟨itg,its⟩:=it0 S2 s2
  by_cases hl:i<items.length
  ·have eq:items.drop i=items[i]::items.drop (i+1):=List.drop_eq_getElem_cons hl
   rw [eq] at fin2
   obtain ⟨go,yl⟩:=itg i items[i] (by simp [hl])
   refine .inr ⟨go,fun σ' H'=>∃ S στ acc vs,S.H=H'/\EvR X.K S στ σ'/\D ∈ S.hid/\S.H D=some (.lst vs)/\Reps X.K S acc vs/\Stp X.K S0 S/\FinL XE X.K S0 (zy bd cond f (items.drop (i+1)) στ S.M acc) Q,?_,fun x H' hy=>?_⟩
   ·rintro σ' H' ⟨S,στ,acc,vs,a1,a2,a3,a4,a5,a6,a7⟩
    exact ⟨items.length-(i+1),by omega,S,στ,acc,vs,a1,a2,rfl,hl,a3,a4,a5,a6,a7⟩
   ·obtain ⟨S3,e3,eM,s3,r3⟩:=yl x H' hy
    replace fin2:FinL XE X.K S0 ((bd items[i] στ2 S2.M).bind fun σ1 M1=>(cond σ1 M1).bind fun b M2=>if b=true then (f σ1 M2).bind fun t M3=>if acc.length<sizeLine then zy bd cond f (items.drop (i+1)) σ1 M3 (acc++[t]) else .bad else zy bd cond f (items.drop (i+1)) σ1 M2 acc) Q:=fin2
    refine ⟨S3,στ2,items[i],e3,s3.mok,Mo.mo m2 s3 ev2,r3,?_⟩
    show Fin XE (EvR X.K) X.K S3 (bd items[i] στ2 S3.M) _
    rw [eM]
    cases o1:bd items[i] στ2 S2.M with
    | bad=>rw [o1] at fin2;exact fin2
    | exn C fs M'=>rw [o1] at fin2;exact fun S' od a1 a2 a3=>fin2 S' od a1 ((s2.trans s3).trans a2) a3
    | ok σ4 M4=>
     rw [o1] at fin2
     intro S4 σ4v e4 s4 ev4
     have t4:=s3.trans s4
     replace fin2:FinL XE X.K S0 ((cond σ4 M4).bind fun b M2=>if b=true then (f σ4 M2).bind fun t M3=>if acc.length<sizeLine then zy bd cond f (items.drop (i+1)) σ4 M3 (acc++[t]) else .bad else zy bd cond f (items.drop (i+1)) σ4 M2 acc) Q:=fin2
     refine ⟨S4,σ4,(),rfl,s4.mok,ev4,trivial,?_⟩
     show Fin XE EqR X.K S4 (cond σ4 S4.M) _
     rw [e4]
     cases o2:cond σ4 M4 with
     | bad=>rw [o2] at fin2;exact fin2
     | exn C fs M'=>rw [o2] at fin2;exact fun S' od a1 a2 a3=>fin2 S' od a1 ((s2.trans t4).trans a2) a3
     | ok b M5=>
      rw [o2] at fin2
      intro S5 b5 e5 s5 eb
      have eb':b=b5:=eb
      subst eb'
      have t5:=t4.trans s5
      replace fin2:FinL XE X.K S0 (if b=true then (f σ4 M5).bind fun t M3=>if acc.length<sizeLine then zy bd cond f (items.drop (i+1)) σ4 M3 (acc++[t]) else .bad else zy bd cond f (items.drop (i+1)) σ4 M5 acc) Q:=fin2
      cases b with
      | false=>
       rw [Qz Q4] at fin2
       refine (Qz Q4).mpr ⟨S5,σ4,acc,vs,rfl,Mo.mo s4.mok s5 ev4,(t5.hk D hid2).1,by rw [(t5.hk D hid2).2];exact hD2,racc.grow m2 t5.toGrow,s2.trans t5,by rw [e5];exact fin2⟩
      | true=>
       rw [Qy rfl] at fin2
       refine (Qy rfl).mpr ⟨S5,σ4,(),rfl,s5.mok,Mo.mo s4.mok s5 ev4,trivial,?_⟩
       show Fin XE (Rep X.K) X.K S5 (f σ4 S5.M) _
       rw [e5]
       cases o3:f σ4 M5 with
       | bad=>rw [o3] at fin2;exact fin2
       | exn C fs M'=>rw [o3] at fin2;exact fun S' od a1 a2 a3=>fin2 S' od a1 ((s2.trans t5).trans a2) a3
       | ok t M6=>
        rw [o3] at fin2
        replace fin2:FinL XE X.K S0 (if acc.length<sizeLine then zy bd cond f (items.drop (i+1)) σ4 M6 (acc++[t]) else .bad) Q:=fin2
        intro S6 v6 e6 s6 r6
        have t6:=t5.trans s6
        have hz:acc.length<sizeLine:=by
         by_cases hz:acc.length<sizeLine
         ·exact hz
         ·rw [Qz hz] at fin2;exact fin2.elim
        rw [Qy hz] at fin2
        have hid6:=(t6.hk D hid2).1
        have hD6:S6.H D=some (.lst vs):=by rw [(t6.hk D hid2).2];exact hD2
        refine ⟨vs,hD6,by rw [← racc.1];exact hz,S6.hput D (vs++[v6]),σ4,acc++[t],vs++[v6],rfl,?_,hid6,yE,?_,(s2.trans t6).hput hid6 hD m0,by show FinL XE X.K S0 (zy bd cond f (items.drop (i+1)) σ4 S6.M (acc++[t])) Q;rw [e6];exact fin2⟩
        ·have ev6:EvR X.K S6 σ4 σ4v:=Mo.mo s4.mok (s5.trans s6) ev4
         exact ⟨ev6.1,fun i t e=>let ⟨v,e',q⟩:=ev6.2 i t e;⟨v,e',q.hput s6.mok hid6⟩⟩
        ·exact ((racc.grow m2 t6.toGrow).app (.cons r6 .nil)).hput s6.mok hid6
  ·rw [List.drop_eq_nil_of_le (by omega)] at fin2
   refine .inl ⟨its i (by omega),?_⟩
   exact fin2 S2 D vs rfl s2 hD hid2 hD2 racc
theorem zn5:PTs X [] (lT XE X.K qK):=fun pins s σ H Q I h=>znl pins s σ H Q I (zhp h)
theorem zn4 {c:Expr} (h:GT X XE c tf):PTs X [c] (lT XE X.K tf):=znk h
end
def LNL {A AV:Type} (XE:XK) (K:Frag) (RA:Sit->A->AV->Prop) (k:A->X1) (av:AV) (σ:L2.St) (H:Hp) (Q:VK):Prop:=
 ∃ (S:Sit) (στ:Ev) (a:A),S.H=H/\MemOk K S/\EvR K S στ σ/\RA S a av/\FinL XE K S (k a στ S.M) Q
theorem LNL.bind {A AV B BV:Type} {RA:Sit->A->AV->Prop} {RB:Sit->B->BV->Prop} [Mo K RA] {f:A->Ev->Mem->Out B} {k:A->B->X1} {av:AV} 
 (h:LNL XE K RA (fun a σ M=>(f a σ M).bind fun b M1=>k a b σ M1) av σ H Q):LN XE RB K RA f av σ H (fun bv H1=>LNL XE K (PrR RA RB) (fun ab=>k ab.1 ab.2) (av,bv) σ H1 Q):=by
 obtain ⟨S,στ,a,e,m,ev,ra,fin⟩:=h
 refine ⟨S,στ,a,e,m,ev,ra,?_⟩
 replace fin:FinL XE K S ((f a στ S.M).bind fun b M1=>k a b στ M1) Q:=fin
 cases q:f a στ S.M with
 | bad=>rw [q] at fin;exact fin
 | exn C fs M'=>rw [q] at fin;exact fin
 | ok b M1=>
  rw [q] at fin
  intro S1 c e1 s1 r1
  refine ⟨S1,στ,(a,b),rfl,s1.mok,Mo.mo m s1 ev,⟨Mo.mo m s1 ra,r1⟩,?_⟩
  rw [e1]
  exact fin.later s1
def L0L {A AV:Type} (XE:XK) (K:Frag) (RA:Sit->A->AV->Prop) (k:A->Mem->Out (List T)) (av:AV) (H:Hp) (Q:VK):Prop:=∃ (S:Sit) (a:A),S.H=H/\MemOk K S/\RA S a av/\FinL XE K S (k a S.M) Q
noncomputable def zj7 (XE:XK) (K:Frag) (o:T->T->Mem->Out (List T)):R2:=fun x y H Q=>L0L XE K (PrR (Rep K) (Rep K)) (fun a M=>o a.1 a.2 M) (x,y) H Q
noncomputable def zmg (XE:XK) (K:Frag) (o:List T->Mem->Out (List T)):List V->Hp->VK->Prop:=fun xs H Q=>L0L XE K (Reps K) o xs H Q
noncomputable def lOp (o:T->T->Mem->Out (List T)) (f g:X8):X1:=fun σ M=>(f σ M).bind fun x M1=>(g σ M1).bind fun y M2=>o x y M2
noncomputable def zfT (F:List T->Mem->Out (List T)) (g:X1):X1:=fun σ M=>(g σ M).bind fun ts M1=>F ts M1
theorem zfu {S:Sit} (m:MemOk K S) (fin:FinL XE K S (.ok xs S.M) Q) (r:Reps K S xs vs):∀ p,S.H p=none->Q (.ref p) (upd S.H p (.lst vs)):=fun p hp=>
 fin (S.hide p vs) p vs rfl (Stp.hide m hp vs) hp (.head _) yE (r.grow m (Stp.hide m hp vs).toGrow)
section
variable {a b:Expr} {p:Pos}
end
noncomputable def za0 (k:Int->Int->Mem->Out T) (x y:T) (M:Mem):Out T:=match x,y with
 | .int i,.int j=>k i j M
 | _,_=>.bad
def Mo64 (i j:Int):Prop:=(i.natAbs<10 ^ 3000/\j.natAbs<10 ^ 3000)\/(-(2 ^ 64)<i/\i<2 ^ 64)\/(-(2 ^ 64)<j/\j<2 ^ 64)
instance (i j:Int):Decidable (Mo64 i j):=inferInstanceAs (Decidable (_\/_))
variable {i j:Int}
theorem Mo64.ok (h:Mo64 i j):CMulB i j:=by
 rcases h with h | h
 ·exact .inl ⟨3000,3000,h.1,h.2,Q3 _,Q3 _⟩
 ·exact .inr h
noncomputable def zdC:X3:=za0 fun i j M=>.ok (.int (i+j)) M
noncomputable def zep:X3:=za0 fun i j M=>.ok (.int (i-j)) M
noncomputable def zeg:X3:=za0 fun i j M=>if j ≠ 0/\j.natAbs<10 ^ 2000 then .ok (.int (i.fdiv j)) M else .bad
noncomputable def zbU:X3:=za0 fun i j M=>if j ≠ 0 then .ok (.int (i.fmod j)) M else .bad
noncomputable def zjZ:X3:=za0 fun i j M=>if 0<=j/\j<=1000000/\i.natAbs<2 ^ 64 then .ok (.int (i ^ j.toNat)) M else .bad
noncomputable def ltI:X3:=za0 fun i j M=>.ok (.bl (decide (i<j))) M
noncomputable def leI:X3:=za0 fun i j M=>.ok (.bl (decide (i<=j))) M
noncomputable def gtI:X3:=za0 fun i j M=>.ok (.bl (decide (j<i))) M
noncomputable def geI:X3:=za0 fun i j M=>.ok (.bl (decide (j<=i))) M
noncomputable def zh5:T->Mem->Out T:=fun x M=>match x with
 | .int i=>.ok (.int (-i)) M
 | _=>.bad
variable {y:V} {F:Value}
section
theorem zjc {S:Sit} (r:Rep K S (.int i) v):v = .int i:=by cases r;rfl
theorem zce {fn:Value->Value->Sem Value} {r:R2} {k:Int->Int->Mem->Out T} (ho:OpR X fn r)
  (h:∀ i j S Q,MemOk X.K S->Fin XE (Rep X.K) X.K S (k i j S.M) Q->r (.int i) (.int j) S.H Q):OpR X fn (lR2 XE X.K (za0 k)):=by
 injections
 replace fin:Fin XE (Rep X.K) X.K S (za0 k tx ty S.M) Q:=fin
 unfold za0 at fin
 rw?
 ·have e1:=zjc r1
  have e2:=zjc r2
  dsimp only at e1 e2
  subst e1;subst e2;subst e
  exact ho pins s σ S.H _ _ v u Q I rx ry (h _ _ S Q m fin)
 ·simp?
theorem zcS:OpR X (binaryOp .Sub) (lR2 XE X.K zep):=zce zpm fun i j S Q m fin=>⟨i,j,rfl,rfl,fin S _ rfl (.refl m) (.int _)⟩
theorem zgv:OpR X (binaryOp .FloorDiv) (lR2 XE X.K zeg):=zce zl5 fun i j S Q m fin=>by
 by_cases h:j ≠ 0/\j.natAbs<10 ^ 2000
 ·rw [Qy h] at fin
  exact ⟨i,j,rfl,rfl,⟨h.1,2000,h.2,Q3 _⟩,fin S _ rfl (.refl m) (.int _)⟩
 ·rw [Qz h] at fin;exact fin.elim
theorem zaJ:OpR X (binaryOp .Mod) (lR2 XE X.K zbU):=zce znH fun i j S Q m fin=>by
 by_cases h:j ≠ 0
 ·rw [Qy h] at fin
  exact ⟨i,j,rfl,rfl,h,fin S _ rfl (.refl m) (.int _)⟩
 ·rw [Qz h] at fin;exact fin.elim
theorem zjg:OpR X (binaryOp .Pow) (lR2 XE X.K zjZ):=zce zpn fun i j S Q m fin=>by
 by_cases h:0<=j/\j<=1000000/\i.natAbs<2 ^ 64
 ·rw [Qy h] at fin
  exact ⟨i,j,rfl,rfl,h,fin S _ rfl (.refl m) (.int _)⟩
 ·rw [Qz h] at fin;exact fin.elim
theorem zdK:OpR X (compareOp .Lt) (lR2 XE X.K ltI):=zce zq7 fun i j S Q m fin=>⟨i,j,rfl,rfl,fin S _ rfl (.refl m) (.bl _)⟩
theorem zkQ:OpR X (compareOp .LtE) (lR2 XE X.K leI):=zce zq8 fun i j S Q m fin=>⟨i,j,rfl,rfl,fin S _ rfl (.refl m) (.bl _)⟩
theorem zdL:OpR X (compareOp .Gt) (lR2 XE X.K gtI):=zce zq9 fun i j S Q m fin=>⟨i,j,rfl,rfl,fin S _ rfl (.refl m) (.bl _)⟩
theorem zm3:L2.UnR X (unaryOp .USub) (lR1 XE X.K zh5):=by
 intro pins s σ H x v Q I rx ⟨S,t,e,m,r,fin⟩
 replace fin:Fin XE (Rep X.K) X.K S (zh5 t S.M) Q:=fin
 unfold zh5 at fin
 rw?
 ·cases r
  subst e
  exact zoH pins s σ S.H _ v Q I rx ⟨_,rfl,fin S _ rfl (.refl m) (.int _)⟩
 ·simp?
noncomputable def isB:X3:=fun x y M=>match x,y with
 | .bl a,.bl b=>.ok (.bl (a==b)) M
 | _,_=>.bad
noncomputable def zrf:X3:=fun x y M=>match x,y with
 | .bl a,.bl b=>.ok (.bl (a != b)) M
 | _,_=>.bad
noncomputable def zl7:T->Bool
 | .non=>true
 | _=>false
noncomputable def isN:X3:=fun x y M=>match y with
 | .non=>.ok (.bl (zl7 x)) M
 | _=>.bad
noncomputable def zaa:X3:=fun x y M=>match y with
 | .non=>.ok (.bl (!zl7 x)) M
 | _=>.bad
theorem zh3 {S:Sit} (r:Rep K S t v):decide (v = .non)=zl7 t:=by
 cases r <;> first | rfl | exact Qw (by intro z;cases z)
theorem zgu:OpR X (compareOp .Is) (lR2 XE X.K isN):=by
 injections
 replace fin:Fin XE (Rep X.K) X.K S (isN tx ty S.M) Q:=fin
 unfold isN at fin
 rw?
 ·cases r2;subst e
  exact zpo pins s σ S.H _ _ v u Q I rx ry ⟨rfl,by rw [zh3 r1];exact fin S _ rfl (.refl m) (.bl _)⟩
 ·simp?
theorem zcv:OpR X (compareOp .IsNot) (lR2 XE X.K zaa):=by
 injections
 replace fin:Fin XE (Rep X.K) X.K S (zaa tx ty S.M) Q:=fin
 unfold zaa at fin
 rw?
 ·cases r2;subst e
  exact znD pins s σ S.H _ _ v u Q I rx ry ⟨rfl,by rw [zh3 r1];exact fin S _ rfl (.refl m) (.bl _)⟩
 ·simp?
noncomputable def zii (M:Mem):T->T->Option T
 | .tup xs,.int i=>atI xs i
 | .lst xs,.int i=>atI xs i
 | .ref a,.int i=>match M[a]? with
  | some (.lst xs)=>atI xs i
  | _=>none
 | _,_=>none
noncomputable def zfr (o:Option T) (M:Mem):Out T:=match o with
 | some t=>.ok t M
 | none=>.bad
noncomputable def ixT:X3:=fun x y M=>zfr (zii M x y) M
theorem Reps.atI {S:Sit} (r:Reps K S ts vs) (e:L2.atI ts i=some t):∃ v,L2.atI vs i=some v/\Rep K S t v:=by
 unfold L2.atI at e ⊢
 rw [← r.1]
 cases q:ixN ts.length i with
 | none=>rw [q] at e;cases e
 | some j=>
  rw [q] at e
  obtain ⟨v,e2,r2⟩:=r.get (show ts[j]? = some t from e)
  exact ⟨v,e2,r2⟩
theorem zol {S:Sit} {tx ty:T} {x:V} (m:MemOk K S) (r1:Rep K S tx x) (r2:Rep K S ty y) (e:zii S.M tx ty=some t) :
  ∃ p vs i v,x = .ref p/\y = .int i/\(SqL K S.H p vs\/SqT K S.H p vs)/\L2.atI vs i=some v/\Rep K S t v:=by
 unfold zii at e
 split at e
 ·cases r2
  cases r1 with
  | @tup _ p vs h l r=>
   obtain ⟨v,e2,r3⟩:=Reps.atI ⟨l,r⟩ e
   exact ⟨p,vs,_,v,rfl,rfl,.inr h,e2,r3⟩
 ·cases r2
  cases r1 with
  | @lst _ p vs h l r=>
   obtain ⟨v,e2,r3⟩:=Reps.atI ⟨l,r⟩ e
   exact ⟨p,vs,_,v,rfl,rfl,.inl (zdM h),e2,r3⟩
 ·split at e
  ·rename_i q
   cases r2
   cases r1 with
   | ref h=>
    obtain ⟨vs,q2,r⟩:=m.cell _ _ q
    obtain ⟨v,e2,r3⟩:=Reps.atI r e
    exact ⟨_,vs,_,v,rfl,rfl,.inl (.inl (.inl q2)),e2,r3⟩
  ·cases e
 ·cases e
theorem zgt {S:Sit} {o:Option T} (fin:Fin XE (Rep K) K S (zfr o S.M) Q):∃ t,o=some t/\Fin XE (Rep K) K S (.ok t S.M) Q:=by
 unfold zfr at fin
 rw?
 ·exact ⟨_,rfl,fin⟩
 ·simp?
theorem ye:IxR X (lR2 XE X.K ixT):=by
 intro va sl pins s σ H x y v u Q I rx ry ⟨S,⟨tx,ty⟩,e,m,⟨r1,r2⟩,fin⟩ hs
 obtain ⟨t,et,fin⟩:=zgt (show Fin XE (Rep X.K) X.K S (zfr (zii S.M tx ty) S.M) Q from fin)
 obtain ⟨p,vs,i,w,e1,e2,hq,ea,r3⟩:=zol m r1 r2 et
 dsimp only at e1 e2
 subst e1;subst e2;subst e
 refine zpP va sl pins s σ S.H _ _ v u Q I rx ry ?_ hs
 rcases hq with hq | hq
 ·exact .inl ⟨p,vs,i,w,rfl,rfl,hq,ea,fin S w rfl (.refl m) r3⟩
 ·exact .inr (.inl ⟨p,vs,i,w,rfl,rfl,hq,ea,fin S w rfl (.refl m) r3⟩)
noncomputable def yy (k:T->Mem->Out T) (ts:List T) (M:Mem):Out T:=match ts with
 | [t]=>k t M
 | _=>.bad
noncomputable def call2 (k:X3) (ts:List T) (M:Mem):Out T:=match ts with
 | [t,u]=>k t u M
 | _=>.bad
theorem zfE {k:T->Mem->Out T} (h:∀ (pins:List (Addr × Obj)) (s:Shared) (σ:L2.St) (S:Sit) (t:T) (x:V) (v:Value) (Q:VK),Inv X pins σ S.H s->RelV x v->MemOk X.K S->Rep X.K S t x->Fin XE (Rep X.K) X.K S (k t S.M) Q->wpAny (model X.prog X.w) X.A (call F [v]) (EP X pins σ Q) X.xe s):CallR X F (lRN XE X.K (yy k)):=by
 intro pins s σ H xs us Q I r ⟨S,ts,e,m,rs,fin⟩
 subst e
 replace fin:Fin XE (Rep X.K) X.K S (yy k ts S.M) Q:=fin
 unfold yy at fin
 rw?
 ·obtain ⟨v,vs,rfl,r1,r2⟩:=rs.consT
  rw [r2.nilT] at r
  obtain ⟨u,rfl,rx⟩:=vals1 r
  exact h pins s σ S _ v u Q I rx m r1 fin
 ·simp?
theorem zfD {k:X3} (h:∀ (pins:List (Addr × Obj)) (s:Shared) (σ:L2.St) (S:Sit) (t1 t2:T) (x1 x2:V) (v1 v2:Value) (Q:VK),Inv X pins σ S.H s->RelV x1 v1->RelV x2 v2->MemOk X.K S->Rep X.K S t1 x1->Rep X.K S t2 x2->Fin XE (Rep X.K) X.K S (k t1 t2 S.M) Q->wpAny (model X.prog X.w) X.A (call F [v1,v2]) (EP X pins σ Q) X.xe s):CallR X F (lRN XE X.K (call2 k)):=by
 intro pins s σ H xs us Q I r ⟨S,ts,e,m,rs,fin⟩
 subst e
 replace fin:Fin XE (Rep X.K) X.K S (call2 k ts S.M) Q:=fin
 unfold call2 at fin
 rw?
 ·obtain ⟨v,vs,rfl,r1,r2⟩:=rs.consT
  obtain ⟨v2,vs2,rfl,r3,r4⟩:=r2.consT
  rw [r4.nilT] at r
  obtain ⟨u,w,rfl,rx,ry⟩:=vals2 r
  exact h pins s σ S _ _ v v2 u w Q I rx ry m r1 r3 fin
 ·simp?
noncomputable def yz:T->Mem->Out T:=fun t M=>match t with
 | .str z=>if z.length<=sizeLine then .ok (.int z.length) M else .bad
 | t=>match yQ t M with
  | some xs=>.ok (.int xs.length) M
  | none=>.bad
theorem qr:CallR X (.builtin "len") (lRN XE X.K (yy yz)):=zfE fun pins s σ S t x v Q I rx m r fin=>by
 unfold yz at fin
 rw?
 ·cases r
  rw?
  ·rename_i hz
   exact ziF pins s σ S.H _ _ Q I (.cons rx .nil) ⟨_,rfl,hz,fin S _ rfl (.refl m) (.int _)⟩
  ·simp?
 ·split at fin
  ·rename_i xs q
   obtain ⟨p,vs,rfl,hq,rs⟩:=zbH m r q
   exact ziG pins s σ S.H _ _ Q I (.cons rx .nil) ⟨p,vs,rfl,hq,by rw [← rs.1];exact fin S _ rfl (.refl m) (.int _)⟩
  ·simp?
noncomputable def zh7:X3:=za0 fun i j M=>.ok (.int (if j > i then j else i)) M
noncomputable def zgA:X3:=za0 fun i j M=>.ok (.int (if j<i then j else i)) M
theorem zg9 (hc:X.calm=true):CallR X (.builtin "max") (lRN XE X.K (call2 zh7)):=zfD fun pins s σ S t1 t2 x1 x2 v1 v2 Q I rx ry m r1 r2 fin=>by
 unfold zh7 za0 at fin
 rw?
 ·cases r1;cases r2
  exact zlC hc pins s σ S.H _ _ Q I (.cons rx (.cons ry .nil)) ⟨_,_,rfl,fin S _ rfl (.refl m) (.int _)⟩
 ·simp?
theorem zeJ (hc:X.calm=true):CallR X (.builtin "min") (lRN XE X.K (call2 zgA)):=zfD fun pins s σ S t1 t2 x1 x2 v1 v2 Q I rx ry m r1 r2 fin=>by
 unfold zgA za0 at fin
 rw?
 ·cases r1;cases r2
  exact zlB hc pins s σ S.H _ _ Q I (.cons rx (.cons ry .nil)) ⟨_,_,rfl,fin S _ rfl (.refl m) (.int _)⟩
 ·simp?
noncomputable def zQ:T->Mem->Out T:=fun t M=>match yQ t M with
 | some xs=>.ok (.tup xs) M
 | none=>.bad
theorem zaM:CallR X (.type "tuple") (lRN XE X.K (yy zQ)):=zfE fun pins s σ S t x v Q I rx m r fin=>by
 unfold zQ at fin
 rw?
 ·rename_i xs q
  obtain ⟨p,vs,rfl,hq,rs⟩:=zbH m r q
  refine zhl pins s σ S.H _ _ Q I (.cons rx .nil) ⟨p,vs,rfl,?_⟩
  rcases hq with hq | hq
  ·refine .inl ⟨hq,fun l hl=>?_⟩
   have s2:=Stp.new m hl (.tup vs)
   exact fin ⟨S.α,S.M,upd S.H l (.tup vs),S.hid⟩ (.ref l) rfl s2 (.tup (.inl (.inl yE)) rs.1 (rs.grow m s2.toGrow).2)
  ·exact .inr ⟨hq,fin S _ rfl (.refl m) (.tup hq rs.1 rs.2)⟩
 ·simp?
noncomputable def zdj:List T->Mem->Out (List T):=fun ts M=>match ts with
 | [t]=>match yQ t M with
  | some xs=>.ok xs M
  | none=>.bad
 | _=>.bad
theorem zko:CallR X (.type "list") (zmg XE X.K zdj):=by
 intro pins s σ H xs us Q I r ⟨S,ts,e,m,rs,fin⟩
 subst e
 replace fin:FinL XE X.K S (zdj ts S.M) Q:=fin
 unfold zdj at fin
 rw?
 ·split at fin
  ·rename_i t ys q
   obtain ⟨v,vs,rfl,r1,r2⟩:=rs.consT
   rw [r2.nilT] at r
   obtain ⟨p,ws,rfl,hq,rs2⟩:=zbH m r1 q
   exact ziE pins s σ S.H _ us Q I r ⟨p,ws,rfl,hq,zfu m fin rs2⟩
  ·simp?
 ·simp?
noncomputable def zeI:T->T->Mem->Out (List T):=fun x y M=>match yo x M,yo y M with
 | some xs,some ys=>if xs.length+ys.length<=sizeLine then .ok (xs++ys) M else .bad
 | _,_=>.bad
theorem zjj:OpR X (binaryOp .Add) (zj7 XE X.K zeI):=by
 injections
 subst e
 replace fin:FinL XE X.K S (zeI tx ty S.M) Q:=fin
 unfold zeI at fin
 rw?
 ·rename_i xs ys q1 q2
  rw?
  ·rename_i hz
   obtain ⟨p,vs,e1,h1,s1⟩:=yC m r1 q1
   obtain ⟨p2,vs2,e2,h2,s2⟩:=yC m r2 q2
   dsimp only at e1 e2
   subst e1;subst e2
   exact zji pins s σ S.H _ _ v u Q I rx ry ⟨p,p2,vs,vs2,rfl,rfl,h1,h2,by rw [← s1.1,← s2.1];exact hz,zfu m fin (s1.app s2)⟩
  ·simp?
 ·simp?
noncomputable def yO (x:T) (ts:List T) (M:Mem):Out T:=match x,ts with
 | .ref a,[t]=>match M[a]? with
  | some (.lst xs)=>if xs.length<sizeLine then .ok .non (M.set a (.lst (xs++[t]))) else .bad
  | _=>.bad
 | _,_=>.bad
noncomputable def zaS (o i t:T) (M:Mem):Out Unit:=match o,i with
 | .ref a,.int k=>match M[a]? with
  | some (.lst xs)=>match ixN xs.length k with
   | some j=>.ok () (M.set a (.lst (xs.set j t)))
   | none=>.bad
  | _=>.bad
 | _,_=>.bad
theorem zdJ {S:Sit} (m:MemOk K S) {a:Nat} {c:Cell} (e:S.M[a]? = some c) (r:Reps K S ts vs):Stp K S (S.put a (.lst vs) (.lst ts)):=by
 have ha:a<S.M.length:=(Qx.mp e).1
 exact Stp.put m ha _ _ ⟨vs,yE,r.grow m (Grow.put m ha _ _)⟩
theorem zdf:zek X (zgD XE X.K zaS):=by
 intro pins s σ H o i v ov iv u Q I ro ri rv ⟨S,⟨⟨to,ti⟩,tv⟩,e,m,⟨⟨r1,r2⟩,r3⟩,fin⟩
 subst e
 replace fin:Fin XE UnR X.K S (zaS to ti tv S.M) (fun _ H'=>Q H'):=fin
 unfold zaS at fin
 rw?
 ·split at fin
  ·rename_i a k _ xs q
   rw?
   ·rename_i j qj
    cases r1
    cases r2
    obtain ⟨vs,q2,rs⟩:=m.cell _ _ q
    refine set_list pins s σ S.H _ _ v ov iv u Q I ro ri rv ⟨S.α a,vs,k,j,rfl,rfl,q2,by rw [← rs.1];exact qj,?_⟩
    exact fin (S.put a (.lst (vs.set j v)) (.lst (xs.set j tv))) () rfl (zdJ m q (rs.set r3 j)) trivial
   ·simp?
  ·simp?
 ·simp?
noncomputable def qD (x:T) (M:Mem):Out T:=match yo x M with
 | some _=>.ok x M
 | none=>.bad
noncomputable def zT (F:T->X4) (f:X8) (g:X1):X8:=fun σ M=>(f σ M).bind fun x M1=>(g σ M1).bind fun ts M2=>F x ts M2
end
noncomputable def zbE (xs:List T) (lo hi:Option Int):List T:=(xs.drop (HT.sIx xs.length 0 lo)).take (HT.sIx xs.length xs.length hi-HT.sIx xs.length 0 lo)
theorem Reps.cutV {S:Sit} (r:Reps K S ts vs) (lo hi:Option Int):Reps K S (zbE ts lo hi) (L2.cutV vs lo hi):=by
 unfold zbE L2.cutV
 rw [← r.1]
 exact r.sub _ _
theorem zkk {lo hi:Option Int} (h:HT.sIx xs.length 0 lo=0/\HT.sIx xs.length xs.length hi=xs.length):zbE xs lo hi=xs:=by
 unfold zbE
 rw [h.1,h.2]
 simp
theorem zgw {S:Sit} (m:MemOk K S) (fin:Fin XE (Rep K) K S (.ok (.tup xs) S.M) Q) (r:Reps K S xs vs):∀ p,S.H p=none->Q (.ref p) (upd S.H p (.tup vs)):=fun p hp=>by
 have s2:=Stp.new m hp (.tup vs)
 exact fin ⟨S.α,S.M,upd S.H p (.tup vs),S.hid⟩ (.ref p) rfl s2 (.tup (.inl (.inl yE)) r.1 (r.grow m s2.toGrow).2)
theorem zgx {S:Sit} (m:MemOk K S) (fin:Fin XE (Rep K) K S (.ok (.lst xs) S.M) Q) (r:Reps K S xs vs):∀ p,S.H p=none->Q (.ref p) (upd S.H p (.lst vs)):=fun p hp=>by
 have s2:=Stp.new m hp (.lst vs)
 exact fin ⟨S.α,S.M,upd S.H p (.lst vs),S.hid⟩ (.ref p) rfl s2 (.lst (.inl ⟨.inl yE,m.off_none hp⟩) r.1 (r.grow m s2.toGrow).2)
noncomputable def zN:X3:=fun x y M=>match x,y with
 | .int i,.int j=>.ok (.int (i+j)) M
 | .str a,.str b=>if a.length+b.length<=sizeLine then .ok (.str (a++b)) M else .bad
 | .tup xs,.tup ys=>if xs.length+ys.length<=sizeLine then .ok (.tup (xs++ys)) M else .bad
 | x,y=>match yo x M,yo y M with
  | some xs,some ys=>if xs.length+ys.length<=sizeLine then .ok (.lst (xs++ys)) M else .bad
  | _,_=>.bad
noncomputable def yR:X3:=fun x y M=>match x,y with
 | .int i,.int j=>if Mo64 i j then .ok (.int (i*j)) M else .bad
 | .tup xs,.int k=>if xs ≠ []/\2<=k/\k<2 ^ 63/\xs.length*k.toNat<=sizeLine then .ok (.tup (List.replicate k.toNat xs).flatten) M else .bad
 | _,_=>.bad
variable {pins:List (Addr × Obj)} {s:Shared}
section
theorem qF:OpR X (binaryOp .Add) (lR2 XE X.K zN):=by
 injections
 subst e
 replace fin:Fin XE (Rep X.K) X.K S (zN tx ty S.M) Q:=fin
 unfold zN at fin
 rw?
 ·cases r1;cases r2
  exact zps pins s σ S.H _ _ v u Q I rx ry ⟨_,_,rfl,rfl,fin S _ rfl (.refl m) (.int _)⟩
 ·cases r1;cases r2
  rw?
  ·rename_i hz
   exact zj2 pins s σ S.H _ _ v u Q I rx ry ⟨_,_,rfl,rfl,hz,fin S _ rfl (.refl m) (.str _)⟩
  ·simp?
 ·split at fin
  ·rename_i hz
   cases r1 with
   | @tup _ p vs h l r=>
   cases r2 with
   | @tup _ p2 vs2 h2 l2 rr2=>
   have r1:Reps X.K S _ vs:=⟨l,r⟩
   have r2:Reps X.K S _ vs2:=⟨l2,rr2⟩
   refine znJ pins s σ S.H _ _ v u Q I rx ry ⟨p,p2,vs,vs2,rfl,rfl,h,h2,by rw [← l,← l2];exact hz,fun e=>?_,fun e1 e2=>?_,fun e1 e2=>zgw m fin (r1.app r2)⟩
   ·subst e
    rw [r1.nil_inv,nil_append] at fin
    exact fin S _ rfl (.refl m) (.tup h2 l2 rr2)
   ·subst e2
    rw [r2.nil_inv,append_nil] at fin
    exact fin S _ rfl (.refl m) (.tup h l r)
  ·simp?
 ·split at fin
  ·rename_i xs ys q1 q2
   rw?
   ·rename_i hz
    obtain ⟨p,vs,e1,h1,s1⟩:=yC m r1 q1
    obtain ⟨p2,vs2,e2,h2,s2⟩:=yC m r2 q2
    dsimp only at e1 e2
    subst e1;subst e2
    exact zji pins s σ S.H _ _ v u Q I rx ry ⟨p,p2,vs,vs2,rfl,rfl,h1,h2,by rw [← s1.1,← s2.1];exact hz,zgx m fin (s1.app s2)⟩
   ·simp?
  ·simp?
theorem Reps.rep {S:Sit} (r:Reps K S ts vs) (n:Nat):Reps K S (List.replicate n ts).flatten (List.replicate n vs).flatten:=by
 induction n with
 | zero=>exact .nil
 | succ n ih=>rw [replicate_succ,replicate_succ,flatten_cons,flatten_cons];exact r.app ih
theorem zao:OpR X (binaryOp .Mult) (lR2 XE X.K yR):=by
 injections
 subst e
 replace fin:Fin XE (Rep X.K) X.K S (yR tx ty S.M) Q:=fin
 unfold yR at fin
 rw?
 ·cases r1;cases r2
  rw?
  ·rename_i h
   exact znG pins s σ S.H _ _ v u Q I rx ry ⟨_,_,rfl,rfl,h.ok,fin S _ rfl (.refl m) (.int _)⟩
  ·simp?
 ·split at fin
  ·rename_i h
   cases r2
   cases r1 with
   | @tup _ p vs hq l r=>
   have r1:Reps X.K S _ vs:=⟨l,r⟩
   exact znA pins s σ S.H _ _ v u Q I rx ry ⟨p,_,vs,rfl,rfl,hq,fun z=>h.1 (by subst z;exact r1.nil_inv),h.2.1,h.2.2.1,by rw [← l];exact h.2.2.2,zgw m fin (r1.rep _)⟩
  ·simp?
 ·simp?
noncomputable def lO (XE:XK) (K:Frag) (f:Ev->Mem->Out (Option Int)):TO:=fun σ H Q=>LN XE EqR K UnR (fun _ σ M=>f σ M) () σ H Q
def GO (X:Cx) (XE:XK) (e:Option Expr) (f:Ev->Mem->Out (Option Int)):Prop:=PO X e (lO XE X.K f)
noncomputable def zdh:Ev->Mem->Out (Option Int):=fun _ M=>.ok none M
noncomputable def zmj (x:T) (M:Mem):Out (Option Int):=match x with
 | .int i=>.ok (some i) M
 | _=>.bad
noncomputable def zbh (f:X8):Ev->Mem->Out (Option Int):=fun σ M=>(f σ M).bind zmj
theorem PO.imp {e:Option Expr} {t t':TO} (h:PO X e t) (i:∀ σ H Q,t' σ H Q->t σ H Q):PO X e t':=fun pins s σ H Q I q=>h pins s σ H Q I (i σ H Q q)
noncomputable def zfB (x:T) (lo hi:Option Int) (M:Mem):Out T:=match x with
 | .tup xs=>.ok (.tup (zbE xs lo hi)) M
 | x=>match yo x M with
  | some xs=>.ok (.lst (zbE xs lo hi)) M
  | none=>.bad
noncomputable def eSl (f:X8) (p q:Ev->Mem->Out (Option Int)):X8:=fun σ M=>(f σ M).bind fun x M1=>(p σ M1).bind fun lo M2=>(q σ M2).bind fun hi M3=>zfB x lo hi M3
noncomputable def zr8 (XE:XK) (K:Frag):V->Option Int->Option Int->Hp->VK->Prop:=fun x lo hi H Q=>∃ S t,S.H=H/\MemOk K S/\Rep K S t x/\Fin XE (Rep K) K S (zfB t lo hi S.M) Q
theorem zoP:SlR X (zr8 XE X.K):=by
 intro pins s σ H x v vl vu lo hi sl Q I rx hs pl pu ⟨S,t,e,m,r,fin⟩
 subst e
 unfold zfB at fin
 rw?
 ·cases r with
  | @tup _ p vs h l r=>
  have r1:Reps X.K S _ vs:=⟨l,r⟩
  refine zm9 pins s σ S.H _ v vl vu lo hi sl Q I rx hs pl pu ⟨p,vs,rfl,h,fun w=>?_,fun w=>zgw m fin (r1.cutV lo hi)⟩
  rw [zkk (by rw [l];exact w)] at fin
  exact fin S _ rfl (.refl m) (.tup h l r)
 ·split at fin
  ·rename_i xs q
   obtain ⟨p,vs,e1,h1,s1⟩:=yC m r q
   subst e1
   exact zna pins s σ S.H _ v vl vu lo hi sl Q I rx hs pl pu ⟨p,vs,rfl,h1,zgx m fin (s1.cutV lo hi)⟩
  ·simp?
noncomputable def zpJ (T U:String):Option Bool:=if (Value.type T==Value.type U)=true then some true else if PySem.W.kitMeta U=true then (PySem.fastBuiltinMro T).map (·.contains (.type U)) else none
noncomputable def tyN (t:T) (M:Mem):Option String:=match t with
 | .non=>some "NoneType" | .bl _=>some "bool" | .int _=>some "int" | .str _=>some "str" | .tup _=>some "tuple" | .lst _=>some "list"
 | .ref a=>match M[a]? with
  | some (.lst _)=>some "list"
  | some (.dic _)=>some "dict"
  | _=>none
 | _=>none
noncomputable def zmU (n U:String):Bool:=n==U || (n == "bool" && U == "int")
noncomputable def zhm:List String:=["NoneType","bool","int","str","tuple","list","dict"]
theorem znY:∀ n ∈ zhm,∀ U ∈ zhm,U ≠ "NoneType"->zpJ n U=some (zmU n U):=by decide +kernel
noncomputable def zaK:X3:=fun t u M=>match u with
 | .ty U=>match tyN t M with
  | some n=>if U ∈ zhm/\U ≠ "NoneType" then .ok (.bl (zmU n U)) M else .bad
  | none=>.bad
 | _=>.bad
theorem zm4 {n:String} (h:tyN t M=some n):n ∈ zhm:=by
 unfold tyN at h
 split at h <;> first | (cases h;decide) | (split at h <;> first | (cases h;decide) | (cases h)) | cases h
theorem zmi {S:Sit} {x:V} {u:Value} {U n:String} {b:Bool} {Q:Value->Shared->Prop} {E:Value->Shared->Prop} (I:L2.Inv X pins σ S.H s) (m:MemOk X.K S) (rx:RelV x u) (r:Rep X.K S t x) (hn:tyN t S.M=some n) (e:zpJ n U=some b) (h:∀ tk,Q (.bool b) { s with toks:=tk }) :
  wpAny (model X.prog X.w) X.A (call (.builtin "isinstance") [u,.type U]) Q E s:=by
 have e':PySem.W.kitOne X.K (.type n) (.type U)=some b:=e
 cases r with
 | non=>cases hn;cases (show u=Value.none from rx);exact PySem.W.kia_one PySem.W.kitx_none I.kIn True.intro e' (fun z=>nomatch z) h
 | bl y=>cases hn;cases (show u=Value.bool y from rx);exact PySem.W.kia_one PySem.W.kitx_bool I.kIn True.intro e' (fun z=>nomatch z) h
 | int i=>cases hn;obtain ⟨t,q⟩:=(show ∃ t,u=Value.int i t from rx);cases q;exact PySem.W.kia_one PySem.W.kitx_int I.kIn True.intro e' (fun z=>nomatch z) h
 | str y=>cases hn;obtain ⟨t,q⟩:=(show ∃ t,u=Value.str y t from rx);cases q;exact PySem.W.kia_one PySem.W.kitx_str I.kIn True.intro e' (fun z=>nomatch z) h
 | ty y=>cases hn
 | @tup ts p vs hq l r=>
  cases hn
  cases (show u=Value.ref p from rx)
  obtain ⟨its,_,pl,_⟩:=I.tuple hq
  obtain ⟨o,h1,h2,_⟩:=pl
  exact PySem.W.kia_one PySem.W.kitx_tuple I.kIn ⟨o,h1,h2⟩ e' (fun z=>nomatch z) h
 | @lst ts p vs hq l r=>
  cases hn
  cases (show u=Value.ref p from rx)
  obtain ⟨its,_,pl,_⟩:=I.list (zdM hq)
  obtain ⟨o,h1,h2⟩:=pl.isList
  exact PySem.W.kia_one PySem.W.kitx_list I.kIn ⟨o,h1,h2.1⟩ e' (fun z=>nomatch z) h
 | @ref a ha=>
  cases (show u=Value.ref _ from rx)
  unfold tyN at hn
  dsimp only at hn
  split at hn
  ·rename_i ts q
   cases hn
   obtain ⟨vs,q2,_⟩:=m.cell a _ q
   obtain ⟨_,_,n,_,h1⟩:=(show ObjOk X.prog X.w S.H s.heap (S.α a) (.lst vs) from I.hok _ _ q2)
   exact PySem.W.kia_one PySem.W.kitx_list I.kIn ⟨_,h1,rfl⟩ e' (fun z=>nomatch z) h
  ·rename_i ts q
   cases hn
   obtain ⟨vs,q2,_⟩:=m.cell a _ q
   obtain ⟨_,_,vs2,_,p⟩:=(show ObjOk X.prog X.w S.H s.heap (S.α a) (.dK vs) from I.hok _ _ q2)
   obtain ⟨o,es,ep,h1,h2,_⟩:=p
   exact PySem.W.kia_one PySem.W.kitx_dict I.kIn ⟨o,h1,h2.1⟩ e' (fun z=>nomatch z) h
  ·cases hn
 | dct h l r=>cases hn
 | exc h hd l r=>cases hn
theorem zbZ:CallR X (.builtin "isinstance") (lRN XE X.K (call2 zaK)):=zfD fun pins s σ S t1 t2 x1 x2 v1 v2 Q I rx ry m r1 r2 fin=>by
 unfold zaK at fin
 rw?
 ·rename_i U
  rw?
  ·rename_i n hn
   rw?
   ·rename_i hU
    cases r2
    cases ry
    exact zmi I m rx r1 hn (znY n (zm4 hn) U hU.1 hU.2) fun tk=>⟨.bl _,S.H,I.tok tk,rfl,fin S _ rfl (.refl m) (.bl _)⟩
   ·simp?
  ·simp?
 ·simp?
end
noncomputable def zbm:T->Bool
 | .non=>true
 | .bl _=>true
 | .int _=>true
 | .str _=>true
 | _=>false
noncomputable def eqS:T->T->Bool
 | .non,.non=>true
 | .bl a,.bl b=>a==b
 | .bl a,.int b=>(if a then 1 else 0)==b
 | .int a,.bl b=>a==(if b then 1 else 0)
 | .int a,.int b=>a==b
 | .str a,.str b=>a==b
 | _,_=>false
noncomputable def eqL (f:T->T->Option Bool):List T->List T->Option Bool
 | [],[]=>some true
 | [],_::_=>some false
 | _::_,[]=>some false
 | x::xs,y::ys=>match f x y,eqL f xs ys with
  | some a,some b=>some (a && b)
  | _,_=>none
noncomputable def eqD (M:Mem):Nat->T->T->Option Bool
 | d,.tup xs,.tup ys=>match d with
  | 0=>none
  | d+1=>eqL (eqD M d) xs ys
 | d,x,y=>if (zbm x && zbm y)=true then some (eqS x y) else match d,yo x M,yo y M with
  | d+1,some xs,some ys=>if xs.length=ys.length then eqL (eqD M d) xs ys else some false
  | _,_,_=>none
noncomputable def eqA:X3:=fun x y M=>match eqD M 20 x y with
 | some b=>.ok (.bl b) M
 | none=>.bad
noncomputable def neA:X3:=fun x y M=>match eqD M 20 x y with
 | some b=>.ok (.bl (!b)) M
 | none=>.bad
theorem zef {f:T->T->Option Bool}:∀ {xs ys:List T} {b:Bool},eqL f xs ys=some b->
  ∃ e:Nat->Bool,(∀ j x y,xs[j]? = some x->ys[j]? = some y->f x y=some (e j))/\b=((List.range (min xs.length ys.length)).all e && xs.length==ys.length)
 | [],[],b,h=>by cases h;exact ⟨fun _=>true,fun j x y e1=>by simp at e1,by simp⟩
 | [],_::_,b,h=>by cases h;exact ⟨fun _=>true,fun j x y e1=>by simp at e1,by simp⟩
 | _::_,[],b,h=>by cases h;exact ⟨fun _=>true,fun j x y _ e1=>by simp at e1,by simp⟩
 | x::xs,y::ys,b,h=>by
  unfold eqL at h
  cases q1:f x y with
  | none=>rw [q1] at h;cases h
  | some a=>
   cases q2:eqL f xs ys with
   | none=>rw [q1,q2] at h;cases h
   | some c=>
    rw [q1,q2] at h
    cases h
    obtain ⟨e,h1,h2⟩:=zef q2
    refine ⟨fun j=>match j with | 0=>a | j+1=>e j,fun j u v e1 e2=>?_,?_⟩
    ·cases j with
     | zero=>simp at e1 e2;subst e1;subst e2;exact q1
     | succ j=>exact h1 j u v (by simpa using e1) (by simpa using e2)
    ·rw [h2]
     have:min (x::xs).length (y::ys).length=min xs.length ys.length+1:=by simp only [Qp];omega
     rw [this,List.range_succ_eq_map,all_cons,List.all_map]
     simp [Bool.and_assoc,Function.comp_def]
variable {A:Around}
section
variable {S:Sit}
theorem qQ (r:Rep K S t v) (h:zbm t=true):zaz v=true:=by
 cases r <;> first | rfl | (exact absurd (show false=true from h) Q4)
theorem zeW {w:V} (r:Rep K S t v) (q:Rep K S u w) (h:zbm t=true) (h2:zbm u=true):eqS t u=eqV v w:=by
 cases r <;> first | (exact absurd (show false=true from h) Q4) | (cases q <;> first | rfl | (exact absurd (show false=true from h2) Q4))
theorem zja (r:Rep K S t v) (q:Rep K S u v) (h:zbm t=true) (h2:zbm u=true):eqS t u=true:=by
 rw [zeW r q h h2]
 exact zmE v (qQ r h)
theorem zmF (I:L2.Inv X pins σ S.H s) (m:MemOk X.K S):∀ (d:Nat) {t u:T} {v:V} {b:Bool},Rep X.K S t v->Rep X.K S u v->eqD S.M d t u=some b->b=true:=by
 intro d
 induction d with
 | zero=>
  intro t u v b r q h
  unfold eqD at h
  split at h
  ·cases h
  ·split at h
   ·rename_i hs
    rw [Qs] at hs
    cases h
    exact zja r q hs.1 hs.2
   ·cases h
 | succ d ih=>
  have key:∀ {xs ys:List T} {vs:List V} {b:Bool},Reps X.K S xs vs->Reps X.K S ys vs->eqL (eqD S.M d) xs ys=some b->b=true:=by
   intro xs ys vs b r q h
   obtain ⟨e,h1,h2⟩:=zef h
   rw [h2,r.1,q.1]
   simp only [Nat.min_self,beq_self_eq_true,Bool.and_true,all_eq_true,mem_range]
   intro j hj
   have hx:j<xs.length:=by rw [r.1];exact hj
   have hy:j<ys.length:=by rw [q.1];exact hj
   have ex:xs[j]? = some xs[j]:=by simp [hx]
   have ey:ys[j]? = some ys[j]:=by simp [hy]
   have ev:vs[j]? = some vs[j]:=by simp [hj]
   exact ih (r.2 j _ _ ex ev) (q.2 j _ _ ey ev) (h1 j _ _ ex ey)
  intro t u v b r q h
  unfold eqD at h
  split at h
  ·cases r with
   | @tup _ p vs h1 l1 r1=>
   cases q with
   | @tup _ _ vs2 h2 l2 r2=>
   have:=I.tuple_inj h1 h2
   subst this
   exact key ⟨l1,r1⟩ ⟨l2,r2⟩ h
  ·split at h
   ·rename_i hs
    rw [Qs] at hs
    cases h
    exact zja r q hs.1 hs.2
   ·split at h
    ·rename_i d' xs ys hd q1 q2
     cases hd
     obtain ⟨p,vs,e1,hq1,s1⟩:=yC m r q1
     obtain ⟨p2,vs2,e2,hq2,s2⟩:=yC m q q2
     rw [e1] at e2
     cases e2
     have:=I.list_inj hq1 hq2
     subst this
     rw [Qy (by rw [s1.1,s2.1])] at h
     exact key s1 s2 h
    ·cases h
theorem zlq (I:L2.Inv X pins σ S.H s) (m:MemOk X.K S):∀ (d:Nat) {A:Around} {t u:T} {v w:V} {x y:Value} {b:Bool},A.units+d<cLine->RelV v x->RelV w y->Rep X.K S t v->Rep X.K S u w->eqD S.M d t u=some b->SeqAt.EqAt A s x y b:=by
 intro d
 induction d with
 | zero=>
  intro A t u v w x y b hu rx ry r q h
  unfold eqD at h
  split at h
  ·cases h
  ·split at h
   ·rename_i hs
    rw [Qs] at hs
    cases h
    rw [zeW r q hs.1 hs.2]
    exact zis rx ry (qQ r hs.1) (qQ q hs.2)
   ·cases h
 | succ d ih=>
  have key:∀ {A:Around} {xs ys:List T} {vs ws:List V} {us zs:List Value} {b:Bool},A.units+d<cLine->Reps X.K S xs vs->Reps X.K S ys ws->Vals vs us->Vals ws zs->eqL (eqD S.M d) xs ys=some b->
    ∃ e:Nat->Bool,(∀ j (h1:j<us.toArray.size) (h2:j<zs.toArray.size),SeqAt.EqAt A s us.toArray[j] zs.toArray[j] (e j))/\b=((List.range (min us.toArray.size zs.toArray.size)).all e && us.toArray.size==zs.toArray.size):=by
   intro A xs ys vs ws us zs b hu r q hv hw h
   obtain ⟨e,h1,h2⟩:=zef h
   have l1:us.length=xs.length:=by rw [← hv.length,r.1]
   have l2:zs.length=ys.length:=by rw [← hw.length,q.1]
   refine ⟨e,fun j g1 g2=>?_,by rw [h2,Qi,Qi,l1,l2]⟩
   have g1':j<us.length:=by simpa using g1
   have g2':j<zs.length:=by simpa using g2
   have ex:xs[j]? = some (xs[j]'(by omega)):=Q0 (by omega)
   have ey:ys[j]? = some (ys[j]'(by omega)):=Q0 (by omega)
   obtain ⟨v,ev,rv⟩:=r.get ex
   obtain ⟨w,ew,rw'⟩:=q.get ey
   obtain ⟨a,ea,ra⟩:=Vals.get hv ev
   obtain ⟨c,ec,rc⟩:=Vals.get hw ew
   have:us.toArray[j]=a:=by
    rw [getElem_toArray];rw [Q0 g1'] at ea;exact Qd ea
   rw [this]
   have:zs.toArray[j]=c:=by
    rw [getElem_toArray];rw [Q0 g2'] at ec;exact Qd ec
   rw [this]
   exact ih hu ra rc rv rw' (h1 j _ _ ex ey)
  intro A t u v w x y b hu rx ry r q h
  have hsame:v=w->b=true:=fun z=>by subst z;exact zmF I m (d+1) r q h
  unfold eqD at h
  split at h
  ·cases r with
   | @tup _ p vs h1 l1 r1=>
   cases q with
   | @tup _ p2 vs2 h2 l2 r2=>
   cases rx
   cases ry
   by_cases hp:p=p2
   ·subst hp
    rw [hsame rfl]
    exact SeqAt.EqAt.same _
   ·obtain ⟨its,ri,pl,_⟩:=I.tuple h1
    obtain ⟨its2,ri2,pl2,_⟩:=I.tuple h2
    obtain ⟨e,he,eb⟩:=key (A:=A.in1) (by show A.units+1+d<cLine;omega) ⟨l1,r1⟩ ⟨l2,r2⟩ ri ri2 h
    rw [eb]
    exact SeqAt.EqAt.of_refs hp (SeqAt.RcAt.tuples pl pl2 (by omega) he)
  ·split at h
   ·rename_i hs
    rw [Qs] at hs
    cases h
    rw [zeW r q hs.1 hs.2]
    exact zis rx ry (qQ r hs.1) (qQ q hs.2)
   ·split at h
    ·rename_i d' xs ys hd q1 q2
     cases hd
     obtain ⟨p,vs,e1,hq1,s1⟩:=yC m r q1
     obtain ⟨p2,vs2,e2,hq2,s2⟩:=yC m q q2
     subst e1
     subst e2
     cases rx
     cases ry
     by_cases hp:p=p2
     ·subst hp
      rw [hsame rfl]
      exact SeqAt.EqAt.same _
     ·obtain ⟨its,ri,pl,_⟩:=I.list hq1
      obtain ⟨its2,ri2,pl2,_⟩:=I.list hq2
      have lz:its.length=xs.length:=by rw [← ri.length,s1.1]
      have lz2:its2.length=ys.length:=by rw [← ri2.length,s2.1]
      by_cases hl:xs.length=ys.length
      ·rw [Qy hl] at h
       obtain ⟨e,he,eb⟩:=key (A:=A.in1) (by show A.units+1+d<cLine;omega) s1 s2 ri ri2 h
       have hsz:its.toArray.size=its2.toArray.size:=by simp [lz,lz2,hl]
       rw [eb,hsz,Nat.min_self,beq_self_eq_true,Bool.and_true,← hsz]
       exact SeqAt.EqAt.of_refs hp (SeqAt.RcAt.lists pl.isList pl2.isList hsz (by omega) he)
      ·rw [Qz hl] at h
       cases h
       exact SeqAt.EqAt.of_refs hp (SeqAt.RcAt.lists_lengths pl.isList pl2.isList (by simp [lz,lz2,hl]) (by omega))
    ·cases h
theorem zoU {x:V} {u v:Value} (ry:RelV y u) (rx:RelV x v) (fy:zaz y=true) (fx:zaz x=true):SeqAt.RcAt A s u v (eqV y x):=by
 cases y with
 | non=>
  cases ry
  cases x with
  | non=>cases rx;exact SeqAt.RcAt.none_none
  | bl b=>cases rx;exact SeqAt.RcAt.none_bool b
  | int b=>obtain ⟨t,rfl⟩:=rx;exact SeqAt.RcAt.none_int b t
  | str b=>obtain ⟨t,rfl⟩:=rx;exact SeqAt.RcAt.none_str b t
  | _=>exact?
 | bl a=>
  cases ry
  cases x with
  | non=>cases rx;exact SeqAt.RcAt.bool_none a
  | bl b=>cases rx;exact SeqAt.RcAt.bool_bool a b
  | int b=>obtain ⟨t,rfl⟩:=rx;exact SeqAt.RcAt.bool_int a b t
  | str b=>obtain ⟨t,rfl⟩:=rx;exact SeqAt.RcAt.bool_str a b t
  | _=>exact?
 | int a=>
  obtain ⟨t',rfl⟩:=ry
  cases x with
  | non=>cases rx;exact SeqAt.RcAt.int_none a t'
  | bl b=>cases rx;exact SeqAt.RcAt.int_bool a t' b
  | int b=>obtain ⟨t,rfl⟩:=rx;exact SeqAt.RcAt.int_int a t' b t
  | str b=>obtain ⟨t,rfl⟩:=rx;exact SeqAt.RcAt.int_str a t' b t
  | _=>exact?
 | str a=>
  obtain ⟨t',rfl⟩:=ry
  cases x with
  | non=>cases rx;exact SeqAt.RcAt.str_none a t'
  | bl b=>cases rx;exact SeqAt.RcAt.str_bool a t' b
  | int b=>obtain ⟨t,rfl⟩:=rx;exact SeqAt.RcAt.str_int a t' b t
  | str b=>obtain ⟨t,rfl⟩:=rx;exact SeqAt.RcAt.str_str a t' b t
  | _=>exact?
 | _=>exact absurd (show false=true from fy) Q4
theorem zlW {x:V} {u v:Value} (ry:RelV y u) (rx:RelV x v) (fy:zaz y=true) (fx:zaz x=true):SeqAt.RcNeAt A s u v (!eqV y x):=by
 cases y with
 | non=>
  cases ry
  cases x with
  | non=>cases rx;exact SeqAt.RcNeAt.none_none
  | bl b=>cases rx;exact SeqAt.RcNeAt.none_bool b
  | int b=>obtain ⟨t,rfl⟩:=rx;exact SeqAt.RcNeAt.none_int b t
  | str b=>obtain ⟨t,rfl⟩:=rx;exact SeqAt.RcNeAt.none_str b t
  | _=>exact?
 | bl a=>
  cases ry
  cases x with
  | non=>cases rx;exact SeqAt.RcNeAt.bool_none a
  | bl b=>cases rx;exact SeqAt.RcNeAt.bool_bool a b
  | int b=>obtain ⟨t,rfl⟩:=rx;exact SeqAt.RcNeAt.bool_int a b t
  | str b=>obtain ⟨t,rfl⟩:=rx;exact SeqAt.RcNeAt.bool_str a b t
  | _=>exact?
 | int a=>
  obtain ⟨t',rfl⟩:=ry
  cases x with
  | non=>cases rx;exact SeqAt.RcNeAt.int_none a t'
  | bl b=>cases rx;exact SeqAt.RcNeAt.int_bool a t' b
  | int b=>obtain ⟨t,rfl⟩:=rx;exact SeqAt.RcNeAt.int_int a t' b t
  | str b=>obtain ⟨t,rfl⟩:=rx;exact SeqAt.RcNeAt.int_str a t' b t
  | _=>exact?
 | str a=>
  obtain ⟨t',rfl⟩:=ry
  cases x with
  | non=>cases rx;exact SeqAt.RcNeAt.str_none a t'
  | bl b=>cases rx;exact SeqAt.RcNeAt.str_bool a t' b
  | int b=>obtain ⟨t,rfl⟩:=rx;exact SeqAt.RcNeAt.str_int a t' b t
  | str b=>obtain ⟨t,rfl⟩:=rx;exact SeqAt.RcNeAt.str_str a t' b t
  | _=>exact?
 | _=>exact absurd (show false=true from fy) Q4
theorem zlp (I:L2.Inv X pins σ S.H s) (m:MemOk X.K S) (d:Nat) {w:V} {x y:Value} {b:Bool} (hu:A.units+d<cLine) (rx:RelV v x) (ry:RelV w y) (r:Rep X.K S t v) (q:Rep X.K S u w) (h:eqD S.M d t u=some b):SeqAt.RcAt A s x y b/\SeqAt.RcNeAt A s x y (!b):=by
 have at_:∀ {A:Around} {d:Nat} {xs ys:List T} {vs ws:List V} {us zs:List Value} {b:Bool},A.units+d<cLine->Reps X.K S xs vs->Reps X.K S ys ws->Vals vs us->Vals ws zs->eqL (eqD S.M d) xs ys=some b->
    ∃ e:Nat->Bool,(∀ j (h1:j<us.toArray.size) (h2:j<zs.toArray.size),SeqAt.EqAt A s us.toArray[j] zs.toArray[j] (e j))/\b=((List.range (min us.toArray.size zs.toArray.size)).all e && us.toArray.size==zs.toArray.size):=by
  intro A d xs ys vs ws us zs b hu r q hv hw h
  obtain ⟨e,h1,h2⟩:=zef h
  have l1:us.length=xs.length:=by rw [← hv.length,r.1]
  have l2:zs.length=ys.length:=by rw [← hw.length,q.1]
  refine ⟨e,fun j g1 g2=>?_,by rw [h2,Qi,Qi,l1,l2]⟩
  have g1':j<us.length:=by simpa using g1
  have g2':j<zs.length:=by simpa using g2
  have ex:xs[j]? = some (xs[j]'(by omega)):=Q0 (by omega)
  have ey:ys[j]? = some (ys[j]'(by omega)):=Q0 (by omega)
  obtain ⟨v,ev,rv⟩:=r.get ex
  obtain ⟨w,ew,rw'⟩:=q.get ey
  obtain ⟨a,ea,ra⟩:=Vals.get hv ev
  obtain ⟨c,ec,rc⟩:=Vals.get hw ew
  have:us.toArray[j]=a:=by
   rw [getElem_toArray];rw [Q0 g1'] at ea;exact Qd ea
  rw [this]
  have:zs.toArray[j]=c:=by
   rw [getElem_toArray];rw [Q0 g2'] at ec;exact Qd ec
  rw [this]
  exact zlq I m d hu ra rc rv rw' (h1 j _ _ ex ey)
 unfold eqD at h
 split at h
 ·split at h
  ·cases h
  ·rename_i d
   cases r with
   | @tup _ p vs h1 l1 r1=>
   cases q with
   | @tup _ p2 vs2 h2 l2 r2=>
   cases rx
   cases ry
   obtain ⟨its,ri,pl,_⟩:=I.tuple h1
   obtain ⟨its2,ri2,pl2,_⟩:=I.tuple h2
   obtain ⟨e,he,eb⟩:=at_ (A:=A.in1) (by show A.units+1+d<cLine;omega) ⟨l1,r1⟩ ⟨l2,r2⟩ ri ri2 h
   rw [eb]
   exact ⟨SeqAt.RcAt.tuples pl pl2 (by omega) he,SeqAt.RcNeAt.tuples pl pl2 (by omega) he⟩
 ·split at h
  ·rename_i hs
   rw [Qs] at hs
   cases h
   rw [zeW r q hs.1 hs.2]
   exact ⟨zoU rx ry (qQ r hs.1) (qQ q hs.2),zlW rx ry (qQ r hs.1) (qQ q hs.2)⟩
  ·split at h
   ·rename_i d' xs ys q1 q2
    obtain ⟨p,vs,e1,hq1,s1⟩:=yC m r q1
    obtain ⟨p2,vs2,e2,hq2,s2⟩:=yC m q q2
    subst e1
    subst e2
    cases rx
    cases ry
    obtain ⟨its,ri,pl,_⟩:=I.list hq1
    obtain ⟨its2,ri2,pl2,_⟩:=I.list hq2
    have lz:its.length=xs.length:=by rw [← ri.length,s1.1]
    have lz2:its2.length=ys.length:=by rw [← ri2.length,s2.1]
    by_cases hl:xs.length=ys.length
    ·rw [Qy hl] at h
     obtain ⟨e,he,eb⟩:=at_ (A:=A.in1) (by show A.units+1+d'<cLine;omega) s1 s2 ri ri2 h
     have hsz:its.toArray.size=its2.toArray.size:=by simp [lz,lz2,hl]
     rw [eb,hsz,Nat.min_self,beq_self_eq_true,Bool.and_true,← hsz]
     exact ⟨SeqAt.RcAt.lists pl.isList pl2.isList hsz (by omega) he,SeqAt.RcNeAt.lists pl.isList pl2.isList hsz (by omega) he⟩
    ·rw [Qz hl] at h
     cases h
     exact ⟨SeqAt.RcAt.lists_lengths pl.isList pl2.isList (by simp [lz,lz2,hl]) (by omega),SeqAt.RcNeAt.lists_lengths pl.isList pl2.isList (by simp [lz,lz2,hl]) (by omega)⟩
   ·cases h
theorem yB (hu:X.A.units+64<cLine):OpR X (compareOp .Eq) (lR2 XE X.K eqA):=by
 injections
 subst e
 replace fin:Fin XE (Rep X.K) X.K S (eqA tx ty S.M) Q:=fin
 unfold eqA at fin
 rw?
 ·rename_i b q
  exact (zlp I m 20 (A:=X.A) (by omega) rx ry r1 r2 q).1 _ _ _ _ ⟨.bl b,S.H,I,rfl,fin S _ rfl (.refl m) (.bl _)⟩
 ·simp?
theorem zcu (hu:X.A.units+64<cLine):OpR X (compareOp .NotEq) (lR2 XE X.K neA):=by
 injections
 subst e
 replace fin:Fin XE (Rep X.K) X.K S (neA tx ty S.M) Q:=fin
 unfold neA at fin
 rw?
 ·rename_i b q
  exact (zlp I m 20 (A:=X.A) (by omega) rx ry r1 r2 q).2 _ _ _ _ ⟨.bl (!b),S.H,I,rfl,fin S _ rfl (.refl m) (.bl _)⟩
 ·simp?
noncomputable def inA:X3:=fun x y M=>match yQ y M with
 | some ys=>if (zbm x && ys.all zbm)=true then .ok (.bl (ys.any fun y=>eqS y x)) M else .bad
 | none=>.bad
noncomputable def zj3:X3:=fun x y M=>match yQ y M with
 | some ys=>if (zbm x && ys.all zbm)=true then .ok (.bl (!ys.any fun y=>eqS y x)) M else .bad
 | none=>.bad
theorem zhx {K:Frag} {x:T} {v:V} (rx:Rep K S x v) (hx:zbm x=true):∀ {ys:List T} {vs:List V},Reps K S ys vs->ys.all zbm=true->vs.all zaz=true/\inV v vs=ys.any fun y=>eqS y x
 | [],vs,r,_=>by rw [r.nilT];exact ⟨rfl,rfl⟩
 | y::ys,vs,r,h=>by
  obtain ⟨w,ws,rfl,r1,r2⟩:=r.consT
  rw [all_cons,Qs] at h
  obtain ⟨h1,h2⟩:=zhx rx hx r2 h.2
  refine ⟨by rw [all_cons,qQ r1 h.1,h1];rfl,?_⟩
  unfold inV at h2 ⊢
  rw [any_cons,any_cons,h2,zeW r1 rx h.1 hx]
theorem zpr:OpR X (compareOp .In) (lR2 XE X.K inA):=by
 injections
 subst e
 replace fin:Fin XE (Rep X.K) X.K S (inA tx ty S.M) Q:=fin
 unfold inA at fin
 rw?
 ·rename_i ys q
  rw?
  ·rename_i hs
   rw [Qs] at hs
   obtain ⟨p,vs,e1,hq,rs⟩:=zbH m r2 q
   dsimp only at e1
   subst e1
   obtain ⟨a1,a2⟩:=zhx r1 hs.1 rs hs.2
   exact zkR pins s σ S.H _ _ v u Q I rx ry ⟨p,vs,rfl,hq,qQ r1 hs.1,a1,by rw [a2];exact fin S _ rfl (.refl m) (.bl _)⟩
  ·simp?
 ·simp?
theorem znE:OpR X (compareOp .NotIn) (lR2 XE X.K zj3):=by
 injections
 subst e
 replace fin:Fin XE (Rep X.K) X.K S (zj3 tx ty S.M) Q:=fin
 unfold zj3 at fin
 rw?
 ·rename_i ys q
  rw?
  ·rename_i hs
   rw [Qs] at hs
   obtain ⟨p,vs,e1,hq,rs⟩:=zbH m r2 q
   dsimp only at e1
   subst e1
   obtain ⟨a1,a2⟩:=zhx r1 hs.1 rs hs.2
   exact zh1 pins s σ S.H _ _ v u Q I rx ry ⟨p,vs,rfl,hq,qQ r1 hs.1,a1,by rw [Qy rfl,a2];exact fin S _ rfl (.refl m) (.bl _)⟩
  ·simp?
 ·simp?
end
section
noncomputable def zsc:List T->Option (List Int)
 | []=>some []
 | .int b::r=>(zsc r).map (b :: ·)
 | _=>none
noncomputable def getL:X3:=fun x y M=>match y,yo x M with
 | .int i,some xs=>zfr (atI xs i) M
 | _,_=>.bad
theorem zrm:ziN X (lR2 XE X.K getL):=by
 injections
 subst e
 replace fin:Fin XE (Rep X.K) X.K S (getL tx ty S.M) Q:=fin
 unfold getL at fin
 rw?
 ·rename_i i xs q
  obtain ⟨t,et,fin⟩:=zgt fin
  obtain ⟨p,vs,e1,hq,rs⟩:=yC m r1 q
  dsimp only at e1
  subst e1
  cases r2
  obtain ⟨w,ew,rw'⟩:=rs.atI et
  exact zms pins s σ S.H _ _ v u Q I rx ry ⟨p,vs,i,w,rfl,rfl,hq,ew,fin S w rfl (.refl m) rw'⟩
 ·simp?
theorem zn1:PIp X .Add (lR2 XE X.K zdC):=by
 injections
 subst e
 replace fin:Fin XE (Rep X.K) X.K S (zdC tx ty S.M) Q:=fin
 unfold zdC za0 at fin
 rw?
 ·cases r1;cases r2
  exact zpR pins s σ S.H _ _ v u Q I rx ry ⟨_,_,rfl,rfl,fin S _ rfl (.refl m) (.int _)⟩
 ·simp?
end
noncomputable def zlV (o:Out Fl):Out T:=match o with
 | .ok (.rt t) M'=>.ok t M'
 | .ok (.nx _) M'=>.ok .non M'
 | _=>.bad
theorem zkG {p:Nat} {g:X5} (h:ts.length=p):yi p n g ts M=zlV (g (startT n ts) M):=by
 unfold yi
 rw [Qy h]
 rfl
theorem zsr:zlV (.ok (.rt t) M) = .ok t M:=rfl
theorem zss {σ:Ev} :zlV (.ok (.nx σ) M) = .ok .non M:=rfl
theorem zsN {β:Type} {b:Bool} {k:Bool->Mem->Out β}:blT (.bl b) M k=k b M:=rfl
theorem qf {k:X5} {σ:Ev} :zbO k (.nx σ) M=k σ M:=rfl
theorem zrD {k:X5} :zbO k (.rt t) M = .ok (.rt t) M:=rfl
theorem zrF {k:X5} {σ:Ev} :zbO k (.bk σ) M = .ok (.bk σ) M:=rfl
theorem zrE {k:X5} {σ:Ev} :zbO k (.ct σ) M = .ok (.ct σ) M:=rfl
theorem zr2 {k:X5} {σ:Ev} :zY k (.nx σ) M=k σ M:=rfl
theorem zr1 {k:X5} :zY k (.rt t) M = .ok (.rt t) M:=rfl
theorem zr4 {k:X5} {σ:Ev} :zY k (.bk σ) M = .ok (.nx σ) M:=rfl
theorem zr3 {k:X5} {σ:Ev} :zY k (.ct σ) M=k σ M:=rfl
theorem zlj {x:T} {σ:Ev} :forL bd body (x::xs) σ M=(bd x σ M).bind fun σ1 M1=>(body σ1 M1).bind (zY (forL bd body xs)):=rfl
theorem zsx {k:T->Mem->Out T} :yy k [t] M=k t M:=rfl
theorem zsw {k:X3} :call2 k [t,u] M=k t u M:=rfl
theorem zsA:zN (.int i) (.int j) M = .ok (.int (i+j)) M:=rfl
theorem zso:zep (.int i) (.int j) M = .ok (.int (i-j)) M:=rfl
theorem znM (h:Mo64 i j):yR (.int i) (.int j) M = .ok (.int (i*j)) M:=Qy h
theorem zeY (h:j ≠ 0/\j.natAbs<10 ^ 2000):zeg (.int i) (.int j) M = .ok (.int (i.fdiv j)) M:=Qy h
theorem zjl (h:j ≠ 0):zbU (.int i) (.int j) M = .ok (.int (i.fmod j)) M:=Qy h
theorem zst (h:0<=j/\j<=1000000/\i.natAbs<2 ^ 64):zjZ (.int i) (.int j) M = .ok (.int (i ^ j.toNat)) M:=Qy h
theorem zsG:ltI (.int i) (.int j) M = .ok (.bl (decide (i<j))) M:=rfl
theorem zsH:leI (.int i) (.int j) M = .ok (.bl (decide (i<=j))) M:=rfl
theorem zsJ:gtI (.int i) (.int j) M = .ok (.bl (decide (j<i))) M:=rfl
theorem zsK:geI (.int i) (.int j) M = .ok (.bl (decide (j<=i))) M:=rfl
theorem zsD:zh5 (.int i) M = .ok (.int (-i)) M:=rfl
theorem zsu:zh7 (.int i) (.int j) M = .ok (.int (if j > i then j else i)) M:=rfl
theorem zsL:eqA (.int i) (.int j) M = .ok (.bl (i==j)) M:=rfl
theorem zsE:neA (.int i) (.int j) M = .ok (.bl (!(i==j))) M:=rfl
theorem zsI {a b:Bool} :isB (.bl a) (.bl b) M = .ok (.bl (a==b)) M:=rfl
theorem zsa {a b:Bool} :zrf (.bl a) (.bl b) M = .ok (.bl (a != b)) M:=rfl
theorem zbl {α:Type} {xs:List α} :atI xs (n:Int)=xs[n]?:=by
 unfold atI ixN
 by_cases h:n<xs.length
 ·simp [h]
 ·simp [h]
theorem zrA {α:Type} {x:α} {l:List α}:atI (x::l) 0=some x:=by have:=zbl (xs:=x::l) (n:=0);exact this
theorem zsX {α:Type} {x y:α} {l:List α}:atI (x::y::l) 1=some y:=by have:=zbl (xs:=x::y::l) (n:=1);exact this
theorem zsW {α:Type} {x y z:α} {l:List α}:atI (x::y::z::l) 2=some z:=by have:=zbl (xs:=x::y::z::l) (n:=2);exact this
theorem zsV {α:Type} {x y z w:α} {l:List α}:atI (x::y::z::w::l) 3=some w:=by have:=zbl (xs:=x::y::z::w::l) (n:=3);exact this
theorem zsT:ixN (n+1) 0=some 0:=by unfold ixN;simp
theorem zsS:ixN (n+2) 1=some 1:=by unfold ixN;simp;omega
theorem zsR:ixN (n+3) 2=some 2:=by unfold ixN;simp;omega
theorem zO {a:Nat} (e:M[a]? = some (.lst xs)) (h:xs.length<sizeLine):yO (.ref a) [t] M = .ok .non (M.set a (.lst (xs++[t]))):=by
 unfold yO
 simp only [e,Qy h]
theorem qE {a:Nat} (e:M[a]? = some (.lst xs)):qD (.ref a) M = .ok (.ref a) M:=by
 unfold qD yo
 simp only [e]
theorem zdW {a:Nat} (e:M[a]? = some (.lst xs)):zQ (.ref a) M = .ok (.tup xs) M:=by
 unfold zQ yQ yo
 simp only [e]
theorem zoT (h:-(2 ^ 62)<=j/\j<2 ^ 62):zbT [.int j] M = .ok (zdx 0 j.toNat) M:=Qy h
theorem zsM:zeg (.int i) (.int 8) M = .ok (.int (i.fdiv 8)) M:=zeY ⟨by decide,Q5 (show (8:Int).natAbs<10 ^ 1 by decide) (Nat.pow_le_pow_right (by decide) (by decide))⟩
theorem zaY (h:-(2 ^ 64)<i/\i<2 ^ 64):yR (.int i) (.int j) M = .ok (.int (i*j)) M:=znM (.inr (.inl h))
theorem zkh (n:Nat) (hn:n<=2000) (h0:j ≠ 0) (h:j.natAbs<10 ^ n):j ≠ 0/\j.natAbs<10 ^ 2000:=⟨h0,Q5 h (Nat.pow_le_pow_right (by decide) hn)⟩
structure Po where
 a:Int
 b:Int
 c:Int
noncomputable def Po.cell (p:Po):Cell:=.lst [.int p.a,.int p.b,.int p.c]
noncomputable def Po.dig (p:Po) (base:Int):Int:=if 0<p.a then p.a % base else
 let mixed:=(p.b+7919*(p.c+1)) % 1000000007
 let stir:=(mixed+11)*(mixed+48271) % 998244353
 (stir*stir % 2147483647 / 8) % base
noncomputable def Po.nxt (p:Po) (base:Int):Po:=if 0<p.a then ⟨p.a / base,p.b,p.c⟩ else ⟨p.a,p.b,p.c+1⟩
noncomputable def Po.new (cell:Int):Po:=⟨if cell-10 ^ 18 > 0 then cell-10 ^ 18 else 0,cell % 10 ^ 18,0⟩
theorem Po.dig_lo (p:Po) {base:Int} (h:0<base):0<=p.dig base:=by
 unfold Po.dig
 split
 ·exact Int.emod_nonneg _ (by omega)
 ·exact Int.emod_nonneg _ (by omega)
theorem Po.dig_hi (p:Po) {base:Int} (h:0<base):p.dig base<base:=by
 unfold Po.dig
 split
 ·exact Int.emod_lt_of_pos _ h
 ·exact Int.emod_lt_of_pos _ h
theorem zr6:yz (.tup xs) M = .ok (.int xs.length) M:=rfl
theorem zme:yz (.lst xs) M = .ok (.int xs.length) M:=rfl
theorem zfw {a:Nat} (e:M[a]? = some (.lst xs)):yz (.ref a) M = .ok (.int xs.length) M:=by
 unfold yz yQ yo
 simp only [e]
theorem zlG {α:Type} {xs:List α} (h0:0<=i) (h1:i<xs.length):∃ x,atI xs i=some x/\x ∈ xs:=by
 obtain ⟨n,rfl⟩:∃ n:Nat,i=n:=⟨i.toNat,by omega⟩
 have hn:n<xs.length:=by omega
 exact ⟨xs[n],by rw [zbl];simp [hn],getElem_mem hn⟩
theorem zsz {ys:List T} (h:xs.length+ys.length<=sizeLine):zN (.tup xs) (.tup ys) M = .ok (.tup (xs++ys)) M:=Qy h
noncomputable def zic:T->Option Key
 | .int i=>some (.inl i)
 | .str x=>some (.inr x)
 | _=>none
noncomputable def zf7 (t:T) (M:Mem):Option (List (Key × T)):=match t with
 | .ref a=>match M[a]? with
  | some (.dic kvs)=>some kvs
  | _=>none
 | .dct kvs=>some kvs
 | _=>none
noncomputable def yW {κ:Type} [DecidableEq κ] (kvs:List (κ × T)) (k:κ):Option T:=(kvs.find? fun kv=>decide (kv.1=k)).map (·.2)
noncomputable def za5 {κ:Type} [DecidableEq κ] (kvs:List (κ × T)) (k:κ) (t:T):List (κ × T):=
 if (kvs.any fun kv=>decide (kv.1=k))=true then kvs.map (fun kv=>if kv.1=k then (kv.1,t) else kv) else kvs++[(k,t)]
section
variable {S:Sit}
theorem zfx {k:Key} (r:Rep K S t v) (e:zic t=some k):v=kV k:=by
 cases r with
 | int i=>have e':some (Sum.inl i)=some k:=e;cases e';rfl
 | str i=>have e':some (Sum.inr i)=some k:=e;cases e';rfl
 | non=>cases e
 | bl b=>cases e
 | ty b=>cases e
 | tup _ _ _=>cases e
 | lst _ _ _=>cases e
 | ref _=>cases e
 | dct _ _ _=>cases e
 | exc _ _ _ _=>cases e
section
variable {κ:Type} [DecidableEq κ]
theorem RepK.nilT {us:List (κ × V)} (r:RepK K S [] us):us=[]:=by
 have:=r.1
 simpa using this.symm
theorem RepK.nil:RepK (κ:=κ) K S [] []:=⟨rfl,.nil⟩
theorem RepK.consT {p:κ × T} {kvs:List (κ × T)} {us:List (κ × V)} (r:RepK K S (p::kvs) us):∃ u us',us=(p.1,u)::us'/\Rep K S p.2 u/\RepK K S kvs us':=by
 cases us with
 | nil=>have:=r.1;simp at this
 | cons q us=>
  obtain ⟨h1,h2⟩:=r
  rw [QE,QE] at h1 h2
  injection h1 with e1 e2
  obtain ⟨v,vs,e3,r1,r2⟩:=h2.consT
  injection e3 with e3 e4
  refine ⟨q.2,us,?_,?_,e2,?_⟩
  ·rw [e1]
  ·rw [e3];exact r1
  ·rw [e4];exact r2
theorem RepK.cons {k:κ} {u:V} {kvs:List (κ × T)} {us:List (κ × V)} (q:Rep K S t u) (r:RepK K S kvs us):RepK K S ((k,t)::kvs) ((k,u)::us):=
 ⟨by rw [QE,QE,r.1],by rw [QE,QE];exact r.2.cons q⟩
theorem RepK.length {kvs:List (κ × T)} {us:List (κ × V)} (r:RepK K S kvs us):kvs.length=us.length:=by
 have:=congrArg List.length r.1
 simpa using this
theorem RepK.look (k:κ):∀ {kvs:List (κ × T)} {us:List (κ × V)},RepK K S kvs us->(yW kvs k=none/\zaN us k=none)\/∃ t v,yW kvs k=some t/\zaN us k=some v/\Rep K S t v
 | [],us,r=>by rw [r.nilT];exact .inl ⟨rfl,rfl⟩
 | p::kvs,us,r=>by
  obtain ⟨u,us',rfl,r1,r2⟩:=r.consT
  by_cases h:p.1=k
  ·refine .inr ⟨p.2,u,?_,?_,r1⟩
   ·simp [yW,find?_cons,h]
   ·simp [zaN,find?_cons,h]
  ·have e1:yW (p::kvs) k=yW kvs k:=by simp [yW,find?_cons,h]
   have e2:zaN ((p.1,u)::us') k=zaN us' k:=by simp [zaN,find?_cons,h]
   rw [e1,e2]
   exact RepK.look k r2
theorem RepK.any (k:κ):∀ {kvs:List (κ × T)} {us:List (κ × V)},RepK K S kvs us->(kvs.any fun kv=>decide (kv.1=k))=us.any fun kv=>decide (kv.1=k)
 | [],us,r=>by rw [r.nilT];rfl
 | p::kvs,us,r=>by
  obtain ⟨u,us',rfl,r1,r2⟩:=r.consT
  rw [any_cons,any_cons,RepK.any k r2]
theorem RepK.repl (k:κ) {t:T} {v:V} (q:Rep K S t v):∀ {kvs:List (κ × T)} {us:List (κ × V)},RepK K S kvs us->RepK K S (kvs.map (fun kv=>if kv.1=k then (kv.1,t) else kv)) (us.map (fun kv=>if kv.1=k then (kv.1,v) else kv))
 | [],us,r=>by rw [r.nilT];exact .nil
 | p::kvs,us,r=>by
  obtain ⟨u,us',rfl,r1,r2⟩:=r.consT
  rw [QE,QE]
  by_cases h:p.1=k
  ·rw [Qy h,Qy h]
   exact (RepK.repl k q r2).cons q
  ·rw [Qz h,Qz h]
   exact (RepK.repl k q r2).cons r1
theorem RepK.snoc (k:κ) {t:T} {v:V} (q:Rep K S t v):∀ {kvs:List (κ × T)} {us:List (κ × V)},RepK K S kvs us->RepK K S (kvs++[(k,t)]) (us++[(k,v)])
 | [],us,r=>by rw [r.nilT];exact RepK.nil.cons q
 | p::kvs,us,r=>by
  obtain ⟨u,us',rfl,r1,r2⟩:=r.consT
  exact (RepK.snoc k q r2).cons r1
theorem RepK.put (k:κ) (q:Rep K S t v) {kvs:List (κ × T)} {us:List (κ × V)} (r:RepK K S kvs us):RepK K S (za5 kvs k t) (putK us k v):=by
 unfold za5 putK
 rw [r.any k]
 split
 ·exact r.repl k q
 ·exact r.snoc k q
end
theorem zg8 (m:MemOk K S) {x:V} {kvs:List (Key × T)} (r:Rep K S t x) (e:zf7 t S.M=some kvs):∃ p us,x = .ref p/\Rd S.H p (.dK us)/\RepK K S kvs us:=by
 unfold zf7 at e
 split at e
 ·split at e
  ·rename_i a _ kvs' q
   cases e
   cases r
   obtain ⟨us,h1,h2⟩:=m.cell _ _ q
   exact ⟨_,us,rfl,.inl h1,h2⟩
  ·cases e
 ·cases e
  cases r with
  | dct h l rr=>
   refine ⟨_,_,rfl,.inr ⟨_,h⟩,l,?_,rr⟩
   have:=congrArg List.length l
   simpa using this
 ·cases e
theorem _root_.L2.DGet.r {a:Addr} {us:List (Key × V)} {k:Key} (e:Rd H a (.dK us)):DGet H a (kV k) (zaN us k):=.inl ⟨us,k,e,rfl,rfl⟩
theorem RepK.isSome {κ:Type} [DecidableEq κ] (k:κ) {kvs:List (κ × T)} {us:List (κ × V)} (r:RepK K S kvs us):(zaN us k).isSome=(yW kvs k).isSome:=by
 rcases r.look k with ⟨a,b⟩ | ⟨t,v,a,b,_⟩
 ·rw [a,b];rfl
 ·rw [a,b];rfl
theorem znj (m:MemOk K S) {a:Nat} {c:Cell} (e:S.M[a]? = some c) {ts:List (Key × T)} {vs:List (Key × V)} (r:RepK K S ts vs):Stp K S (S.put a (.dK vs) (.dic ts)):=by
 have ha:a<S.M.length:=(Qx.mp e).1
 exact Stp.put m ha _ _ ⟨vs,yE,r.grow m (Grow.put m ha _ _)⟩
end
section
noncomputable def inD:X3:=fun x y M=>match zf7 y M with
 | some kvs=>match zic x with
  | some k=>.ok (.bl (yW kvs k).isSome) M
  | none=>.bad
 | none=>inA x y M
noncomputable def zft:X3:=fun x y M=>match zf7 y M with
 | some kvs=>match zic x with
  | some k=>.ok (.bl (!(yW kvs k).isSome)) M
  | none=>.bad
 | none=>zj3 x y M
theorem zpq (hu:X.A.units+64<cLine):OpR X (compareOp .In) (lR2 XE X.K inD):=by
 injections
 replace fin:Fin XE (Rep X.K) X.K S (inD tx ty S.M) Q:=fin
 unfold inD at fin
 rw?
 ·subst e
  rename_i kvs q
  rw?
  ·rename_i k qk
   obtain ⟨p,us,e3,e4,rk⟩:=zg8 m r2 q
   dsimp only at e3
   subst e3
   cases (show u=Value.ref p from ry)
   have ek:=zfx r1 qk
   dsimp only at ek
   subst ek
   refine zsh (by omega) I (.r e4) rx fun s' I'=>⟨.bl _,S.H,I',rfl,?_⟩
   rw [rk.isSome k]
   exact fin S _ rfl (.refl m) (.bl _)
  ·simp?
 ·exact zpr pins s σ H x y v u Q I rx ry ⟨S,⟨tx,ty⟩,e,m,⟨r1,r2⟩,fin⟩
theorem zjh (hu:X.A.units+64<cLine):OpR X (compareOp .NotIn) (lR2 XE X.K zft):=by
 injections
 replace fin:Fin XE (Rep X.K) X.K S (zft tx ty S.M) Q:=fin
 unfold zft at fin
 rw?
 ·subst e
  rename_i kvs q
  rw?
  ·rename_i k qk
   obtain ⟨p,us,e3,e4,rk⟩:=zg8 m r2 q
   dsimp only at e3
   subst e3
   cases (show u=Value.ref p from ry)
   have ek:=zfx r1 qk
   dsimp only at ek
   subst ek
   refine zov (by omega) I (.r e4) rx fun s' I'=>⟨.bl _,S.H,I',rfl,?_⟩
   rw [rk.isSome k]
   exact fin S _ rfl (.refl m) (.bl _)
  ·simp?
 ·exact znE pins s σ H x y v u Q I rx ry ⟨S,⟨tx,ty⟩,e,m,⟨r1,r2⟩,fin⟩
noncomputable def zdr (o i t:T) (M:Mem):Out Unit:=match o,zic i with
 | .ref a,some k=>match M[a]? with
  | some (.dic kvs)=>if kvs.length<sizeLine then .ok () (M.set a (.dic (za5 kvs k t))) else .bad
  | _=>zaS o i t M
 | _,_=>zaS o i t M
theorem zfM (hu:X.A.units+64<cLine):zek X (zgD XE X.K zdr):=by
 intro pins s σ H o i v ov iv u Q I ro ri rv ⟨S,⟨⟨to,ti⟩,tv⟩,e,m,⟨⟨r1,r2⟩,r3⟩,fin⟩
 replace fin:Fin XE UnR X.K S (zdr to ti tv S.M) (fun _ H'=>Q H'):=fin
 unfold zdr at fin
 rw?
 ·split at fin
  ·rename_i a k qk _ kvs q
   rw?
   ·rename_i hz
    subst e
    obtain ⟨us,h4,rk⟩:=m.cell _ _ q
    cases r1
    cases (show ov=Value.ref (S.α a) from ro)
    have ek:=zfx r2 qk
    dsimp only at ek
    subst ek
    refine zls (by omega) I (.k h4 (by rw [← rk.length];exact hz)) ri rv fun s' I'=>⟨_,I',?_⟩
    exact fin (S.put a (.dK (putK us k v)) (.dic (za5 kvs k tv))) () rfl (znj m q (rk.put k r3)) trivial
   ·simp?
  ·exact zdf pins s σ H o i v ov iv u Q I ro ri rv ⟨S,⟨⟨_,ti⟩,tv⟩,e,m,⟨⟨r1,r2⟩,r3⟩,fin⟩
 ·exact zdf pins s σ H o i v ov iv u Q I ro ri rv ⟨S,⟨⟨_,ti⟩,tv⟩,e,m,⟨⟨r1,r2⟩,r3⟩,fin⟩
noncomputable def zkg:X8:=fun _ M=>.ok (.ref M.length) (M++[.dic []])
noncomputable def lMt (XE:XK) (K:Frag) (F:T->X4):V->List V->Hp->VK->Prop:=fun x xs H Q=>L0 XE (Rep K) K (PrR (Rep K) (Reps K)) (fun a M=>F a.1 a.2 M) (x,xs) H Q
noncomputable def zbu (chk:T->Mem->Bool) (F:T->X4) (f:X8) (g:X1):X8:=fun σ M=>(f σ M).bind fun x M1=>if chk x M1=true then (g σ M1).bind fun ts M2=>F x ts M2 else .bad
end
noncomputable def insI (x:Int):List Int->List Int
 | []=>[x]
 | y::ys=>if x<=y then x::y::ys else y::insI x ys
theorem insI_perm (x:Int):∀ ys,(insI x ys).Perm (x::ys)
 | []=>.refl _
 | y::ys=>by
  unfold insI
  split
  ·exact .refl _
  ·exact ((insI_perm x ys).cons y).trans (.swap x y ys)
theorem Reps.ints {K:Frag} {S:Sit}:∀ ns:List Int,Reps K S (ns.map T.int) (ns.map V.int)
 | []=>.nil
 | n::ns=>(Reps.ints ns).cons (.int n)
noncomputable def tK:Key->T
 | .inl i=>.int i
 | .inr x=>.str x
theorem zoJ {S:Sit} (k:Key):Rep K S (tK k) (kV k):=by
 cases k with
 | inl i=>exact .int i
 | inr x=>exact .str x
theorem Reps.keys {K:Frag} {S:Sit}:∀ ks:List Key,Reps K S (ks.map tK) (ks.map kV)
 | []=>.nil
 | k::ks=>(Reps.keys ks).cons (zoJ k)
section
noncomputable def zj9:T->Mem->Out T:=fun t M=>match t with
 | .bl b=>.ok (.int (if b then 1 else 0)) M
 | _=>.bad
theorem zlD:CallR X (.type "int") (lRN XE X.K (yy zj9)):=zfE fun pins s σ S t x v Q I rx m r fin=>by
 unfold zj9 at fin
 rw?
 ·cases r
  cases (show v=Value.bool _ from rx)
  exact call_int_bool ⟨.int _,S.H,I.tok _,⟨_,rfl⟩,fin S _ rfl (.refl m) (.int _)⟩
 ·simp?
end
noncomputable def SubL (m:List (Str × Addr)):List (Str × Addr)->Prop
 | []=>True
 | c::l=>m.lookup c.1=some c.2/\SubL m l
theorem zh8:∀ {l m:List (Str × Addr)},SubL m l->∀ x a,l.lookup x=some a->m.lookup x=some a
 | [],_,_,_,_,h=>by cases h
 | (y,b)::l,m,g,x,a,h=>by
  rw [lookup_cons] at h
  split at h
  ·rename_i e
   cases h
   rw [eq_of_beq e]
   exact g.1
  ·exact zh8 g.2 x a h
noncomputable def zlt (kvs prs:List (Key × T)):List (Key × T):=prs.foldl (fun acc kv=>za5 acc kv.1 kv.2) kvs
theorem RepK.merge {K:Frag} {S:Sit}:∀ {prs:List (Key × T)} {us:List (Key × V)} {kvs:List (Key × T)} {ws:List (Key × V)},RepK K S prs us->RepK K S kvs ws->RepK K S (zlt kvs prs) (zkW ws us)
 | [],us,kvs,ws,r,q=>by rw [r.nilT];exact q
 | p::prs,us,kvs,ws,r,q=>by
  obtain ⟨u,us',rfl,r1,r2⟩:=r.consT
  show RepK K S (zlt (za5 kvs p.1 p.2) prs) (zkW (putK ws p.1 u) us')
  exact RepK.merge r2 (q.put p.1 r1)
noncomputable def forR (bd:T->X7) (body:X5) (a:Nat):Nat->Nat->X5
 | 0,i,σ,M=>match M[a]? with
  | some (.lst xs)=>if xs.length<=i then .ok (.nx σ) M else .bad
  | _=>.bad
 | n+1,i,σ,M=>match M[a]? with
  | some (.lst xs)=>match xs[i]? with
   | some x=>(bd x σ M).bind fun σ1 M1=>(body σ1 M1).bind (zY (forR bd body a n (i+1)))
   | none=>.ok (.nx σ) M
  | _=>.bad
noncomputable def zsO (bd:T->X7) (body:X5) (t:T) (σ:Ev) (M:Mem):Out Fl:=match t with
 | .ref a=>match M[a]? with
  | some (.lst xs)=>forR bd body a xs.length 0 σ M
  | _=>.bad
 | _=>.bad
theorem zmz {bd:T->X7} {body:X5} {a:Nat} {xs:List T} (P:Nat->Ev->Mem->Prop) (hP:∀ k σ M,P k σ M->M[a]? = some (.lst xs))
  (t:∀ k x σ M,xs[k]? = some x->P k σ M->∃ σ' M',((bd x σ M).bind fun σ1 M1=>body σ1 M1) = .ok (.nx σ') M'/\P (k+1) σ' M'):∀ n i,i+n=xs.length->∀ σ M,P i σ M->∃ σ' M',forR bd body a n i σ M = .ok (.nx σ') M'/\P xs.length σ' M'
 | 0,i,hi,σ,M,h=>by
  have hM:=hP i σ M h
  refine ⟨σ,M,?_,by rw [← hi];exact h⟩
  unfold forR
  rw [hM]
  exact Qy (by omega)
 | n+1,i,hi,σ,M,h=>by
  have hM:=hP i σ M h
  have hx:xs[i]? = some xs[i]:=by simp [show i<xs.length by omega]
  obtain ⟨σ1,M1,e1,h1⟩:=t i _ σ M hx h
  obtain ⟨σ2,M2,e2,h2⟩:=zmz P hP t n (i+1) (by omega) σ1 M1 h1
  refine ⟨σ2,M2,?_,h2⟩
  unfold forR
  rw [hM]
  simp only [hx]
  cases q:bd xs[i] σ M with
  | bad=>rw [q] at e1;cases e1
  | exn C fs M'=>rw [q] at e1;cases e1
  | ok σ3 M3=>
   rw [q] at e1
   replace e1:body σ3 M3 = .ok (.nx σ1) M1:=e1
   show (body σ3 M3).bind (zY (forR bd body a n (i+1)))=_
   rw [e1]
   exact e2
noncomputable def zbV (t:T) (M:Mem):Bool:=(yo t M).isSome
theorem zfJ {K:Frag} {S:Sit} (m:MemOk K S) {t:T} {x:V} (r:Rep K S t x) (h:zbV t S.M=true):tyV K "list" x S.H:=by
 unfold zbV at h
 cases q:yo t S.M with
 | none=>rw [q] at h;cases h
 | some xs=>
  obtain ⟨p,vs,rfl,hq,_⟩:=yC m r q
  exact .inl ⟨rfl,vs,hq⟩
end FT
namespace L2
open PySem PySem.Spec PySem.W PyProof.Rows
theorem KV.get_val {κ:Type}:∀ {kvs:List (κ × V)} {vs:List (κ × Value)} {i:Nat} {k:κ} {v:Value},KV kvs vs->vs[i]? = some (k,v)->∃ u,(kvs.map (·.2))[i]? = some u/\RelV u v
 | _,_,_,_,_,.nil,e=>by simp at e
 | _,_,0,_,_,.cons r _,e=>by simp at e;subst e;exact ⟨_,rfl,r.2⟩
 | _,_,i+1,k,v,.cons _ t,e=>by
  obtain ⟨u,h1,h2⟩:=KV.get_val (i:=i) (k:=k) (v:=v) t (by simpa using e)
  exact ⟨u,by simpa using h1,h2⟩
end L2
namespace FT
open PySem PySem.Spec PyProof.Rows L2
variable {ts:List T} {vs:List V}
theorem Reps.rev {K:Frag} {S:Sit} (r:Reps K S ts vs):Reps K S ts.reverse vs.reverse:=by
 refine ⟨by simp [r.1],fun i t v e1 e2=>?_⟩
 have h1:i<ts.length:=by have:=(Qx.mp e1).1;simpa using this
 rw [List.getElem?_reverse h1] at e1
 rw [List.getElem?_reverse (by rw [← r.1];exact h1),← r.1] at e2
 exact r.2 _ t v e1 e2
noncomputable def zdm (M:Mem) (x:T):List T->Option (List Bool)
 | []=>some []
 | t::ts=>match eqD M 20 t x,zdm M x ts with
  | some b,some bs=>some (b::bs)
  | _,_=>none
noncomputable def inN:X3:=fun x y M=>match yQ y M with
 | some ys=>match zdm M x ys with
  | some bs=>.ok (.bl (bs.any id)) M
  | none=>.bad
 | none=>.bad
theorem zg7 {M:Mem} {x:T}:∀ {ts:List T} {bs:List Bool},zdm M x ts=some bs->bs.length=ts.length/\∀ (i:Nat) t b,ts[i]? = some t->bs[i]? = some b->eqD M 20 t x=some b
 | [],bs,h=>by cases h;exact ⟨rfl,fun i t b e=>by simp at e⟩
 | t::ts,bs,h=>by
  unfold zdm at h
  split at h
  ·rename_i b bs' q1 q2
   cases h
   obtain ⟨l,g⟩:=zg7 q2
   refine ⟨by simp [l],fun i u c e1 e2=>?_⟩
   cases i with
   | zero=>cases (show some t=some u from e1);cases (show some b=some c from e2);exact q1
   | succ i=>exact g i u c (by simpa using e1) (by simpa using e2)
  ·cases h
section
variable {X:Cx} {XE:XK} {pins:List (Addr × Obj)} {s:Shared} {σ:L2.St} {S:Sit}
open Classical in
theorem zit (I:L2.Inv X pins σ S.H s) (m:MemOk X.K S) (hu:X.A.units+64<cLine) {x:T} {v:V} {u:Value} (rx:RelV v u) (r:Rep X.K S x v) {its:List Value} (rs:Reps X.K S ts vs) (rv:Vals vs its) {bs:List Bool} (h:zdm S.M x ts=some bs) :
  ∃ e:Value->Bool,(∀ y,y ∈ its.toArray->SeqAt.EqAt X.A.in1 s y u (e y))/\its.toArray.any e=bs.any id:=by
 obtain ⟨hl,g⟩:=zg7 h
 have l1:its.length=bs.length:=by rw [← rv.length,← rs.1,hl]
 have at_:∀ (j:Nat) (y:Value) (b:Bool),its[j]? = some y->bs[j]? = some b->SeqAt.EqAt X.A.in1 s y u b:=fun j y b e1 e2=>by
  have hj:j<ts.length:=by rw [← hl];exact (Qx.mp e2).1
  have et:ts[j]? = some ts[j]:=by simp [hj]
  obtain ⟨w,ew,rw'⟩:=rs.get et
  obtain ⟨y',ey,ry⟩:=rv.get ew
  rw [e1] at ey
  cases ey
  exact zlq I m 20 (A:=X.A.in1) (by show X.A.units+1+20<cLine;omega) ry rx rw' r (g j _ b et e2)
 refine ⟨fun y=>decide (∃ j:Nat,its[j]? = some y/\bs[j]? = some true),fun y hy=>?_,?_⟩
 ·by_cases hc:∃ j:Nat,its[j]? = some y/\bs[j]? = some true
  ·show SeqAt.EqAt X.A.in1 s y u (decide (∃ j:Nat,its[j]? = some y/\bs[j]? = some true))
   rw [Qv hc]
   obtain ⟨j,e1,e2⟩:=hc
   exact at_ j y true e1 e2
  ·show SeqAt.EqAt X.A.in1 s y u (decide (∃ j:Nat,its[j]? = some y/\bs[j]? = some true))
   rw [Qw hc]
   obtain ⟨j,hj,e1⟩:=getElem_of_mem (show y ∈ its by simpa using hy)
   have ej:its[j]? = some y:=by rw [Q0 hj,e1]
   have hb:bs[j]? = some bs[j]:=by simp [show j<bs.length by omega]
   cases q:bs[j]'(by omega) with
   | true=>exact absurd ⟨j,ej,by rw [hb,q]⟩ hc
   | false=>exact at_ j y false ej (by rw [hb,q])
 ·rw [Bool.eq_iff_iff]
  simp only [List.any_toArray,List.any_eq_true,id,decide_eq_true_eq]
  constructor
  ·rintro ⟨y,_,j,_,e2⟩
   exact ⟨true,Qa e2,rfl⟩
  ·rintro ⟨b,hb,rfl⟩
   obtain ⟨j,hj,e1⟩:=getElem_of_mem hb
   have hj2:j<its.length:=by omega
   exact ⟨its[j],getElem_mem hj2,j,by simp [hj2],by simp [hj,e1]⟩
theorem zpp (hu:X.A.units+64<cLine):OpR X (compareOp .In) (lR2 XE X.K inN):=by
 injections
 subst e
 replace fin:Fin XE (Rep X.K) X.K S (inN tx ty S.M) Q:=fin
 unfold inN at fin
 rw?
 ·rename_i ys q
  rw?
  ·rename_i bs qb
   obtain ⟨p,vs,e1,hq,rs⟩:=zbH m r2 q
   dsimp only at e1
   subst e1
   cases ry
   rcases hq with hq | hq
   ·obtain ⟨its,rv,pl,hz⟩:=I.list hq
    obtain ⟨e,h1,h2⟩:=zit I m hu rx r1 rs rv qb
    exact SeqAt.in_listAt e pl.isList h1 ⟨.bl _,S.H,I,rfl,by rw [h2];exact fin S _ rfl (.refl m) (.bl _)⟩
   ·obtain ⟨its,rv,pl,hz⟩:=I.tuple hq
    obtain ⟨e,h1,h2⟩:=zit I m hu rx r1 rs rv qb
    exact SeqAt.in_tupleAt e pl h1 ⟨.bl _,S.H,I,rfl,by rw [h2];exact fin S _ rfl (.refl m) (.bl _)⟩
  ·simp?
 ·simp?
end
end FT
namespace L2
open PySem PySem.Spec PySem.W PyProof.Rows
variable {X:Cx}
section
variable {pins:List (Addr × Obj)} {σ:St} {H:Hp} {s:Shared} {l:Addr} {us:List (Key × V)}
theorem Inv.freeze (I:Inv X pins σ H s) (e:H l=some (.dK us)):∃ ob,Inv X pins σ (upd H l (.frz ob (.dK us))) s:=by
 obtain ⟨z,hs,vs,rel,o,es,ep,ho,r⟩:=(show ObjOk X.prog X.w H s.heap l (.dK us) from I.hok l _ e)
 exact ⟨o,I.write (x:=l) (e:=l) (o:=.frz o (.dK us)) (h':=s.heap) (t':=s.toks) (by rw [e];trivial) (.inl rfl) (fun b u _ q=>q) ⟨o,ho⟩ ⟨ho,z,hs,vs,rel,o,es,ep,ho,r⟩⟩
end
noncomputable def zsg (Q:VK):VK:=fun v H'=>∃ l us,v = .ref l/\H' l=some (.dK us)/\∀ ob,Q v (upd H' l (.frz ob (.dK us)))
theorem CallR.frz {f:Value} {r:List V->Hp->VK->Prop} (h:CallR X f r):CallR X f (fun xs H Q=>r xs H (zsg Q)):=by
 intro pins s σ H xs us Q I rv hr
 refine Qg (h pins s σ H xs us _ I rv hr) (fun v s' ⟨x,H',I',r',l,us',ex,e,q⟩=>?_) fun _ _ z=>z
 obtain ⟨ob,I2⟩:=I'.freeze e
 exact ⟨x,_,I2,r',q ob⟩
end L2
namespace FT
open PySem PySem.Spec PyProof.Rows L2
noncomputable def zc2 (f:Str) (v:T):List (Str × T)->List (Str × T)
 | []=>[(f,v)]
 | (g,x)::r=>if g=f then (g,v)::r else (g,x)::zc2 f v r
variable {K:Frag} {us:List (Str × V)} {t:T}
section
variable {S:Sit}
theorem RepF.nil:RepF K S [] []:=⟨rfl,.nil⟩
theorem RepF.nilT (r:RepF K S [] us):us=[]:=by
 have:=r.1
 simpa using this.symm
theorem RepF.consT {p:Str × T} {fs:List (Str × T)} (r:RepF K S (p::fs) us):∃ u us',us=(p.1,u)::us'/\Rep K S p.2 u/\RepF K S fs us':=by
 cases us with
 | nil=>have:=r.1;simp at this
 | cons q us'=>
  have h1:=r.1
  simp only [QE,List.cons.injEq] at h1
  obtain ⟨v,vs,e,r1,r2⟩:=(show Reps K S (p.2::fs.map (·.2)) (q.2::us'.map (·.2)) from r.2).consT
  cases e
  exact ⟨q.2,us',by rw [h1.1],r1,h1.2,r2⟩
theorem RepF.cons {g:Str} {u:V} {fs:List (Str × T)} (q:Rep K S t u) (r:RepF K S fs us):RepF K S ((g,t)::fs) ((g,u)::us):=⟨by simp [r.1],r.2.cons q⟩
theorem RepF.look (f:Str):∀ {fs:List (Str × T)} {us:List (Str × V)},RepF K S fs us->∀ {t:T},fs.lookup f=some t->∃ v,us.lookup f=some v/\Rep K S t v
 | [],us,r,t,e=>by cases e
 | (g,x)::fs,us,r,t,e=>by
  obtain ⟨u,us',rfl,r1,r2⟩:=r.consT
  rw [lookup_cons] at e ⊢
  cases h:f==g with
  | true=>rw [h] at e;cases e;exact ⟨u,rfl,r1⟩
  | false=>rw [h] at e;exact RepF.look f r2 e
theorem RepF.put (f:Str) {t:T} {v:V} (q:Rep K S t v):∀ {fs:List (Str × T)} {us:List (Str × V)},RepF K S fs us->RepF K S (zc2 f t fs) (z8 f v us)
 | [],us,r=>by rw [r.nilT];exact RepF.cons q .nil
 | (g,x)::fs,us,r=>by
  obtain ⟨u,us',rfl,r1,r2⟩:=r.consT
  unfold zc2 z8
  by_cases h:g=f
  ·rw [Qy h,Qy h];exact RepF.cons q r2
  ·rw [Qz h,Qz h];exact RepF.cons r1 (RepF.put f q r2)
theorem RepF.len {fs:List (Str × T)} (r:RepF K S fs us):fs.length=us.length:=by
 have:=congrArg List.length r.1
 simpa using this
end
noncomputable def zaQ (Cs:List Addr) (f:Str) (x:T) (M:Mem):Out T:=match x with
 | .ref a=>match M[a]? with
  | some (.ins C fs)=>if C ∈ Cs then zfr (fs.lookup f) M else .bad
  | _=>.bad
 | _=>.bad
noncomputable def zo (Cs:List Addr) (f:Str) (g:X8):X8:=fun σ M=>(g σ M).bind fun x M1=>zaQ Cs f x M1
noncomputable def zaT (Cs:List Addr) (f:Str) (x y:T) (M:Mem):Out Unit:=match x with
 | .ref a=>match M[a]? with
  | some (.ins C fs)=>if C ∈ Cs/\fs.length<1000 then .ok () (M.set a (.ins C (zc2 f y fs))) else .bad
  | _=>.bad
 | _=>.bad
noncomputable def zG (Cs:List Addr) (f:Str) (fo fv:X8):X5:=fun σ M=>(fv σ M).bind fun y M1=>(fo σ M1).bind fun x M2=>(zaT Cs f x y M2).bind fun _ M3=>.ok (.nx σ) M3
variable {X:Cx} {e:Expr} {pos:Pos} {XE:XK}
section
variable {Cs:List Addr} {f:Str}
end
structure MakT (P:Program) (w:World) (K:Frag) (mg:Str->Option Value) (base:Heap) (k:Nat) (x:Str) (C:Addr) (ps:List Str) (f:X4):Prop where
 ex:∃ (fI:Addr) (fd:FuncData),Mk K C fI/\FnOk P w K mg base CX0 k fI fd ps (spT K f)/\Binds K fd ps []/\mg x=some (.ref C)
 nox:∀ ts M C fs M',f ts M ≠ .exn C fs M'
structure Di (K:Frag) (mg:Str->Option Value) (x qual:Str) (C:Addr) (st:Stmt) (ps:List Str):Prop where
 ex:∃ (fI:Addr) (fd:FuncData),Mk K C fI/\Fun K "__init__" qual st fI fd/\Binds K fd ps []/\mg x=some (.ref C)
variable {C:Addr} {ps:List Str} {st:Stmt} {qual x:Str} {mg:Str->Option Value}
theorem zpC {P:Program} {w:World} {base:Heap} {N:List Str} {k p n:Nat} {g:X5} (D:Di K mg x qual C st ps) (Sc:FnScope N ps (zg st)) (hp:ps.length=p) (hn:N.length=n)
 (hb:∀ (f:Addr) (cdv:Value) (A:Around) (outer:List PySem.Env) (s:Shared) (H:Hp) (E:XK),Room k (A.deeper (envOfC qual (zg st) s.heap.objs.size f cdv))->GSs (zcj CX0 P w K mg base N qual (zg st) f cdv A outer s H E).nox E0 (yL st) g) :
  MakT P w K mg base (k+1) x C ps (yi p n g):=by
 obtain ⟨fI,fd,M,F,b,e⟩:=D.ex
 exact ⟨⟨fI,fd,M,F.ok Sc (zhJ hp) fun cdv A outer s H vs Q E hr h=>zfF hn rfl h (hb fI cdv A outer s H E hr),b,e⟩,zfQ _ _ _⟩
noncomputable def zl8 (a:Nat) (t:T) (M:Mem):Out T:=match t with
 | .non=>.ok (.ref a) M
 | _=>.bad
noncomputable def zdo (C:Addr) (F:X4) (ga:X1):X8:=fun σ M=>(ga σ M).bind fun ts M1=>(F (.ref M1.length::ts) (M1++[.ins C []])).bind fun t M2=>zl8 M1.length t M2
variable {es:List Expr}
section
variable {k:Nat} {p:Pos} {ga:X1} {F:X4}
end
variable {P:Addr->Prop}
theorem qh:∀ C ∈ ([]:List Addr),P C:=fun C h=>by simp at h
theorem zh {a:Addr} {l:List Addr} (h:P a) (r:∀ C ∈ l,P C):∀ C ∈ a::l,P C:=fun C hc=>by
 rcases QF.mp hc with rfl | hc
 ·exact h
 ·exact r C hc
noncomputable def qU (K:Frag) (x:Str):Addr:=match PySem.W.nsIn K mainGlobals x with
 | some (some (.ref a))=>a
 | _=>0
theorem zgL (a:PySem.W.nsIn K mainGlobals x=some (some (.ref C))):qU K x=C:=by
 unfold qU
 rw [a]
theorem zbA {f:Str} (a:PySem.W.nsIn K mainGlobals x=some (some (.ref C))) (n:PySem.W.findIn K (.ref C) f=some none):NoAttr K (qU K x) f:=by
 rw [zgL a];exact n
theorem zlx (a:PySem.W.nsIn K mainGlobals x=some (some (.ref C))) (pg:PySem.W.plainGet K C Str.empty=true) (hd:PySem.W.hasDictIn K C=true) (po:PySem.W.plainOver K C=true)
 (sa:PySem.W.findIn K (.ref C) "__setattr__" = some (some (.builtin "object.__setattr__"))):Cls K (qU K x):=by
 rw [zgL a];exact ⟨pg,hd,po,sa⟩
theorem zmY {h:Heap} (X:K.In h) (G:h.Ns mainGlobals mg) {fI:Addr} {od an:Option Addr} {sl:Array (Option Value)} {oc kV dc pm cd ct:Value}
 (a:PySem.W.nsIn K mainGlobals x=some (some (.ref C))) (a1:PySem.W.findIn K (.ref C) "__init__" = some (some (.ref fI))) (i1:PySem.W.isFn K (.ref fI)=true)
 (l1:K.lookup fI=some ⟨oc,od,.func (PySem.W.fnOf "__init__" qual (zaL st) (yL st) (zg st) .none kV dc pm an cd ct),sl⟩) (c1:PySem.W.codeIn K cd qual=true) (k1:PySem.W.keepIn K (.ref fI)=true) (mk:PySem.W.makesIn K C=true) (kc:PySem.W.keepIn K (.ref C)=true)
 (hb:∀ (kV doc pm:Value) (an:Option Addr) (cdv ct:Value) (us:List Value),us.length=ps.length->bindArgs (PySem.W.fnOf "__init__" qual (zaL st) (yL st) (zg st) .none kV doc pm an cdv ct) ⟨us,[]⟩=pure (ps.zip us)):Di K mg x qual (qU K x) st ps:=by
 have F:=zio (st:=st) l1 c1 k1
 rw [zgL a]
 exact ⟨⟨fI,_,⟨mk,a1,i1,kc⟩,F,F.binds hb,PySem.W.mg_of X G a⟩⟩
section
theorem zkX {S1 S3:Sit} (s3:Stp K S1 S3) {p:Addr} {vs:List V} (h:(Rd S1.H p (.lst vs)/\S1.off p)\/KL K p vs):SqL K S3.H p vs:=by
 rcases h with ⟨h2,f2⟩ | h2
 ·exact .inl (s3.toGrow.rd h2 f2).1
 ·exact .inr h2
end
noncomputable abbrev Gd:=List (Nat × List T)
def zaP (G:Gd) (M:Mem):Prop:=∀ g ∈ G,M[g.1]? = some (.lst g.2)
noncomputable def gdK {β:Type} (G:Gd) (M:Mem) (o:Out β):Out β:=@ite _ (zaP G M) (Classical.propDecidable _) o .bad
variable {G:Gd} {M:Mem}
theorem zdO {β:Type} {o:Out β} (h:zaP G M):gdK G M o=o:=Qy h
theorem zmx (M:Mem):zaP [] M:=fun g h=>by simp at h
variable {xs:List T}
theorem zfy {a:Nat} (h:M[a]? = some (.lst xs)):zaP [(a,xs)] M:=fun g hg=>by rw [QG.mp hg];exact h
def ItG (K:Frag) (S:Sit) (items:List T × Gd) (J:It):Prop:=∀ S',Stp K S S'->zaP items.2 S'.M->
 (∀ (i:Nat) t,items.1[i]? = some t->J.go i S'.H/\∀ x H',J.yld i S'.H x H'->∃ S'',S''.H=H'/\S''.M=S'.M/\Stp K S' S''/\Rep K S'' t x)/\∀ i,items.1.length<=i->J.stop i S'.H
instance (K):Mo K (ItG K):=⟨fun _ s r=>fun S' s'=>r S' (s.trans s')⟩
noncomputable def lIG (XE:XK) (K:Frag) (f:Ev->Mem->Out (List T × Gd)):TI:=fun σ H R=>LN XE (ItG K) K UnR (fun _ σ M=>f σ M) () σ H R
def GIG (X:Cx) (XE:XK) (tg iter:Expr) (f:Ev->Mem->Out (List T × Gd)):Prop:=PI X tg iter (lIG XE X.K f)
noncomputable def forG (G:Gd) (bd:T->X7) (body:X5):List T->X5
 | [],σ,M=>gdK G M (.ok (.nx σ) M)
 | x::xs,σ,M=>gdK G M ((bd x σ M).bind fun σ1 M1=>(body σ1 M1).bind (zY (forG G bd body xs)))
noncomputable def zcN (it:Ev->Mem->Out (List T × Gd)) (bd:T->X7) (body:X5):X5:=fun σ M=>(it σ M).bind fun xs M1=>forG xs.2 bd body xs.1 σ M1
noncomputable def qW (G:Gd) (bd:T->X7) (cond:X6) (el:X8):List T->Ev->Mem->List T->Out (List T)
 | [],_,M,acc=>gdK G M (.ok acc M)
 | x::xs,σ,M,acc=>gdK G M ((bd x σ M).bind fun σ1 M1=>(cond σ1 M1).bind fun b M2=>if b=true then (el σ1 M2).bind fun t M3=>if acc.length<sizeLine then qW G bd cond el xs σ1 M3 (acc++[t]) else .bad else qW G bd cond el xs σ1 M2 acc)
noncomputable def zdN (it:Ev->Mem->Out (List T × Gd)) (bd:T->X7) (cond:X6) (el:X8) (tgs:List Str) (caps:List (Str × Nat)):X1:=fun σ M=>(it σ M).bind fun xs M1=>qW xs.2 bd cond el xs.1 (zck tgs caps σ) M1 []
theorem Fin.gd {β γ:Type} {R:Sit->β->γ->Prop} {S:Sit} {o:Out β} {Q:γ->Hp->Prop} (h:Fin XE R K S (gdK G M o) Q):zaP G M/\Fin XE R K S o Q:=by
 by_cases g:zaP G M
 ·rw [zdO g] at h;exact ⟨g,h⟩
 ·rw [show gdK G M o = .bad from Qz g] at h;exact h.elim
variable {Q:VK}
theorem FinL.gd {S:Sit} {o:Out (List T)} (h:FinL XE K S (gdK G M o) Q):zaP G M/\FinL XE K S o Q:=by
 by_cases g:zaP G M
 ·rw [zdO g] at h;exact ⟨g,h⟩
 ·rw [show gdK G M o = .bad from Qz g] at h;exact h.elim
variable {σ:Ev} {p:X5} {bd:T->X7}
theorem zlk {S:Sit} {Q:FlV->Hp->Prop} (h:Fin XE (FlR K) K S (forG G bd p xs σ M) Q):zaP G M:=by
 cases xs with
 | nil=>exact (Fin.gd h).1
 | cons x xs=>exact (Fin.gd h).1
variable {f:X8}
theorem zkl {S:Sit} {c:X6} {acc:List T} (h:FinL XE K S (qW G bd c f xs σ M acc) Q):zaP G M:=by
 cases xs with
 | nil=>exact (FinL.gd h).1
 | cons x xs=>exact (FinL.gd h).1
variable {ga:Ev->Mem->Out (List T × Gd)} {cond:X6} {iter tg:Expr} {caps:List (Str × Nat)} {tgs:List Str}
section
variable {a b c:Expr} {pp:Pos} {sts:List Stmt}
theorem zlw {σ:L2.St} {H:Hp} (hh:lL XE X.K (zdN ga bd cond f tgs caps) σ H Q) :
  zjT (lIG XE X.K ga) (lG XE X.K bd) (lT XE X.K cond) (lE XE X.K f) (zc9 tgs caps) σ H Q:=by
 obtain ⟨S,στ,e,m,ev,fin⟩:=hh
 replace fin:FinL XE X.K S ((ga στ S.M).bind fun xs M1=>qW xs.2 bd cond f xs.1 (zck tgs caps στ) M1 []) Q:=fin
 refine ⟨S,στ,(),e,m,ev,trivial,?_⟩
 show Fin XE (ItG X.K) X.K S (ga στ S.M) _
 cases o:ga στ S.M with
 | bad=>rw [o] at fin;exact fin
 | exn C fs M'=>rw [o] at fin;exact fin
 | ok items M1=>
  rw [o] at fin
  replace fin:FinL XE X.K S (qW items.2 bd cond f items.1 (zck tgs caps στ) M1 []) Q:=fin
  intro S0 J e0 s0 it0 D hD
  have m0:=s0.mok
  have fin0:=fin.later s0
  have s1:=Stp.hide (K:=X.K) m0 hD []
  refine ⟨fun i n σ' H'=>∃ S στ acc vs,S.H=H'/\EvR X.K S στ σ'/\n=items.1.length-i/\i<=items.1.length/\D ∈ S.hid/\S.H D=some (.lst vs)/\Reps X.K S acc vs/\Stp X.K S0 S/\FinL XE X.K S0 (qW items.2 bd cond f (items.1.drop i) στ S.M acc) Q,
   ⟨items.1.length-0,S0.hide D [],zck tgs caps στ,[],[],rfl,(Mo.mo (K:=X.K) m0 s1 (Mo.mo (K:=X.K) m s0 ev)).cap tgs caps,rfl,Nat.zero_le _,.head _,yE,.nil,s1,by show FinL XE X.K S0 (qW items.2 bd cond f items.1 (zck tgs caps στ) S0.M []) Q;rw [e0];exact fin0⟩,?_⟩
  rintro i n σ1 H1 ⟨S2,στ2,acc,vs,e2,ev2,en,hi2,hid2,hD2,racc,s2,fin2⟩
  subst e2
  have m2:=s2.mok
  have hgd:=zkl fin2
  obtain ⟨itg,its⟩:=it0 S2 s2 hgd
  by_cases hl:i<items.1.length
  ·have eq:items.1.drop i=items.1[i]::items.1.drop (i+1):=List.drop_eq_getElem_cons hl
   rw [eq] at fin2
   replace fin2:=(FinL.gd fin2).2
   obtain ⟨go,yl⟩:=itg i items.1[i] (by simp [hl])
   refine .inr ⟨go,fun σ' H'=>∃ S στ acc vs,S.H=H'/\EvR X.K S στ σ'/\D ∈ S.hid/\S.H D=some (.lst vs)/\Reps X.K S acc vs/\Stp X.K S0 S/\FinL XE X.K S0 (qW items.2 bd cond f (items.1.drop (i+1)) στ S.M acc) Q,?_,fun x H' hy=>?_⟩
   ·rintro σ' H' ⟨S,στ,acc,vs,a1,a2,a3,a4,a5,a6,a7⟩
    exact ⟨items.1.length-(i+1),by omega,S,στ,acc,vs,a1,a2,rfl,hl,a3,a4,a5,a6,a7⟩
   ·obtain ⟨S3,e3,eM,s3,r3⟩:=yl x H' hy
    replace fin2:FinL XE X.K S0 ((bd items.1[i] στ2 S2.M).bind fun σ1 M1=>(cond σ1 M1).bind fun b M2=>if b=true then (f σ1 M2).bind fun t M3=>if acc.length<sizeLine then qW items.2 bd cond f (items.1.drop (i+1)) σ1 M3 (acc++[t]) else .bad else qW items.2 bd cond f (items.1.drop (i+1)) σ1 M2 acc) Q:=fin2
    refine ⟨S3,στ2,items.1[i],e3,s3.mok,Mo.mo m2 s3 ev2,r3,?_⟩
    show Fin XE (EvR X.K) X.K S3 (bd items.1[i] στ2 S3.M) _
    rw [eM]
    cases o1:bd items.1[i] στ2 S2.M with
    | bad=>rw [o1] at fin2;exact fin2
    | exn C fs M'=>rw [o1] at fin2;exact fun S' od a1 a2 a3=>fin2 S' od a1 ((s2.trans s3).trans a2) a3
    | ok σ4 M4=>
     rw [o1] at fin2
     intro S4 σ4v e4 s4 ev4
     have t4:=s3.trans s4
     replace fin2:FinL XE X.K S0 ((cond σ4 M4).bind fun b M2=>if b=true then (f σ4 M2).bind fun t M3=>if acc.length<sizeLine then qW items.2 bd cond f (items.1.drop (i+1)) σ4 M3 (acc++[t]) else .bad else qW items.2 bd cond f (items.1.drop (i+1)) σ4 M2 acc) Q:=fin2
     refine ⟨S4,σ4,(),rfl,s4.mok,ev4,trivial,?_⟩
     show Fin XE EqR X.K S4 (cond σ4 S4.M) _
     rw [e4]
     cases o2:cond σ4 M4 with
     | bad=>rw [o2] at fin2;exact fin2
     | exn C fs M'=>rw [o2] at fin2;exact fun S' od a1 a2 a3=>fin2 S' od a1 ((s2.trans t4).trans a2) a3
     | ok b M5=>
      rw [o2] at fin2
      intro S5 b5 e5 s5 eb
      have eb':b=b5:=eb
      subst eb'
      have t5:=t4.trans s5
      replace fin2:FinL XE X.K S0 (if b=true then (f σ4 M5).bind fun t M3=>if acc.length<sizeLine then qW items.2 bd cond f (items.1.drop (i+1)) σ4 M3 (acc++[t]) else .bad else qW items.2 bd cond f (items.1.drop (i+1)) σ4 M5 acc) Q:=fin2
      cases b with
      | false=>
       rw [Qz Q4] at fin2
       refine (Qz Q4).mpr ⟨S5,σ4,acc,vs,rfl,Mo.mo s4.mok s5 ev4,(t5.hk D hid2).1,by rw [(t5.hk D hid2).2];exact hD2,racc.grow m2 t5.toGrow,s2.trans t5,by rw [e5];exact fin2⟩
      | true=>
       rw [Qy rfl] at fin2
       refine (Qy rfl).mpr ⟨S5,σ4,(),rfl,s5.mok,Mo.mo s4.mok s5 ev4,trivial,?_⟩
       show Fin XE (Rep X.K) X.K S5 (f σ4 S5.M) _
       rw [e5]
       cases o3:f σ4 M5 with
       | bad=>rw [o3] at fin2;exact fin2
       | exn C fs M'=>rw [o3] at fin2;exact fun S' od a1 a2 a3=>fin2 S' od a1 ((s2.trans t5).trans a2) a3
       | ok t M6=>
        rw [o3] at fin2
        replace fin2:FinL XE X.K S0 (if acc.length<sizeLine then qW items.2 bd cond f (items.1.drop (i+1)) σ4 M6 (acc++[t]) else .bad) Q:=fin2
        intro S6 v6 e6 s6 r6
        have t6:=t5.trans s6
        have hz:acc.length<sizeLine:=by
         by_cases hz:acc.length<sizeLine
         ·exact hz
         ·rw [Qz hz] at fin2;exact fin2.elim
        rw [Qy hz] at fin2
        have hid6:=(t6.hk D hid2).1
        have hD6:S6.H D=some (.lst vs):=by rw [(t6.hk D hid2).2];exact hD2
        refine ⟨vs,hD6,by rw [← racc.1];exact hz,S6.hput D (vs++[v6]),σ4,acc++[t],vs++[v6],rfl,?_,hid6,yE,?_,(s2.trans t6).hput hid6 hD m0,by show FinL XE X.K S0 (qW items.2 bd cond f (items.1.drop (i+1)) σ4 S6.M (acc++[t])) Q;rw [e6];exact fin2⟩
        ·have ev6:EvR X.K S6 σ4 σ4v:=Mo.mo s4.mok (s5.trans s6) ev4
         exact ⟨ev6.1,fun i t e=>let ⟨v,e',q⟩:=ev6.2 i t e;⟨v,e',q.hput s6.mok hid6⟩⟩
        ·exact ((racc.grow m2 t6.toGrow).app (.cons r6 .nil)).hput s6.mok hid6
  ·rw [List.drop_eq_nil_of_le (by omega)] at fin2
   replace fin2:=(FinL.gd fin2).2
   refine .inl ⟨its i (by omega),?_⟩
   exact fin2 S2 D vs rfl s2 hD hid2 hD2 racc
end
noncomputable def zc3 (t:T) (M:Mem):Option (List T × Gd):=match t with
 | .lst xs=>some (xs,[])
 | .ref a=>match M[a]? with
  | some (.lst xs)=>some (xs,[(a,xs)])
  | _=>none
 | _=>none
theorem zjn {S:Sit} (m:MemOk K S) {v:V} (r:Rep K S t v) (e:zc3 t S.M=some (xs,G)):∃ p vs,v = .ref p/\SqL K S.H p vs/\∀ S3,Stp K S S3->zaP G S3.M->∃ vs3,SqL K S3.H p vs3/\Reps K S3 xs vs3:=by
 unfold zc3 at e
 split at e
 ·cases e
  cases r with
  | @lst _ p vs h l rr=>
   refine ⟨p,vs,rfl,zdM h,fun S3 s3 _=>⟨vs,zkX s3 h,?_⟩⟩
   exact (show Reps K S xs vs from ⟨l,rr⟩).grow m s3.toGrow
 ·rename_i a
  split at e
  ·rename_i ys q
   cases e
   cases r with
   | ref ha=>
    obtain ⟨vs,h1,r1⟩:=m.cell a _ q
    refine ⟨S.α a,vs,rfl,.inl (.inl h1),fun S3 s3 g=>?_⟩
    obtain ⟨vs3,h3,r3⟩:=s3.mok.cell a _ (g (a,xs) (.head _))
    rw [s3.al a ha] at h3
    exact ⟨vs3,.inl (.inl h3),r3⟩
  ·cases e
 ·cases e
noncomputable def zcq (f:X8):Ev->Mem->Out (List T × Gd):=fun σ M=>(f σ M).bind fun t M1=>match zc3 t M1 with
 | some g=>.ok g M1
 | none=>.bad
section
end
end FT
namespace L2
open PySem PySem.Spec PySem.W PyProof.Rows
def SI (b:Bool) (h:Heap) (q t:Addr) (k:Nat):Prop:=match b with
 | true=>h.IsTupleIter q t k
 | false=>h.IsListIter q t k
def SS (b:Bool) (h:Heap) (t:Addr) (xs:Array Value):Prop:=match b with
 | true=>h.IsTuple t xs
 | false=>h.IsList t xs
def SqX (K:Frag) (H:Hp) (b:Bool) (a:Addr) (xs:List V):Prop:=match b with
 | true=>SqT K H a xs
 | false=>SqL K H a xs
end L2
namespace FT
open PySem PySem.Spec PyProof.Rows L2
noncomputable def zfk (t:T) (M:Mem):Option (List T × Gd):=match t with
 | .tup xs=>some (xs,[])
 | t=>zc3 t M
noncomputable def zhr (f:X8):Ev->Mem->Out (List T × Gd):=fun σ M=>(f σ M).bind fun t M1=>match zfk t M1 with
 | some g=>.ok g M1
 | none=>.bad
section
variable {X:Cx} {XE:XK}
end
end FT
namespace L2
open PySem PySem.Spec PyProof.Rows
noncomputable abbrev TSl:=V->Option Int->Option Int->V->Hp->(Hp->Prop)->Prop
end L2
namespace FT
open PySem PySem.Spec PyProof.Rows L2
structure CalX (P:Program) (w:World) (K:Frag) (mg:Str->Option Value) (base:Heap) (k:Nat) (x:Str) (ps:List Str) (f:X4):Prop where
 ex:∃ (fa:Addr) (fd:FuncData),FnOk P w K mg base (CXX P w) k fa fd ps (spT K f)/\PySem.W.keepIn K (.ref fa)=true/\Binds K fd ps []/\mg x=some (.ref fa)
variable {C:Addr} {K:Frag} {base:Heap} {P:Program} {x:Str} {mg:Str->Option Value} {w:World}
section
variable {X:Cx} {XE:XK} {k i j:Nat} {ps:List Str} {y v nm:Str} {p pos pos2 np hp tp vp cpos:Pos} {e:Expr} {es:List Expr} {ga:X1} {F:X4} {b0:Stmt} {suite sts:List Stmt} {g gs:X5}
structure XcF (P:Program) (w:World) (K:Frag) (mg:Str->Option Value) (base:Heap) (x:Str) (C:Addr):Prop where
 ex:∃ f fd,XcAt K mg x C f/\FnOk P w K mg base CX0 1 f fd ["self","at"] (fun vs H Q E=>(∃ e t v,vs=[.ref e,v]/\H e=some (.ext (ExN e C t none))/\∀ d,H d=none->d ≠ e->Q .non (upd (upd H e (.ext (ExN e C t (some d)))) d (.xd [("at",v)]))))/\Binds K fd ["self","at"] []
theorem XcF.at (O:XcF P w K mg base x C):∃ nm fI,XcAt K mg nm C fI:=let ⟨f,_,h,_⟩:=O.ex;⟨x,f,h⟩
def GX (X:Cx) (sts:List Stmt) (g:X5):Prop:=PX X sts fun E=>lS E X.K g
noncomputable def zlQ:X5:=fun _ _=>.bad
noncomputable def noX (o:Out Fl):Out Fl:=match o with
 | .exn _ _ _=>.bad
 | o=>o
noncomputable def zsY (cs:List Addr) (g gs:X5):X5:=fun σ M=>match g σ M with
 | .exn C _ M'=>if cs.contains C=true then noX (gs σ M') else .bad
 | o=>o
noncomputable def clr (j:Nat) (fl:Fl) (M:Mem):Out Fl:=match fl with
 | .nx σ=>.ok (.nx (σ.set j none)) M
 | .rt t=>.ok (.rt t) M
 | .bk σ=>.ok (.bk (σ.set j none)) M
 | .ct σ=>.ok (.ct (σ.set j none)) M
noncomputable def zsP (j:Nat) (cs:List Addr) (g gs:X5):X5:=fun σ M=>match g σ M with
 | .exn C fs M'=>if cs.contains C=true then (noX (gs (σ.set j (some (.exc C fs))) M')).bind (clr j) else .bad
 | o=>o
end
theorem zlM {f:Addr} (O:XcAt K mg x C f):Sup K mg x C C:=⟨O.bound,fun h X=>by
 obtain ⟨bm,N,nm,q,bs,sn,sub,ab,col,dd,k0,k1,k2,k3,k5,mN,hC,_,_,_,T⟩:=O.obj h X
 exact ⟨⟨bm,N,nm,q,bs,true,sn,sub,ab,col,dd,k0,k1,k2,k3,k5,hC,(T.tail (by decide)).hasType PySem.F.excBase_ValueError.hasBase⟩,bm,N,nm,q,bs,true,sn,sub,ab,col,dd,k0,k1,k2,k3,k5,hC,by simp⟩⟩
theorem XcF.sup (O:XcF P w K mg base x C):Sup K mg x C C:=let ⟨_,_,h,_⟩:=O.ex;zlM h
end FT
namespace L2
open PySem
noncomputable def subs:Nat->List (List Nat)
 | 0=>[[]]
 | n+1=>subs n++(subs n).map (· ++ [n])
theorem zi9:∀ (n:Nat) (ks:List Nat),ks ∈ subs n->ks.Pairwise (· < ·)/\∀ k ∈ ks,k<n
 | 0,ks,h=>by rw [show ks=[] from QG.mp h];exact ⟨.nil,fun _ h=>by cases h⟩
 | n+1,ks,h=>by
  unfold subs at h
  rcases mem_append.mp h with h | h
  ·have:=zi9 n ks h
   exact ⟨this.1,fun k hk=>Nat.lt_succ_of_lt (this.2 k hk)⟩
  ·obtain ⟨l,hl,rfl⟩:=mem_map.mp h
   have:=zi9 n l hl
   refine ⟨List.pairwise_append.mpr ⟨this.1,List.pairwise_singleton _ _,fun a ha b hb=>by rw [QG.mp hb];exact this.2 a ha⟩,fun k hk=>?_⟩
   rcases mem_append.mp hk with hk | hk
   ·exact Nat.lt_succ_of_lt (this.2 k hk)
   ·rw [QG.mp hk];exact Nat.lt_succ_self _
noncomputable def zsl:Bool:=(subs 6).all fun ks=>(List.range 7).all fun h=>SetTable.below ks.toArray h==(ks.filter (· < h)).length
theorem zoz:zsl=true:=by decide +kernel
variable {ks:List Nat}
theorem ziI (hk:ks ∈ subs 6) {h:Nat} (hh:h<7):SetTable.below ks.toArray h=(ks.filter (· < h)).length:=by
 have:=all_eq_true.mp (all_eq_true.mp zoz ks hk) h (mem_range.mpr hh)
 exact eq_of_beq this
noncomputable def zpE (mask:Nat) (hashes:Array Int):Option (List Nat × List Nat):=(SetTable.layClean mask hashes).map fun owner=>
 let live:=(List.range (mask+1)).filterMap fun j=>(owner.getD j none).map (j,·)
 (live.map (·.1),live.map (·.2))
noncomputable def hsh (ks:List Nat):List Int:=ks.map fun k:Nat=>(k:Int)
noncomputable def layB:Bool:=(subs 6).all fun ks=>[7,15,31].all fun m=>zpE m (hsh ks).toArray==some (ks,List.range ks.length)
theorem znV:layB=true:=by decide +kernel
theorem znX (hk:ks ∈ subs 6) {m:Nat} (hm:m ∈ [7,15,31]) (f mv:Nat) (l p:Bool) :
  SetTable.laid m f mv l p (hsh ks).toArray=some ({ mask:=m,place:=ks.toArray,dummies:=#[],finger:=f,led:=l,moves:=mv,plain:=p },(List.range ks.length).toArray):=by
 have:=eq_of_beq (all_eq_true.mp (all_eq_true.mp znV ks hk) m hm)
 unfold zpE at this
 unfold SetTable.laid
 cases q:SetTable.layClean m (hsh ks).toArray with
 | none=>rw [q] at this;cases this
 | some owner=>
  rw [q] at this
  have h:=Prod.mk.inj (Qd this)
  show some _=some _
  rw [h.1,h.2]
end L2
namespace L2
open PySem PySem.Spec
noncomputable def zqC (w:World):Bool:=w.params.followText "set-order"
structure DTab (w:World) (es:Array (Int × Value)) (t:SetTable) (ks:List Nat) (m:Nat):Prop where
 keys:es.toList.map (·.1)=hsh ks
 vals:∀ e ∈ es.toList,∃ tk,e.2 = .int e.1 tk
 mask:t.mask=m
 place:t.place=ks.toArray
 dumm:t.dummies = #[]
 plain:t.plain=true
 led:zqC w=true\/t.led=true
 sub:ks ∈ subs 6
 ms:m ∈ [7,15,31]
variable {es:Array (Int × Value)} {ks:List Nat} {m:Nat} {t:SetTable} {w:World}
theorem DTab.size (d:DTab w es t ks m):es.size=ks.length:=by
 have:=congrArg List.length d.keys
 unfold hsh at this
 simpa using this
theorem zhF (h:ks ∈ subs 6):ks.length<=6:=by
 have:((subs 6).all fun ks=>ks.length<=6)=true:=by decide +kernel
 simpa using all_eq_true.mp this ks h
theorem DTab.fits (d:DTab w es t ks m):t.fits es.size=true:=by
 have:=zhF d.sub
 have hm:=d.ms
 unfold SetTable.fits SetTable.fill
 rw [d.size,d.place,d.dumm,d.mask]
 simp at hm ⊢
 omega
theorem zoD {k:Nat} (h:k<6):hashInt (k:Int)=k:=by
 have:((List.range 6).all fun k:Nat=>hashInt (k:Int)==(k:Int))=true:=by decide +kernel
 exact eq_of_beq (all_eq_true.mp this k (mem_range.mpr h))
section
variable {prog:Program} {A:Around} {E:Value->Shared->Prop} {s:Shared} {a:Addr}
noncomputable def zka (k:Nat) (ks:List Nat):List Nat:=if k ∈ ks then ks else ks.take (ks.filter (· < k)).length++k::ks.drop (ks.filter (· < k)).length
theorem zmk {k:Nat} (hk:k<6) (h:ks ∈ subs 6):zka k ks ∈ subs 6:=by
 have:((List.range 6).all fun k=>(subs 6).all fun ks=>(subs 6).contains (zka k ks))=true:=by decide +kernel
 have:=all_eq_true.mp (all_eq_true.mp this k (mem_range.mpr hk)) ks h
 simpa using this
theorem ziX {k:Nat} (hp:t.place=ks.toArray) (hd:t.dummies = #[]) (hm:k<=t.mask) (hs:k<2 ^ 64) (hn:k ∉ ks):t.freeSlot (k:Int)=some (k,false):=by
 have hb:SetTable.bits (k:Int)=k:=by
  unfold SetTable.bits
  rw [Int.emod_eq_of_lt (by omega) (by omega)]
  rfl
 have hsl:t.slot k = .empty:=by
  unfold SetTable.slot SetTable.has
  rw [hp,hd]
  dsimp only
  rw [Qz (by
   intro e
   have e:=eq_of_beq e
   rw [List.getElem?_toArray] at e
   exact hn (Qa e)),Qz (by simp)]
 have hj:(t.probeStart (k:Int)).j=k/\(t.probeStart (k:Int)).dummy=none:=by
  unfold SetTable.probeStart
  rw [hb]
  exact ⟨Nat.mod_eq_of_lt (by omega),rfl⟩
 unfold SetTable.freeSlot SetTable.probe
 rw [show 10*SetTable.turns t.mask=(10*t.mask+149)+1 by unfold SetTable.turns;omega]
 unfold SetTable.probe.go
 rw [hj.1,hsl,hj.2]
 rfl
theorem DTab.ins {k:Nat} {tk:Tok} (d:DTab w es t ks m) (hk:k<6) (hn:k ∉ ks):DTab w (SetTable.insertAt es (t.put k).2 ((k:Int),.int (k:Int) tk)) (t.put k).1 (zka k ks) m:=by
 have hp:(t.put k).2=(ks.filter (· < k)).length:=by
  unfold SetTable.put
  rw [d.place]
  exact ziI d.sub (by omega)
 have hi:zka k ks=ks.take (ks.filter (· < k)).length++k::ks.drop (ks.filter (· < k)).length:=Qz hn
 refine ⟨?_,?_,d.mask,?_,?_,d.plain,d.led,zmk hk d.sub,d.ms⟩
 ·rw [hp,SetTable.toList_insertAt,hi]
  unfold hsh
  rw [Qq,QE,Qq,QE,map_take,map_take,map_drop,map_drop]
  have:=d.keys
  unfold hsh at this
  rw [this]
 ·intro e he
  rw [SetTable.toList_insertAt] at he
  rcases mem_append.mp he with he | he
  ·exact d.vals e (List.mem_of_mem_take he)
  ·rcases QF.mp he with rfl | he
   ·exact ⟨tk,rfl⟩
   ·exact d.vals e (List.mem_of_mem_drop he)
 ·show SetTable.insertAt t.place (SetTable.below t.place k) k=_
  rw [d.place,ziI d.sub (by omega),hi]
  apply Array.toList_inj.mp
  rw [SetTable.toList_insertAt]
 ·show (if SetTable.has t.dummies k then _ else t.dummies) = #[]
  rw [d.dumm]
  rfl
theorem DTab.lay {k:Nat} {tk:Tok} (d:DTab w es t ks m) (hk:k<6) (hn:k ∉ ks):layNew t es (k:Int) (.int (k:Int) tk)=(SetTable.insertAt es (t.put k).2 ((k:Int),.int (k:Int) tk),(t.put k).1,false,false):=by
 have hm:=d.ms
 have hf:=(d.ins (tk:=tk) hk hn).fits
 unfold layNew
 rw [ziX d.place d.dumm (by rw [d.mask];simp at hm;omega) (by omega) hn]
 dsimp only
 unfold SetTable.orStandIn
 rw [Qy hf,hf]
 rfl
theorem DTab.full (d:DTab w es t ks m):∃ t' m',relayAll t es (SetTable.grown es.size)=(es,t',false)/\DTab w es t' ks m':=by
 have h6:=zhF d.sub
 have hw:∀ n,n<=6->SetTable.sizeAbove (SetTable.grown n)-1 ∈ [7,15,31]:=by decide +kernel
 have hms:=hw _ h6
 have e1:es.map (·.1)=(hsh ks).toArray:=by
  rw [← d.keys]
  apply Array.toList_inj.mp
  rw [Array.toList_map]
 have e3:Array.filterMap (fun x=>es[x]?) (List.range ks.length).toArray=es:=by
  apply Array.toList_inj.mp
  rw [← d.size]
  simpa using filterMap_getElem?_range es
 have hc:∀ n,n<=6->coversAll (List.range n).toArray n=true:=by decide +kernel
 have d':DTab w es { mask:=SetTable.sizeAbove (SetTable.grown es.size)-1,place:=ks.toArray,dummies:=#[],finger:=t.finger,led:=t.led,moves:=t.movedTo (SetTable.sizeAbove (SetTable.grown es.size)-1),plain:=t.plain } ks (SetTable.sizeAbove (SetTable.grown es.size)-1):=⟨d.keys,d.vals,rfl,rfl,rfl,d.plain,d.led,d.sub,by rw [d.size];exact hms⟩
 refine ⟨_,_,?_,d'⟩
 unfold relayAll SetTable.relaid
 rw [e1,znX d.sub (by rw [d.size];exact hms)]
 dsimp only
 rw [e3,d'.fits,d.size,hc _ h6]
 rfl
end
end L2
namespace L2
open PySem PySem.Spec PyProof.Rows
section
variable {prog:Program} {w:World} {A:Around} {E:Value->Shared->Prop} {s:Shared} {a:Addr} {ks:List Nat} {m:Nat}
structure DictN (prog:Program) (w:World) (h:Heap) (d:Addr) (ns:List Nat) (od:Obj) (es:Array DictEntry) (ep:Nat):Prop where
 at_:h.get? d=some od
 exact_:od.ExactDict
 data:od.data = .dict es ep
 size:es.size=ns.length
 keys:∀ (i:Nat) n,ns[i]? = some n->∃ e tk,es[i]? = some e/\e.key = .int (n:Int) tk/\e.hash=(n:Int)
 small:∀ n ∈ ns,n<6
end
theorem zkH (n:Nat):sliceRange (sliceBounds none none (some (-1)) n).1 (sliceBounds none none (some (-1)) n).2.1 (sliceBounds none none (some (-1)) n).2.2=(List.range n).map fun k=>n-1-k:=by
 unfold sliceBounds sliceRange
 have h0:¬ ((-1:Int) > 0):=by decide
 simp only [Option.getD_some,h0,if_false]
 have hc:(if (n:Int)-1 > -1 then ((n:Int)-1 - -1 - -1-1) / (- -1) else 0).toNat=n:=by
  by_cases hn:(n:Int)-1 > -1
  ·rw [Qy hn]
   have:((n:Int)-1 - -1 - -1-1) / (- -1)=n:=by
    have e:(- -1:Int)=1:=by decide
    rw [e,Int.ediv_one];omega
   rw [this];simp
  ·rw [Qz hn];omega
 rw [hc]
 apply map_congr_left
 intro k hk
 have hk':k<n:=mem_range.mp hk
 omega
theorem zlU {α:Type}:∀ xs:List α,((List.range xs.length).map fun k=>xs.length-1-k).filterMap (fun k=>xs[k]?)=xs.reverse:=fun xs=>by
 rw [List.filterMap_map]
 have:((List.range xs.length).filterMap fun k=>xs[xs.length-1-k]?)=(List.range xs.reverse.length).filterMap fun k=>xs.reverse[k]?:=by
  rw [List.length_reverse]
  have:∀ (ns:List Nat),(∀ k ∈ ns,k<xs.length)->(ns.filterMap fun k=>xs[xs.length-1-k]?)=ns.filterMap fun k=>xs.reverse[k]?:=by
   intro ns
   induction ns with
   | nil=>intro _;rfl
   | cons n ns ih=>
    intro h
    rw [filterMap_cons,filterMap_cons,ih fun k hk=>h k (.tail _ hk),List.getElem?_reverse (h n (.head _))]
  exact this _ fun k hk=>mem_range.mp hk
 show ((List.range xs.length).filterMap fun k=>xs[xs.length-1-k]?)=_
 rw [this]
 exact PySem.List.filterMap_getElem?_range_length _
theorem zhh (its:List Value):slicePick its.toArray none none (some (-1))=its.reverse.toArray:=by
 unfold slicePick
 rw [Qi,zkH]
 have:=zlU its
 simp only [List.getElem?_toArray]
 rw [this]
section
variable {X:Cx}
noncomputable def tRv (r:V->Hp->VK->Prop) (te:TE) (ts:TO):TE:=fun σ H Q=>te σ H fun x H1=>ts σ H1 fun l H2=>l=some (-1)/\r x H2 Q
noncomputable def zrX (K:Frag):V->Hp->VK->Prop:=fun x H Q=>∃ a xs,x = .ref a/\SqL K H a xs/\∀ p,H p=none->Q (.ref p) (upd H p (.lst xs.reverse))
theorem zpc {e st:Expr} {te:TE} {ts:TO} {p2 pos:Pos} (he:PE X e te) (hs:PO X (some st) ts):PE X (.Subscript e (.Slice none none (some st) p2) pos) (tRv (zrX X.K) te ts):=by
 apply?
 refine Subscript_ (thn (he pins s σ H _ I h) fun v s1 ⟨x,H1,I1,r1,q1⟩=>?_)
 refine wpAny_Slice ?_
 rw [evalPart_none]
 refine Qf (Qf (thn (hs pins s1 σ H1 _ I1 q1) fun vl s2 ⟨l,H2,I2,pl,q2⟩=>?_))
 obtain ⟨rfl,a,xs,rfl,hx,q⟩:=q2
 cases r1
 have I4:Inv X pins σ H2 { s2 with heap:=s2.heap.push { cls:=.type "slice",data:=.fields #[.none,.none,vl] } }:=I2.kept (t':=s2.toks) fun b ob q=>Q2 _ q
 obtain ⟨its,r,ht,hz⟩:=I4.list hx
 have hlen:=r.length
 refine tail_any (ops:=[.ref a,.ref s2.heap.objs.size]) ht.isList.typeIs slot_list_getitem.lookup ?_ (by with_unfolding_all rfl)
 refine wpAny_getItem_list_slice ht.isList (Heap.IsSliceOf.new ..) .none .none pl (by decide) ?_ (by rw [Qi] <;> omega)
 rw [zhh]
 refine ⟨.ref _,_,I4.laid (t':=s2.toks) (o:=.lst xs.reverse) (fun b ob q=>Q2 _ q) (Q3 _) ?_,rfl,q _ (I4.hok.fresh (Q3 _))⟩
 exact ⟨by rw [List.length_reverse];exact hz,_,0,r.reverse,Ql _ rfl⟩
end
end L2
namespace FT
open PySem PySem.Spec PyProof.Rows L2
noncomputable def rvX (x:T) (M:Mem):Out T:=match yo x M with
 | some xs=>.ok (.lst xs.reverse) M
 | none=>.bad
noncomputable def zgo (x:T) (l:Option Int) (M:Mem):Out T:=if l=some (-1) then rvX x M else .bad
noncomputable def eRv (f:X8) (p:Ev->Mem->Out (Option Int)):X8:=fun σ M=>(f σ M).bind fun x M1=>(p σ M1).bind fun l M2=>zgo x l M2
variable {X:Cx} {p:Ev->Mem->Out (Option Int)} {f:X8} {e:Expr} {p2 pos:Pos} {XE:XK}
section
end
noncomputable def zeG (f:X4):X4:=fun ts M=>match f ts M with
 | .ok (.ref a) M'=>match M'[a]? with
  | some (.lst xs)=>@ite _ (M'.take M.length=M/\M.length<=a/\∀ x ∈ xs,T.lt 0 x) (Classical.propDecidable _) (.ok (.lst xs) M) .bad
  | _=>.bad
 | _=>.bad
theorem zjy (f:X4):Refines (zeG f) f:=by
 intro ts M t' M1 _ e
 unfold zeG at e
 split at e
 ·rename_i a M' q
  split at e
  ·rename_i xs qa
   split at e
   ·rename_i hc
    cases e
    have hl:M.length<=M'.length:=by
     have:=congrArg List.length hc.1
     rw [Qr] at this
     omega
    refine ⟨_,_,q,Q3 _,hl,hc.1.symm,fun i c e=>.inl e,.ref qa hc.2.1 rfl fun i t u e1 e2=>?_⟩
    rw [e1] at e2
    cases e2
    exact .same ((hc.2.2 t (Qa e1)).mono (Nat.zero_le _))
   ·cases e
  ·cases e
 ·cases e
theorem zjz (f:X4):∀ ts M C fs M',zeG f ts M ≠ .exn C fs M':=by
 intro ts M C fs M' e
 unfold zeG at e
 split at e
 ·split at e
  ·split at e <;> cases e
  ·cases e
 ·cases e
variable {K:Frag} {base:Heap} {N ps:List Str} {P:Program} {st:Stmt} {x:Str} {mg:Str->Option Value} {w:World}
section
theorem Refines.bad (g:X4):Refines (fun _ _=>.bad) g:=fun _ _ _ _ _ e=>by cases e
theorem CalT.bad {k:Nat} (D:Df K mg x st ps) (Sc:FnScope N ps (zg st)):CalT P w K mg base (k+1) x ps (fun _ _=>.bad):=
 CalT.refine (g:=yi ps.length N.length (fun _ _=>.bad)) (zlE D Sc rfl rfl fun f cdv A outer s H E hr=>fun _ _ _ _ _ _ ⟨_,_,_,_,_,_,_,fin⟩=>fin.elim) (Refines.bad _) (fun _ _ _ _ _ z=>by cases z)
end
def KTu (K:Frag) (a:Addr) (xs:List V):Prop:=∃ (o:Obj) (its:Array Value) (n:Nat),K.lookup a=some o/\o.cls = .type "tuple"/\o.dict=none/\o.data = .seq its n/\its.size<=sizeLine/\Vals xs its.toList
variable {n:Nat}
theorem zpI {a:Addr} {t:Tok} {sl:Array (Option Value)} (h:K.lookup a=some ⟨.type "tuple",none,.seq #[.str x t] n,sl⟩):KTu K a [.str x]:=
 ⟨_,_,n,h,rfl,rfl,rfl,(by rw [sizeLine_eq];exact Nat.le_of_ble_eq_true rfl),.cons ⟨t,rfl⟩ .nil⟩
noncomputable def zfP (Cs:List Addr) (f:Str) (fo:X8) (n:Int):X5:=fun σ M=>(fo σ M).bind fun x M1=>(zaQ Cs f x M1).bind fun v M2=>(zdC v (.int n) M2).bind fun z M3=>(zaT Cs f x z M3).bind fun _ M4=>.ok (.nx σ) M4
noncomputable def zfA:T->X4:=fun x ts M=>match x,ts with
 | .ref a,[.lst ys]=>match M[a]? with
  | some (.lst xs)=>if xs.length+ys.length<1000000 then .ok .non (M.set a (.lst (xs++ys))) else .bad
  | _=>.bad
 | .ref a,[.ref b]=>match M[a]?,M[b]? with
  | some (.lst xs),some (.lst ys)=>if xs.length+ys.length<1000000 then .ok .non (M.set a (.lst (xs++ys))) else .bad
  | _,_=>.bad
 | _,_=>.bad
noncomputable def zgE (x:T):List T->Nat->Option Nat
 | [],_=>none
 | y::ys,n=>if eqS y x=true then some n else zgE x ys (n+1)
noncomputable def zd9:T->X4:=fun x ts M=>match ts with
 | [y]=>match yo x M with
  | some xs=>if (zbm y && xs.all zbm)=true then (match zgE y xs 0 with
   | some n=>.ok (.int (n:Int)) M
   | none=>.bad) else .bad
  | none=>.bad
 | _=>.bad
theorem zgY {x:T}:∀ {ys:List T} {k n:Nat},zgE x ys k=some n->k<=n/\n-k<ys.length/\(∀ y,ys[n-k]? = some y->eqS y x=true)/\∀ (m:Nat) y,m<n-k->ys[m]? = some y->eqS y x=false
 | [],k,n,h=>by cases h
 | y::ys,k,n,h=>by
  unfold zgE at h
  split at h
  ·rename_i e
   cases h
   refine ⟨Q3 _,by simp,fun z hz=>?_,fun m z hm=>absurd hm (by omega)⟩
   simp at hz
   rw [← hz];exact e
  ·rename_i e
   obtain ⟨h1,h2,h3,h4⟩:=zgY h
   refine ⟨by omega,by rw [Qp];omega,fun z hz=>?_,fun m z hm hz=>?_⟩
   ·rw [show n-k=n-(k+1)+1 by omega,getElem?_cons_succ] at hz
    exact h3 z hz
   ·cases m with
    | zero=>simp at hz;rw [← hz];simpa using e
    | succ m=>rw [getElem?_cons_succ] at hz;exact h4 m z (by omega) hz
variable {fo:X8} {Cs:List Addr} {ss:List Str} {cpos tpos:Pos}
section
variable {f:Str}
theorem zkV (hu:X.A.units+64<cLine):MtR X "list.index" (lMt XE X.K zd9):=by
 intro pins s σ H x xs v us Q I rx rs ⟨S,⟨tx,ts⟩,e,m,⟨r1,r2⟩,fin⟩
 subst e
 replace r1:Rep X.K S tx x:=r1
 replace r2:Reps X.K S ts xs:=r2
 replace fin:Fin XE (Rep X.K) X.K S (zd9 tx ts S.M) Q:=fin
 unfold zd9 at fin
 rw?
 ·rename_i y
  rw?
  ·rename_i ys q
   rw?
   ·rename_i hs
    rw?
    ·rename_i n hn
     rw [Qs] at hs
     obtain ⟨p,vs,rfl,hq,rs'⟩:=yC m r1 q
     obtain ⟨w1,ws,rfl,h1,h2⟩:=r2.consT
     cases h2.nilT
     cases rs with | cons a1 a2=>
     cases a2
     cases rx
     obtain ⟨its,rv,pl,hz⟩:=I.list hq
     obtain ⟨i1,i2,i3,i4⟩:=zgY hn
     rw [Nat.sub_zero] at i2 i3 i4
     obtain ⟨b1,b2⟩:=zhx h1 hs.1 rs' hs.2
     have fx:=qQ h1 hs.1
     have hlen:=rv.length
     have hys:=rs'.1
     have val:∀ (k:Nat) (hk:k<its.length),∃ y',ys[k]? = some y'/\eqU w1 its[k]=eqS y' y:=fun k hk=>by
      obtain ⟨y',hy'⟩:∃ y',ys[k]? = some y':=⟨ys[k],Q0 (by omega)⟩
      obtain ⟨v',hv',rv'⟩:=rs'.get hy'
      obtain ⟨u',hu',ru'⟩:=rv.get hv'
      rw [Q0 hk] at hu'
      cases hu'
      have sy:zbm y'=true:=all_eq_true.mp hs.2 y' (Qa hy')
      exact ⟨y',hy',by rw [zir ru' (qQ rv' sy),zeW rv' h1 sy hs.1]⟩
     obtain ⟨o,c,ho,hcl,hdi,hda⟩:=pl
     obtain ⟨cls,dict,data,slots⟩:=o
     dsimp only at hcl hdi hda
     subst hcl;subst hdi;subst hda
     have hnl:n<its.length:=by omega
     refine call_meets PySem.F.slot_list_index ⟨_,ho,rfl⟩ PySem.F.entry_list_index (PySem.F.args_list_index_2 _ _) (SeqAt.list_indexAt p its.toArray c none slots _ (eqU w1) n (by simpa using hnl) (by have:=zcw;rw [hlen] at hz;omega) ?_ ?_) ⟨ho,fun w hw=>zcf a1 fx rv b1 w (by simpa using hw),⟨.int (n:Int),S.H,I.tok _,⟨_,rfl⟩,fin S _ rfl (.refl m) (.int _)⟩⟩
     ·obtain ⟨y',hy',e'⟩:=val n hnl
      simp only [getElem_toArray]
      rw [e'];exact i3 y' hy'
     ·intro k hk hk2
      have hk':k<its.length:=by simpa using hk
      obtain ⟨y',hy',e'⟩:=val k hk'
      simp only [getElem_toArray]
      rw [e'];exact i4 k y' hk2 hy'
    ·simp?
   ·simp?
  ·simp?
 ·simp?
end
theorem zk0 (l:Addr) (items:Array Value) (n:Nat) (b:Addr) (items2:Array Value) (n2:Nat) (dd:Option Addr) (sl:Array (Option Value)) (hc0:¬(!items.isEmpty && Builtin.List.listTooLong (items.size+items2.size))=true) (hc1:items.size<=sizeLine) (hs2:items.size+items2.size<=sizeLine+1) :
  Meets (Builtin.«list.extend» ⟨[.ref l,.ref b],[]⟩) (fun _ R s=>s.heap.get? l=some { cls:=.type "list",dict:=none,data:=.seq items n,slots:=#[] }/\s.heap.get? b=some { cls:=.type "list",dict:=dd,data:=.seq items2 n2,slots:=sl }/\R (.ok (.ret Value.none)) { s with heap:=s.heap.update l (Obj.mapSeq fun x=>x++items2),toks:=s.toks }):=
 .of_wp fun prog w A R s h=>by
  obtain ⟨hp,g,d,tk,os⟩:=s;obtain ⟨hl,hb,h⟩:=h;have f1:=AutoSeq1.idx_int;have f2:=AutoSeq1.sub_tuple_tuple;have f3:=AutoSeq1.sub_list_list;have f4:=AutoSeq1.sub_tuple_list;have f5:=AutoSeq1.sub_list_tuple
  have hz':(items++items2).size<=sizeLine+1:=by rw [Array.size_append];exact hs2
  wp_walk using (wpAny_updateSeq hl rfl (hz:=hc1) (_hz':=hz')),AutoSeq1.wpAny_loadPart' hl,AutoSeq1.wpAny_loadPart' hb;exact ⟨_,rfl,h⟩
section
noncomputable def zqW (K:Frag):V->List V->Hp->VK->Prop:=fun x vs H Q=>∃ l b xs zs,x = .ref l/\vs=[.ref b]/\H l=some (.lst xs)/\SqL K H b zs/\xs.length+zs.length<=sizeLine/\Q .non (upd H l (.lst (xs++zs)))
theorem zjk:MtM X "list.extend" (zqW X.K):=by
 intro pins s σ H x vs v us Q I rx rv h
 obtain ⟨l,b,xs,zs,rfl,rfl,hH,hB,hz,q⟩:=h
 cases rx
 obtain ⟨u,rfl,ru⟩:=rv.one
 cases ru
 obtain ⟨z,its,n,r,hl,e⟩:=I.lstM hH
 obtain ⟨its2,r2,pl2,z2⟩:=I.list hB
 obtain ⟨⟨cls2,dd2,data2,sl2⟩,n2,ho2,hc2,hdi2,hd2⟩:=pl2
 simp only at hc2 hd2
 subst hc2 hd2
 have hl2:=r2.length
 have hsz:its.toArray.size+its2.toArray.size<=sizeLine:=by rw [Qi,Qi];omega
 have hlong:¬ (!its.toArray.isEmpty && Builtin.List.listTooLong (its.toArray.size+its2.toArray.size))=true:=by
  rw [zh2 hsz,Bool.and_false]
  exact Q4
 refine call_meets F.slot_list_extend ⟨_,e,rfl⟩ F.entry_list_extend (F.args_list_extend_2 _ _)
  (zk0 l its.toArray n b its2.toArray n2 dd2 sl2 hlong (by rw [Qi];omega) (by omega)) ⟨e,ho2,?_⟩
 refine ⟨.non,_,I.lset (its':=its++its2) hH e (by simp) (r.append r2) ?_,rfl,q⟩
 rw [Qn]
 omega
theorem znO:MtR X "list.extend" (lMt XE X.K zfA):=by
 intro pins s σ H x xs v us Q I rx rs ⟨S,⟨tx,ts⟩,e,m,⟨r1,r2⟩,fin⟩
 subst e
 replace r1:Rep X.K S tx x:=r1
 replace r2:Reps X.K S ts xs:=r2
 replace fin:Fin XE (Rep X.K) X.K S (zfA tx ts S.M) Q:=fin
 have hsl:(1000000:Nat)<=sizeLine:=by rw [sizeLine_eq];exact Nat.le_of_ble_eq_true rfl
 unfold zfA at fin
 rw?
 ·rename_i a ys
  rw?
  ·rename_i xs0 q
   rw?
   ·rename_i hlt
    cases r1 with
    | ref ha=>
    obtain ⟨w1,ws,rfl,h1,h2⟩:=r2.consT
    cases h2.nilT
    obtain ⟨us4,h4,rr⟩:=m.cell _ _ q
    cases h1 with
    | @lst _ p vs h l r=>
    have rr2:Reps X.K S ys vs:=⟨l,r⟩
    have st:=zdJ m q (rr.app rr2)
    refine zjk pins s σ S.H (.ref (S.α a)) [.ref p] v us Q I rx rs ⟨S.α a,p,us4,vs,rfl,rfl,h4,zdM h,by rw [← rr.1,← l];omega,?_⟩
    exact fin (S.put a (.lst (us4++vs)) (.lst (xs0++ys))) .non rfl st .non
   ·simp?
  ·simp?
 ·rename_i a b
  rw?
  ·rename_i xs0 ys q qb
   rw?
   ·rename_i hlt
    cases r1 with
    | ref ha=>
    obtain ⟨w1,ws,rfl,h1,h2⟩:=r2.consT
    cases h2.nilT
    obtain ⟨us4,h4,rr⟩:=m.cell _ _ q
    obtain ⟨us5,h5,rr5⟩:=m.cell _ _ qb
    cases h1 with
    | ref hb=>
    have st:=zdJ m q (rr.app rr5)
    refine zjk pins s σ S.H (.ref (S.α a)) [.ref (S.α b)] v us Q I rx rs ⟨S.α a,S.α b,us4,us5,rfl,rfl,h4,.inl (.inl h5),by rw [← rr.1,← rr5.1];omega,?_⟩
    exact fin (S.put a (.lst (us4++us5)) (.lst (xs0++ys))) .non rfl st .non
   ·simp?
  ·simp?
 ·simp?
end
structure WE (X:Cx) (XE:XK) (e:Expr) (f:X8):Prop where
 pe:GE X XE e f
structure WT (X:Cx) (XE:XK) (e:Expr) (f:X6):Prop where
 pe:GT X XE e f
structure WW (X:Cx) (XE:XK) (e:Expr) (f:X6):Prop where
 pe:GW X XE e f
structure WA (X:Cx) (XE:XK) (e:List Expr) (f:X1):Prop where
 pe:GA X XE e f
structure WSs (X:Cx) (XE:XK) (e:List Stmt) (f:X5):Prop where
 pe:GSs X XE e f
structure WS (X:Cx) (XE:XK) (e:Stmt) (f:X5):Prop where
 pe:GS X XE e f
structure WL (X:Cx) (XE:XK) (e:Expr) (f:X1):Prop where
 pe:GL X XE e f
structure WGs (X:Cx) (XE:XK) (e:List Expr) (f:List T->X7):Prop where
 pe:GGs X XE e f
structure WG (X:Cx) (XE:XK) (e:Expr) (f:T->X7):Prop where
 pe:GG X XE e f
structure WO (X:Cx) (XE:XK) (e:Option Expr) (f:Ev->Mem->Out (Option Int)):Prop where
 pe:GO X XE e f
structure WI (X:Cx) (XE:XK) (tg iter:Expr) (f:X1):Prop where
 pe:GI X XE tg iter f
structure WX (X:Cx) (e:List Stmt) (f:X5):Prop where
 pe:GX X e f
structure WIG (X:Cx) (XE:XK) (tg iter:Expr) (f:Ev->Mem->Out (List T × Gd)):Prop where
 pe:GIG X XE tg iter f
variable {op:CmpOp} {ga:X1} {tf:X6} {g h:X8} {es:List Expr} {i:Nat} {o:X3}
section
variable {a b c:Expr}
theorem za (h:PE X e (zjS i)):WE X XE e (yb i):=⟨PE.imp h fun σ H Q h9=>by
 obtain ⟨S,στ,_,e,m,ev,_,fin⟩:=h9
 replace fin:Fin XE (Rep X.K) X.K S (yb i στ S.M) Q:=fin
 unfold yb at fin
 cases q:στ[i]? with
 | none=>rw [q] at fin;exact fin.elim
 | some o=>
  cases o with
  | none=>rw [q] at fin;exact fin.elim
  | some t=>
   rw [q] at fin
   obtain ⟨v,e2,r⟩:=ev.2 i t q
   exact ⟨v,e2,by rw [← e];exact fin S v rfl (.refl m) r⟩⟩
theorem yc {i j}:WE X XE (.Constant (.int i) j pos) (eC (.int i)):=⟨zcg zkP fun _=>.int _⟩
theorem y6 {i j}:WE X XE (.Constant (.bool i) j pos) (eC (.bl i)):=⟨zcg zq6 fun _=>.bl _⟩
theorem qT {j}:WE X XE (.Constant .none j pos) (eC .non):=⟨zcg zpf fun _=>.non⟩
theorem qi {i j}:WE X XE (.Constant (.str i) j pos) (eC (.str i)):=⟨zcg zpb fun _=>.str _⟩
theorem zdV {n:String} (hg:Gl X x) (hm:X.mg x=none) (hv:bootBuiltins x=some (.type n)) (hn:x ≠ "__name__":=by decide) (hd:(x==("__debug__":Str))=false:=by decide):WE X XE (.Name x pos) (eC (.ty n)):=⟨zcg (zny (v:=.ty n) hg hm hv rfl hn hd) fun _=>.ty _⟩
theorem ym {op:Operator} (ho:OpR X (binaryOp op) (lR2 XE X.K o)) (ha:WE X XE a f) (hb:WE X XE b g):WE X XE (.BinOp a op b pos) (eOp o f g):=by
 have ha:=ha.pe
 have hb:=hb.pe
 exact ⟨PE.imp (zmR ho ha hb) fun _ _ _ h=>zhv h⟩
theorem zac (ho:OpR X (compareOp op) (lR2 XE X.K o)) (ha:WE X XE a f) (hb:WE X XE b g) (hm:behindInMarks op b=false):WE X XE (.Compare a [op] [b] pos) (eOp o f g):=by
 have ha:=ha.pe
 have hb:=hb.pe
 exact ⟨PE.imp (znw ho ha hb hm) fun _ _ _ h=>zhv h⟩
theorem zoE {op:UnaryOp} {o:T->Mem->Out T} (ho:L2.UnR X (unaryOp op) (lR1 XE X.K o)) (ha:WE X XE a f):WE X XE (.UnaryOp op a pos) (eUn o f):=by
 have ha:=ha.pe
 exact ⟨PE.imp (zq3 ho ha) fun σ H Q h=>
  LN.mono (LN.bind (f:=fun _ σ M=>f σ M) (k:=fun _ x σ M1=>o x M1) (RB:=Rep X.K) h) fun v H1 h2=>by
   obtain ⟨S,στ,a,e,m,ev,ra,fin⟩:=h2
   exact ⟨S,a.2,e,m,ra.2,fin⟩⟩
theorem yd (ho:IxR X (lR2 XE X.K o)) (ha:WE X XE a f) (hb:WE X XE b g) (hs:zgQ b:=by exact fun _ _=>rfl):WE X XE (.Subscript a b pos) (eOp o f g):=by
 have ha:=ha.pe
 have hb:=hb.pe
 exact ⟨PE.imp (zq5 ho ha hb hs) fun _ _ _ h=>zhv h⟩
theorem qO (ha:WE X XE e f) (he:∀ whole,isTrue e X.env whole=(do let v ← whole;standAt e.pos;holding [v] (truthy v)):=by intro _;rfl):WT X XE e (zq f):=by
 have ha:=ha.pe
 exact ⟨PT.imp (zo1 ha he) fun σ H Q h=>
  LN.mono (LN.bind (f:=fun _ σ M=>f σ M) (k:=fun _ x σ M1=>blT x M1 fun b M2=>.ok b M2) (RB:=Rep X.K) h) fun v H1 h2=>by
   obtain ⟨S,στ,a,e,m,ev,ra,fin⟩:=h2
   obtain ⟨b,e1,_,fin⟩:=zhu ra.2 fin
   exact ⟨b,e1,by rw [← e];exact fin S b rfl (.refl m) rfl⟩⟩
theorem zj (ho:OpR X (compareOp op) (lR2 XE X.K o)) (ha:WE X XE a f) (hb:WE X XE b g) (hm:behindInMarks op b=false):WT X XE (.Compare a [op] [b] pos) (zq (eOp o f g)):=by
 have ha:=ha.pe
 have hb:=hb.pe
 exact ⟨PT.imp (znm ho ha hb hm) fun σ H Q h=>by
  have h1:=LN.bind (f:=fun _ σ M=>eOp o f g σ M) (k:=fun _ x σ M1=>blT x M1 fun b M2=>.ok b M2) (RB:=Rep X.K) h
  refine zhv (LN.mono h1 fun v H1 h2=>?_)
  obtain ⟨S,στ,a,e,m,ev,ra,fin⟩:=h2
  obtain ⟨b,e1,_,fin⟩:=zhu ra.2 fin
  exact ⟨b,e1,by rw [← e];exact fin S b rfl (.refl m) rfl⟩⟩
variable {tg:X6} {rest:List Expr}
theorem yY (ha:WT X XE a tf):WW X XE (.BoolOp .And [a] pos) tf:=by
 have ha:=ha.pe
 exact ⟨znh ha⟩
theorem zbF (ha:WT X XE a tf):WW X XE (.BoolOp .Or [a] pos) tf:=by
 have ha:=ha.pe
 exact ⟨zoZ ha⟩
theorem z5 (ha:WT X XE a tf) (hb:WW X XE (.BoolOp .And (b::rest) pos) tg):WW X XE (.BoolOp .And (a::b::rest) pos) (zaw tf tg):=by
 have ha:=ha.pe
 have hb:=hb.pe
 exact ⟨PW.imp (zo0 ha hb) fun σ H Q h=>
  LN.mono (tif (tf:=tf) (tg:=tg) (p:=fun c σ M1=>if c=true then tg σ M1 else .ok false M1) h) fun c H1 h1=>by
   cases c with
   | true=>exact (Qy rfl).mpr h1
   | false=>exact (Qz Q4).mpr (zhp h1)⟩
theorem zbq (ha:WT X XE a tf) (hb:WW X XE (.BoolOp .Or (b::rest) pos) tg):WW X XE (.BoolOp .Or (a::b::rest) pos) (zca tf tg):=by
 have ha:=ha.pe
 have hb:=hb.pe
 exact ⟨PW.imp (zq0 ha hb) fun σ H Q h=>
  LN.mono (tif (tf:=tf) (tg:=tg) (p:=fun c σ M1=>if c=true then .ok true M1 else tg σ M1) h) fun c H1 h1=>by
   cases c with
   | true=>exact (Qy rfl).mpr (zhp h1)
   | false=>exact (Qz Q4).mpr h1⟩
theorem WW.gt (h:WW X XE e tf):WT X XE e tf:=⟨GW.gt h.pe⟩
theorem za9 (ha:WT X XE a tf):WT X XE (.UnaryOp .Not a pos) (zbP tf):=by
 have ha:=ha.pe
 exact ⟨PT.imp (zo2 ha) fun σ H Q h=>
  LN.mono (tif (tf:=tf) (tg:=tf) (p:=fun c σ M1=>.ok (!c) M1) h) fun c H1 h1=>zhp h1⟩
theorem zdE {op} (h:WE X XE a f):WE X XE (.BoolOp op [a] pos) f:=by
 have h:=h.pe
 exact ⟨zpd h⟩
theorem zgd (ha:WE X XE a f) (hb:WE X XE (.BoolOp .And (b::rest) pos) g):WE X XE (.BoolOp .And (a::b::rest) pos) (ziw f g):=by
 have ha:=ha.pe
 have hb:=hb.pe
 exact ⟨PE.imp (zpk ha hb) fun σ H Q h=>
  LN.mono (eif (f:=f) (p:=fun b σ M2=>if b=true then g σ M2 else .ok (.bl false) M2) h) fun x H1 ⟨c,e,h1⟩=>⟨c,e,by
   cases c with
   | true=>exact (Qy rfl).mpr h1
   | false=>exact (Qz Q4).mpr (zj8 h1 fun _=>.bl _)⟩⟩
theorem zkt (ha:WE X XE a f) (hb:WE X XE (.BoolOp .Or (b::rest) pos) g):WE X XE (.BoolOp .Or (a::b::rest) pos) (eOr f g):=by
 have ha:=ha.pe
 have hb:=hb.pe
 exact ⟨PE.imp (zq4 ha hb) fun σ H Q h=>
  LN.mono (eif (f:=f) (p:=fun b σ M2=>if b=true then .ok (.bl true) M2 else g σ M2) h) fun x H1 ⟨c,e,h1⟩=>⟨c,e,by
   cases c with
   | true=>exact (Qy rfl).mpr (zj8 h1 fun _=>.bl _)
   | false=>exact (Qz Q4).mpr h1⟩⟩
theorem zi5 (ha:WE X XE a f):WE X XE (.UnaryOp .Not a pos) (zkf f):=by
 have ha:=ha.pe
 exact ⟨PE.imp (zpe ha) fun σ H Q h=>
  LN.mono (eif (f:=f) (p:=fun b σ M2=>.ok (.bl (!b)) M2) h) fun x H1 ⟨c,e,h1⟩=>⟨c,e,zj8 h1 fun _=>.bl _⟩⟩
theorem zoG (hc:WT X XE c tf) (ha:WE X XE a f) (hb:WE X XE b g):WE X XE (.IfExp c a b pos) (eIf tf f g):=by
 have hc:=hc.pe
 have ha:=ha.pe
 have hb:=hb.pe
 exact ⟨PE.imp (zl1 hc ha hb) fun σ H Q h=>
  LN.mono (LN.bind (f:=fun _ σ M=>tf σ M) (k:=fun _ c σ M1=>if c=true then f σ M1 else g σ M1) (RB:=EqR) h) fun c H1 h2=>by
   obtain ⟨S,στ,a,e,m,ev,ra,fin⟩:=h2
   have:a.2=c:=ra.2
   subst this
   replace fin:Fin XE (Rep X.K) X.K S (if a.2=true then f στ S.M else g στ S.M) Q:=fin
   cases q:a.2 with
   | true=>exact (Qy rfl).mpr ⟨S,στ,(),e,m,ev,trivial,by rw [q] at fin;exact fin⟩
   | false=>exact (Qz Q4).mpr ⟨S,στ,(),e,m,ev,trivial,by rw [q] at fin;exact fin⟩⟩
theorem zd :WA X XE [] ze:=⟨PA.imp zpl fun σ H Q h9=>by
 obtain ⟨S,στ,_,e,m,ev,_,fin⟩:=h9
 show Q [] H
 rw [← e];exact fin S [] rfl (.refl m) .nil⟩
theorem ya (ha:WE X XE e f) (hr:WA X XE es ga) (hs:noStar e=true:=by rfl):WA X XE (e::es) (zb f ga):=by
 have ha:=ha.pe
 have hr:=hr.pe
 exact ⟨PA.imp (znz ha hr (zaR hs)) fun σ H Q h=>
  LN.mono (LN.bind (f:=fun _ σ M=>f σ M) (k:=fun _ x σ M1=>(ga σ M1).bind fun xs M2=>.ok (x::xs) M2) (RB:=Rep X.K) h) fun v H1 h1=>
   LN.mono (LN.env (f:=ga) (LN.bind (f:=fun _ σ M=>ga σ M) (k:=fun (ax:Unit × T) ys σ M2=>.ok (ax.2::ys) M2) (RB:=Reps X.K) h1)) fun w H2 h2=>by
    obtain ⟨S,στ,a,e,m,ev,ra,fin⟩:=h2
    show Q (v::w) H2
    rw [← e]
    exact fin S _ rfl (.refl m) (Reps.cons ra.1.2 ra.2)⟩
theorem zu {x1} (h:WA X XE es ga):WE X XE (.Tuple es x1 pos) (yF ga):=by
 have h:=h.pe
 exact ⟨PE.imp (zpa h) fun σ H Q h=>
  LN.mono (LN.bind (f:=fun _ σ M=>ga σ M) (k:=fun _ xs σ M1=>if xs.length<=sizeLine then .ok (T.tup xs) M1 else .bad) (RB:=Reps X.K) h) fun v H1 h2=>by
   obtain ⟨S,στ,a,e,m,ev,ra,fin⟩:=h2
   by_cases hl:a.2.length<=sizeLine
   ·replace fin:Fin XE (Rep X.K) X.K S (if a.2.length<=sizeLine then .ok (.tup a.2) S.M else .bad) Q:=fin
    rw [Qy hl] at fin
    refine ⟨by rw [← ra.2.1];exact hl,fun p hp=>?_⟩
    subst e
    have s:=Stp.new m hp (.tup v)
    exact fin ⟨S.α,S.M,upd S.H p (.tup v),S.hid⟩ (.ref p) rfl s (.tup (.inl (.inl yE)) ra.2.1 (ra.2.grow m s.toGrow).2)
   ·replace fin:Fin XE (Rep X.K) X.K S (if a.2.length<=sizeLine then .ok (.tup a.2) S.M else .bad) Q:=fin
    rw [Qz hl] at fin
    exact fin.elim⟩
theorem yw (h:WA X XE es ga):WL X XE (.List es pos) (yx ga):=by
 have h:=h.pe
 exact ⟨PE.imp (zpg h) fun σ H Q h9=>by
  obtain ⟨S,στ,e,m,ev,fin⟩:=h9
  replace fin:FinL XE X.K S ((ga στ S.M).bind fun xs M1=>if xs.length<=sizeLine then .ok xs M1 else .bad) Q:=fin
  refine ⟨S,στ,(),e,m,ev,trivial,?_⟩
  show Fin XE (Reps X.K) X.K S (ga στ S.M) _
  cases q:ga στ S.M with
  | bad=>rw [q] at fin;exact fin
  | exn C fs M'=>rw [q] at fin;exact fin
  | ok xs M1=>
   rw [q] at fin
   intro S1 vs e1 s1 r1
   by_cases hl:xs.length<=sizeLine
   ·replace fin:FinL XE X.K S (if xs.length<=sizeLine then .ok xs M1 else .bad) Q:=fin
    rw [Qy hl] at fin
    refine ⟨by rw [← r1.1];exact hl,fun p hp=>?_⟩
    have s2:=Stp.hide s1.mok hp vs
    exact (fin.later s1) (S1.hide p vs) p vs e1 s2 hp (.head _) yE (r1.grow s1.mok s2.toGrow)
   ·replace fin:FinL XE X.K S (if xs.length<=sizeLine then .ok xs M1 else .bad) Q:=fin
    rw [Qz hl] at fin
    exact fin.elim⟩
theorem zP (h:WL X XE e ga):WE X XE e (eFz ga):=by
 have h:=h.pe
 exact ⟨PE.imp h fun σ H Q ⟨S,στ,_,e,m,ev,_,fin⟩=>⟨S,στ,e,m,ev,by
  show FinL XE X.K S (ga στ S.M) Q
  replace fin:Fin XE (Rep X.K) X.K S ((ga στ S.M).bind fun xs M1=>.ok (.lst xs) M1) Q:=fin
  cases q:ga στ S.M with
  | bad=>rw [q] at fin;exact fin
  | exn C fs M'=>rw [q] at fin;exact fin
  | ok xs M1=>
   rw [q] at fin
   intro S1 p vs e1 s1 hn hp hv r
   exact fin (S1.show S.hid) (.ref p) e1 s1.show (zn2 s1 hn m hp hv r)⟩⟩
theorem zH (h:WL X XE e ga):WE X XE e (eTk ga):=by
 have h:=h.pe
 exact ⟨PE.imp h fun σ H Q ⟨S,στ,_,e,m,ev,_,fin⟩=>⟨S,στ,e,m,ev,by
  show FinL XE X.K S (ga στ S.M) Q
  replace fin:Fin XE (Rep X.K) X.K S ((ga στ S.M).bind fun xs M1=>.ok (.ref M1.length) (M1++[.lst xs])) Q:=fin
  cases q:ga στ S.M with
  | bad=>rw [q] at fin;exact fin
  | exn C fs M'=>rw [q] at fin;exact fin
  | ok xs M1=>
   rw [q] at fin
   intro S1 p vs e1 s1 hn hp hv r
   refine fin (S1.track p xs S.hid) (.ref p) (by show S1.M++_=_;rw [e1]) (s1.track m hn hp hv r) ?_
   have this:(S1.track p xs S.hid).α S1.M.length=p:=Qy rfl
   rw [← e1]
   have hl:S1.M.length<(S1.track p xs S.hid).M.length:=by show _<(S1.M++[Cell.lst xs]).length;simp
   have r2:Rep X.K (S1.track p xs S.hid) (.ref S1.M.length) (.ref ((S1.track p xs S.hid).α S1.M.length)):=.ref hl
   rw [this] at r2
   exact r2⟩⟩
theorem zkw {op':CmpOp} {o':X3} (ho:OpR X (compareOp op) (lR2 XE X.K o)) (ho':OpR X (compareOp op') (lR2 XE X.K o')) (ha:WE X XE a f) (hb:WE X XE b g) (hc:WE X XE c h) (hm:lastMarks [op,op'] [b,c]=false:=by with_unfolding_all rfl):WE X XE (.Compare a [op,op'] [b,c] pos) (zf6 o o' f g h):=by
 have ha:=ha.pe
 have hb:=hb.pe
 have hc:=hc.pe
 exact ⟨PE.imp (zl3 ho ho' ha hb hc hm) fun _ _ _ hh=>chain hh⟩
end
variable {iter tg:Expr} {sts:List Stmt} {pos':Pos} {bd:T->X7}
section
variable {a b c:Expr} {rest:List Stmt} {p q r:X5}
theorem zr :WSs X XE [] yH:=⟨PSs.imp znn fun D σ H h9=>by
 obtain ⟨S,στ,_,e,m,ev,_,fin⟩:=h9
 show D.nx σ H
 rw [← e];exact fin S (.nx σ) rfl (.refl m) (.nx ev)⟩
theorem qd (h1:WS X XE st p) (h2:WSs X XE rest q):WSs X XE (st::rest) (yh p q):=by
 have h1:=h1.pe
 have h2:=h2.pe
 exact ⟨PSs.imp (zlY h1 h2) fun _ _ _ hh=>zpH hh⟩
theorem zf (h1:WS X XE st p):WSs X XE [st] p:=by
 have h1:=h1.pe
 exact ⟨zjd h1⟩
theorem yt (he:WE X XE e f):WS X XE (.Return (some e) pos) (zF f):=by
 have he:=he.pe
 exact ⟨PS.imp (zo5 he) fun D σ H hh=>
  LN.mono (LN.bind (f:=fun _ σ M=>f σ M) (k:=fun _ t σ M1=>.ok (Fl.rt t) M1) (RB:=Rep X.K) hh) fun v H1 h9=>by
   obtain ⟨S,στ,a,e,m,ev,ra,fin⟩:=h9
   rw [← e];exact fin S (.rt v) rfl (.refl m) (.rt ra.2)⟩
theorem zn (he:WE X XE e f) (hs:swapsWith e none pos.line X.env=pure false:=by rfl):WS X XE (.Expr e pos) (qB f):=by
 have he:=he.pe
 exact ⟨PS.imp (zno he hs) fun D σ H hh=>
  LN.mono (LN.bind (f:=fun _ σ M=>f σ M) (k:=fun _ t σ M1=>.ok (Fl.nx σ) M1) (RB:=Rep X.K) hh) fun v H1 h9=>by
   obtain ⟨S,στ,a,e,m,ev,ra,fin⟩:=h9
   show D.nx σ H1
   rw [← e];exact fin S (.nx σ) rfl (.refl m) (.nx ev)⟩
theorem qv (hc:WT X XE c tf) (ha:WSs X XE sts p) (hb:WSs X XE rest q):WS X XE (.If c sts rest pos) (sIf tf p q):=by
 have hc:=hc.pe
 have ha:=ha.pe
 have hb:=hb.pe
 exact ⟨PS.imp (zq1 hc ha hb) fun D σ H hh=>
  LN.mono (LN.bind (f:=fun _ σ M=>tf σ M) (k:=fun _ c σ M1=>if c=true then p σ M1 else q σ M1) (RB:=EqR) hh) fun c H1 h2=>by
   obtain ⟨S,στ,a,e,m,ev,ra,fin⟩:=h2
   have:a.2=c:=ra.2
   subst this
   replace fin:Fin XE (FlR X.K) X.K S (if a.2=true then p στ S.M else q στ S.M) (qP D):=fin
   cases q:a.2 with
   | true=>exact (Qy rfl).mpr ⟨S,στ,(),e,m,ev,trivial,by rw [q] at fin;exact fin⟩
   | false=>exact (Qz Q4).mpr ⟨S,στ,(),e,m,ev,trivial,by rw [q] at fin;exact fin⟩⟩
theorem zi (hN:X.N.Nodup) (hi:X.N[i]? = some x) (hx:Loc X.env.scope x) (he:WE X XE e f) (hs:swapsWith e (some (.Name x pos')) pos.line X.env=pure false:=by rfl) (hf:X.fn x=true\/X.env.scope.names.lookup x=some .local:=by first | exact .inl rfl | exact .inr rfl | assumption):WS X XE (.Assign [.Name x pos'] e pos) (yq i f):=by
 have he:=he.pe
 exact ⟨PS.imp (zo4 hN hi hx he hs hf) fun D σ H hh=>
  LN.mono (LN.bind (f:=fun _ σ M=>f σ M) (k:=fun _ t σ M1=>.ok (Fl.nx (σ.set i (some t))) M1) (RB:=Rep X.K) hh) fun v H1 h9=>by
   obtain ⟨S,στ,a,e,m,ev,ra,fin⟩:=h9
   show D.nx (σ.set i (some v)) H1
   rw [← e];exact fin S (.nx _) rfl (.refl m) (.nx (ev.set ra.2 i))⟩
theorem yn (h:PG X tg (zhs i)):WG X XE tg (qo i):=⟨PG.imp h fun v σ H Q h9=>by
 obtain ⟨S,στ,t,e,m,ev,ra,fin⟩:=h9
 show Q (σ.set i (some v)) H
 rw [← e];exact fin S _ rfl (.refl m) (ev.set ra i)⟩
theorem zb9 :WGs X XE [] zeL:=⟨PGs.imp znt fun v σ H Q h9=>by
 obtain ⟨S,στ,t,e,m,ev,ra,fin⟩:=h9
 cases t with
 | nil=>exact ⟨ra.nilT,by rw [← e];exact fin S _ rfl (.refl m) ev⟩
 | cons t r=>exact fin.elim⟩
theorem qG {bs:List T->X7} (h:PGs X (e::es) (zkd (lG XE X.K bd) (lGs XE X.K bs))):WGs X XE (e::es) (z4 bd bs):=⟨PGs.imp h fun v σ H Q h9=>by
 obtain ⟨S,στ,t,e,m,ev,ra,fin⟩:=h9
 cases t with
 | nil=>exact fin.elim
 | cons t r=>
  obtain ⟨v1,vs,rfl,r1,r2⟩:=ra.consT
  refine ⟨v1,vs,rfl,?_⟩
  replace fin:Fin XE (EvR X.K) X.K S ((bd t στ S.M).bind fun σ1 M1=>bs r σ1 M1) Q:=fin
  refine ⟨S,στ,t,e,m,ev,r1,?_⟩
  show Fin XE (EvR X.K) X.K S (bd t στ S.M) _
  cases o:bd t στ S.M with
  | bad=>rw [o] at fin;exact fin
  | exn C fs M'=>rw [o] at fin;exact fin
  | ok σ1 M1=>
   rw [o] at fin
   intro S1 cc e1 s1 ev1
   exact ⟨S1,σ1,r,rfl,s1.mok,ev1,r2.grow m s1.toGrow,by rw [e1];exact Fin.later s1 fin⟩⟩
theorem zeM {bs:List T->X7} (h:PG X tg (zmy X.K n (lGs XE X.K bs))):WG X XE tg (zgO n bs):=⟨PG.imp h fun v σ H Q h9=>by
 obtain ⟨S,στ,t,e,m,ev,ra,fin⟩:=h9
 cases ra with
 | @tup ts p vs h l r=>
  replace fin:Fin XE (EvR X.K) X.K S (if ts.length=n then bs ts στ S.M else .bad) Q:=fin
  by_cases hn:ts.length=n
  ·rw [Qy hn] at fin
   exact ⟨p,vs,rfl,by rw [← e];exact h,by rw [← l];exact hn,S,στ,ts,e,m,ev,⟨l,r⟩,fin⟩
  ·rw [Qz hn] at fin;exact fin.elim
 | _=>exact fin.elim⟩
theorem yS (he:WE X XE e f) (hg:WG X XE tg bd) (hs:swapsWithSole [tg] e pos.line X.env=pure false:=by rfl) (hw:swappedStores [tg] e X.env=pure none:=by rfl) (h1:(assignEach [tg] X.env).map (·.2)=[assign tg X.env]:=by rfl):WS X XE (.Assign [tg] e pos) (zaO f bd):=by
 have he:=he.pe
 have hg:=hg.pe
 exact ⟨PS.imp (zo7 he hg hs hw h1) fun D σ H hh=>
  LN.mono (LN.bind (f:=fun _ σ M=>f σ M) (k:=fun _ t σ M1=>(bd t σ M1).bind fun σ1 M2=>.ok (Fl.nx σ1) M2) (RB:=Rep X.K) hh) fun v H1 ⟨S,στ,a,e,m,ev,ra,fin⟩=>
   zrd ⟨S,στ,a.2,e,m,ev,ra.2,fin⟩⟩
theorem zaG (hp:PassesOwn (model X.prog X.w) X.A X.env X.xe) (hc:X.calm=true) (hi:WI X XE tg iter ga) (hg:WG X XE tg bd) (hb:WSs X XE sts p) (hs:∀ x,foldedSetIterable iter X.env x=pure x:=by intro _;rfl):WS X XE (.For tg iter sts [] pos) (zcb ga bd p):=by
 have hi:=hi.pe
 have hg:=hg.pe
 have hb:=hb.pe
 exact ⟨PS.imp (zkI hp hc hi hg hb hs) fun D σ H hh=>by
  refine LN.mono (LN.bind (f:=fun _ σ M=>ga σ M) (k:=fun _ xs σ M1=>forL bd p xs σ M1) (RB:=zdD X.K) hh) fun J H1 h1=>?_
  obtain ⟨S,στ,a,e,m,ev,ra,fin⟩:=h1
  refine ⟨fun i n σ H=>∃ S στ,S.H=H/\MemOk X.K S/\EvR X.K S στ σ/\zdD X.K S a.2 J/\n=a.2.length-i/\i<=a.2.length/\Fin XE (FlR X.K) X.K S (forL bd p (a.2.drop i) στ S.M) (qP D),⟨_,S,στ,e,m,ev,ra.2,rfl,Nat.zero_le _,fin⟩,?_⟩
  rintro i n σ1 H2 ⟨S1,στ1,e1,m1,ev1,it1,en,hi1,fin1⟩
  subst e1
  obtain ⟨it2,it3⟩:=it1 S1 (.refl m1)
  by_cases hl:i<a.2.length
  ·have eq:a.2.drop i=a.2[i]::a.2.drop (i+1):=List.drop_eq_getElem_cons hl
   rw [eq] at fin1
   obtain ⟨go,yl⟩:=it2 i a.2[i] (by simp [hl])
   refine .inr ⟨go,fun σ' H'=>∃ S στ,S.H=H'/\MemOk X.K S/\EvR X.K S στ σ'/\zdD X.K S a.2 J/\Fin XE (FlR X.K) X.K S (forL bd p (a.2.drop (i+1)) στ S.M) (qP D),?_,fun x H' hy=>?_⟩
   ·rintro σ' H' ⟨S2,στ2,e2,m2,ev2,it4,fin2⟩
    exact ⟨a.2.length-(i+1),by omega,S2,στ2,e2,m2,ev2,it4,rfl,hl,fin2⟩
   ·obtain ⟨S2,e2,eM,s2,r2⟩:=yl x H' hy
    replace fin1:Fin XE (FlR X.K) X.K S1 ((bd a.2[i] στ1 S1.M).bind fun σ1 M1=>(p σ1 M1).bind (zY (forL bd p (a.2.drop (i+1))))) (qP D):=fin1
    refine ⟨S2,στ1,a.2[i],e2,s2.mok,Mo.mo m1 s2 ev1,r2,?_⟩
    rw [eM]
    cases o:bd a.2[i] στ1 S1.M with
    | bad=>rw [o] at fin1;exact fin1
    | exn C fs M'=>rw [o] at fin1;exact Fin.later s2 fin1
    | ok σ3 M3=>
     rw [o] at fin1
     intro S3 σ3v e3 s3 ev3
     have s13:=s2.trans s3
     refine ⟨S3,σ3,(),rfl,s3.mok,ev3,trivial,?_⟩
     show Fin XE (FlR X.K) X.K S3 (p σ3 S3.M) _
     rw [e3]
     replace fin1:Fin XE (FlR X.K) X.K S1 ((p σ3 M3).bind (zY (forL bd p (a.2.drop (i+1))))) (qP D):=fin1
     cases o2:p σ3 M3 with
     | bad=>rw [o2] at fin1;exact fin1
     | exn C fs M'=>rw [o2] at fin1;exact Fin.later s13 fin1
     | ok fl M4=>
      rw [o2] at fin1
      intro S4 fv e4 s4 r4
      have s14:=s13.trans s4
      cases r4 with
      | nx r4=>exact ⟨S4,_,rfl,s4.mok,r4,Mo.mo m1 s14 it1,by rw [e4];exact Fin.later s14 fin1⟩
      | ct r4=>exact ⟨S4,_,rfl,s4.mok,r4,Mo.mo m1 s14 it1,by rw [e4];exact Fin.later s14 fin1⟩
      | bk r4=>exact fin1 S4 (.nx _) e4 s14 (.nx r4)
      | rt r4=>exact fin1 S4 (.rt _) e4 s14 (.rt r4)
  ·rw [List.drop_eq_nil_of_le (by omega)] at fin1
   refine .inl ⟨it3 i (by omega),?_⟩
   exact fin1 S1 (.nx σ1) rfl (.refl m1) (.nx ev1)⟩
theorem zgS (hp:PassesOwn (model X.prog X.w) X.A X.env X.xe) (hc:WT X XE c tf) (hb:WSs X XE sts p):WS X XE (.While c sts [] pos) (zbS tf p):=by
 have hc:=hc.pe
 have hb:=hb.pe
 exact ⟨PS.imp (zlZ hp hc hb) fun D σ H hh=>by
  obtain ⟨S,στ,_,e,m,ev,_,fin⟩:=hh
  replace fin:Fin XE (FlR X.K) X.K S (zbS tf p στ S.M) (qP D):=fin
  have ex:∃ n,Fin XE (FlR X.K) X.K S (whileN tf p n στ S.M) (qP D):=by
   unfold zbS at fin
   rw?
   ·exact ⟨_,fin⟩
   ·simp?
  obtain ⟨n,fin⟩:=ex
  refine ⟨fun n σ H=>∃ S στ,S.H=H/\MemOk X.K S/\EvR X.K S στ σ/\Fin XE (FlR X.K) X.K S (whileN tf p n στ S.M) (qP D),⟨n,S,στ,e,m,ev,fin⟩,?_⟩
  rintro n σ1 H1 ⟨S1,στ1,e1,m1,ev1,fin1⟩
  subst e1
  cases n with
  | zero=>exact fin1.elim
  | succ n=>
   replace fin1:Fin XE (FlR X.K) X.K S1 ((tf στ1 S1.M).bind fun b M1=>if b=true then (p στ1 M1).bind (zY (whileN tf p n)) else .ok (.nx στ1) M1) (qP D):=fin1
   refine ⟨S1,στ1,(),rfl,m1,ev1,trivial,?_⟩
   show Fin XE EqR X.K S1 (tf στ1 S1.M) _
   cases o:tf στ1 S1.M with
   | bad=>rw [o] at fin1;exact fin1
   | exn C fs M'=>rw [o] at fin1;exact fin1
   | ok b M2=>
    rw [o] at fin1
    intro S2 b2 e2 s2 eb
    have eb':b=b2:=eb
    subst eb'
    replace fin1:Fin XE (FlR X.K) X.K S1 (if b=true then (p στ1 M2).bind (zY (whileN tf p n)) else .ok (.nx στ1) M2) (qP D):=fin1
    cases b with
    | false=>exact (Qz Q4).mpr (fin1 S2 (.nx σ1) e2 s2 (.nx (Mo.mo m1 s2 ev1)))
    | true=>
     refine (Qy rfl).mpr ⟨fun σ' H'=>∃ S στ,S.H=H'/\MemOk X.K S/\EvR X.K S στ σ'/\Fin XE (FlR X.K) X.K S (whileN tf p n στ S.M) (qP D),fun σ' H' h=>⟨n,Nat.lt_succ_self _,h⟩,?_⟩
     rw [Qy rfl] at fin1
     refine ⟨S2,στ1,(),rfl,s2.mok,Mo.mo m1 s2 ev1,trivial,?_⟩
     show Fin XE (FlR X.K) X.K S2 (p στ1 S2.M) _
     rw [e2]
     cases o2:p στ1 M2 with
     | bad=>rw [o2] at fin1;exact fin1
     | exn C fs M'=>rw [o2] at fin1;exact Fin.later s2 fin1
     | ok fl M4=>
      rw [o2] at fin1
      intro S4 fv e4 s4 r4
      have s14:=s2.trans s4
      cases r4 with
      | nx r4=>exact ⟨S4,_,rfl,s4.mok,r4,by rw [e4];exact Fin.later s14 fin1⟩
      | ct r4=>exact ⟨S4,_,rfl,s4.mok,r4,by rw [e4];exact Fin.later s14 fin1⟩
      | bk r4=>exact fin1 S4 (.nx _) e4 s14 (.nx r4)
      | rt r4=>exact fin1 S4 (.rt _) e4 s14 (.rt r4)⟩
end
variable {F:X4}
section
variable {k:Nat} {p:Pos}
theorem yg (C:CalT X.prog X.w X.K X.mg X.base k x ps F) (hr:Room k X.A) (hg:Gl X x) (ha:WA X XE (e::es) ga) (hdb:(x==("__debug__":Str))=false:=by decide) (he:noStar e=true:=by rfl) (hpl:es.all noStar=true:=by rfl):WE X XE (.Call (.Name x p) (e::es) [] pos) (yf F ga):=by
 have ha:=ha.pe
 exact ⟨PE.imp (zpi C.cal hr hg ha hdb (zaR he) (zcW hpl)) fun σ H Q hh=>
  LN.mono (LN.bind (f:=fun _ σ M=>ga σ M) (k:=fun _ ts σ M1=>F ts M1) (RB:=Reps X.K) hh) fun vs H1 h9=>by
   obtain ⟨S,στ,a,e,m,ev,ra,fin⟩:=h9
   rw [append_nil]
   refine ⟨S,a.2,e,m,ra.2,?_⟩
   show Fin E0 (Rep X.K) X.K S (F a.2 S.M) Q
   replace fin:Fin XE (Rep X.K) X.K S (F a.2 S.M) Q:=fin
   cases o:F a.2 S.M with
   | bad=>rw [o] at fin;exact fin
   | exn C' fs M'=>exact absurd o (C.nox _ _ _ _ _)
   | ok t M1=>rw [o] at fin;exact fin⟩
theorem X9 {m:Nat} (C:CalT X.prog X.w X.K X.mg X.base k x ps F) (hr:Room m X.A) (ha:WA X XE (e::es) ga) (hk:k<=m:=by decide) (hg:Gl X x:=by exact rfl) (hdb:(x==("__debug__":Str))=false:=by decide) (he:noStar e=true:=by rfl) (hpl:es.all noStar=true:=by rfl):WE X XE (.Call (.Name x p) (e::es) [] pos) (yf F ga):=yg C (hr.mono hk) hg ha hdb he hpl
theorem yk {id:String} (hc:CallR X (.builtin id) (lRN XE X.K F)) (hg:Gl X x) (hm:X.mg x=none) (hv:bootBuiltins x=some (.builtin id)) (ha:WA X XE (e::es) ga) (hn:x ≠ "__name__":=by decide) (hdb:(x==("__debug__":Str))=false:=by decide) (he:noStar e=true:=by rfl) (hpl:es.all noStar=true:=by rfl):WE X XE (.Call (.Name x p) (e::es) [] pos) (yf F ga):=by
 have ha:=ha.pe
 exact ⟨PE.imp (zl4 hc hg hm hv ha hn hdb (zaR he) (zcW hpl)) fun σ H Q hh=>
  LN.mono (LN.bind (f:=fun _ σ M=>ga σ M) (k:=fun _ ts σ M1=>F ts M1) (RB:=Reps X.K) hh) fun vs H1 ⟨S,στ,a,e,m,ev,ra,fin⟩=>⟨S,a.2,e,m,ra.2,fin⟩⟩
theorem zav {id:String} (hc:CallR X (.type id) (lRN XE X.K F)) (hg:Gl X x) (hm:X.mg x=none) (hv:bootBuiltins x=some (.type id)) (ha:WA X XE (e::es) ga) (hn:x ≠ "__name__":=by decide) (hdb:(x==("__debug__":Str))=false:=by decide) (he:noStar e=true:=by rfl) (hpl:es.all noStar=true:=by rfl):WE X XE (.Call (.Name x p) (e::es) [] pos) (yf F ga):=by
 have ha:=ha.pe
 exact ⟨PE.imp (zgV hc hg hm hv ha hn hdb (zaR he) (zcW hpl)) fun σ H Q hh=>
  LN.mono (LN.bind (f:=fun _ σ M=>ga σ M) (k:=fun _ ts σ M1=>F ts M1) (RB:=Reps X.K) hh) fun vs H1 ⟨S,στ,a,e,m,ev,ra,fin⟩=>⟨S,a.2,e,m,ra.2,fin⟩⟩
end
section
variable {a b c:Expr} {p:Pos}
theorem zb8 (he:WE X XE e f):WI X XE tg e (zcJ f):=⟨zp8 he.pe⟩
theorem yN (hg:Gl X "range") (hm:X.mg "range" = none) (ha:WA X XE [a] ga) (hs:starEach [a] X.env=[(false,eval a X.env)]:=by rfl):WI X XE tg (.Call (.Name "range" p) [a] [] pos) (yU ga):=by
 have ha:=ha.pe
 exact ⟨PI.imp (zkN hg hm ha hs) fun σ H R hh=>
  LN.mono (LN.bind (f:=fun _ σ M=>ga σ M) (k:=fun _ ts σ M1=>zbT ts M1) (RB:=Reps X.K) hh) fun vs H1 h9=>by
   obtain ⟨S,στ,a,e,m,ev,ra,fin⟩:=h9
   obtain ⟨u,ts⟩:=a
   have rr:Reps X.K S ts vs:=ra.2
   replace fin:Fin XE (zdD X.K) X.K S (zbT ts S.M) R:=fin
   unfold zbT at fin
   rw?
   ·rename_i j
    obtain ⟨v,vs',rfl,r1,r2⟩:=rr.consT
    cases r1
    rw [r2.nilT]
    rw?
    ·rename_i hj
     exact ⟨j,rfl,hj.1,hj.2,by rw [← e];exact fin S _ rfl (.refl m) (zie _ _ _ _)⟩
    ·simp?
   ·exact fin.elim⟩
theorem zjN (hg:Gl X "range") (hm:X.mg "range" = none) (ha:WA X XE [a,b] ga) (hs:starEach [a,b] X.env=[(false,eval a X.env),(false,eval b X.env)]:=by rfl) (hs2:starEach [b] X.env=[(false,eval b X.env)]:=by rfl):WI X XE tg (.Call (.Name "range" p) [a,b] [] pos) (zgG ga):=by
 have ha:=ha.pe
 exact ⟨PI.imp (zkM hg hm ha hs hs2) fun σ H R hh=>
  LN.mono (LN.bind (f:=fun _ σ M=>ga σ M) (k:=fun _ ts σ M1=>zfq ts M1) (RB:=Reps X.K) hh) fun vs H1 h9=>by
   obtain ⟨S,στ,a,e,m,ev,ra,fin⟩:=h9
   obtain ⟨u,ts⟩:=a
   have rr:Reps X.K S ts vs:=ra.2
   replace fin:Fin XE (zdD X.K) X.K S (zfq ts S.M) R:=fin
   unfold zfq at fin
   rw?
   ·rename_i i j
    obtain ⟨v,vs',rfl,r1,r2⟩:=rr.consT
    obtain ⟨v2,vs2,rfl,r3,r4⟩:=r2.consT
    cases r1
    cases r3
    rw [r4.nilT]
    rw?
    ·rename_i hj
     exact ⟨i,j,rfl,⟨hj.1.1,hj.1.2,hj.2.1,hj.2.2⟩,by rw [← e];exact fin S _ rfl (.refl m) (zie _ _ _ _)⟩
    ·simp?
   ·exact fin.elim⟩
end
variable {cond:X6} {elt:Expr} {cl:List (Str × Addr)} {caps:List (Str × Nat)} {ifs:List Expr} {tgs:List Str} {scope:Scope}
section
theorem zah (hi:WI X XE tg iter ga) (cb:CB X scope cl caps) (hg:∀ ex s0 H0,WG (X.block scope cl (tgs++caps.map (·.1)) ex s0 H0) XE tg bd) (hif:∀ ex s0 H0,PTs (X.block scope cl (tgs++caps.map (·.1)) ex s0 H0) ifs (lT XE X.K cond)) (hel:∀ ex s0 H0,WE (X.block scope cl (tgs++caps.map (·.1)) ex s0 H0) XE elt f) (hs:∀ x,foldedSetIterable iter X.env x=pure x:=by intro _;rfl):WL X XE (.ListComp elt [⟨tg,iter,ifs,0⟩] scope pos) (zax ga bd cond f tgs caps):=by
 have hi:=hi.pe
 have hg:=fun ex s0 H0=>(hg ex s0 H0).pe
 have hel:=fun ex s0 H0=>(hel ex s0 H0).pe
 exact ⟨PE.imp (zjf (tgs:=tgs) (g:=lG XE X.K bd) (tc:=lT XE X.K cond) (te:=lE XE X.K f) cb.hc hi cb.hclos cb.hcell cb.hkind cb.hnames cb.hcl cb.hhas cb.hcap hg hif hel hs) fun σ H Q hh=>zmH hh⟩
theorem zag :PTs X [] (lT XE X.K qK):=zn5 
theorem zlH {c:Expr} (h:WT X XE c tf):PTs X [c] (lT XE X.K tf):=zn4 h.pe
end
section
variable {a b:Expr} {p:Pos}
theorem zhA {op:Operator} {o:T->T->Mem->Out (List T)} (ho:OpR X (binaryOp op) (zj7 XE X.K o)) (ha:WE X XE a f) (hb:WE X XE b g):WL X XE (.BinOp a op b pos) (lOp o f g):=by
 have ha:=ha.pe
 have hb:=hb.pe
 exact ⟨PE.imp (zmR ho ha hb) fun σ H Q ⟨S,στ,e,m,ev,fin⟩=>
  LN.mono (LNL.bind (f:=fun (_:Unit) σ M=>f σ M) (k:=fun _ x σ M1=>(g σ M1).bind fun y M2=>o x y M2) (RA:=UnR) (RB:=Rep X.K) ⟨S,στ,(),e,m,ev,trivial,fin⟩) fun v H1 h1=>
   LN.mono (LN.env (f:=g) (LNL.bind (f:=fun _ σ M=>g σ M) (k:=fun (ax:Unit × T) y σ M2=>o ax.2 y M2) (RB:=Rep X.K) h1)) fun w H2 h2=>by
    obtain ⟨S,στ,a,e,m,ev,ra,fin⟩:=h2
    exact ⟨S,(a.1.2,a.2),e,m,⟨ra.1.2,ra.2⟩,fin⟩⟩
theorem zjM {id:String} {F:List T->Mem->Out (List T)} (hc:CallR X (.type id) (zmg XE X.K F)) (hg:Gl X x) (hm:X.mg x=none) (hv:bootBuiltins x=some (.type id)) (ha:WA X XE (e::es) ga) (hn:x ≠ "__name__":=by decide) (hdb:(x==("__debug__":Str))=false:=by decide) (he:noStar e=true:=by rfl) (hpl:es.all noStar=true:=by rfl):WL X XE (.Call (.Name x p) (e::es) [] pos) (zfT F ga):=by
 have ha:=ha.pe
 exact ⟨PE.imp (zgV hc hg hm hv ha hn hdb (zaR he) (zcW hpl)) fun σ H Q ⟨S,στ,e,m,ev,fin⟩=>
  LN.mono (LNL.bind (f:=fun (_:Unit) σ M=>ga σ M) (k:=fun _ ts σ M1=>F ts M1) (RA:=UnR) (RB:=Reps X.K) ⟨S,στ,(),e,m,ev,trivial,fin⟩) fun vs H1 ⟨S,στ,a,e,m,ev,ra,fin⟩=>⟨S,a.2,e,m,ra.2,fin⟩⟩
end
section
theorem zaH {o i:Expr} {st:T->T->T->Mem->Out Unit} (ho:WE X XE o f) (hi:WE X XE i g) (hs:zek X (zgD XE X.K st)) (ha:∀ v,assign (.Subscript o i pos) X.env v=(do
 let ov ← holding [v] (eval o X.env)
 let iv ← holding [v,ov] (eval i X.env)
 standAt pos
 holding [v,ov,iv] (setItem ov iv v)
 release [v,ov,iv] []):=by intro _;rfl):WG X XE (.Subscript o i pos) (za8 st f g):=by
 have ho:=ho.pe
 have hi:=hi.pe
 exact ⟨PG.imp (zo9 ho hi hs ha) fun v σ H Q hh=>by
  have h1:LN XE (EvR X.K) X.K (Rep X.K) (fun t σ M=>(f σ M).bind fun o M1=>(g σ M1).bind fun i M2=>(st o i t M2).bind fun _ M3=>.ok σ M3) v σ H Q:=hh
  refine LN.mono (LN.env (f:=f) (LN.bind (f:=fun _ σ M=>f σ M) (k:=fun t o σ M1=>(g σ M1).bind fun i M2=>(st o i t M2).bind fun _ M3=>.ok σ M3) (RB:=Rep X.K) h1)) fun ov H1 h2=>?_
  refine LN.mono (LN.env (f:=g) (LN.bind (f:=fun _ σ M=>g σ M) (k:=fun (to:T × T) i σ M2=>(st to.2 i to.1 M2).bind fun _ M3=>.ok σ M3) (RB:=Rep X.K) h2)) fun iv H2 h3=>?_
  obtain ⟨S,στ,a,e,m,ev,ra,fin⟩:=h3
  refine ⟨S,((a.1.2,a.2),a.1.1),e,m,⟨⟨ra.1.2,ra.2⟩,ra.1.1⟩,?_⟩
  show Fin XE UnR X.K S (st a.1.2 a.2 a.1.1 S.M) _
  replace fin:Fin XE (EvR X.K) X.K S ((st a.1.2 a.2 a.1.1 S.M).bind fun _ M3=>.ok στ M3) Q:=fin
  cases o:st a.1.2 a.2 a.1.1 S.M with
  | bad=>rw [o] at fin;exact fin
  | exn C fs M'=>rw [o] at fin;exact fin
  | ok b M1=>
   rw [o] at fin
   intro S1 c e1 s1 _
   exact fin S1 σ e1 s1 (Mo.mo m s1 ev)⟩
theorem yK {o:Expr} {apos:Pos} (h:PE X (.Call (.Attribute o "append" apos) [e] [] cpos) (tBM X.K "list" zgr (lE XE X.K f) (lA XE X.K ga))):WE X XE (.Call (.Attribute o "append" apos) [e] [] cpos) (zT yO (eUn qD f) ga):=⟨PE.imp h fun σ H Q hh=>by
 obtain ⟨S,στ,_,e0,m,ev,_,fin⟩:=hh
 replace fin:Fin XE (Rep X.K) X.K S (((f στ S.M).bind fun x M1=>qD x M1).bind fun x M1=>(ga στ M1).bind fun ts M2=>yO x ts M2) Q:=fin
 refine ⟨S,στ,(),e0,m,ev,trivial,?_⟩
 show Fin XE (Rep X.K) X.K S (f στ S.M) _
 cases o1:f στ S.M with
 | bad=>rw [o1] at fin;exact fin
 | exn C fs M'=>rw [o1] at fin;exact fin
 | ok x M1=>
  rw [o1] at fin
  intro S1 v e1 s1 r1
  replace fin:Fin XE (Rep X.K) X.K S ((qD x M1).bind fun x M1=>(ga στ M1).bind fun ts M2=>yO x ts M2) Q:=fin
  unfold qD at fin
  cases q:yo x M1 with
  | none=>rw [q] at fin;exact fin.elim
  | some xs=>
   rw [q] at fin
   replace fin:Fin XE (Rep X.K) X.K S ((ga στ M1).bind fun ts M2=>yO x ts M2) Q:=fin
   obtain ⟨p,vs,rfl,hq,_⟩:=yC s1.mok r1 (by rw [e1];exact q)
   refine ⟨.inl ⟨rfl,vs,hq⟩,S1,στ,(),rfl,s1.mok,Mo.mo m s1 ev,trivial,?_⟩
   show Fin XE (Reps X.K) X.K S1 (ga στ S1.M) _
   rw [e1]
   cases o2:ga στ M1 with
   | bad=>rw [o2] at fin;exact fin
   | exn C fs M'=>rw [o2] at fin;exact Fin.later s1 fin
   | ok ts M2=>
    rw [o2] at fin
    intro S2 ws e2 s2 r2
    replace fin:Fin XE (Rep X.K) X.K S (yO x ts M2) Q:=fin
    have fin2:=Fin.later (s1.trans s2) fin
    unfold yO at fin2
    split at fin2
    ·split at fin2
     ·rename_i a t _ ys qy
      split at fin2
      ·rename_i hz
       obtain ⟨w,ws',rfl,r3,r4⟩:=r2.consT
       rw [r4.nilT]
       have r1':=r1.grow s1.mok s2.toGrow
       cases r1' with
       | ref ha2=>
       obtain ⟨us,q3,rs⟩:=s2.mok.cell a _ (by rw [e2];exact qy)
       refine ⟨S2.α a,us,w,rfl,rfl,q3,by rw [← rs.1];exact hz,?_⟩
       exact fin2 (S2.put a (.lst (us++[w])) (.lst (ys++[t]))) .non (by show S2.M.set a _=_;rw [e2]) (zdJ s2.mok (by rw [e2];exact qy) (rs.app (.cons r3 .nil))) .non
      ·exact fin2.elim
     ·exact fin2.elim
    ·exact fin2.elim⟩
end
section
theorem zb7 :WO X XE none zdh:=⟨PO.imp zns fun σ H Q h9=>by
 obtain ⟨S,στ,_,e,m,ev,_,fin⟩:=h9
 show Q none H
 rw [← e];exact fin S none rfl (.refl m) rfl⟩
theorem zau (h:WE X XE e f):WO X XE (some e) (zbh f):=by
 have h:=h.pe
 exact ⟨PO.imp (znr h) fun σ H Q hh=>
  LN.mono (LN.bind (f:=fun _ σ M=>f σ M) (k:=fun _ x σ M1=>zmj x M1) (RB:=Rep X.K) hh) fun v H1 h9=>by
   obtain ⟨S,στ,a,e,m,ev,ra,fin⟩:=h9
   obtain ⟨u,t⟩:=a
   have r:Rep X.K S t v:=ra.2
   replace fin:Fin XE EqR X.K S (zmj t S.M) Q:=fin
   cases r with
   | int i=>exact ⟨i,rfl,by rw [← e];exact fin S (some i) rfl (.refl m) rfl⟩
   | _=>exact fin.elim⟩
theorem zeo {lo hi:Option Expr} {q:Ev->Mem->Out (Option Int)} (he:WE X XE e f) (hl:WO X XE lo p) (hu:WO X XE hi q):WE X XE (.Subscript e (.Slice lo hi none p2) pos) (eSl f p q):=by
 have he:=he.pe
 have hl:=hl.pe
 have hu:=hu.pe
 exact ⟨PE.imp (zh0 zoP he hl hu) fun σ H Q hh=>
  LN.mono (LN.bind (f:=fun _ σ M=>f σ M) (k:=fun _ x σ M1=>(p σ M1).bind fun lo M2=>(q σ M2).bind fun hi M3=>zfB x lo hi M3) (RB:=Rep X.K) hh) fun v H1 h1=>
   LN.mono (LN.env (f:=p) (LN.bind (f:=fun _ σ M=>p σ M) (k:=fun (ax:Unit × T) lo σ M2=>(q σ M2).bind fun hi M3=>zfB ax.2 lo hi M3) (RB:=EqR) h1)) fun l H2 h2=>
    LN.mono (LN.env (f:=q) (LN.bind (f:=fun _ σ M=>q σ M) (k:=fun (ax:(Unit × T) × Option Int) hi σ M3=>zfB ax.1.2 ax.2 hi M3) (RB:=EqR) h2)) fun w H3 h9=>by
     obtain ⟨S,στ,a,e,m,ev,ra,fin⟩:=h9
     have e1:a.1.2=l:=ra.1.2
     have e2:a.2=w:=ra.2
     exact ⟨S,a.1.1.2,e,m,ra.1.1.2,by rw [← e1,← e2];exact fin⟩⟩
end
section
theorem zlJ {o i:Expr} {get op:X3} {st:T->T->T->Mem->Out Unit} {bop:Operator} (ho:WE X XE o f) (hi:WE X XE i g) (hg:ziN X (lR2 XE X.K get)) (he:WE X XE e h) (hp:PIp X bop (lR2 XE X.K op)) (hs:zek X (zgD XE X.K st)) (ha:∀ ov iv new,augStore i ov iv new=(do holding [new,ov,iv] (setItem ov iv new);release [new,ov,iv] [];pure .next):=by intros;rfl):WS X XE (.AugAssign (.Subscript o i tpos) bop e pos) (zhn get op st f g h):=by
 have ho:=ho.pe
 have hi:=hi.pe
 have he:=he.pe
 exact ⟨PS.imp (znp ho hi hg he hp hs ha) fun D σ H hh=>by
  refine LN.mono (LN.bind (f:=fun _ σ M=>f σ M) (k:=fun _ o σ M1=>(g σ M1).bind fun i M2=>(get o i M2).bind fun x M3=>(h σ M3).bind fun y M4=>(op x y M4).bind fun z M5=>(st o i z M5).bind fun _ M6=>.ok (Fl.nx σ) M6) (RB:=Rep X.K) hh) fun ov H1 h1=>?_
  refine LN.mono (LN.env (f:=g) (LN.bind (f:=fun _ σ M=>g σ M) (k:=fun (a:Unit × T) i σ M2=>(get a.2 i M2).bind fun x M3=>(h σ M3).bind fun y M4=>(op x y M4).bind fun z M5=>(st a.2 i z M5).bind fun _ M6=>.ok (Fl.nx σ) M6) (RB:=Rep X.K) h1)) fun iv H2 h2=>?_
  have h3:=LN.bind (f:=fun (a:(Unit × T) × T) _ M=>get a.1.2 a.2 M) (k:=fun a x σ M3=>(h σ M3).bind fun y M4=>(op x y M4).bind fun z M5=>(st a.1.2 a.2 z M5).bind fun _ M6=>.ok (Fl.nx σ) M6) (RB:=Rep X.K) h2
  obtain ⟨S,a,e,m,ra,fin⟩:=LN.l0 (k:=fun (a:(Unit × T) × T) M=>get a.1.2 a.2 M) h3
  refine ⟨S,(a.1.2,a.2),e,m,⟨ra.1.2,ra.2⟩,fin.mono fun xv H3 h4=>?_⟩
  refine LN.mono (LN.env (f:=h) (LN.bind (f:=fun _ σ M=>h σ M) (k:=fun (a:((Unit × T) × T) × T) y σ M4=>(op a.2 y M4).bind fun z M5=>(st a.1.1.2 a.1.2 z M5).bind fun _ M6=>.ok (Fl.nx σ) M6) (RB:=Rep X.K) h4)) fun yv H4 h5=>?_
  have h6:=LN.bind (f:=fun (a:(((Unit × T) × T) × T) × T) _ M=>op a.1.2 a.2 M) (k:=fun a z σ M5=>(st a.1.1.1.2 a.1.1.2 z M5).bind fun _ M6=>.ok (Fl.nx σ) M6) (RB:=Rep X.K) h5
  obtain ⟨S5,a5,e5,m5,ra5,fin5⟩:=LN.l0 (k:=fun (a:(((Unit × T) × T) × T) × T) M=>op a.1.2 a.2 M) h6
  refine ⟨S5,(a5.1.2,a5.2),e5,m5,⟨ra5.1.2,ra5.2⟩,fin5.mono fun zv H5 h7=>?_⟩
  obtain ⟨S6,στ,a6,e6,m6,ev6,ra6,fin6⟩:=h7
  refine ⟨S6,((a6.1.1.1.1.2,a6.1.1.1.2),a6.2),e6,m6,⟨⟨ra6.1.1.1.1.2,ra6.1.1.1.2⟩,ra6.2⟩,?_⟩
  show Fin XE UnR X.K S6 (st a6.1.1.1.1.2 a6.1.1.1.2 a6.2 S6.M) _
  replace fin6:Fin XE (FlR X.K) X.K S6 ((st a6.1.1.1.1.2 a6.1.1.1.2 a6.2 S6.M).bind fun _ M6=>.ok (Fl.nx στ) M6) (qP D):=fin6
  cases q:st a6.1.1.1.1.2 a6.1.1.1.2 a6.2 S6.M with
  | bad=>rw [q] at fin6;exact fin6
  | exn C fs M'=>rw [q] at fin6;exact fin6
  | ok b M1=>
   rw [q] at fin6
   intro S7 c e7 s7 _
   exact fin6 S7 (.nx σ) e7 s7 (.nx (Mo.mo m6 s7 ev6))⟩
end
section
theorem zm1:WE X XE (.Dict [] [] pos) zkg:=⟨PE.imp zl2 fun σ H Q ⟨S,στ,_,e,m,ev,_,fin⟩ p hp=>by
 subst e
 have s1:Stp X.K S (S.more p (.dK []) (.dic [])):=Stp.more m hp _ _ ⟨[],yE,.nil⟩
 have r1:Rep X.K (S.more p (.dK []) (.dic [])) (.ref S.M.length) (.ref p):=by
  have h0:S.M.length<(S.M++[Cell.dic []]).length:=by simp
  have:=Rep.ref (K:=X.K) (S:=S.more p (.dK []) (.dic [])) (a:=S.M.length) h0
  have e1:(S.more p (.dK []) (.dic [])).α S.M.length=p:=Qy rfl
  rw [e1] at this
  exact this
 exact fin (S.more p (.dK []) (.dic [])) (.ref p) rfl s1 r1⟩
theorem zdU {o e:Expr} {es:List Expr} {n:Str} {Ty:String} {f:X8} {ga:X1} {chk:T->Mem->Bool} {F:T->X4} {apos cpos:Pos} (hc:∀ {K:Frag} {S:Sit},MemOk K S->∀ {t:T} {x:V},Rep K S t x->chk t S.M=true->tyV K Ty x S.H) (h:PE X (.Call (.Attribute o n apos) (e::es) [] cpos) (tBM X.K Ty (lMt XE X.K F) (lE XE X.K f) (lA XE X.K ga))):WE X XE (.Call (.Attribute o n apos) (e::es) [] cpos) (zbu chk F f ga):=⟨PE.imp h fun σ H Q hh=>by
 obtain ⟨S,στ,_,e0,m,ev,_,fin⟩:=hh
 replace fin:Fin XE (Rep X.K) X.K S ((f στ S.M).bind fun x M1=>if chk x M1=true then (ga στ M1).bind fun ts M2=>F x ts M2 else .bad) Q:=fin
 refine ⟨S,στ,(),e0,m,ev,trivial,?_⟩
 show Fin XE (Rep X.K) X.K S (f στ S.M) _
 cases o1:f στ S.M with
 | bad=>rw [o1] at fin;exact fin
 | exn C fs M'=>rw [o1] at fin;exact fin
 | ok x M1=>
  rw [o1] at fin
  intro S1 v e1 s1 r1
  replace fin:Fin XE (Rep X.K) X.K S (if chk x M1=true then (ga στ M1).bind fun ts M2=>F x ts M2 else .bad) Q:=fin
  rw?
  ·rename_i hk
   refine ⟨hc s1.mok r1 (by rw [e1];exact hk),S1,στ,(),rfl,s1.mok,Mo.mo m s1 ev,trivial,?_⟩
   show Fin XE (Reps X.K) X.K S1 (ga στ S1.M) _
   rw [e1]
   cases o2:ga στ M1 with
   | bad=>rw [o2] at fin;exact fin
   | exn C fs M'=>rw [o2] at fin;exact Fin.later s1 fin
   | ok ts M2=>
    rw [o2] at fin
    intro S2 ws e2 s2 r2
    replace fin:Fin XE (Rep X.K) X.K S (F x ts M2) Q:=fin
    have fin2:=Fin.later (s1.trans s2) fin
    exact ⟨S2,(x,ts),rfl,s2.mok,⟨r1.grow s1.mok s2.toGrow,r2⟩,by show Fin XE (Rep X.K) X.K S2 (F x ts S2.M) Q;rw [e2];exact fin2⟩
  ·exact fin.elim⟩
end
section
variable {f:Str}
theorem zm (hC:∀ C ∈ Cs,Cls X.K C/\NoAttr X.K C f) (he:WE X XE e g) (hb:attributeBase e f X.env (eval e X.env)=eval e X.env:=by rfl):WE X XE (.Attribute e f pos) (zo Cs f g):=by
 have he:=he.pe
 exact ⟨PE.imp (zph he hb) fun σ H Q hh=>
  LN.mono (LN.bind (f:=fun _ σ M=>g σ M) (k:=fun _ x σ M1=>zaQ Cs f x M1) (RB:=Rep X.K) hh) fun v H1 h9=>by
   obtain ⟨S,στ,a,e,m,ev,ra,fin⟩:=h9
   obtain ⟨u0,t⟩:=a
   subst e
   have rt:Rep X.K S t v:=ra.2
   replace fin:Fin XE (Rep X.K) X.K S (zaQ Cs f t S.M) Q:=fin
   unfold zaQ at fin
   rw?
   ·rename_i a
    rw?
    ·rename_i C fs q
     rw?
     ·rename_i hc
      obtain ⟨t,et,fin⟩:=zgt fin
      cases rt
      obtain ⟨dx,us,h1,rf⟩:=m.cell _ _ q
      obtain ⟨w,ew,rw'⟩:=rf.look f et
      exact ⟨S.α a,C,dx,us,w,rfl,h1,(hC C hc).1,(hC C hc).2,ew,fin S w rfl (.refl m) rw'⟩
     ·simp?
    ·simp?
   ·exact fin.elim⟩
theorem zM {o value:Expr} {fv:X8} (hC:∀ C ∈ Cs,Cls X.K C/\NoAttr X.K C f) (ho:WE X XE o fo) (hv:WE X XE value fv) (hs:swapsWith value (some (.Attribute o f pos')) pos.line X.env=pure false:=by rfl):WS X XE (.Assign [.Attribute o f pos'] value pos) (zG Cs f fo fv):=by
 have ho:=ho.pe
 have hv:=hv.pe
 exact ⟨PS.imp (zo6 ho hv hs) fun D σ H hh=>by
  refine LN.mono (LN.bind (f:=fun _ σ M=>fv σ M) (k:=fun _ y σ M1=>(fo σ M1).bind fun x M2=>(zaT Cs f x y M2).bind fun _ M3=>.ok (Fl.nx σ) M3) (RB:=Rep X.K) hh) fun yv H1 h1=>?_
  refine LN.mono (LN.env (f:=fo) (LN.bind (f:=fun _ σ M=>fo σ M) (k:=fun (a:Unit × T) x σ M2=>(zaT Cs f x a.2 M2).bind fun _ M3=>.ok (Fl.nx σ) M3) (RB:=Rep X.K) h1)) fun xv H2 h2=>?_
  obtain ⟨S,στ,⟨⟨u0,y⟩,x⟩,e,m,ev,⟨⟨hu0,ry⟩,rx⟩,fin⟩:=h2
  subst e
  dsimp only at ry rx
  replace fin:Fin XE (FlR X.K) X.K S ((zaT Cs f x y S.M).bind fun _ M3=>.ok (Fl.nx στ) M3) (qP D):=fin
  unfold zaT at fin
  rw?
  ·rename_i a
   rw?
   ·rename_i C fs q
    rw?
    ·rename_i hc
     cases rx
     obtain ⟨dx,us,h3,rf⟩:=m.cell _ _ q
     have ha:a<S.M.length:=(Qx.mp q).1
     refine ⟨S.α a,C,dx,us,rfl,h3,(hC C hc.1).1,(hC C hc.1).2,by rw [← rf.len];exact hc.2,?_⟩
     have s1:=Stp.put m ha (.ins C dx (z8 f yv us)) (.ins C (zc2 f y fs)) ⟨dx,_,yE,(rf.put f ry).grow m (Grow.put m ha _ _)⟩
     exact fin (S.put a (.ins C dx (z8 f yv us)) (.ins C (zc2 f y fs))) (.nx σ) rfl s1 (.nx (Mo.mo m s1 ev))
    ·simp?
   ·simp?
  ·exact fin.elim⟩
end
variable {C:Addr}
section
variable {k:Nat} {p:Pos}
theorem zhC (M:MakT X.prog X.w X.K X.mg X.base k x C ps F) (hr:Room (k+1) X.A) (hg:Gl X x) (ha:WA X XE (e::es) ga) (hdb:(x==("__debug__":Str))=false:=by decide) (he:noStar e=true:=by rfl) (hpl:es.all noStar=true:=by rfl):WE X XE (.Call (.Name x p) (e::es) [] pos) (zdo C F ga):=by
 have ha:=ha.pe
 refine ⟨?_⟩
 obtain ⟨fI,fd,Mk1,Fo,b,hm⟩:=M.ex
 refine PE.imp (znu Mk1 Fo hr hg hm b .nil zmS ha hdb (zaR he) (zcW hpl)) fun σ H Q hh=>?_
 refine LN.mono (LN.bind (f:=fun _ σ M=>ga σ M) (k:=fun _ ts σ M1=>(F (T.ref M1.length::ts) (M1++[Cell.ins C []])).bind fun t M2=>zl8 M1.length t M2) (RB:=Reps X.K) (R:=Rep X.K) hh) fun vs H1 ⟨S,στ,a,e,m,ev,ra,fin⟩=>?_
 obtain ⟨u0,ts⟩:=a
 subst e
 intro y dx hy hdx hne
 rw [append_nil]
 replace ra:Reps X.K S ts vs:=ra.2
 replace fin:Fin XE (Rep X.K) X.K S ((F (.ref S.M.length::ts) (S.M++[.ins C []])).bind fun t M2=>zl8 S.M.length t M2) Q:=fin
 have s1:=Stp.new m hdx (.own y)
 have hy1:(upd S.H dx (.own y)) y=none:=by rw [zl (Ne.symm hne)];exact hy
 have s2:Stp X.K ⟨S.α,S.M,upd S.H dx (.own y),S.hid⟩ (Sit.more ⟨S.α,S.M,upd S.H dx (.own y),S.hid⟩ y (.ins C dx []) (.ins C [])):=Stp.more s1.mok hy1 _ _ ⟨dx,[],yE,.nil⟩
 have s12:=s1.trans s2
 have al:(Sit.more ⟨S.α,S.M,upd S.H dx (.own y),S.hid⟩ y (.ins C dx []) (.ins C [])).α S.M.length=y:=Qy rfl
 have h0:S.M.length<(S.M++[Cell.ins C []]).length:=by simp
 have r0:Rep X.K (Sit.more ⟨S.α,S.M,upd S.H dx (.own y),S.hid⟩ y (.ins C dx []) (.ins C [])) (.ref S.M.length) (.ref y):=by
  have:=Rep.ref (K:=X.K) (S:=Sit.more ⟨S.α,S.M,upd S.H dx (.own y),S.hid⟩ y (.ins C dx []) (.ins C [])) (a:=S.M.length) h0
  rw [al] at this
  exact this
 refine ⟨_,.ref S.M.length::ts,rfl,s2.mok,(ra.grow m s12.toGrow).cons r0,?_⟩
 show Fin E0 (Rep X.K) X.K _ (F (.ref S.M.length::ts) (S.M++[.ins C []])) _
 cases o:F (.ref S.M.length::ts) (S.M++[.ins C []]) with
 | bad=>rw [o] at fin;exact fin.elim
 | exn C' fs M'=>exact absurd o (M.nox _ _ _ _ _)
 | ok t M2=>
  rw [o] at fin
  intro S3 c e3 s3 r3
  cases t with
  | non=>
   cases r3
   exact ⟨rfl,fin S3 (.ref y) e3 (s12.trans s3) (r0.grow s2.mok s3.toGrow)⟩
  | _=>exact fin.elim
end
section
variable {a b c:Expr} {pp:Pos} {p:X5} {ga:Ev->Mem->Out (List T × Gd)}
theorem zfd (hp:PassesOwn (model X.prog X.w) X.A X.env X.xe) (hc:X.calm=true) (hi:WIG X XE tg iter ga) (hg:WG X XE tg bd) (hb:WSs X XE sts p) (hs:∀ x,foldedSetIterable iter X.env x=pure x:=by intro _;rfl):WS X XE (.For tg iter sts [] pos) (zcN ga bd p):=by
 have hi:=hi.pe
 have hg:=hg.pe
 have hb:=hb.pe
 exact ⟨PS.imp (zkI hp hc hi hg hb hs) fun D σ H hh=>by
  refine LN.mono (LN.bind (f:=fun _ σ M=>ga σ M) (k:=fun _ xs σ M1=>forG xs.2 bd p xs.1 σ M1) (RB:=ItG X.K) hh) fun J H1 h1=>?_
  obtain ⟨S,στ,a,e,m,ev,ra,fin⟩:=h1
  refine ⟨fun i n σ H=>∃ S στ,S.H=H/\MemOk X.K S/\EvR X.K S στ σ/\ItG X.K S a.2 J/\n=a.2.1.length-i/\i<=a.2.1.length/\Fin XE (FlR X.K) X.K S (forG a.2.2 bd p (a.2.1.drop i) στ S.M) (qP D),⟨_,S,στ,e,m,ev,ra.2,rfl,Nat.zero_le _,fin⟩,?_⟩
  rintro i n σ1 H2 ⟨S1,στ1,e1,m1,ev1,it1,en,hi1,fin1⟩
  subst e1
  have hgd:=zlk fin1
  obtain ⟨it2,it3⟩:=it1 S1 (.refl m1) hgd
  by_cases hl:i<a.2.1.length
  ·have eq:a.2.1.drop i=a.2.1[i]::a.2.1.drop (i+1):=List.drop_eq_getElem_cons hl
   rw [eq] at fin1
   replace fin1:=(Fin.gd fin1).2
   obtain ⟨go,yl⟩:=it2 i a.2.1[i] (by simp [hl])
   refine .inr ⟨go,fun σ' H'=>∃ S στ,S.H=H'/\MemOk X.K S/\EvR X.K S στ σ'/\ItG X.K S a.2 J/\Fin XE (FlR X.K) X.K S (forG a.2.2 bd p (a.2.1.drop (i+1)) στ S.M) (qP D),?_,fun x H' hy=>?_⟩
   ·rintro σ' H' ⟨S2,στ2,e2,m2,ev2,it4,fin2⟩
    exact ⟨a.2.1.length-(i+1),by omega,S2,στ2,e2,m2,ev2,it4,rfl,hl,fin2⟩
   ·obtain ⟨S2,e2,eM,s2,r2⟩:=yl x H' hy
    replace fin1:Fin XE (FlR X.K) X.K S1 ((bd a.2.1[i] στ1 S1.M).bind fun σ1 M1=>(p σ1 M1).bind (zY (forG a.2.2 bd p (a.2.1.drop (i+1))))) (qP D):=fin1
    refine ⟨S2,στ1,a.2.1[i],e2,s2.mok,Mo.mo m1 s2 ev1,r2,?_⟩
    rw [eM]
    cases o:bd a.2.1[i] στ1 S1.M with
    | bad=>rw [o] at fin1;exact fin1
    | exn C fs M'=>rw [o] at fin1;exact Fin.later s2 fin1
    | ok σ3 M3=>
     rw [o] at fin1
     intro S3 σ3v e3 s3 ev3
     have s13:=s2.trans s3
     refine ⟨S3,σ3,(),rfl,s3.mok,ev3,trivial,?_⟩
     show Fin XE (FlR X.K) X.K S3 (p σ3 S3.M) _
     rw [e3]
     replace fin1:Fin XE (FlR X.K) X.K S1 ((p σ3 M3).bind (zY (forG a.2.2 bd p (a.2.1.drop (i+1))))) (qP D):=fin1
     cases o2:p σ3 M3 with
     | bad=>rw [o2] at fin1;exact fin1
     | exn C fs M'=>rw [o2] at fin1;exact Fin.later s13 fin1
     | ok fl M4=>
      rw [o2] at fin1
      intro S4 fv e4 s4 r4
      have s14:=s13.trans s4
      cases r4 with
      | nx r4=>exact ⟨S4,_,rfl,s4.mok,r4,Mo.mo m1 s14 it1,by rw [e4];exact Fin.later s14 fin1⟩
      | ct r4=>exact ⟨S4,_,rfl,s4.mok,r4,Mo.mo m1 s14 it1,by rw [e4];exact Fin.later s14 fin1⟩
      | bk r4=>exact fin1 S4 (.nx _) e4 s14 (.nx r4)
      | rt r4=>exact fin1 S4 (.rt _) e4 s14 (.rt r4)
  ·rw [List.drop_eq_nil_of_le (by omega)] at fin1
   replace fin1:=(Fin.gd fin1).2
   refine .inl ⟨it3 i (by omega),?_⟩
   exact fin1 S1 (.nx σ1) rfl (.refl m1) (.nx ev1)⟩
theorem zks (hi:WIG X XE tg iter ga) (cb:CB X scope cl caps) (hg:∀ ex s0 H0,WG (X.block scope cl (tgs++caps.map (·.1)) ex s0 H0) XE tg bd) (hif:∀ ex s0 H0,PTs (X.block scope cl (tgs++caps.map (·.1)) ex s0 H0) ifs (lT XE X.K cond)) (hel:∀ ex s0 H0,WE (X.block scope cl (tgs++caps.map (·.1)) ex s0 H0) XE elt f) (hs:∀ x,foldedSetIterable iter X.env x=pure x:=by intro _;rfl):WL X XE (.ListComp elt [⟨tg,iter,ifs,0⟩] scope pos) (zdN ga bd cond f tgs caps):=by
 have hi:=hi.pe
 have hg:=fun ex s0 H0=>(hg ex s0 H0).pe
 have hel:=fun ex s0 H0=>(hel ex s0 H0).pe
 exact ⟨PE.imp (zjf (tgs:=tgs) (g:=lG XE X.K bd) (tc:=lT XE X.K cond) (te:=lE XE X.K f) cb.hc hi cb.hclos cb.hcell cb.hkind cb.hnames cb.hcl cb.hhas cb.hcap hg hif hel hs) fun σ H Q hh=>zlw hh⟩
end
section
theorem zfe (he:WE X XE e f):WIG X XE tg e (zcq f):=by
 have he:=he.pe
 exact ⟨PI.imp (zgs he) fun σ H R hh=>
  LN.mono (LN.bind (f:=fun _ σ M=>f σ M) (k:=fun _ t σ M1=>match zc3 t M1 with | some g=>.ok g M1 | none=>.bad) (RB:=Rep X.K) hh) fun v H1 h9=>by
   obtain ⟨S,στ,a,e,m,ev,ra,fin⟩:=h9
   obtain ⟨u,t⟩:=a
   subst e
   have rt:Rep X.K S t v:=ra.2
   replace fin:Fin XE (ItG X.K) X.K S (match zc3 t S.M with | some g=>.ok g S.M | none=>.bad) R:=fin
   cases q:zc3 t S.M with
   | none=>rw [q] at fin;exact fin.elim
   | some g=>
    rw [q] at fin
    obtain ⟨xs,G⟩:=g
    obtain ⟨p,vs,rfl,h1,h2⟩:=zjn m rt q
    refine ⟨p,rfl,⟨vs,h1⟩,fin S _ rfl (.refl m) fun S3 s3 gd=>?_⟩
    obtain ⟨vs3,g3,r3⟩:=h2 S3 s3 gd
    refine ⟨fun i t et=>?_,fun i hi=>⟨vs3,g3,by rw [← r3.1];exact hi⟩⟩
    obtain ⟨v2,ev3,rv⟩:=r3.get et
    refine ⟨⟨vs3,v2,g3,ev3⟩,fun x H' hy=>?_⟩
    obtain ⟨ey,hy⟩:=hy
    have:=hy vs3 g3
    rw [ev3] at this
    cases this
    exact ⟨S3,ey.symm,rfl,.refl s3.mok,rv⟩⟩
end
section
theorem zlK (he:WE X XE e f):WIG X XE tg e (zhr f):=by
 have he:=he.pe
 exact ⟨PI.imp (PI.or (zgs he) (zkL he)) fun σ H R h9=>by
  obtain ⟨S,στ,_,e,m,ev,_,fin⟩:=h9
  replace fin:Fin XE (ItG X.K) X.K S ((f στ S.M).bind fun t M1=>match zfk t M1 with | some g=>.ok g M1 | none=>.bad) R:=fin
  cases o:f στ S.M with
  | bad=>rw [o] at fin;exact fin.elim
  | exn C fs M'=>
   rw [o] at fin
   refine .inl ⟨S,στ,(),e,m,ev,trivial,?_⟩
   show Fin XE (Rep X.K) X.K S (f στ S.M) _
   rw [o];exact fin
  | ok t M1=>
   rw [o] at fin
   replace fin:Fin XE (ItG X.K) X.K S (match zfk t M1 with | some g=>.ok g M1 | none=>.bad) R:=fin
   have lists:(∀ g,zfk t M1=some g->zc3 t M1=some g)->zmV X.K (lE XE X.K f) σ H R:=fun hg=>by
    refine ⟨S,στ,(),e,m,ev,trivial,?_⟩
    show Fin XE (Rep X.K) X.K S (f στ S.M) _
    rw [o]
    intro S1 v e1 s1 r1
    cases q:zfk t M1 with
    | none=>rw [q] at fin;exact fin.elim
    | some g=>
     rw [q] at fin
     obtain ⟨xs,G⟩:=g
     obtain ⟨p,vs,rfl,h1,h2⟩:=zjn s1.mok r1 (by rw [e1];exact hg _ q)
     refine ⟨p,rfl,⟨vs,h1⟩,fin S1 _ e1 s1 fun S3 s3 gd=>?_⟩
     obtain ⟨vs3,g3,r3⟩:=h2 S3 s3 gd
     refine ⟨fun i t et=>?_,fun i hi=>⟨vs3,g3,by rw [← r3.1];exact hi⟩⟩
     obtain ⟨v2,ev3,rv⟩:=r3.get et
     refine ⟨⟨vs3,v2,g3,ev3⟩,fun x H' hy=>?_⟩
     obtain ⟨ey,hy⟩:=hy
     have:=hy vs3 g3
     rw [ev3] at this
     cases this
     exact ⟨S3,ey.symm,rfl,.refl s3.mok,rv⟩
   cases t with
   | tup ts=>
    refine .inr ⟨S,στ,(),e,m,ev,trivial,?_⟩
    show Fin XE (Rep X.K) X.K S (f στ S.M) _
    rw [o]
    intro S1 v e1 s1 r1
    cases r1 with
    | @tup _ p vs h l r=>
     have r1:Reps X.K S1 ts vs:=⟨l,r⟩
     replace fin:Fin XE (ItG X.K) X.K S (.ok (ts,[]) M1) R:=fin
     refine ⟨p,rfl,⟨vs,h⟩,fin S1 _ e1 s1 fun S3 s3 gd=>?_⟩
     have g3:SqT X.K S3.H p vs:=s3.toGrow.tup s1.mok h
     refine ⟨fun i t et=>?_,fun i hi=>⟨vs,g3,by rw [← l];exact hi⟩⟩
     obtain ⟨v2,ev3,r3⟩:=r1.get et
     refine ⟨⟨vs,v2,g3,ev3⟩,fun x H' hy=>?_⟩
     obtain ⟨ey,hy⟩:=hy
     have:=hy vs g3
     rw [ev3] at this
     cases this
     exact ⟨S3,ey.symm,rfl,.refl s3.mok,r3.grow s1.mok s3.toGrow⟩
   | _=>exact .inl (lists fun g h=>h)⟩
end
section
variable {k j:Nat} {y v nm:Str} {p pos2 np hp tp vp:Pos} {b0:Stmt} {suite:List Stmt} {g gs:X5}
theorem zm0:WS X XE st zlQ:=⟨fun _ _ _ _ _ _ ⟨_,_,_,_,_,_,_,fin⟩=>fin.elim⟩
end
section
theorem zoF {st:Expr} (he:WE X XE e f) (hs:WO X XE (some st) p):WE X XE (.Subscript e (.Slice none none (some st) p2) pos) (eRv f p):=by
 have he:=he.pe
 have hs:=hs.pe
 exact ⟨PE.imp (zpc he hs) fun σ H Q hh=>
  LN.mono (LN.bind (f:=fun _ σ M=>f σ M) (k:=fun _ x σ M1=>(p σ M1).bind fun l M2=>zgo x l M2) (RB:=Rep X.K) hh) fun v H1 h1=>
   LN.mono (LN.env (f:=p) (LN.bind (f:=fun _ σ M=>p σ M) (k:=fun (ax:Unit × T) l σ M2=>zgo ax.2 l M2) (RB:=EqR) h1)) fun l H2 h9=>by
    obtain ⟨S,στ,a,e,m,ev,ra,fin⟩:=h9
    have e1:a.2=l:=ra.2
    have r:Rep X.K S a.1.2 v:=ra.1.2
    replace fin:Fin XE (Rep X.K) X.K S (zgo a.1.2 a.2 S.M) Q:=fin
    rw [e1] at fin
    unfold zgo rvX at fin
    rw?
    ·rename_i hl
     rw?
     ·rename_i xs q
      obtain ⟨b,vs,e2,h2,s2⟩:=yC m r q
      subst e
      refine ⟨hl,b,vs,e2,h2,zgx m fin ?_⟩
      exact s2.rev
     ·simp?
    ·exact fin.elim⟩
end
variable {qual:Str}
section
theorem qp {k p:Nat} {g:X5} (D:Df K mg x st ps) (Sc:FnScope N ps (zg st)) (hp:ps.length=p) (hn:N.length=n)
 (hb:∀ (f:Addr) (cdv:Value) (A:Around) (outer:List PySem.Env) (s:Shared) (H:Hp) (E:XK),Room k (A.deeper (envOfC x (zg st) s.heap.objs.size f cdv))->WSs (zcj CX0 P w K mg base N x (zg st) f cdv A outer s H E).nox E0 (yL st) g) :
  CalT P w K mg base (k+1) x ps (yi p n g):=zlE D Sc hp hn fun f cdv A outer s H E hr=>(hb f cdv A outer s H E hr).pe
theorem zmZ {f:Addr} {fd:FuncData} {k p:Nat} {g:X5} (F:Fun K x qual st f fd) (Sc:FnScope N ps (zg st)) (hp:ps.length=p) (hn:N.length=n)
 (hb:∀ (cdv:Value) (A:Around) (outer:List PySem.Env) (s:Shared) (H:Hp) (E:XK),Room k (A.deeper (envOfC qual (zg st) s.heap.objs.size f cdv))->WSs (zcj CX0 P w K mg base N qual (zg st) f cdv A outer s H E).nox E0 (yL st) g) :
  FnOk P w K mg base CX0 (k+1) f fd ps (spT K (yi p n g)):=zpF F Sc hp hn fun cdv A outer s H E hr=>(hb cdv A outer s H E hr).pe
theorem zi3 {k p:Nat} {g:X5} (D:Di K mg x qual C st ps) (Sc:FnScope N ps (zg st)) (hp:ps.length=p) (hn:N.length=n)
 (hb:∀ (f:Addr) (cdv:Value) (A:Around) (outer:List PySem.Env) (s:Shared) (H:Hp) (E:XK),Room k (A.deeper (envOfC qual (zg st) s.heap.objs.size f cdv))->WSs (zcj CX0 P w K mg base N qual (zg st) f cdv A outer s H E).nox E0 (yL st) g) :
  MakT P w K mg base (k+1) x C ps (yi p n g):=zpC D Sc hp hn fun f cdv A outer s H E hr=>(hb f cdv A outer s H E hr).pe
end
section
variable {f:Str}
theorem zku (hg:Gl X x) (hm:∃ a,X.mg x=some (.ref a)/\KTu X.K a (ss.map .str)) (hd:(x==("__debug__":Str))=false:=by decide):WE X XE (.Name x pos) (eC (.tup (ss.map .str))):=by
 refine ⟨?_⟩
 obtain ⟨a,hm,o,its,n,h⟩:=hm
 refine zcg (znv (v:=.ref a) hg hm rfl hd) fun S=>.tup (.inr ⟨o,its,n,h⟩) (by simp) fun i t v e1 e2=>?_
 rw [Qb] at e1 e2
 cases q:ss[i]? with
 | none=>rw [q] at e1;cases e1
 | some z=>rw [q] at e1 e2;cases e1;cases e2;exact .str _
theorem zlI {o:Expr} {n:Int} {j} (hC:∀ C ∈ Cs,Cls X.K C/\NoAttr X.K C f) (ho:WE X XE o fo):WS X XE (.AugAssign (.Attribute o f tpos) .Add (.Constant (.int n) j cpos) pos) (zfP Cs f fo n):=by
 have ho:=ho.pe
 exact ⟨PS.imp (zkJ ho zkP zpU) fun D σ H hh=>by
  refine LN.mono (LN.bind (f:=fun _ σ M=>fo σ M) (k:=fun _ x σ M1=>(zaQ Cs f x M1).bind fun v M2=>(zdC v (.int n) M2).bind fun z M3=>(zaT Cs f x z M3).bind fun _ M4=>.ok (Fl.nx σ) M4) (RB:=Rep X.K) hh) fun xv H1 h1=>?_
  obtain ⟨S,στ,⟨u0,x⟩,e,m,ev,⟨hu0,rx⟩,fin⟩:=h1
  subst e
  dsimp only at rx
  replace fin:Fin XE (FlR X.K) X.K S ((zaQ Cs f x S.M).bind fun v M2=>(zdC v (.int n) M2).bind fun z M3=>(zaT Cs f x z M3).bind fun _ M4=>.ok (Fl.nx στ) M4) (qP D):=fin
  cases x with
  | ref a=>
   unfold zaQ at fin
   dsimp only at fin
   cases q:S.M[a]? with
   | none=>rw [q] at fin;exact fin.elim
   | some c=>
    rw [q] at fin
    cases c with
    | ins C fs=>
     dsimp only at fin
     by_cases hc:C ∈ Cs
     ·rw [Qy hc] at fin
      cases l:fs.lookup f with
      | none=>rw [l] at fin;exact fin.elim
      | some v=>
       rw [l] at fin
       replace fin:Fin XE (FlR X.K) X.K S ((zdC v (.int n) S.M).bind fun z M3=>(zaT Cs f (.ref a) z M3).bind fun _ M4=>.ok (Fl.nx στ) M4) (qP D):=fin
       cases v with
       | int i=>
        replace fin:Fin XE (FlR X.K) X.K S ((zaT Cs f (.ref a) (.int (i+n)) S.M).bind fun _ M4=>.ok (Fl.nx στ) M4) (qP D):=fin
        unfold zaT at fin
        simp only [q] at fin
        rw?
        ·rename_i hl
         cases rx
         obtain ⟨dx,us,h3,rf⟩:=m.cell _ _ q
         have ha:a<S.M.length:=(Qx.mp q).1
         obtain ⟨w,ew,rw'⟩:=rf.look f l
         cases rw'
         refine ⟨S.α a,C,dx,us,_,rfl,h3,(hC C hc).1,(hC C hc).2,ew,?_⟩
         refine ⟨i,n,rfl,rfl,dx,us,h3,by rw [← rf.len];exact hl.2,?_⟩
         have s1:=Stp.put m ha (.ins C dx (z8 f (.int (i+n)) us)) (.ins C (zc2 f (.int (i+n)) fs)) ⟨dx,_,yE,(rf.put f (.int _)).grow m (Grow.put m ha _ _)⟩
         exact fin (S.put a (.ins C dx (z8 f (.int (i+n)) us)) (.ins C (zc2 f (.int (i+n)) fs))) (.nx σ) rfl s1 (.nx (Mo.mo m s1 ev))
        ·simp?
       | _=>exact fin.elim
     ·rw [Qz hc] at fin;exact fin.elim
    | _=>exact fin.elim
  | _=>exact fin.elim⟩
end
end FT
namespace L2
open PySem PySem.Spec PyProof.Rows
section
variable {X:Cx}
theorem zj1:OpR X (binaryOp .Mult) (fun x y H Q=>∃ i n,x = .str i/\y = .int n/\MulOk i n/\Q (.str (Txt.mul i n)) H):=by
 infer_instance
 obtain ⟨i,n,rfl,rfl,hk,q⟩:=h
 obtain ⟨t,rfl⟩:=rx
 obtain ⟨t',rfl⟩:=ry
 exact SB.mul hk fun t' k=>⟨.str _,H,I.tok _,⟨_,rfl⟩,q⟩
end
end L2
namespace FT
open PySem PySem.Spec PyProof.Rows L2
noncomputable def leU:X3:=fun x y M=>match x,y with
 | .int i,.int j=>.ok (.bl (decide (i<=j))) M
 | .str i,.str j=>.ok (.bl (!decide (j.cps.toList<i.cps.toList))) M
 | _,_=>.bad
noncomputable def zgy:X3:=fun x y M=>match x,y with
 | .str i,.int n=>@ite _ (MulOk i n) (Classical.propDecidable _) (.ok (.str (Txt.mul i n)) M) .bad
 | _,_=>.bad
noncomputable def ixS:X3:=fun x y M=>match x,y with
 | .str z,.int i=>match atI z.cps.toList i with
  | some c=>if z.length<=sizeLine then .ok (.str ⟨#[c]⟩) M else .bad
  | none=>.bad
 | _,_=>.bad
section
variable {X:Cx} {XE:XK}
theorem znF:OpR X (binaryOp .Mult) (lR2 XE X.K zgy):=by
 injections
 subst e
 replace fin:Fin XE (Rep X.K) X.K S (zgy tx ty S.M) Q:=fin
 unfold zgy at fin
 rw?
 ·cases r1;cases r2
  rw?
  ·rename_i hk
   exact zj1 pins s σ S.H _ _ v u Q I rx ry ⟨_,_,rfl,rfl,hk,fin S _ rfl (.refl m) (.str _)⟩
  ·simp?
 ·simp?
theorem zmh:IxR X (lR2 XE X.K ixS):=by
 intro va sl pins s σ H x y v u Q I rx ry ⟨S,⟨tx,ty⟩,e,m,⟨r1,r2⟩,fin⟩ hs
 subst e
 replace fin:Fin XE (Rep X.K) X.K S (ixS tx ty S.M) Q:=fin
 unfold ixS at fin
 rw?
 ·cases r1;cases r2
  rw?
  ·rename_i c hc
   rw?
   ·rename_i hz
    exact zk5 va sl pins s σ S.H _ _ v u Q I rx ry ⟨_,_,c,rfl,rfl,hz,hc,fin S _ rfl (.refl m) (.str _)⟩ hs
   ·simp?
  ·simp?
 ·simp?
end
end FT
namespace L2
open PySem PySem.Spec PyProof.Rows
section
variable {X:Cx} {tg:Expr}
theorem zoO:SlR X (fun x lo hi H Q=>∃ z,x = .str z/\z.length<=sizeLine/\Q (.str (Txt.slice z lo hi)) H):=by
 intro pins s σ H x v vl vu lo hi sl Q I rx hs pl pu ⟨z,e,hz,q⟩
 subst e
 obtain ⟨t,rfl⟩:=rx
 have part:∀ {v:Value} {o:Option Int},IsPart v o->∃ p:Option (Int × Tok),v=partValue p/\p.map (·.1)=o:=fun h=>by
  cases h with
  | none=>exact ⟨none,rfl,rfl⟩
  | int i t=>exact ⟨some (i,t),rfl,rfl⟩
 obtain ⟨l,rfl,rfl⟩:=part pl
 obtain ⟨u,rfl,rfl⟩:=part pu
 exact ⟨"str",_,PySem.F.slot_str_getitem.lookup,typeIs_str _ _ _,wpAny_getItem_str_slice (st:=none) hs rfl (post_val_or_str ⟨Qj (Txt.slice_le z _ _) hz,fun t' k=>⟨.str _,H,I.tok _,⟨_,rfl⟩,q⟩⟩)⟩
theorem zhG:∀ {zs:List Str} {its:List Value},Vals (zs.map V.str) its->StrsAre its zs
 | [],its,r=>by cases r;exact .nil
 | z::zs,its,r=>by
  cases r with
  | cons a b=>
   obtain ⟨t,rfl⟩:=a
   exact .cons z t (zhG b)
theorem znN:MtR X "str.join" (fun x xs H Q=>∃ z p zs,x = .str z/\xs=[.ref p]/\SqL X.K H p (zs.map V.str)/\(zs.map (·.length)).sum+zs.length*z.length<=16777216/\Q (.str (Txt.join z zs)) H):=by
 intro pins s σ H x xs v us Q I rx rs ⟨z,p,zs,e1,e2,hq,hb,q⟩
 subst e1;subst e2
 obtain ⟨t,rfl⟩:=rx
 obtain ⟨u,rfl,ru⟩:=vals1 rs
 cases ru
 obtain ⟨its,r,pl,hz⟩:=I.list hq
 exact join_list pl.isList (zhG r) hb fun t' k=>⟨.str _,H,I.tok _,⟨_,rfl⟩,q⟩
end
end L2
namespace FT
open PySem PySem.Spec PyProof.Rows L2
noncomputable def sgT (z:Str):List T:=z.cps.toList.map fun c=>T.str ⟨#[c]⟩
noncomputable def iTx (f:X8):X1:=fun σ M=>(f σ M).bind fun t M1=>match t with
 | .str z=>.ok (sgT z) M1
 | _=>.bad
noncomputable def zdz (x:T) (lo hi:Option Int) (M:Mem):Out T:=match x with
 | .str z=>if z.length<=sizeLine then .ok (.str (Txt.slice z lo hi)) M else .bad
 | x=>zfB x lo hi M
noncomputable def ziv (f:X8) (p q:Ev->Mem->Out (Option Int)):X8:=fun σ M=>(f σ M).bind fun x M1=>(p σ M1).bind fun lo M2=>(q σ M2).bind fun hi M3=>zdz x lo hi M3
noncomputable def zfj:List T->Option (List Str)
 | []=>some []
 | .str z::ts=>(zfj ts).map (z :: ·)
 | _::_=>none
theorem zhI:∀ {ts:List T} {zs:List Str},zfj ts=some zs->ts=zs.map .str
 | [],zs,h=>by cases h;rfl
 | t::ts,zs,h=>by
  unfold zfj at h
  split at h
  ·rename_i e
   cases e
  ·rename_i e
   cases e
   cases q:zfj ts with
   | none=>rw [q] at h;cases h
   | some ys=>
    rw [q] at h
    cases h
    rw [zhI q]
    rfl
  ·cases h
noncomputable def isStr (t:T) (_:Mem):Bool:=match t with
 | .str _=>true
 | _=>false
noncomputable def zeS (x:T) (ts:List T) (M:Mem):Out T:=match x,ts with
 | .str z,[t]=>match yo t M with
  | some xs=>match zfj xs with
   | some zs=>if (zs.map (·.length)).sum+zs.length*z.length<=16777216 then .ok (.str (Txt.join z zs)) M else .bad
   | none=>.bad
  | none=>.bad
 | _,_=>.bad
variable {X:Cx} {XE:XK}
section
theorem ty_str {K:Frag} {S:Sit} (_:MemOk K S) {t:T} {x:V} (r:Rep K S t x) (h:isStr t S.M=true):tyV K "str" x S.H:=by
 cases r with
 | str z=>exact rfl
 | _=>cases h
theorem zma:MtR X "str.join" (lMt XE X.K zeS):=by
 intro pins s σ H x xs v us Q I rx rs ⟨S,⟨tx,ts⟩,e,m,⟨r1,r2⟩,fin⟩
 subst e
 replace r1:Rep X.K S tx x:=r1
 replace r2:Reps X.K S ts xs:=r2
 replace fin:Fin XE (Rep X.K) X.K S (zeS tx ts S.M) Q:=fin
 unfold zeS at fin
 rw?
 ·rename_i z t
  rw?
  ·rename_i ys q
   rw?
   ·rename_i zs qz
    rw?
    ·rename_i hb
     obtain ⟨w1,ws,rfl,h1,h2⟩:=r2.consT
     cases h2.nilT
     obtain ⟨p,vs,rfl,hq,rs'⟩:=yC m h1 q
     cases r1
     have e:=zhI qz
     subst e
     have ev:vs=zs.map V.str:=by
      refine ext_getElem? fun i=>?_
      have l:=rs'.1
      rw [Qh] at l
      by_cases hi:i<zs.length
      ·have a1:vs[i]? = some (vs[i]'(by omega)):=Q0 _
       have a2:=rs'.2 i (.str zs[i]) _ (by rw [Qb,Q0 hi];rfl) a1
       rw [a1,Qb,Q0 hi]
       generalize vs[i]'(by omega)=w at a2
       cases a2
       rfl
      ·rw [getElem?_eq_none (by omega),getElem?_eq_none (by rw [Qh];omega)]
     rw [ev] at hq
     exact znN pins s σ S.H _ _ v us Q I rx rs ⟨z,p,zs,rfl,rfl,hq,hb,fin S _ rfl (.refl m) (.str _)⟩
    ·simp?
   ·simp?
  ·simp?
 ·simp?
end
noncomputable def zr7 (XE:XK) (K:Frag):V->Option Int->Option Int->Hp->VK->Prop:=fun x lo hi H Q=>∃ S t,S.H=H/\MemOk K S/\Rep K S t x/\Fin XE (Rep K) K S (zdz t lo hi S.M) Q
variable {p q:Ev->Mem->Out (Option Int)} {f:X8} {e:Expr} {p2 pos:Pos}
section
theorem zrS:SlR X (zr7 XE X.K):=by
 intro pins s σ H x v vl vu lo hi sl Q I rx hs pl pu ⟨S,t,e,m,r,fin⟩
 unfold zdz at fin
 rw?
 ·cases r
  rw?
  ·rename_i hz
   subst e
   exact zoO pins s σ S.H _ v vl vu lo hi sl Q I rx hs pl pu ⟨_,rfl,hz,fin S _ rfl (.refl m) (.str _)⟩
  ·simp?
 ·exact zoP pins s σ H x v vl vu lo hi sl Q I rx hs pl pu ⟨S,_,e,m,r,fin⟩
end
section
theorem zi4 {lo hi:Option Expr} (he:WE X XE e f) (hl:WO X XE lo p) (hu:WO X XE hi q):WE X XE (.Subscript e (.Slice lo hi none p2) pos) (ziv f p q):=by
 have he:=he.pe
 have hl:=hl.pe
 have hu:=hu.pe
 exact ⟨PE.imp (zh0 zrS he hl hu) fun σ H Q hh=>
  LN.mono (LN.bind (f:=fun _ σ M=>f σ M) (k:=fun _ x σ M1=>(p σ M1).bind fun lo M2=>(q σ M2).bind fun hi M3=>zdz x lo hi M3) (RB:=Rep X.K) hh) fun v H1 h1=>
   LN.mono (LN.env (f:=p) (LN.bind (f:=fun _ σ M=>p σ M) (k:=fun (ax:Unit × T) lo σ M2=>(q σ M2).bind fun hi M3=>zdz ax.2 lo hi M3) (RB:=EqR) h1)) fun l H2 h2=>
    LN.mono (LN.env (f:=q) (LN.bind (f:=fun _ σ M=>q σ M) (k:=fun (ax:(Unit × T) × Option Int) hi σ M3=>zdz ax.1.2 ax.2 hi M3) (RB:=EqR) h2)) fun w H3 h9=>by
     obtain ⟨S,στ,a,e,m,ev,ra,fin⟩:=h9
     have e1:a.1.2=l:=ra.1.2
     have e2:a.2=w:=ra.2
     exact ⟨S,a.1.1.2,e,m,ra.1.1.2,by rw [← e1,← e2];exact fin⟩⟩
end
end FT
namespace L2
open PySem PySem.Spec PyProof.Rows
structure XiAt (K:Frag) (D:Addr):Prop where
 ga:PySem.W.findIn K (.ref D) "__getattribute__" = some (some (.builtin "BaseException.__getattribute__"))
 gt:PySem.W.findIn K (.ref D) "__getattr__" = some none
 c:(PySem.W.clsIn K D).isSome=true
 a:PySem.W.findIn K (.ref D) "__class__" = some (some (.builtin "object.__class__"))
 n:PySem.W.specialIn K (.builtin "object.__class__") "__get__" = some (some (.builtin "getset_descriptor.__get__"))
 t:PySem.W.takesIn K (.builtin "object.__class__")=some true
 m:PySem.W.mroIn K D (.type "object")=some true
 be:PySem.W.mroIn K D (.type "BaseException")=some true
end L2
namespace FT
open PySem PySem.Spec PyProof.Rows L2
structure IsAt (K:Frag) (mg:Str->Option Value) (y:Str) (g:Addr->Option Bool):Prop where
 ex:∃ (v:V) (c:Value),RelV v c/\(mg y=some c\/(mg y=none/\bootBuiltins y=some c))/\(∀ u,RelV v u->u=c)/\∀ C b,g C=some b->XiAt K C/\PySem.W.kitOne K (.ref C) c=some b
structure XmAt (K:Frag) (D W:Addr):Prop where
 ga:PySem.W.findIn K (.ref D) "__getattribute__" = some (some (.builtin "BaseException.__getattribute__"))
 gt:PySem.W.findIn K (.ref D) "__getattr__" = some none
 a:PySem.W.findIn K (.ref D) "__class__" = some (some (.builtin "object.__class__"))
 n:PySem.W.specialIn K (.builtin "object.__class__") "__get__" = some (some (.builtin "getset_descriptor.__get__"))
 t:PySem.W.takesIn K (.builtin "object.__class__")=some true
 mro:(PySem.W.clsIn K D).map (·.mro)=some (.ref D :: .ref W::zdA)
 ty:PySem.W.typeIn K (.ref D)=some (.type "type")
section
variable {K:Frag} {mg:Str->Option Value} {C D W Y:Addr} {y:Str} {ks:List Addr}
theorem XmAt.in (x:XmAt K D W) (base:Value):PySem.W.mroIn K D base=some ((Value.ref D :: .ref W::zdA).contains base):=by
 obtain ⟨cd,h,e⟩:=Option.map_eq_some_iff.mp x.mro
 unfold PySem.W.mroIn
 rw [h,Option.bind_some,e]
 rfl
theorem XmAt.cls (x:XmAt K D W):(PySem.W.clsIn K D).isSome=true:=by
 obtain ⟨cd,h,e⟩:=Option.map_eq_some_iff.mp x.mro
 rw [h]
 rfl
theorem zeh (a b:Value) (l:List Value):(b::l).contains a=(a==b || l.contains a):=List.contains_cons
theorem XmAt.xi (x:XmAt K D W):XiAt K D:=⟨x.ga,x.gt,x.cls,x.a,x.n,x.t,by rw [x.in,zeh,zeh,show zdA.contains (.type "object")=true by decide +kernel,Bool.or_true,Bool.or_true],by rw [x.in,zeh,zeh,show zdA.contains (.type "BaseException")=true by decide +kernel,Bool.or_true,Bool.or_true]⟩
end
end FT
namespace L2
open PySem PySem.Spec PyProof.Rows
noncomputable def zr0 (a:List Str) (x:Str):List Str:=if x ∈ a then a else a++[x]
noncomputable def met (ss:List Str):List Str:=ss.foldl zr0 []
set_option maxRecDepth 100000 in
theorem zkZ (l:Addr) (items:Array Value) (n:Nat) (x:Int) (u:Tok) (dd:Option Addr) (sl:Array (Option Value)) (h1:¬(!Builtin.List.listFitsIndex x)=true) (h2:¬items.size*x.toNat > (2 ^ 63-1) / 8) (h3:¬Builtin.List.listTooLong (items.size*x.toNat)=true)
  (h4:¬ (List.foldl (fun x1 x2=>x1++x2) #[] (List.replicate (if items.isEmpty=true then 0 else x.toNat) items)).size > sizeLine) :
  Meets (Builtin.«list.__mul__» ⟨[.ref l,.int x u],[]⟩) fun _ R s=>s.heap.get? l=some ⟨.type "list",dd,.seq items n,sl⟩ /\
   R (.ok (.ret (.ref s.heap.objs.size))) { s with heap:=s.heap.push { cls:=.type "list",data:=.seq (List.foldl (fun x1 x2=>x1++x2) #[] (List.replicate (if items.isEmpty=true then 0 else x.toNat) items)) } }:=by
 intro prog w A R s ⟨e,q⟩
 unfold Builtin.«list.__mul__»
 wp_delta
 obtain ⟨h,g,d,t,os⟩:=s
 repeat (any_goals (first | assumption | wp_step))
 rw [Qz h4]
 repeat (any_goals (first | assumption | wp_step))
set_option maxRecDepth 100000 in
theorem zqT (a:Int) (t:Tok) (l:Addr) (items:Array Value) (n:Nat) (dd:Option Addr) (sl:Array (Option Value)) :
  Meets (Builtin.«int.__rmul__» ⟨[.int a t,.ref l],[]⟩) fun _ R s=>s.heap.get? l=some ⟨.type "list",dd,.seq items n,sl⟩/\R (.ok (.ret .notImplemented)) s:=by
 intro prog w A R s ⟨e,q⟩
 unfold Builtin.«int.__rmul__»
 obtain ⟨h,g,d,t,os⟩:=s
 repeat (any_goals (first | assumption | wp_step))
theorem znB {X:Cx}:OpR X (binaryOp .Mult) (fun x y H Q=>∃ l k xs,x = .ref l/\y = .int k/\SqL X.K H l xs/\-(2 ^ 63)<=k/\k<2 ^ 63/\xs.length*k.toNat<=sizeLine/\∀ p,H p=none->Q (.ref p) (upd H p (.lst (List.replicate k.toNat xs).flatten))):=by
 infer_instance
 obtain ⟨l,k,xs,rfl,rfl,hH,h1,h2,hz,q⟩:=h
 cases rx
 obtain ⟨t,rfl⟩:=ry
 obtain ⟨its,r,pl,z⟩:=I.list hH
 have hl:=r.length
 obtain ⟨⟨cls,dd,data,sl⟩,n,e,hc,hdi,hd⟩:=pl
 simp only at hc hd
 subst hc hd
 have hlen:its.toArray.size*k.toNat<=sizeLine:=by rw [Qi,← hl];exact hz
 have hcap:¬ its.toArray.size*k.toNat > (2 ^ 63-1) / 8:=by
  have:(sizeLine:Nat)<=(2 ^ 63-1) / 8:=by decide
  omega
 have hfit:¬ (!Builtin.List.listFitsIndex k)=true:=by
  rw [fitsIndex_both h1 h2]
  exact Q4
 have hlong:¬ Builtin.List.listTooLong (its.toArray.size*k.toNat)=true:=by
  rw [zh2 hlen]
  exact Q4
 have hnew:List.foldl (fun x1 x2=>x1++x2) #[] (List.replicate (if its.toArray.isEmpty=true then 0 else k.toNat) its.toArray)=(List.replicate k.toNat its).flatten.toArray:=by
  have f0:∀ m:Nat,List.foldl (fun x1 x2=>x1++x2) #[] (List.replicate m its.toArray)=(List.replicate m its).flatten.toArray:=fun m=>by
   have:=foldl_rep its m []
   rw [nil_append] at this
   exact this
  rw [f0]
  cases its with
  | nil=>simp
  | cons a r'=>rw [Qz (by simp)]
 have hbig:¬ (List.foldl (fun x1 x2=>x1++x2) #[] (List.replicate (if its.toArray.isEmpty=true then 0 else k.toNat) its.toArray)).size > sizeLine:=by
  rw [hnew,Qi,len_rep,Nat.mul_comm]
  rw [Qi] at hlen
  omega
 refine wpAny_binaryOp_repeat_ref (T:="list") (U:="int") (by decide) ⟨_,e,rfl⟩ (fun s'=>typeIs_int s' k t) noFill_list_mul F.fills_int_mul F.slot_int_rmul repeat_list F.slot_int_index.lookup
  (call_meets F.slot_int_rmul (typeIs_int s k t) F.entry_int_rmul (F.args_int_rmul_2 _ _) (zqT k t l its.toArray n dd sl)
   ⟨e,rfl,⟨_,e,rfl⟩,call_meets F.slot_list_mul ⟨_,e,rfl⟩ F.entry_list_mul (F.args_list_mul_2 _ _) (zkZ l its.toArray n k t dd sl hfit hcap hlong hbig) ⟨e,?_⟩⟩)
 rw [hnew]
 exact ⟨.ref _,_,I.lnew (t':=s.toks) (r.rep k.toNat) (by rw [len_rep,Nat.mul_comm];exact hz),rfl,q _ I.fresh⟩
end L2
namespace FT
open PySem PySem.Spec PyProof.Rows L2
noncomputable def zgq:T->T->Mem->Out (List T):=fun x y M=>match yo x M,y with
 | some xs,.int k=>if 0<=k/\k<=8/\xs.length<=1000 then .ok (List.replicate k.toNat xs).flatten M else .bad
 | _,_=>.bad
variable {X:Cx} {XE:XK}
theorem znC:OpR X (binaryOp .Mult) (zj7 XE X.K zgq):=by
 injections
 subst e
 replace fin:FinL XE X.K S (zgq tx ty S.M) Q:=fin
 unfold zgq at fin
 rw?
 ·rename_i xs k q1
  rw?
  ·rename_i hz
   obtain ⟨p,vs,e1,h1,s1⟩:=yC m r1 q1
   dsimp only at e1
   subst e1
   cases r2
   refine znB pins s σ S.H _ _ v u Q I rx ry ⟨p,k,vs,rfl,rfl,h1,by omega,by omega,?_,zfu m fin (s1.rep _)⟩
   rw [← s1.1,sizeLine_eq]
   exact Qj (Nat.mul_le_mul hz.2.2 (show k.toNat<=8 by omega)) (by decide)
  ·simp?
 ·simp?
noncomputable def zeH:T->Mem->Out T:=fun x M=>match x with
 | .ref a=>match M[a]? with
  | some (.lst _)=>.ok .non (M.set a (.lst []))
  | _=>.bad
 | _=>.bad
variable {f:X8} {o:Expr} {apos cpos:Pos}
section
end
section
theorem zkv (ho:WE X XE o f) (hbase:attributeBase o "clear" X.env (eval o X.env)=eval o X.env:=by rfl) (hline:(apos.endLine==cpos.line)=true:=by rfl):WE X XE (.Call (.Attribute o "clear" apos) [] [] cpos) (eUn zeH f):=by
 have ho:=ho.pe
 exact ⟨PE.imp (zpj QA PySem.F.slot_list_clear PySem.F.type_list_clear zmb ho hbase hline) fun σ H Q h=>
  LN.mono (LN.bind (f:=fun _ σ M=>f σ M) (k:=fun _ x σ M1=>zeH x M1) (RB:=Rep X.K) h) fun v H1 h2=>by
   obtain ⟨S,στ,a,e,m,ev,ra,fin⟩:=h2
   have r:Rep X.K S a.2 v:=ra.2
   replace fin:Fin XE (Rep X.K) X.K S (zeH a.2 S.M) Q:=fin
   generalize a.2=t at r fin
   subst e
   unfold zeH at fin
   rw?
   ·rename_i b
    rw?
    ·rename_i ts q
     have ty:=zfJ m r (by unfold zbV yo;dsimp only;rw [q];rfl)
     cases r
     obtain ⟨vs,h4,_⟩:=m.cell _ _ q
     refine ⟨ty,_,vs,rfl,rfl,h4,?_⟩
     exact fin (S.put b (.lst []) (.lst [])) .non rfl (zdJ m q .nil) .non
    ·simp?
   ·exact fin.elim⟩
end
end FT
namespace L2
open PySem PySem.Spec PyProof.Rows
section
variable {prog:Program} {w:World} {A:Around} {E:Value->Shared->Prop} {s:Shared}
theorem zfh {l:Addr} {items:Array Value} {Q:List Value->Shared->Prop} (hh:A.handled=none) (hl:s.heap.IsList l items) (hQ:∀ h':Heap,Heap.ExtBut s.heap.objs.size s.heap h'->Q items.toList { s with heap:=h' }) :
  wpAny (model prog w) A (unpackItems (.ref l) items.size none) Q E s:=by
 have hT:s.TypeIs (.ref l) "list":=by
  obtain ⟨o,ho,hc,_⟩:=hl
  exact ⟨o,ho,hc⟩
 have hlt:l<s.heap.objs.size:=by
  obtain ⟨o,ho,_⟩:=hl
  exact Qe ho
 unfold unpackItems
 refine Q1 ?_
 unfold notIterableAtAll
 refine Q1 (wpAny_specialOf hT PySem.F.slot_list_iter.lookup (Qf ?_))
 simp only [Bool.false_eq_true,if_false]
 refine Q1 (wpAny_holding (wpAny_pyIter_list hl ?_))
 have hl1:(s.heap.push { cls:=Value.type "list_iterator",data:=Data.fields #[Value.ref l,Value.int 0 0] }).IsList l items:=by
  obtain ⟨o,ho,r⟩:=hl
  exact ⟨o,Q2 _ ho,r⟩
 refine Q1 (wpAny_holding (W.kun_draw (it:=s.heap.objs.size) (l:=l) (items:=items) (Qk hlt) items.size 0 _ _ ⟨_,Ql _ rfl,rfl,rfl⟩ hl1 (by omega) fun h1 i1 sb=>?_))
 have e1:List.take items.size (List.drop 0 items.toList)=items.toList:=by rw [drop_zero,take_of_length_le (by simp)]
 rw [e1]
 rw [Qz (by simp)]
 have hl2:h1.IsList l items:=by
  obtain ⟨o,ho,r⟩:=hl1
  exact ⟨o,by rw [sb.2 l (Qk hlt)];exact ho,r⟩
 rw [Nat.zero_add] at i1
 refine Q1 (wpAny_holding (wpAny_pyNext_list_end hh i1 hl2 (by simp) fun h2 x2=>?_))
 simp only [Option.isSome_none,Bool.false_eq_true,if_false]
 exact Qf (hQ h2 fun b o hb e=>x2 b o hb (by rw [sb.2 b hb];exact Q2 _ e))
end
section
variable {X:Cx} {pos:Pos}
noncomputable def zkc (K:Frag) (n:Nat) (t:TGs):TG:=fun v σ H Q=>∃ a xs,v = .ref a/\SqL K H a xs/\xs.length=n/\t xs σ H Q
theorem zje {es:List Expr} {k:Nat} {t:TGs} {n:Nat} (hc:X.calm=true) (h:PGs X es t)
  (hn:(assignEach es X.env).length=n:=by rfl) (hst:(assignEach es X.env).findIdx? (·.1)=none:=by rfl):PG X (.Tuple es k pos) (zkc X.K n t):=by
 intro pins s σ H v u Q I r hw
 obtain ⟨a,xs,e1,hq,hl,hw⟩:=hw
 subst e1
 cases r
 obtain ⟨its,rv,ht,hz⟩:=I.list hq
 rw [assign_Tuple]
 refine Q1 (wpAny_standAt ?_)
 unfold unpack
 rw [hst,show (assignEach es X.env).length=its.toArray.size by rw [hn,← hl,rv.length,Qi]]
 refine Q1 (wpAny_holding (zfh (I.ok.hd hc) ht.isList fun h' hx=>?_))
 have I1:Inv X pins σ H { s with heap:=h' }:=I.kept (t':=s.toks) fun b o e=>hx b o (Qk (Qe e)) e
 exact h pins _ σ H xs _ Q I1 (by simpa using rv) hw
end
end L2
namespace FT
open PySem PySem.Spec PyProof.Rows L2
noncomputable def zej (n:Nat) (bs:List T->X7):T->X7:=fun t σ M=>match yo t M with
 | some xs=>if xs.length=n then bs xs σ M else .bad
 | none=>.bad
variable {X:Cx} {tg:Expr} {n:Nat} {XE:XK}
section
end
section
theorem zhB {bs:List T->X7} (h:PG X tg (zkc X.K n (lGs XE X.K bs))):WG X XE tg (zej n bs):=⟨PG.imp h fun v σ H Q h9=>by
 obtain ⟨S,στ,t,e,m,ev,ra,fin⟩:=h9
 replace fin:Fin XE (EvR X.K) X.K S (match yo t S.M with
  | some xs=>if xs.length=n then bs xs στ S.M else .bad
  | none=>.bad) Q:=fin
 cases q:yo t S.M with
 | none=>rw [q] at fin;exact fin.elim
 | some ts=>
  rw [q] at fin
  obtain ⟨p,vs,rfl,h1,rs⟩:=yC m ra q
  dsimp only at fin
  by_cases hn:ts.length=n
  ·rw [Qy hn] at fin
   exact ⟨p,vs,rfl,by rw [← e];exact h1,by rw [← rs.1];exact hn,S,στ,ts,e,m,ev,rs,fin⟩
  ·rw [Qz hn] at fin;exact fin.elim⟩
end
def Ok {β:Type} (o:Out β) (Q:β->Mem->Prop):Prop:=∃ b M,o = .ok b M/\Q b M
variable {M:Mem}
theorem Ok.ret {β:Type} {b:β} {Q:β->Mem->Prop} (h:Q b M):Ok (.ok b M) Q:=⟨b,M,rfl,h⟩
theorem Ok.of {β:Type} {o:Out β} {b:β} {Q:β->Mem->Prop} (e:o = .ok b M) (h:Q b M):Ok o Q:=⟨b,M,e,h⟩
theorem Ok.bind {β γ:Type} {o:Out β} {k:β->Mem->Out γ} {P:β->Mem->Prop} {Q:γ->Mem->Prop} (h:Ok o P) (g:∀ b M,P b M->Ok (k b M) Q):Ok (o.bind k) Q:=by
 obtain ⟨b,M,e,p⟩:=h
 rw [e]
 exact g b M p
theorem Ok.mono {β:Type} {o:Out β} {P Q:β->Mem->Prop} (h:Ok o P) (g:∀ b M,P b M->Q b M):Ok o Q:=by
 obtain ⟨b,M,e,p⟩:=h
 exact ⟨b,M,e,g b M p⟩
theorem zmK {β γ δ:Type} {o:Out β} {k:β->Mem->Out γ} {l:γ->Mem->Out δ}:(o.bind k).bind l=o.bind fun b M=>(k b M).bind l:=by cases o <;> rfl
theorem zsj {β γ:Type} {p:Prop} [Decidable p] {x y:Out β} {k:β->Mem->Out γ}:(if p then x else y).bind k=if p then x.bind k else y.bind k:=by split <;> rfl
variable {t:T}
theorem zsi {β γ:Type} {k:Bool->Mem->Out β} {l:β->Mem->Out γ}:(blT t M k).bind l=blT t M fun b M=>(k b M).bind l:=by cases t <;> rfl
noncomputable def zcd (fl:Fl) (M:Mem):Out T:=match fl with
 | .rt t=>.ok t M
 | .nx _=>.ok .non M
 | _=>.bad
theorem zsp:zcd (.rt t) M = .ok t M:=rfl
variable {σ:Ev}
theorem zsq:zcd (.nx σ) M = .ok .non M:=rfl
theorem zx {p:Nat} {g:X5} {ts:List T} {Q:T->Mem->Prop} (h:ts.length=p) (k:Ok ((g (startT n ts) M).bind zcd) Q):Ok (yi p n g ts M) Q:=by
 obtain ⟨b,M1,e,q⟩:=k
 refine ⟨b,M1,?_,q⟩
 rw [zkG h]
 cases r:g (startT n ts) M with
 | bad=>rw [r] at e;cases e
 | exn C fs M'=>rw [r] at e;cases e
 | ok fl M'=>
  rw [r] at e
  cases fl with
  | rt t=>exact e
  | nx σ=>exact e
  | bk σ=>cases e
  | ct σ=>cases e
def Fr (S:List Nat) (M M':Mem):Prop:=M.length<=M'.length/\∀ i,i<M.length->i ∉ S->M'[i]? = M[i]?
theorem Fr.refl (S:List Nat) (M:Mem):Fr S M M:=⟨Q3 _,fun _ _ _=>rfl⟩
variable {A B C:Mem}
theorem Fr.trans {S:List Nat} (h:Fr S A B) (g:Fr S B C):Fr S A C:=⟨Qj h.1 g.1,fun i hi hs=>by rw [g.2 i (Q5 hi h.1) hs,h.2 i hi hs]⟩
variable {S':List Nat}
theorem Fr.tr {S:List Nat} (h:Fr S A B) (g:Fr S' B C) (s:∀ i ∈ S',i ∈ S\/A.length<=i):Fr S A C:=⟨Qj h.1 g.1,fun i hi hs=>by
 rw [g.2 i (Q5 hi h.1) (fun z=>by rcases s i z with a | a;exact hs a;omega),h.2 i hi hs]⟩
variable {M':Mem} {i:Nat}
theorem Fr.get {S:List Nat} (h:Fr S M M') {c:Cell} (e:M[i]? = some c) (hs:i ∉ S):M'[i]? = some c:=by
 rw [h.2 i (Qx.mp e).1 hs];exact e
theorem Fr.get0 (h:Fr [] M M') {c:Cell} (e:M[i]? = some c):M'[i]? = some c:=h.get e (by simp)
theorem Fr.sub {S:List Nat} (h:Fr S M M') (s:∀ i ∈ S,i ∈ S'\/M.length<=i):Fr S' M M':=⟨h.1,fun i hi hs=>h.2 i hi fun z=>by
 rcases s i z with a | a
 ·exact hs a
 ·omega⟩
theorem Fr.app (M:Mem) (l:List Cell):Fr [] M (M++l):=⟨by simp,fun i hi _=>by rw [Q6 hi]⟩
theorem Fr.set (M:Mem) (a:Nat) (c:Cell):Fr [a] M (M.set a c):=⟨by simp,fun i _ hs=>by rw [Qc,Qz (by simp at hs;omega)]⟩
theorem Fr.mono {S:List Nat} (h:Fr [] M M'):Fr S M M':=h.sub (fun i hi=>by simp at hi)
theorem qA {c:Cell} (e:M[i]? = some c):i<M.length:=(Qx.mp e).1
theorem yM {c:Cell}:(M++[c])[M.length]? = some c:=List.getElem?_concat_length
theorem get_set {a:Nat} {c c':Cell} (e:M[a]? = some c):(M.set a c')[a]? = some c':=by
 rw [Qc,Qy rfl,Qy (qA e)]
theorem Ok.loop {bd:T->X7} {body:X5} {α:Type} {r:α->T} (P:Nat->Ev->Mem->Prop) {R:T->Mem->Prop}:∀ (xs:List α) (i:Nat) {σ:Ev} {M:Mem},
  P i σ M->(∀ (k:Nat) x σ M,xs[k]? = some x->P (i+k) σ M->Ok ((bd (r x) σ M).bind fun σ1 M1=>body σ1 M1) fun fl M'=>(∃ σ',(fl = .nx σ'\/fl = .ct σ')/\P (i+k+1) σ' M')\/(∃ σ',fl = .bk σ'/\P (i+xs.length) σ' M')\/∃ t,fl = .rt t/\R t M')->
  Ok (forL bd body (xs.map r) σ M) fun fl M'=>(∃ σ',fl = .nx σ'/\P (i+xs.length) σ' M')\/∃ t,fl = .rt t/\R t M'
 | [],i,σ,M,h,_=>⟨.nx σ,M,rfl,.inl ⟨σ,rfl,h⟩⟩
 | x::xs,i,σ,M,h,t=>by
  obtain ⟨fl,M1,e1,h1⟩:=t 0 x σ M rfl h
  rw [QE,zlj]
  cases q:bd (r x) σ M with
  | bad=>rw [q] at e1;cases e1
  | exn C fs M'=>rw [q] at e1;cases e1
  | ok σ3 M3=>
   rw [q] at e1
   replace e1:body σ3 M3 = .ok fl M1:=e1
   show Ok ((body σ3 M3).bind (zY (forL bd body (xs.map r)))) _
   rw [e1]
   have go:∀ σ1,P (i+1) σ1 M1->Ok (forL bd body (xs.map r) σ1 M1) fun fl M'=>(∃ σ',fl = .nx σ'/\P (i+(x::xs).length) σ' M')\/∃ t,fl = .rt t/\R t M':=fun σ1 h1=>by
    have ih:=Ok.loop (R:=R) P xs (i+1) (bd:=bd) (body:=body) h1 (fun k y σ M hk hp=>by
     have:=t (k+1) y σ M (by simpa using hk) (by rw [show i+(k+1)=i+1+k by omega];exact hp)
     rw [show i+(k+1)+1=i+1+k+1 by omega,Qp,show i+(xs.length+1)=i+1+xs.length by omega] at this
     exact this)
    rw [Qp,show i+(xs.length+1)=i+1+xs.length by omega]
    exact ih
   rcases h1 with ⟨σ1,h1 | h1,h2⟩ | ⟨σ1,h1,h2⟩ | ⟨u,h1,h2⟩
   ·rw [h1];exact go σ1 h2
   ·rw [h1];exact go σ1 h2
   ·rw [h1];exact ⟨.nx σ1,M1,rfl,.inl ⟨σ1,rfl,h2⟩⟩
   ·rw [h1];exact ⟨.rt u,M1,rfl,.inr ⟨u,rfl,h2⟩⟩
variable {body:X5} {bd:T->X7}
theorem Ok.for {α:Type} {r:α->T} (P:Nat->Ev->Mem->Prop) {xs:List α} 
 (h:P 0 σ M) (t:∀ (k:Nat) x σ M,xs[k]? = some x->P k σ M->Ok ((bd (r x) σ M).bind fun σ1 M1=>body σ1 M1) fun fl M'=>∃ σ',fl = .nx σ'/\P (k+1) σ' M') :
  Ok (forL bd body (xs.map r) σ M) fun fl M'=>∃ σ',fl = .nx σ'/\P xs.length σ' M':=by
 refine (Ok.loop (R:=fun _ _=>False) P xs 0 h (fun k x σ M hk hp=>?_)).mono ?_
 ·rw [Nat.zero_add] at hp
  refine (t k x σ M hk hp).mono ?_
  rintro fl M' ⟨σ',e,q⟩
  exact .inl ⟨σ',.inl e,by rw [Nat.zero_add];exact q⟩
 ·rintro fl M' (⟨σ',e,q⟩ | ⟨t,_,f⟩)
  ·exact ⟨σ',e,by rw [Nat.zero_add] at q;exact q⟩
  ·exact f.elim
theorem Ok.comp {bd:T->X7} {cond:X6} {el:X8} {α:Type} {r:α->T} (P:Nat->List T->Ev->Mem->Prop):∀ (xs:List α) {σ:Ev} {M:Mem} (i:Nat) (acc:List T),
  P i acc σ M->acc.length+xs.length<=sizeLine->(∀ (k:Nat) x σ M acc,xs[k]? = some x->P (i+k) acc σ M->Ok ((bd (r x) σ M).bind fun σ1 M1=>(cond σ1 M1).bind fun b M2=>if b=true then (el σ1 M2).bind fun t M3=>.ok (some t,σ1) M3 else .ok (none,σ1) M2) fun o M'=>P (i+k+1) (match o.1 with | some t=>acc++[t] | none=>acc) o.2 M')->
  Ok (zy bd cond el (xs.map r) σ M acc) fun ts M'=>∃ σ',P (i+xs.length) ts σ' M'
 | [],σ,M,i,acc,h,_,_=>⟨acc,M,by simp [zy],σ,h⟩
 | x::xs,σ,M,i,acc,h,hl,t=>by
  obtain ⟨o,M1,e1,h1⟩:=t 0 x σ M acc rfl h
  rw [Qp] at hl
  rw [QE]
  unfold zy
  have go:∀ acc σ1 M1,acc.length+xs.length<=sizeLine->P (i+1) acc σ1 M1->Ok (zy bd cond el (xs.map r) σ1 M1 acc) fun ts M'=>∃ σ',P (i+(x::xs).length) ts σ' M':=fun acc σ1 M1 hl h1=>by
   have ih:=Ok.comp P xs (i+1) acc (bd:=bd) (cond:=cond) (el:=el) h1 hl (fun k y σ M acc hk hp=>by
    have:=t (k+1) y σ M acc (by simpa using hk) (by rw [show i+(k+1)=i+1+k by omega];exact hp)
    rw [show i+(k+1)+1=i+1+k+1 by omega] at this
    exact this)
   rw [Qp,show i+(xs.length+1)=i+1+xs.length by omega]
   exact ih
  cases q:bd (r x) σ M with
  | bad=>rw [q] at e1;cases e1
  | exn C fs M'=>rw [q] at e1;cases e1
  | ok σ3 M3=>
   rw [q] at e1
   replace e1:((cond σ3 M3).bind fun b M2=>if b=true then (el σ3 M2).bind fun t M3=>.ok (some t,σ3) M3 else .ok (none,σ3) M2) = .ok o M1:=e1
   show Ok ((cond σ3 M3).bind _) _
   cases q2:cond σ3 M3 with
   | bad=>rw [q2] at e1;cases e1
   | exn C fs M'=>rw [q2] at e1;cases e1
   | ok b M4=>
    rw [q2] at e1
    cases b with
    | false=>
     replace e1:(Out.ok (none,σ3) M4:Out (Option T × Ev)) = .ok o M1:=e1
     cases e1
     exact go acc σ3 _ (by omega) h1
    | true=>
     replace e1:((el σ3 M4).bind fun t M3=>.ok (some t,σ3) M3) = .ok o M1:=e1
     show Ok ((el σ3 M4).bind _) _
     cases q3:el σ3 M4 with
     | bad=>rw [q3] at e1;cases e1
     | exn C fs M'=>rw [q3] at e1;cases e1
     | ok u M5=>
      rw [q3] at e1
      replace e1:(Out.ok (some u,σ3) M5:Out (Option T × Ev)) = .ok o M1:=e1
      cases e1
      show Ok (if acc.length<sizeLine then _ else _) _
      rw [Qy (by omega)]
      exact go (acc++[u]) σ3 _ (by rw [Qn,Qp,length_nil];omega) h1
theorem Ok.whileN {c:X6} {body:X5} (P:Ev->Mem->Prop) (μ:Ev->Mem->Nat) {Q:Ev->Mem->Prop} {R:T->Mem->Prop}
  (t:∀ σ M,P σ M->Ok (c σ M) fun b M1=>(b=true/\Ok (body σ M1) fun fl M2=>(∃ σ',(fl = .nx σ'\/fl = .ct σ')/\P σ' M2/\μ σ' M2<μ σ M)\/(∃ σ',fl = .bk σ'/\Q σ' M2)\/∃ t,fl = .rt t/\R t M2)\/(b=false/\Q σ M1)) :
  ∀ (n:Nat) (σ:Ev) (M:Mem),μ σ M<n->P σ M->Ok (whileN c body n σ M) fun fl M'=>(∃ σ',fl = .nx σ'/\Q σ' M')\/∃ t,fl = .rt t/\R t M'
 | 0,_,_,hn,_=>absurd hn (by omega)
 | n+1,σ,M,hn,h=>by
  obtain ⟨b,M1,e,r⟩:=t σ M h
  unfold FT.whileN
  rw [e]
  rcases r with ⟨rfl,fl,M2,e2,r⟩ | ⟨rfl,q⟩
  ·show Ok ((body σ M1).bind _) _
   rw [e2]
   rcases r with ⟨σ1,h1 | h1,h2,h3⟩ | ⟨σ1,h1,h2⟩ | ⟨u,h1,h2⟩
   ·rw [h1];exact Ok.whileN P μ t n σ1 M2 (by omega) h2
   ·rw [h1];exact Ok.whileN P μ t n σ1 M2 (by omega) h2
   ·rw [h1];exact ⟨.nx σ1,M2,rfl,.inl ⟨σ1,rfl,h2⟩⟩
   ·rw [h1];exact ⟨.rt u,M2,rfl,.inr ⟨u,rfl,h2⟩⟩
  ·exact ⟨.nx σ,M1,rfl,.inl ⟨σ,rfl,q⟩⟩
theorem Ok.while {c:X6} (P:Ev->Mem->Prop) (μ:Ev->Mem->Nat) {Q:Ev->Mem->Prop} {R:T->Mem->Prop} (h:P σ M)
 (t:∀ σ M,P σ M->Ok (c σ M) fun b M1=>(b=true/\Ok (body σ M1) fun fl M2=>(∃ σ',(fl = .nx σ'\/fl = .ct σ')/\P σ' M2/\μ σ' M2<μ σ M)\/(∃ σ',fl = .bk σ'/\Q σ' M2)\/∃ t,fl = .rt t/\R t M2)\/(b=false/\Q σ M1)) :
  Ok (zbS c body σ M) fun fl M'=>(∃ σ',fl = .nx σ'/\Q σ' M')\/∃ t,fl = .rt t/\R t M':=by
 obtain ⟨fl,M',e,r⟩:=Ok.whileN P μ t (μ σ M+1) σ M (by omega) h
 exact ⟨fl,M',zkF _ e (by simp),r⟩
noncomputable def rgI (n:Nat):List Int:=(List.range n).map fun (k:Nat)=>(k:Int)
theorem zaI (n:Nat):(rgI n).length=n:=by simp [rgI]
variable {x:Int}
theorem zbf {k:Nat} (h:(rgI n)[k]? = some x):k<n/\x=k:=by
 unfold rgI at h
 rw [Qb] at h
 cases q:(List.range n)[k]? with
 | none=>rw [q] at h;cases h
 | some j=>
  rw [q] at h
  have hk:k<n:=by have:=(Qx.mp q).1;simpa using this
  rw [getElem?_range hk] at q
  cases q
  exact ⟨hk,(Qd h).symm⟩
theorem zlT (n:Nat):zdx 0 n=(rgI n).map .int:=by
 unfold zdx rgI
 rw [map_map]
 congr 1
 funext k
 simp
variable {j:Int}
theorem zad (h:-(2 ^ 62)<=j/\j<2 ^ 62):zbT [.int j] M = .ok ((rgI j.toNat).map .int) M:=by rw [zoT h,zlT]
noncomputable def rgF (lo:Int) (n:Nat):List Int:=(List.range n).map fun (k:Nat)=>lo+(k:Int)
theorem znf (lo:Int) (n:Nat):(rgF lo n).length=n:=by simp [rgF]
theorem zng {lo:Int} {k:Nat} (h:(rgF lo n)[k]? = some x):k<n/\x=lo+k:=by
 unfold rgF at h
 rw [Qb] at h
 cases q:(List.range n)[k]? with
 | none=>rw [q] at h;cases h
 | some j=>
  rw [q] at h
  have hk:k<n:=by have:=(Qx.mp q).1;simpa using this
  rw [getElem?_range hk] at q
  cases q
  exact ⟨hk,(Qd h).symm⟩
theorem zne {i:Int} (h:(-(2 ^ 62)<=i/\i<2 ^ 62)/\(-(2 ^ 62)<=j/\j<2 ^ 62)):zfq [.int i,.int j] M = .ok ((rgF i (j-i).toNat).map .int) M:=by
 rw [show zfq [.int i,.int j] M = .ok (zdx i (j-i).toNat) M from Qy h]
 unfold zdx rgF
 rw [map_map]
 rfl
theorem zpQ (h:0<=x/\x<n):ixN n x=some x.toNat:=by
 unfold ixN
 rw [Qy (by omega)]
 simp
 try omega
variable {el:X8}
theorem Ok.filt {cond:X6} {α:Type} {r:α->T} (I:Ev->Prop) (c:α->Bool) (f:α->T) {xs:List α} (h:I σ) (hl:xs.length<=1000000)
 (t:∀ x σ,x ∈ xs->I σ->∃ σ1,bd (r x) σ M = .ok σ1 M/\I σ1/\cond σ1 M = .ok (c x) M/\(c x=true->el σ1 M = .ok (f x) M)):zy bd cond el (xs.map r) σ M [] = .ok ((xs.filter c).map f) M:=by
 have key:∀ (xs:List α) (σ:Ev) (acc:List T),(∀ x σ,x ∈ xs->I σ->∃ σ1,bd (r x) σ M = .ok σ1 M/\I σ1/\cond σ1 M = .ok (c x) M/\(c x=true->el σ1 M = .ok (f x) M))->I σ->acc.length+xs.length<=sizeLine->zy bd cond el (xs.map r) σ M acc = .ok (acc++(xs.filter c).map f) M:=by
  intro xs
  induction xs with
  | nil=>intro σ acc _ _ _;simp [zy]
  | cons x xs ih=>
   intro σ acc t h hl
   obtain ⟨σ1,e1,h1,e2,e3⟩:=t x σ (.head _) h
   rw [Qp] at hl
   rw [QE]
   unfold zy
   rw [e1]
   show ((cond σ1 M).bind _)=_
   rw [e2]
   cases hc:c x with
   | true=>
    have ih:=ih σ1 (acc++[f x]) (fun y σ hy=>t y σ (.tail _ hy)) h1 (by rw [Qn,Qp,length_nil];omega)
    show ((el σ1 M).bind _)=_
    rw [e3 hc]
    show (if acc.length<sizeLine then zy bd cond el (xs.map r) σ1 M (acc++[f x]) else .bad)=_
    rw [Qy (by omega),ih,List.filter_cons_of_pos hc]
    simp
   | false=>
    have ih:=ih σ1 acc (fun y σ hy=>t y σ (.tail _ hy)) h1 (by omega)
    show zy bd cond el (xs.map r) σ1 M acc=_
    rw [ih,List.filter_cons_of_neg (by rw [hc];exact Q4)]
 have:=key xs σ [] t h (by rw [length_nil,Nat.zero_add];exact Qj hl (by decide))
 rw [this,nil_append]
theorem Ok.mapc {α:Type} {r:α->T} (I:Ev->Prop) (f:α->T) {xs:List α} (h:I σ) (hl:xs.length<=1000000)
 (t:∀ x σ,x ∈ xs->I σ->∃ σ1,bd (r x) σ M = .ok σ1 M/\I σ1/\el σ1 M = .ok (f x) M):zy bd qK el (xs.map r) σ M [] = .ok (xs.map f) M:=by
 have:=Ok.filt (cond:=qK) I (fun _=>true) f h hl (fun x σ hx hs=>by
  obtain ⟨σ1,a,b,c⟩:=t x σ hx hs
  exact ⟨σ1,a,b,rfl,fun _=>c⟩)
 rw [this,List.filter_eq_self.mpr (fun _ _=>rfl)]
theorem yP {a:Nat} {xs:List T} (e:M[a]? = some (.lst xs)):yo (.ref a) M=some xs:=by
 unfold yo
 simp only [e]
theorem Ok.loopG {G:Gd} {bd:T->X7} {body:X5} {α:Type} {r:α->T} (P:Nat->Ev->Mem->Prop) {R:T->Mem->Prop} (hG:∀ i σ M,P i σ M->zaP G M):∀ (xs:List α) (i:Nat) {σ:Ev} {M:Mem},
  P i σ M->(∀ (k:Nat) x σ M,xs[k]? = some x->P (i+k) σ M->Ok ((bd (r x) σ M).bind fun σ1 M1=>body σ1 M1) fun fl M'=>(∃ σ',(fl = .nx σ'\/fl = .ct σ')/\P (i+k+1) σ' M')\/(∃ σ',fl = .bk σ'/\P (i+xs.length) σ' M')\/∃ t,fl = .rt t/\R t M')->
  Ok (forG G bd body (xs.map r) σ M) fun fl M'=>(∃ σ',fl = .nx σ'/\P (i+xs.length) σ' M')\/∃ t,fl = .rt t/\R t M'
 | [],i,σ,M,h,_=>⟨.nx σ,M,by rw [map_nil];unfold forG;exact zdO (hG _ _ _ h),.inl ⟨σ,rfl,h⟩⟩
 | x::xs,i,σ,M,h,t=>by
  obtain ⟨fl,M1,e1,h1⟩:=t 0 x σ M rfl h
  rw [QE]
  unfold forG
  rw [zdO (hG _ _ _ h)]
  cases q:bd (r x) σ M with
  | bad=>rw [q] at e1;cases e1
  | exn C fs M'=>rw [q] at e1;cases e1
  | ok σ3 M3=>
   rw [q] at e1
   replace e1:body σ3 M3 = .ok fl M1:=e1
   show Ok ((body σ3 M3).bind (zY (forG G bd body (xs.map r)))) _
   rw [e1]
   have go:∀ σ1,P (i+1) σ1 M1->Ok (forG G bd body (xs.map r) σ1 M1) fun fl M'=>(∃ σ',fl = .nx σ'/\P (i+(x::xs).length) σ' M')\/∃ t,fl = .rt t/\R t M':=fun σ1 h1=>by
    have ih:=Ok.loopG (R:=R) P hG xs (i+1) (bd:=bd) (body:=body) h1 (fun k y σ M hk hp=>by
     have:=t (k+1) y σ M (by simpa using hk) (by rw [show i+(k+1)=i+1+k by omega];exact hp)
     rw [show i+(k+1)+1=i+1+k+1 by omega,Qp,show i+(xs.length+1)=i+1+xs.length by omega] at this
     exact this)
    rw [Qp,show i+(xs.length+1)=i+1+xs.length by omega]
    exact ih
   rcases h1 with ⟨σ1,h1 | h1,h2⟩ | ⟨σ1,h1,h2⟩ | ⟨u,h1,h2⟩
   ·rw [h1];exact go σ1 h2
   ·rw [h1];exact go σ1 h2
   ·rw [h1];exact ⟨.nx σ1,M1,rfl,.inl ⟨σ1,rfl,h2⟩⟩
   ·rw [h1];exact ⟨.rt u,M1,rfl,.inr ⟨u,rfl,h2⟩⟩
theorem Ok.forG {G:Gd} {α:Type} {r:α->T} (P:Nat->Ev->Mem->Prop) {xs:List α} (hG:∀ i σ M,P i σ M->zaP G M)
 (h:P 0 σ M) (t:∀ (k:Nat) x σ M,xs[k]? = some x->P k σ M->Ok ((bd (r x) σ M).bind fun σ1 M1=>body σ1 M1) fun fl M'=>∃ σ',fl = .nx σ'/\P (k+1) σ' M') :
  Ok (forG G bd body (xs.map r) σ M) fun fl M'=>∃ σ',fl = .nx σ'/\P xs.length σ' M':=by
 refine (Ok.loopG (R:=fun _ _=>False) P hG xs 0 h (fun k x σ M hk hp=>?_)).mono ?_
 ·rw [Nat.zero_add] at hp
  refine (t k x σ M hk hp).mono ?_
  rintro fl M' ⟨σ',e,q⟩
  exact .inl ⟨σ',.inl e,by rw [Nat.zero_add];exact q⟩
 ·rintro fl M' (⟨σ',e,q⟩ | ⟨t,_,f⟩)
  ·exact ⟨σ',e,by rw [Nat.zero_add] at q;exact q⟩
  ·exact f.elim
def OkX {β:Type} (o:Out β) (Q:β->Mem->Prop) (E:Addr->List (Str × T)->Mem->Prop):Prop:=match o with
 | .ok b M=>Q b M
 | .exn C fs M=>E C fs M
 | .bad=>False
variable {E:Addr->List (Str × T)->Mem->Prop}
theorem OkX.ok {β:Type} {o:Out β} {Q:β->Mem->Prop} (h:Ok o Q):OkX o Q E:=by
 obtain ⟨b,M,rfl,q⟩:=h
 exact q
theorem OkX.bind {β γ:Type} {o:Out β} {k:β->Mem->Out γ} {P:β->Mem->Prop} {Q:γ->Mem->Prop} (h:OkX o P E) (g:∀ b M,P b M->OkX (k b M) Q E):OkX (o.bind k) Q E:=by
 cases o with
 | ok b M=>exact g b M h
 | exn C fs M=>exact h
 | bad=>exact h.elim
end FT
namespace My
open PySem L2 FT
noncomputable def top (i:Nat):Stmt:=PySem.Challenge.pw_tryweir_k39_ledgers.main.body.getD i (.Pass ⟨0,0,0,0⟩)
noncomputable abbrev zfn:Stmt:=top 41
noncomputable abbrev zes:Stmt:=top 42
noncomputable abbrev zfp:Stmt:=top 43
noncomputable abbrev zgi:Stmt:=top 44
noncomputable abbrev zer:Stmt:=top 45
noncomputable abbrev zgl:Stmt:=top 40
noncomputable abbrev zew:Stmt:=top 51
noncomputable abbrev zgj:Stmt:=top 52
noncomputable abbrev zet:Stmt:=top 46
noncomputable abbrev zev:Stmt:=top 47
noncomputable abbrev zex:Stmt:=top 48
noncomputable abbrev zgh:Stmt:=top 49
noncomputable abbrev zgk:Stmt:=top 50
noncomputable abbrev zhT:Stmt:=top 53
noncomputable abbrev zfo:Stmt:=top 39
noncomputable abbrev zdZ:Stmt:=top 54
noncomputable abbrev zd5:Stmt:=inClass (top 13) 0
noncomputable abbrev zey:Stmt:=top 14
noncomputable abbrev zcE:Stmt:=top 23
noncomputable abbrev zbB:Stmt:=top 24
noncomputable abbrev zbo:Stmt:=top 26
noncomputable abbrev zdu:Stmt:=top 8
noncomputable abbrev zdX:Stmt:=top 15
noncomputable abbrev zc0:Stmt:=top 16
noncomputable abbrev zcZ:Stmt:=top 17
noncomputable abbrev zd1:Stmt:=top 25
noncomputable abbrev zdw:Stmt:=top 27
noncomputable abbrev zd0:Stmt:=top 4
noncomputable abbrev zdv:Stmt:=top 6
noncomputable abbrev zd3:Stmt:=top 28
noncomputable abbrev zcF:Stmt:=top 33
noncomputable abbrev zd4:Stmt:=top 9
noncomputable abbrev zcG:Stmt:=inClass (top 12) 0
noncomputable abbrev zco:Stmt:=top 19
noncomputable abbrev zbe:Stmt:=top 20
noncomputable abbrev zbR:Stmt:=top 21
noncomputable abbrev zfO:Stmt:=top 22
noncomputable abbrev zhS:Stmt:=top 29
noncomputable abbrev zdt:Stmt:=top 18
noncomputable abbrev zds:Stmt:=top 30
noncomputable abbrev zgm:Stmt:=top 31
noncomputable abbrev zdY:Stmt:=top 32
noncomputable abbrev zfl:Stmt:=top 34
noncomputable abbrev zd2:Stmt:=top 36
noncomputable abbrev zfm:Stmt:=top 37
noncomputable abbrev zeu:Stmt:=top 55
noncomputable abbrev zjY:Stmt:=top 56
structure Txt (K:Frag) (mg:Str->Option Value) (kE kR:Addr):Prop where
 cls_Errand:Cls K kE
 cls_Run:Cls K kR
 na_Errand_asked:NoAttr K kE "asked"
 na_Errand_caller:NoAttr K kE "caller"
 na_Errand_house:NoAttr K kE "house"
 na_Errand_is_lost:NoAttr K kE "is_lost"
 na_Errand_state:NoAttr K kE "state"
 na_Errand_stood:NoAttr K kE "stood"
 na_Run_came:NoAttr K kR "came"
 na_Run_errands:NoAttr K kR "errands"
 na_Run_net:NoAttr K kR "net"
 na_Run_payments:NoAttr K kR "payments"
 na_Run_puts:NoAttr K kR "puts"
 na_Run_taken:NoAttr K kR "taken"
 n_range:mg "range" = none
 n_len:mg "len" = none
 n_min:mg "min" = none
 n_int:mg "int" = none
 n_tuple:mg "tuple" = none
 n_max:mg "max" = none
 n_isinstance:mg "isinstance" = none
 n_bool:mg "bool" = none
 n_list:mg "list" = none
 c_FRESH:∃ a,mg "FRESH" = some (.ref a)/\KTu K a [.str "fresh"]
theorem boot_range:bootBuiltins "range" = some (.type "range"):=by decide +kernel
theorem boot_len:bootBuiltins "len" = some (.builtin "len"):=by decide +kernel
theorem boot_min:bootBuiltins "min" = some (.builtin "min"):=by decide +kernel
theorem boot_int:bootBuiltins "int" = some (.type "int"):=by decide +kernel
theorem boot_tuple:bootBuiltins "tuple" = some (.type "tuple"):=by decide +kernel
theorem boot_max:bootBuiltins "max" = some (.builtin "max"):=by decide +kernel
theorem boot_isinstance:bootBuiltins "isinstance" = some (.builtin "isinstance"):=by decide +kernel
theorem boot_bool:bootBuiltins "bool" = some (.type "bool"):=by decide +kernel
theorem boot_list:bootBuiltins "list" = some (.type "list"):=by decide +kernel
end My
theorem FT.nc_l {k:PySem.NameKind} {P:Prop} (e:(k == .cell || k == .free)=false) (h:k = .cell\/k = .free):P:=by
 rcases h with rfl | rfl
 ·exact absurd e (by decide)
 ·exact absurd e (by decide)
open PySem L2 FT in
local macro_rules | `(tactic| bv_omega) => `(tactic| exact ⟨rfl, rfl, by decide +kernel, rfl, by decide +kernel, by first | exact (fun _ _ h => h) | exact zh8 (by repeat (first | exact True.intro | refine ⟨rfl, ?_⟩)), fun _ => zpV (by repeat (first | exact True.intro | (refine ⟨?_, ?_⟩; first | exact (fun _ => ⟨_, rfl⟩) | exact nc_l rfl | exact (fun h => h.elim (fun h => nomatch h) (fun h => nomatch h))))), by repeat (first | exact List.forall_mem_nil _ | refine List.forall_mem_cons.mpr ⟨⟨rfl, rfl, by first | exact .inl rfl | exact .inr rfl⟩, ?_⟩)⟩)
namespace My
open PySem L2 FT
noncomputable def zil (kE kR:Addr):X5:=
 (yh (sIf (zq (eOp gtI (eOp ixT (yb 0) (eC (.int 0))) (eC (.int 0)))) (yh (yq 2 (eOp zbU (eOp ixT (yb 0) (eC (.int 0))) (yb 1)))
 (yh (zaO (eOp zeg (eOp ixT (yb 0) (eC (.int 0))) (yb 1)) (za8 zaS (yb 0) (eC (.int 0))))
 (zF (yb 2)))) yH)
 (yh (zaO (eOp zN (eOp ixT (yb 0) (eC (.int 2))) (eC (.int 1))) (za8 zaS (yb 0) (eC (.int 2))))
 (yh (yq 3 (eOp zbU (eOp zN (eOp ixT (yb 0) (eC (.int 1))) (eOp yR (eC (.int 7919)) (eOp ixT (yb 0) (eC (.int 2))))) (eC (.int 1000000007))))
 (yh (yq 4 (eOp zbU (eOp yR (eOp zN (yb 3) (eC (.int 11))) (eOp zN (yb 3) (eC (.int 48271)))) (eC (.int 998244353))))
 (zF (eOp zbU (eOp zeg (eOp zbU (eOp yR (yb 4) (yb 4)) (eC (.int 2147483647))) (eC (.int 8))) (yb 1)))))))
noncomputable def yA (kE kR:Addr):X2:=yi 2 5 (zil kE kR)
variable {kE kR:Addr} {K:Frag} {base:Heap} {P:Program} {mg:Str->Option Value} {w:World}
section
theorem zdg:FnScope ["pool","base","digit","mark","stir"] ["pool","base"] (zg zfn):=by ac_rfl
theorem zA (D:Df K mg "_law_next" zfn ["pool","base"]) (T:Txt K mg kE kR)   :CalT P w K mg base 1 "_law_next" ["pool","base"] (yA kE kR):=
 qp D zdg rfl rfl (fun f cdv A outer s H E hr=>(qd (qv (zj zdL (yd ye (za (pv 0)) yc) yc (zk _)) (qd (zi (i:=2) zdg.nd rfl (Or.inl rfl) (ym zaJ (yd ye (za (pv 0)) yc) (za (pv 1))))
  (qd (yS (ym zgv (yd ye (za (pv 0)) yc) (za (pv 1))) (zaH (za (pv 0)) yc zdf))
  (zf (yt (za (pv 2)))))) zr)
  (qd (yS (ym qF (yd ye (za (pv 0)) yc) yc) (zaH (za (pv 0)) yc zdf))
  (qd (zi (i:=3) zdg.nd rfl (Or.inl rfl) (ym zaJ (ym qF (yd ye (za (pv 0)) yc) (ym zao yc (yd ye (za (pv 0)) yc))) yc))
  (qd (zi (i:=4) zdg.nd rfl (Or.inl rfl) (ym zaJ (ym zao (ym qF (za (pv 3)) yc) (ym qF (za (pv 3)) yc)) yc))
  (zf (yt (ym zaJ (ym zgv (ym zaJ (ym zao (za (pv 4)) (za (pv 4))) yc) yc) (za (pv 1))))))))))
end
noncomputable def zf8 (kE kR:Addr):X5:=
 (yh (yq 8 (eOp zN (eOp zN (ziv (yb 3) zdh (zbh (yb 4))) (eOp ixS (yb 2) (eOp zbU (eOp zN (yb 5) (eOp yR (eC (.int 5)) (yb 7))) (eC (.int 26))))) (ziv (yb 3) (zbh (yb 4)) zdh)))
 (qB (zT yO (eUn qD (yb 6)) (zb (eOp zN (yb 8) (eOp zgy (eOp ixS (yb 2) (yb 5)) (eOp zbU (yb 7) (eC (.int 2))))) ze))))
noncomputable def zg0 (kE kR:Addr):X5:=
 (yh (yq 2 (eC (.str "abcdefghijklmnopqrstuvwxyz")))
 (yh (yq 3 (zbu isStr zeS (eC (.str "")) (zb (eFz (zax (yU (zb (yf (yA kE kR) (zb (yb 0) (zb (eC (.int 7)) ze))) ze)) (qo 0) qK (eOp ixS (yb 1) (yf (yA kE kR) (zb (yb 2) (zb (eC (.int 26)) ze)))) ["k"] [("abc",2),("pool",0)])) ze)))
 (yh (yq 4 (yf (yA kE kR) (zb (yb 0) (zb (eOp zN (yf (yy yz) (zb (yb 3) ze)) (eC (.int 1))) ze))))
 (yh (yq 5 (yf (yA kE kR) (zb (yb 0) (zb (eC (.int 26)) ze))))
 (yh (yq 6 (eTk (yx ze)))
 (yh (zcb (yU (zb (yb 1) ze)) (qo 7) (zf8 kE kR))
 (zF (yb 6))))))))
noncomputable def zcx (kE kR:Addr):X2:=yi 2 9 (zg0 kE kR)
section
theorem zae:FnScope ["pool","many","abc","base","at","first","found","k","name"] ["pool","many"] (zg zes):=by ac_rfl
theorem zbK (D:Df K mg "_law_words" zes ["pool","many"]) (T:Txt K mg kE kR)   (zA:CalT P w K mg base 1 "_law_next" ["pool","base"] (yA kE kR)):CalT P w K mg base 2 "_law_words" ["pool","many"] (zcx kE kR):=
 qp D zae rfl rfl (fun f cdv A outer s H E hr=>(qd (zi (i:=2) zae.nd rfl (Or.inr rfl) qi)
  (qd (zi (i:=3) zae.nd rfl (Or.inl rfl) (zdU ty_str (zR PySem.F.plainAttrs_str PySem.F.slot_str_join PySem.F.type_str_join zma (WE.pe qi) (WA.pe (ya (zP (zah (tgs:=["k"]) (caps:=[("abc",2),("pool",0)]) (yN rfl T.n_range (ya (X9 zA hr (ya (za (pv 0)) (ya yc zd))) zd)) (by bv_omega) (fun _ _ _=>(yn (yr (i:=0) (show (["k","abc","pool"]:List Str).Nodup by decide +kernel) rfl (by and_intros)))) (fun _ _ _=>zag) (fun _ _ _=>(yd zmh (za (pv 1)) (X9 zA hr (ya (za (pv 2)) (ya yc zd))))))) zd)))))
  (qd (zi (i:=4) zae.nd rfl (Or.inl rfl) (X9 zA hr (ya (za (pv 0)) (ya (ym qF (yk qr rfl T.n_len boot_len (ya (za (pv 3)) zd)) yc) zd))))
  (qd (zi (i:=5) zae.nd rfl (Or.inl rfl) (X9 zA hr (ya (za (pv 0)) (ya yc zd))))
  (qd (zi (i:=6) zae.nd rfl (Or.inl rfl) (zH (yw zd)))
  (qd (zaG PassesOwn.never rfl (yN rfl T.n_range (ya (za (pv 1)) zd)) (yn (yr (i:=7) zae.nd rfl (by and_intros))) (qd (zi (i:=8) zae.nd rfl (Or.inl rfl) (ym qF (ym qF (zi4 (za (pv 3)) zb7 (zau (za (pv 4)))) (yd zmh (za (pv 2)) (ym zaJ (ym qF (za (pv 5)) (ym zao yc (za (pv 7)))) yc))) (zi4 (za (pv 3)) (zau (za (pv 4))) zb7)))
  (zf (zn (yK (zR QA QC QB yD (WE.pe (za (pv 6))) (WA.pe (ya (ym qF (za (pv 8)) (ym znF (yd zmh (za (pv 2)) (za (pv 5))) (ym zaJ (za (pv 7)) yc))) zd))))))))
  (zf (yt (za (pv 6)))))))))))
end
noncomputable def zhf (kE kR:Addr):X5:=
 (yh (yq 6 (eOp ixT (yb 1) (yf (yA kE kR) (zb (yb 0) (zb (yf (yy yz) (zb (yb 1) ze)) ze)))))
 (yh (yq 7 (eOp ixT (eFz (yx (zb (eC (.int 1)) (zb (eC (.int 2)) (zb (eC (.int 2)) (zb (eC (.int 3)) (zb (eC (.int 4)) (zb (eC (.int 0)) (zb (eC (.int 0)) (zb (eC (.int 1)) ze)))))))))) (yf (yA kE kR) (zb (yb 0) (zb (eC (.int 8)) ze)))))
 (yh (yq 8 (eOp ixT (eFz (lOp zeI (eFz (yx (zb (eC .non) ze))) (eFz (lOp zgq (yb 2) (eC (.int 2)))))) (yf (yA kE kR) (zb (yb 0) (zb (eOp zN (eC (.int 1)) (eOp yR (eC (.int 2)) (yf (yy yz) (zb (yb 2) ze)))) ze)))))
 (yh (yq 9 (eOp ixT (eFz (yx (zb (eC (.str "bad")) (zb (eC (.str "bad")) (zb (eC (.str "spent")) ze))))) (yf (yA kE kR) (zb (yb 0) (zb (eC (.int 3)) ze)))))
 (qB (zT yO (eUn qD (yb 4)) (zb (yF (zb (yb 6) (zb (yb 7) (zb (yb 8) (zb (yb 9) (zb (eOp eqA (yf (yA kE kR) (zb (yb 0) (zb (eC (.int 2)) ze))) (eC (.int 0))) (zb (eOp eqA (yf (yA kE kR) (zb (yb 0) (zb (eC (.int 3)) ze))) (eC (.int 0))) ze))))))) ze)))))))
noncomputable def zin (kE kR:Addr):X5:=
 (yh (yq 4 (eTk (yx ze)))
 (yh (zcb (yU (zb (eOp yR (yf (call2 zgA) (zb (yb 3) (zb (eOp ixT (eFz (yx (zb (eC (.int 1)) (zb (eC (.int 1)) (zb (eC (.int 2)) (zb (eC (.int 2)) (zb (eC (.int 3)) (zb (eC (.int 0)) (zb (eC (.int 2)) (zb (eC (.int 1)) ze)))))))))) (yf (yA kE kR) (zb (yb 0) (zb (eC (.int 8)) ze)))) ze))) (yf (yy zj9) (zb (eOp neA (yb 1) (eFz (yx ze))) ze))) ze)) (qo 5) (zhf kE kR))
 (zF (yf (yy zQ) (zb (yb 4) ze)))))
noncomputable def zee (kE kR:Addr):X2:=yi 4 10 (zin kE kR)
section
theorem zaV:FnScope ["pool","later","purses","most","found","k","to","tries","purse","word"] ["pool","later","purses","most"] (zg zfp):=by ac_rfl
theorem zdb (D:Df K mg "_law_asks" zfp ["pool","later","purses","most"]) (T:Txt K mg kE kR)   (zA:CalT P w K mg base 1 "_law_next" ["pool","base"] (yA kE kR)):CalT P w K mg base 2 "_law_asks" ["pool","later","purses","most"] (zee kE kR):=
 qp D zaV rfl rfl (fun f cdv A outer s H E hr=>(qd (zi (i:=4) zaV.nd rfl (Or.inl rfl) (zH (yw zd)))
  (qd (zaG PassesOwn.never rfl (yN rfl T.n_range (ya (ym zao (yk (zeJ rfl) rfl T.n_min boot_min (ya (za (pv 3)) (ya (yd ye (zP (yw (ya yc (ya yc (ya yc (ya yc (ya yc (ya yc (ya yc (ya yc zd)))))))))) (X9 zA hr (ya (za (pv 0)) (ya yc zd)))) zd))) (zav zlD rfl T.n_int boot_int (ya (zac (zcu hr.units) (za (pv 1)) (zP (yw zd)) (zk _)) zd))) zd)) (yn (yr (i:=5) zaV.nd rfl (by and_intros))) (qd (zi (i:=6) zaV.nd rfl (Or.inl rfl) (yd ye (za (pv 1)) (X9 zA hr (ya (za (pv 0)) (ya (yk qr rfl T.n_len boot_len (ya (za (pv 1)) zd)) zd)))))
  (qd (zi (i:=7) zaV.nd rfl (Or.inl rfl) (yd ye (zP (yw (ya yc (ya yc (ya yc (ya yc (ya yc (ya yc (ya yc (ya yc zd)))))))))) (X9 zA hr (ya (za (pv 0)) (ya yc zd)))))
  (qd (zi (i:=8) zaV.nd rfl (Or.inl rfl) (yd ye (zP (zhA zjj (zP (yw (ya qT zd))) (zP (zhA znC (za (pv 2)) yc)))) (X9 zA hr (ya (za (pv 0)) (ya (ym qF yc (ym zao yc (yk qr rfl T.n_len boot_len (ya (za (pv 2)) zd)))) zd)))))
  (qd (zi (i:=9) zaV.nd rfl (Or.inl rfl) (yd ye (zP (yw (ya qi (ya qi (ya qi zd))))) (X9 zA hr (ya (za (pv 0)) (ya yc zd)))))
  (zf (zn (yK (zR QA QC QB yD (WE.pe (za (pv 4))) (WA.pe (ya (zu (ya (za (pv 6)) (ya (za (pv 7)) (ya (za (pv 8)) (ya (za (pv 9)) (ya (zac (yB hr.units) (X9 zA hr (ya (za (pv 0)) (ya yc zd))) yc (zk _)) (ya (zac (yB hr.units) (X9 zA hr (ya (za (pv 0)) (ya yc zd))) yc (zk _)) zd))))))) zd)))))))))))
  (zf (yt (zav zaM rfl T.n_tuple boot_tuple (ya (za (pv 4)) zd)))))))
end
noncomputable def zfH (kE kR:Addr):X5:=
 (yh (yq 6 (yf (zee kE kR) (zb (yb 0) (zb (eSl (yb 1) (zbh (eOp zN (yb 5) (eC (.int 1)))) zdh) (zb (yb 2) (zb (yf (call2 zgA) (zb (eC (.int 3)) (zb (yb 4) ze))) ze))))))
 (yh (yq 4 (eOp zep (yb 4) (yf (yy yz) (zb (yb 6) ze))))
 (qB (zT yO (eUn qD (yb 3)) (zb (yF (zb (eOp ixT (yb 1) (yb 5)) (zb (yb 6) ze))) ze)))))
noncomputable def zfG (kE kR:Addr):X5:=
 (yh (yq 9 (eOp ixT (eFz (yx (zb (eC (.str "first")) (zb (eC (.str "any")) ze)))) (yf (yA kE kR) (zb (yb 0) (zb (eC (.int 2)) ze)))))
 (qB (zT yO (eUn qD (yb 7)) (zb (yF (zb (yb 8) (zb (yb 9) (zb (eOp ixT (eFz (yx (zb (eC (.int 1)) (zb (eC (.int 1)) (zb (eC (.int 2)) (zb (eC (.int 3)) (zb (eOp zN (eC (.int 1)) (yf (yA kE kR) (zb (yb 0) (zb (eC (.int 9)) ze)))) ze))))))) (yf (yA kE kR) (zb (yb 0) (zb (eC (.int 5)) ze)))) ze)))) ze))))
noncomputable def zjt (kE kR:Addr):X5:=
 (yh (yq 1 (yf (zcx kE kR) (zb (yb 0) (zb (eOp ixT (eFz (yx (zb (eC (.int 2)) (zb (eC (.int 3)) (zb (eC (.int 3)) (zb (eC (.int 4)) (zb (eC (.int 4)) (zb (eC (.int 3)) (zb (eC (.int 2)) (zb (eC (.int 1)) ze)))))))))) (yf (yA kE kR) (zb (yb 0) (zb (eC (.int 8)) ze)))) ze))))
 (yh (yq 2 (yf (zcx kE kR) (zb (yb 0) (zb (eOp ixT (eFz (yx (zb (eC (.int 0)) (zb (eC (.int 1)) (zb (eC (.int 1)) (zb (eC (.int 2)) ze)))))) (yf (yA kE kR) (zb (yb 0) (zb (eC (.int 4)) ze)))) ze))))
 (yh (sIf (zq (eOp eqA (yf (yA kE kR) (zb (yb 0) (zb (eC (.int 8)) ze))) (eC (.int 0)))) (yq 2 (eSl (eRv (yb 1) (zbh (eUn zh5 (eC (.int 1))))) zdh (zbh (yf (yy yz) (zb (yb 2) ze))))) yH)
 (yh (yq 3 (eTk (yx ze)))
 (yh (yq 4 (eC (.int 6)))
 (yh (zcb (yU (zb (yf (yy yz) (zb (yb 1) ze)) ze)) (qo 5) (zfH kE kR))
 (yh (yq 7 (eTk (yx ze)))
 (yh (zcN (zcq (yb 2)) (qo 8) (zfG kE kR))
 (zF (yF (zb (yf (yy zQ) (zb (yb 3) ze)) (zb (yf (yy zQ) (zb (yb 7) ze)) ze))))))))))))
noncomputable def zeU (kE kR:Addr):X2:=yi 1 10 (zjt kE kR)
section
theorem qY:FnScope ["pool","houses","purses","some","room","k","asks","rows","name","which"] ["pool"] (zg zgi):=by ac_rfl
theorem zdR (D:Df K mg "_law_net" zgi ["pool"]) (T:Txt K mg kE kR)   (zbK:CalT P w K mg base 2 "_law_words" ["pool","many"] (zcx kE kR)) (zA:CalT P w K mg base 1 "_law_next" ["pool","base"] (yA kE kR)) (zdb:CalT P w K mg base 2 "_law_asks" ["pool","later","purses","most"] (zee kE kR)):CalT P w K mg base 3 "_law_net" ["pool"] (zeU kE kR):=
 qp D qY rfl rfl (fun f cdv A outer s H E hr=>(qd (zi (i:=1) qY.nd rfl (Or.inl rfl) (X9 zbK hr (ya (za (pv 0)) (ya (yd ye (zP (yw (ya yc (ya yc (ya yc (ya yc (ya yc (ya yc (ya yc (ya yc zd)))))))))) (X9 zA hr (ya (za (pv 0)) (ya yc zd)))) zd))))
  (qd (zi (i:=2) qY.nd rfl (Or.inl rfl) (X9 zbK hr (ya (za (pv 0)) (ya (yd ye (zP (yw (ya yc (ya yc (ya yc (ya yc zd)))))) (X9 zA hr (ya (za (pv 0)) (ya yc zd)))) zd))))
  (qd (qv (zj (yB hr.units) (X9 zA hr (ya (za (pv 0)) (ya yc zd))) yc (zk _)) (zf (zi (i:=2) qY.nd rfl (Or.inl rfl) (zeo (zoF (za (pv 1)) (zau (zoE zm3 yc))) zb7 (zau (yk qr rfl T.n_len boot_len (ya (za (pv 2)) zd)))))) zr)
  (qd (zi (i:=3) qY.nd rfl (Or.inl rfl) (zH (yw zd)))
  (qd (zi (i:=4) qY.nd rfl (Or.inl rfl) yc)
  (qd (zaG PassesOwn.never rfl (yN rfl T.n_range (ya (yk qr rfl T.n_len boot_len (ya (za (pv 1)) zd)) zd)) (yn (yr (i:=5) qY.nd rfl (by and_intros))) (qd (zi (i:=6) qY.nd rfl (Or.inl rfl) (X9 zdb hr (ya (za (pv 0)) (ya (zeo (za (pv 1)) (zau (ym qF (za (pv 5)) yc)) zb7) (ya (za (pv 2)) (ya (yk (zeJ rfl) rfl T.n_min boot_min (ya yc (ya (za (pv 4)) zd))) zd))))))
  (qd (zi (i:=4) qY.nd rfl (Or.inl rfl) (ym zcS (za (pv 4)) (yk qr rfl T.n_len boot_len (ya (za (pv 6)) zd))))
  (zf (zn (yK (zR QA QC QB yD (WE.pe (za (pv 3))) (WA.pe (ya (zu (ya (yd ye (za (pv 1)) (za (pv 5))) (ya (za (pv 6)) zd))) zd)))))))))
  (qd (zi (i:=7) qY.nd rfl (Or.inl rfl) (zH (yw zd)))
  (qd (zfd PassesOwn.never rfl (zfe (za (pv 2))) (yn (yr (i:=8) qY.nd rfl (by and_intros))) (qd (zi (i:=9) qY.nd rfl (Or.inl rfl) (yd ye (zP (yw (ya qi (ya qi zd)))) (X9 zA hr (ya (za (pv 0)) (ya yc zd)))))
  (zf (zn (yK (zR QA QC QB yD (WE.pe (za (pv 7))) (WA.pe (ya (zu (ya (za (pv 8)) (ya (za (pv 9)) (ya (yd ye (zP (yw (ya yc (ya yc (ya yc (ya yc (ya (ym qF yc (X9 zA hr (ya (za (pv 0)) (ya yc zd)))) zd))))))) (X9 zA hr (ya (za (pv 0)) (ya yc zd)))) zd)))) zd))))))))
  (zf (yt (zu (ya (zav zaM rfl T.n_tuple boot_tuple (ya (za (pv 3)) zd)) (ya (zav zaM rfl T.n_tuple boot_tuple (ya (za (pv 7)) zd)) zd))))))))))))))
end
noncomputable def zgZ (kE kR:Addr):X5:=
 (zF (eTk (yx (zb (eTk (yx ze)) (zb zkg (zb (eTk (zax (zcJ (eOp ixT (yb 0) (eC (.int 1)))) (qo 0) qK (eTk (yx (zb (eTk (yx ze)) (zb (eTk (yx ze)) (zb (eC (.int 0)) ze))))) ["purse"] [])) (zb (eTk (yx ze)) ze)))))))
noncomputable def zbI (kE kR:Addr):X2:=yi 1 1 (zgZ kE kR)
section
theorem zjV:FnScope ["net"] ["net"] (zg zer):=by ac_rfl
theorem zaq (D:Df K mg "_law_world" zer ["net"]) (T:Txt K mg kE kR)   :CalT P w K mg base 1 "_law_world" ["net"] (zbI kE kR):=
 qp D zjV rfl rfl (fun f cdv A outer s H E hr=>(zf (yt (zH (yw (ya (zH (yw zd)) (ya zm1 (ya (zH (zah (tgs:=["purse"]) (caps:=[]) (zb8 (yd ye (za (pv 0)) yc)) (by bv_omega) (fun _ _ _=>(yn (yr (i:=0) (show (["purse"]:List Str).Nodup by decide +kernel) rfl (by and_intros)))) (fun _ _ _=>zag) (fun _ _ _=>(zH (yw (ya (zH (yw zd)) (ya (zH (yw zd)) (ya yc zd)))))))) (ya (zH (yw zd)) zd)))))))))
end
noncomputable def zjw (kE kR:Addr):X5:=
 (zF (eTk (yx (zb (yf (call2 zh7) (zb (eC (.int 0)) (zb (eOp zep (yb 0) (eOp zjZ (eC (.int 10)) (eC (.int 18)))) ze))) (zb (eOp zbU (yb 0) (eOp zjZ (eC (.int 10)) (eC (.int 18)))) (zb (eC (.int 0)) ze))))))
noncomputable def zch (kE kR:Addr):X2:=yi 1 1 (zjw kE kR)
section
theorem zlO:FnScope ["cell"] ["cell"] (zg zgl):=by ac_rfl
theorem zbN (D:Df K mg "_law_dig" zgl ["cell"]) (T:Txt K mg kE kR)   :CalT P w K mg base 1 "_law_dig" ["cell"] (zch kE kR):=
 qp D zlO rfl rfl (fun f cdv A outer s H E hr=>(zf (yt (zH (yw (ya (yk (zg9 rfl) rfl T.n_max boot_max (ya yc (ya (ym zcS (za (pv 0)) (ym zjg yc yc)) zd))) (ya (ym zaJ (za (pv 0)) (ym zjg yc yc)) (ya yc zd))))))))
end
noncomputable def zgb (kE kR:Addr):X5:=
 (sIf (zq (eOp eqA (eOp ixT (eOp ixT (eOp ixT (yb 0) (eC (.int 1))) (yb 3)) (eC (.int 0))) (eOp ixT (yb 2) (eC (.int 2))))) (zF (eOp zep (yf (yy yz) (zb (eOp ixT (eOp ixT (eOp ixT (yb 1) (eC (.int 2))) (yb 3)) (eC (.int 1))) ze)) (eOp ixT (eOp ixT (eOp ixT (yb 1) (eC (.int 2))) (yb 3)) (eC (.int 2))))) yH)
noncomputable def zg4 (kE kR:Addr):X5:=
 (yh (zcb (yU (zb (yf (yy yz) (zb (eOp ixT (yb 0) (eC (.int 1))) ze)) ze)) (qo 3) (zgb kE kR))
 (zF (eC (.int 1))))
noncomputable def zdl (kE kR:Addr):X2:=yi 3 4 (zg4 kE kR)
section
theorem zfN:FnScope ["net","world","ask","k"] ["net","world","ask"] (zg zew):=by ac_rfl
theorem zcB (D:Df K mg "_law_coins" zew ["net","world","ask"]) (T:Txt K mg kE kR)   :CalT P w K mg base 1 "_law_coins" ["net","world","ask"] (zdl kE kR):=
 qp D zfN rfl rfl (fun f cdv A outer s H E hr=>(qd (zaG PassesOwn.never rfl (yN rfl T.n_range (ya (yk qr rfl T.n_len boot_len (ya (yd ye (za (pv 0)) yc) zd)) zd)) (yn (yr (i:=3) zfN.nd rfl (by and_intros))) (zf (qv (zj (yB hr.units) (yd ye (yd ye (yd ye (za (pv 0)) yc) (za (pv 3))) yc) (yd ye (za (pv 2)) yc) (zk _)) (zf (yt (ym zcS (yk qr rfl T.n_len boot_len (ya (yd ye (yd ye (yd ye (za (pv 1)) yc) (za (pv 3))) yc) zd)) (yd ye (yd ye (yd ye (za (pv 1)) yc) (za (pv 3))) yc)))) zr)))
  (zf (yt yc))))
end
noncomputable def ziL (kE kR:Addr):X5:=
 (yh (zaO (eOp ixT (eOp ixT (yb 1) (eC (.int 0))) (yb 3)) (zej 3 (z4 (qo 4) (z4 (qo 5) (z4 (qo 6) zeL)))))
 (yh (sIf (zq (eOp eqA (eOp ixT (yb 6) (eC (.int 0))) (eC (.str "works")))) (yq 2 (eTk (lOp zeI (yb 2) (eFz (zax (zcJ (eFz (yx (zb (eC (.str "bad")) (zb (eC (.str "spent")) (zb (eC (.str "well")) ze)))))) (qo 0) qK (yF (zb (eC (.str "ends")) (zb (yb 1) (zb (yb 0) ze)))) ["word"] [("number",3)]))))) yH)
 (yh (sIf (zaw (zq (eOp neA (eOp ixT (yb 6) (eC (.int 0))) (eC (.str "ended")))) (zaw (zq (eOp zaa (yb 5) (eC .non))) (zq (eOp zft (yb 3) (eOp ixT (yb 1) (eC (.int 1))))))) (sIf (zbP (zq (eOp ixT (eOp ixT (eOp ixT (eOp ixT (eOp ixT (yb 0) (eC (.int 0))) (eOp ixT (eOp ixT (eOp ixT (yb 1) (eC (.int 0))) (eOp ixT (yb 5) (eC (.int 0)))) (eC (.int 0)))) (eC (.int 1))) (eOp ixT (yb 5) (eC (.int 1)))) (eC (.int 5))))) (qB (zT yO (eUn qD (yb 2)) (zb (yF (zb (eC (.str "lost")) (zb (yb 3) ze))) ze))) yH) yH)
 (sIf (zq (eOp eqA (eOp ixT (yb 6) (eC (.int 0))) (eC (.str "stands")))) (yh (yq 7 (eOp ixT (eOp ixT (eOp ixT (eOp ixT (yb 0) (eC (.int 0))) (yb 4)) (eC (.int 1))) (eOp ixT (yb 6) (eC (.int 1)))))
 (yh (sIf (zaw (zca (zq (eOp eqA (eOp ixT (yb 7) (eC (.int 1))) (eC (.int 0)))) (zq (eOp ltI (eOp ixT (yb 6) (eC (.int 2))) (eOp ixT (yb 7) (eC (.int 1)))))) (zq (eOp gtI (yf (zdl kE kR) (zb (yb 0) (zb (yb 1) (zb (yb 7) ze)))) (eC (.int 0))))) (qB (zT yO (eUn qD (yb 2)) (zb (yF (zb (eC (.str "again")) (zb (yb 3) ze))) ze))) yH)
 (qB (zT yO (eUn qD (yb 2)) (zb (yF (zb (eC (.str "up")) (zb (yb 3) ze))) ze))))) yH))))
noncomputable def zju (kE kR:Addr):X5:=
 (yh (yq 2 (eTk (yx (zb (yF (zb (eC (.str "fresh")) ze)) ze))))
 (yh (zcb (yU (zb (yf (yy yz) (zb (eOp ixT (yb 1) (eC (.int 0))) ze)) ze)) (qo 3) (ziL kE kR))
 (zF (yb 2))))
noncomputable def zgI (kE kR:Addr):X2:=yi 2 8 (zju kE kR)
noncomputable def zdI (kE kR:Addr):X2:=zeG (zgI kE kR)
section
theorem zaU:FnScope ["net","world","found","number","house","caller","state","ask"] ["net","world"] (zg zgj):=by ac_rfl
theorem zcm (D:Df K mg "_law_may" zgj ["net","world"]) (T:Txt K mg kE kR)   (zcB:CalT P w K mg base 1 "_law_coins" ["net","world","ask"] (zdl kE kR)):CalT P w K mg base 2 "_law_may" ["net","world"] (zgI kE kR):=
 qp D zaU rfl rfl (fun f cdv A outer s H E hr=>(qd (zi (i:=2) zaU.nd rfl (Or.inl rfl) (zH (yw (ya (zu (ya qi zd)) zd))))
  (qd (zaG PassesOwn.never rfl (yN rfl T.n_range (ya (yk qr rfl T.n_len boot_len (ya (yd ye (za (pv 1)) yc) zd)) zd)) (yn (yr (i:=3) zaU.nd rfl (by and_intros))) (qd (yS (yd ye (yd ye (za (pv 1)) yc) (za (pv 3))) (zhB (zje rfl (WGs.pe (qG (yJ (WG.pe (yn (yr (i:=4) zaU.nd rfl (by and_intros)))) (WGs.pe (qG (yJ (WG.pe (yn (yr (i:=5) zaU.nd rfl (by and_intros)))) (WGs.pe (qG (yJ (WG.pe (yn (yr (i:=6) zaU.nd rfl (by and_intros)))) (WGs.pe zb9)))))))))))))
  (qd (qv (zj (yB hr.units) (yd ye (za (pv 6)) yc) qi (zk _)) (zf (zi (i:=2) zaU.nd rfl (Or.inl rfl) (zH (zhA zjj (za (pv 2)) (zP (zah (tgs:=["word"]) (caps:=[("number",3)]) (zb8 (zP (yw (ya qi (ya qi (ya qi zd)))))) (by bv_omega) (fun _ _ _=>(yn (yr (i:=0) (show (["word","number"]:List Str).Nodup by decide +kernel) rfl (by and_intros)))) (fun _ _ _=>zag) (fun _ _ _=>(zu (ya qi (ya (za (pv 1)) (ya (za (pv 0)) zd))))))))))) zr)
  (qd (qv (WW.gt (z5 (zj (zcu hr.units) (yd ye (za (pv 6)) yc) qi (zk _)) (z5 (zj zcv (za (pv 5)) qT (zk _)) (yY (zj (zjh hr.units) (za (pv 3)) (yd ye (za (pv 1)) yc) rfl))))) (zf (qv (za9 (qO (yd ye (yd ye (yd ye (yd ye (yd ye (za (pv 0)) yc) (yd ye (yd ye (yd ye (za (pv 1)) yc) (yd ye (za (pv 5)) yc)) yc)) yc) (yd ye (za (pv 5)) yc)) yc))) (zf (zn (yK (zR QA QC QB yD (WE.pe (za (pv 2))) (WA.pe (ya (zu (ya qi (ya (za (pv 3)) zd))) zd)))))) zr)) zr)
  (zf (qv (zj (yB hr.units) (yd ye (za (pv 6)) yc) qi (zk _)) (qd (zi (i:=7) zaU.nd rfl (Or.inl rfl) (yd ye (yd ye (yd ye (yd ye (za (pv 0)) yc) (za (pv 4))) yc) (yd ye (za (pv 6)) yc)))
  (qd (qv (WW.gt (z5 (WW.gt (zbq (zj (yB hr.units) (yd ye (za (pv 7)) yc) yc (zk _)) (zbF (zj zdK (yd ye (za (pv 6)) yc) (yd ye (za (pv 7)) yc) (zk _))))) (yY (zj zdL (X9 zcB hr (ya (za (pv 0)) (ya (za (pv 1)) (ya (za (pv 7)) zd)))) yc (zk _))))) (zf (zn (yK (zR QA QC QB yD (WE.pe (za (pv 2))) (WA.pe (ya (zu (ya qi (ya (za (pv 3)) zd))) zd)))))) zr)
  (zf (zn (yK (zR QA QC QB yD (WE.pe (za (pv 2))) (WA.pe (ya (zu (ya qi (ya (za (pv 3)) zd))) zd)))))))) zr))))))
  (zf (yt (za (pv 2)))))))
end
noncomputable def zf9 (kE kR:Addr):X5:=
 (yh (zaO (eOp ixT (eOp ixT (yb 0) (eC (.int 1))) (yb 5)) (zgO 3 (z4 (qo 6) (z4 (qo 7) (z4 (qo 8) zeL)))))
 (sIf (zaw (zq (eOp eqA (yb 6) (eOp ixT (yb 2) (eC (.int 2))))) (zca (zq (yb 3)) (zq (eOp eqA (yb 7) (eC (.str "any")))))) (yh (yq 9 (eOp ixT (eOp ixT (yb 1) (eC (.int 2))) (yb 5)))
 (yh (qB (zT yO (eUn qD (eOp ixT (yb 9) (eC (.int 0)))) (zb (yb 4) ze)))
 (sIf (zq (eOp eqA (yf (yy yz) (zb (eOp ixT (yb 9) (eC (.int 0))) ze)) (yb 8))) (yh (qB (zT yO (eUn qD (eOp ixT (yb 9) (eC (.int 1)))) (zb (yf (yy zQ) (zb (eOp ixT (yb 9) (eC (.int 0))) ze)) ze)))
 (zaO (eTk (yx ze)) (za8 zaS (yb 9) (eC (.int 0))))) yH))) yH))
noncomputable def zg1 (kE kR:Addr):X5:=
 (zcb (yU (zb (yf (yy yz) (zb (eOp ixT (yb 0) (eC (.int 1))) ze)) ze)) (qo 5) (zf9 kE kR))
noncomputable def zbJ (kE kR:Addr):X2:=yi 5 10 (zg1 kE kR)
section
theorem zbb:FnScope ["net","world","ask","first","errand","k","name","which","per","purse"] ["net","world","ask","first","errand"] (zg zet):=by ac_rfl
theorem zar (D:Df K mg "_law_share" zet ["net","world","ask","first","errand"]) (T:Txt K mg kE kR)   :CalT P w K mg base 1 "_law_share" ["net","world","ask","first","errand"] (zbJ kE kR):=
 qp D zbb rfl rfl (fun f cdv A outer s H E hr=>(zf (zaG PassesOwn.never rfl (yN rfl T.n_range (ya (yk qr rfl T.n_len boot_len (ya (yd ye (za (pv 0)) yc) zd)) zd)) (yn (yr (i:=5) zbb.nd rfl (by and_intros))) (qd (yS (yd ye (yd ye (za (pv 0)) yc) (za (pv 5))) (zeM (zfR rfl (WGs.pe (qG (yJ (WG.pe (yn (yr (i:=6) zbb.nd rfl (by and_intros)))) (WGs.pe (qG (yJ (WG.pe (yn (yr (i:=7) zbb.nd rfl (by and_intros)))) (WGs.pe (qG (yJ (WG.pe (yn (yr (i:=8) zbb.nd rfl (by and_intros)))) (WGs.pe zb9)))))))))))))
  (zf (qv (WW.gt (z5 (zj (yB hr.units) (za (pv 6)) (yd ye (za (pv 2)) yc) (zk _)) (yY (WW.gt (zbq (qO (za (pv 3))) (zbF (zj (yB hr.units) (za (pv 7)) qi (zk _)))))))) (qd (zi (i:=9) zbb.nd rfl (Or.inl rfl) (yd ye (yd ye (za (pv 1)) yc) (za (pv 5))))
  (qd (zn (yK (zR QA QC QB yD (WE.pe (yd ye (za (pv 9)) yc)) (WA.pe (ya (za (pv 4)) zd)))))
  (zf (qv (zj (yB hr.units) (yk qr rfl T.n_len boot_len (ya (yd ye (za (pv 9)) yc) zd)) (za (pv 8)) (zk _)) (qd (zn (yK (zR QA QC QB yD (WE.pe (yd ye (za (pv 9)) yc)) (WA.pe (ya (zav zaM rfl T.n_tuple boot_tuple (ya (yd ye (za (pv 9)) yc) zd)) zd)))))
  (zf (yS (zH (yw zd)) (zaH (za (pv 9)) yc zdf)))) zr)))) zr))))))
end
noncomputable def zg3 (kE kR:Addr):X5:=
 (zF (zbu zbV zd9 (eFz (zax (zcJ (eOp ixT (yb 0) (eC (.int 0)))) (qo 0) qK (eOp ixT (yb 0) (eC (.int 0))) ["house"] [])) (zb (yb 1) ze)))
noncomputable def za2 (kE kR:Addr):X2:=yi 2 2 (zg3 kE kR)
section
theorem zjW:FnScope ["net","name"] ["net","name"] (zg zev):=by ac_rfl
theorem zas (D:Df K mg "_law_house" zev ["net","name"]) (T:Txt K mg kE kR)   :CalT P w K mg base 1 "_law_house" ["net","name"] (za2 kE kR):=
 qp D zjW rfl rfl (fun f cdv A outer s H E hr=>(zf (yt (zdU zfJ (zR QA PySem.F.slot_list_index PySem.F.type_list_index (zkV hr.units) (WE.pe (zP (zah (tgs:=["house"]) (caps:=[]) (zb8 (yd ye (za (pv 0)) yc)) (by bv_omega) (fun _ _ _=>(yn (yr (i:=0) (show (["house"]:List Str).Nodup by decide +kernel) rfl (by and_intros)))) (fun _ _ _=>zag) (fun _ _ _=>(yd ye (za (pv 0)) yc))))) (WA.pe (ya (za (pv 1)) zd)))))))
end
noncomputable def zgc (kE kR:Addr):X5:=
 (yh (yq 5 (yf (yy yz) (zb (eOp ixT (yb 1) (eC (.int 0))) ze)))
 (yh (yq 4 (eOp ixT (eOp ixT (eOp ixT (yb 0) (eC (.int 0))) (yb 2)) (eC (.int 1))))
 (yh (qB (zT yO (eUn qD (eOp ixT (yb 1) (eC (.int 0)))) (zb (eTk (yx (zb (yb 2) (zb (yb 3) (zb (yF (zb (eC (.str "works")) ze)) ze))))) ze)))
 (sIf (zq (eOp neA (yb 4) (yF ze))) (yh (zaO (yF (zb (eC (.str "waits")) (zb (eC (.int 0)) (zb (eC (.int 1)) ze)))) (za8 zaS (eOp ixT (eOp ixT (yb 1) (eC (.int 0))) (yb 5)) (eC (.int 2))))
 (yh (qB (yf (zbJ kE kR) (zb (yb 0) (zb (yb 1) (zb (eOp ixT (yb 4) (eC (.int 0))) (zb (eC (.bl true)) (zb (eOp zN (yb 5) (eC (.int 1))) ze)))))))
 (yh (yq 3 (yF (zb (yb 5) (zb (eC (.int 0)) (zb (eC (.int 1)) ze)))))
 (yq 2 (yf (za2 kE kR) (zb (yb 0) (zb (eOp ixT (eOp ixT (yb 4) (eC (.int 0))) (eC (.int 0))) ze))))))) yH))))
noncomputable def zb6 (kE kR:Addr):X6:=
 (zq (eOp neA (yb 4) (yF ze)))
noncomputable def zg5 (kE kR:Addr):X5:=
 (yh (yq 4 (yF (zb (eC .non) ze)))
 (zbS (zb6 kE kR) (zgc kE kR)))
noncomputable def za3 (kE kR:Addr):X2:=yi 4 6 (zg5 kE kR)
section
theorem zbd:FnScope ["net","world","house","caller","asks","number"] ["net","world","house","caller"] (zg zex):=by ac_rfl
theorem zat (D:Df K mg "_law_begin" zex ["net","world","house","caller"]) (T:Txt K mg kE kR)   (zar:CalT P w K mg base 1 "_law_share" ["net","world","ask","first","errand"] (zbJ kE kR)) (zas:CalT P w K mg base 1 "_law_house" ["net","name"] (za2 kE kR)):CalT P w K mg base 2 "_law_begin" ["net","world","house","caller"] (za3 kE kR):=
 qp D zbd rfl rfl (fun f cdv A outer s H E hr=>(qd (zi (i:=4) zbd.nd rfl (Or.inl rfl) (zu (ya qT zd)))
  (zf (zgS PassesOwn.never (zj (zcu hr.units) (za (pv 4)) (zu zd) (zk _)) (qd (zi (i:=5) zbd.nd rfl (Or.inl rfl) (yk qr rfl T.n_len boot_len (ya (yd ye (za (pv 1)) yc) zd)))
  (qd (zi (i:=4) zbd.nd rfl (Or.inl rfl) (yd ye (yd ye (yd ye (za (pv 0)) yc) (za (pv 2))) yc))
  (qd (zn (yK (zR QA QC QB yD (WE.pe (yd ye (za (pv 1)) yc)) (WA.pe (ya (zH (yw (ya (za (pv 2)) (ya (za (pv 3)) (ya (zu (ya qi zd)) zd))))) zd)))))
  (zf (qv (zj (zcu hr.units) (za (pv 4)) (zu zd) (zk _)) (qd (yS (zu (ya qi (ya yc (ya yc zd)))) (zaH (yd ye (yd ye (za (pv 1)) yc) (za (pv 5))) yc zdf))
  (qd (zn (X9 zar hr (ya (za (pv 0)) (ya (za (pv 1)) (ya (yd ye (za (pv 4)) yc) (ya y6 (ya (ym qF (za (pv 5)) yc) zd)))))))
  (qd (zi (i:=3) zbd.nd rfl (Or.inl rfl) (zu (ya (za (pv 5)) (ya yc (ya yc zd)))))
  (zf (zi (i:=2) zbd.nd rfl (Or.inl rfl) (X9 zas hr (ya (za (pv 0)) (ya (yd ye (yd ye (za (pv 4)) yc) yc) zd)))))))) zr)))))))))
end
noncomputable def zjs (kE kR:Addr):X5:=
 (yh (yq 5 (eOp ixT (eOp ixT (eOp ixT (eOp ixT (yb 0) (eC (.int 0))) (eOp ixT (eOp ixT (eOp ixT (yb 1) (eC (.int 0))) (yb 2)) (eC (.int 0)))) (eC (.int 1))) (yb 3)))
 (yh (zaO (yF (zb (eC (.str "waits")) (zb (yb 3) (zb (yb 4) ze)))) (za8 zaS (eOp ixT (eOp ixT (yb 1) (eC (.int 0))) (yb 2)) (eC (.int 2))))
 (yh (qB (yf (zbJ kE kR) (zb (yb 0) (zb (yb 1) (zb (yb 5) (zb (eOp eqA (yb 4) (eC (.int 1))) (zb (yf (yy yz) (zb (eOp ixT (yb 1) (eC (.int 0))) ze)) ze)))))))
 (qB (yf (za3 kE kR) (zb (yb 0) (zb (yb 1) (zb (yf (za2 kE kR) (zb (yb 0) (zb (eOp ixT (yb 5) (eC (.int 0))) ze))) (zb (yF (zb (yb 2) (zb (yb 3) (zb (yb 4) ze)))) ze)))))))))
noncomputable def zcT (kE kR:Addr):X2:=yi 5 6 (zjs kE kR)
section
theorem zhP:FnScope ["net","world","number","at","tries","ask"] ["net","world","number","at","tries"] (zg zgh):=by ac_rfl
theorem zbL (D:Df K mg "_law_try" zgh ["net","world","number","at","tries"]) (T:Txt K mg kE kR)   (zar:CalT P w K mg base 1 "_law_share" ["net","world","ask","first","errand"] (zbJ kE kR)) (zat:CalT P w K mg base 2 "_law_begin" ["net","world","house","caller"] (za3 kE kR)) (zas:CalT P w K mg base 1 "_law_house" ["net","name"] (za2 kE kR)):CalT P w K mg base 3 "_law_try" ["net","world","number","at","tries"] (zcT kE kR):=
 qp D zhP rfl rfl (fun f cdv A outer s H E hr=>(qd (zi (i:=5) zhP.nd rfl (Or.inl rfl) (yd ye (yd ye (yd ye (yd ye (za (pv 0)) yc) (yd ye (yd ye (yd ye (za (pv 1)) yc) (za (pv 2))) yc)) yc) (za (pv 3))))
  (qd (yS (zu (ya qi (ya (za (pv 3)) (ya (za (pv 4)) zd)))) (zaH (yd ye (yd ye (za (pv 1)) yc) (za (pv 2))) yc zdf))
  (qd (zn (X9 zar hr (ya (za (pv 0)) (ya (za (pv 1)) (ya (za (pv 5)) (ya (zac (yB hr.units) (za (pv 4)) yc (zk _)) (ya (yk qr rfl T.n_len boot_len (ya (yd ye (za (pv 1)) yc) zd)) zd)))))))
  (zf (zn (X9 zat hr (ya (za (pv 0)) (ya (za (pv 1)) (ya (X9 zas hr (ya (za (pv 0)) (ya (yd ye (za (pv 5)) yc) zd))) (ya (zu (ya (za (pv 2)) (ya (za (pv 3)) (ya (za (pv 4)) zd)))) zd)))))))))))
end
noncomputable def ziM (kE kR:Addr):X5:=
 (yh (zaO (yF (zb (eC (.str "ended")) (zb (yb 3) ze))) (za8 zdr (eOp ixT (eOp ixT (yb 1) (eC (.int 0))) (yb 2)) (eC (.int 2))))
 (yh (yq 5 (eOp ixT (eOp ixT (eOp ixT (yb 1) (eC (.int 0))) (yb 2)) (eC (.int 1))))
 (yh (yq 4 (ziw (eOp zaa (yb 5) (eC .non)) (eOp zft (yb 2) (eOp ixT (yb 1) (eC (.int 1))))))
 (sIf (zq (yb 4)) (yh (zaO (yb 5) (zgO 3 (z4 (qo 2) (z4 (qo 6) (z4 (qo 7) zeL)))))
 (yh (yq 8 (eOp ixT (eOp ixT (eOp ixT (yb 0) (eC (.int 0))) (eOp ixT (eOp ixT (eOp ixT (yb 1) (eC (.int 0))) (yb 2)) (eC (.int 0)))) (eC (.int 1))))
 (sIf (zaw (zq (eOp eqA (yb 3) (eC (.str "well")))) (zq (eOp ltI (eOp zN (yb 6) (eC (.int 1))) (yf (yy yz) (zb (yb 8) ze))))) (yh (qB (yf (zcT kE kR) (zb (yb 0) (zb (yb 1) (zb (yb 2) (zb (eOp zN (yb 6) (eC (.int 1))) (zb (eC (.int 1)) ze)))))))
 (yq 4 (eC (.bl false)))) (sIf (zaw (zq (eOp neA (yb 3) (eC (.str "well")))) (zbP (zaw (zq (eOp eqA (yb 3) (eC (.str "spent")))) (zq (eOp ixT (eOp ixT (yb 8) (yb 6)) (eC (.int 4))))))) (yh (zaO (yF (zb (eC (.str "stands")) (zb (yb 6) (zb (yb 7) ze)))) (za8 zdr (eOp ixT (eOp ixT (yb 1) (eC (.int 0))) (yb 2)) (eC (.int 2))))
 (yq 4 (eC (.bl false)))) yH)))) yH))))
noncomputable def zdd (kE kR:Addr):X6:=
 (zq (yb 4))
noncomputable def zjv (kE kR:Addr):X5:=
 (yh (yq 4 (eC (.bl true)))
 (zbS (zdd kE kR) (ziM kE kR)))
noncomputable def zdP (kE kR:Addr):X2:=yi 4 9 (zjv kE kR)
section
theorem zai:FnScope ["net","world","number","word","going","caller","at","tries","asks"] ["net","world","number","word"] (zg zgk):=by ac_rfl
theorem zcV (D:Df K mg "_law_end" zgk ["net","world","number","word"]) (T:Txt K mg kE kR)   (zbL:CalT P w K mg base 3 "_law_try" ["net","world","number","at","tries"] (zcT kE kR)):CalT P w K mg base 4 "_law_end" ["net","world","number","word"] (zdP kE kR):=
 qp D zai rfl rfl (fun f cdv A outer s H E hr=>(qd (zi (i:=4) zai.nd rfl (Or.inl rfl) y6)
  (zf (zgS PassesOwn.never (qO (za (pv 4))) (qd (yS (zu (ya qi (ya (za (pv 3)) zd))) (zaH (yd ye (yd ye (za (pv 1)) yc) (za (pv 2))) yc (zfM hr.units)))
  (qd (zi (i:=5) zai.nd rfl (Or.inl rfl) (yd ye (yd ye (yd ye (za (pv 1)) yc) (za (pv 2))) yc))
  (qd (zi (i:=4) zai.nd rfl (Or.inl rfl) (zgd (zac zcv (za (pv 5)) qT (zk _)) (zdE (zac (zjh hr.units) (za (pv 2)) (yd ye (za (pv 1)) yc) rfl))))
  (zf (qv (qO (za (pv 4))) (qd (yS (za (pv 5)) (zeM (zfR rfl (WGs.pe (qG (yJ (WG.pe (yn (yr (i:=2) zai.nd rfl (by and_intros)))) (WGs.pe (qG (yJ (WG.pe (yn (yr (i:=6) zai.nd rfl (by and_intros)))) (WGs.pe (qG (yJ (WG.pe (yn (yr (i:=7) zai.nd rfl (by and_intros)))) (WGs.pe zb9)))))))))))))
  (qd (zi (i:=8) zai.nd rfl (Or.inl rfl) (yd ye (yd ye (yd ye (za (pv 0)) yc) (yd ye (yd ye (yd ye (za (pv 1)) yc) (za (pv 2))) yc)) yc))
  (zf (qv (WW.gt (z5 (zj (yB hr.units) (za (pv 3)) qi (zk _)) (yY (zj zdK (ym qF (za (pv 6)) yc) (yk qr rfl T.n_len boot_len (ya (za (pv 8)) zd)) (zk _))))) (qd (zn (X9 zbL hr (ya (za (pv 0)) (ya (za (pv 1)) (ya (za (pv 2)) (ya (ym qF (za (pv 6)) yc) (ya yc zd)))))))
  (zf (zi (i:=4) zai.nd rfl (Or.inl rfl) y6))) (zf (qv (WW.gt (z5 (zj (zcu hr.units) (za (pv 3)) qi (zk _)) (yY (za9 (WW.gt (z5 (zj (yB hr.units) (za (pv 3)) qi (zk _)) (yY (qO (yd ye (yd ye (za (pv 8)) (za (pv 6))) yc))))))))) (qd (yS (zu (ya qi (ya (za (pv 6)) (ya (za (pv 7)) zd)))) (zaH (yd ye (yd ye (za (pv 1)) yc) (za (pv 2))) yc (zfM hr.units)))
  (zf (zi (i:=4) zai.nd rfl (Or.inl rfl) y6))) zr)))))) zr)))))))))
end
noncomputable def zjJ (kE kR:Addr):X5:=
 (sIf (zq (eOp eqA (eOp ixT (eOp ixT (eOp ixT (yb 0) (eC (.int 1))) (yb 10)) (eC (.int 0))) (eOp ixT (yb 9) (eC (.int 2))))) (yh (qB (zT yO (eUn qD (eOp ixT (yb 1) (eC (.int 3)))) (zb (yF (zb (yf (yy yz) (zb (eOp ixT (yb 1) (eC (.int 0))) ze)) (zb (yb 10) (zb (eOp ixT (eOp ixT (eOp ixT (yb 1) (eC (.int 2))) (yb 10)) (eC (.int 2))) ze)))) ze)))
 (zaO (eOp zN (eOp ixT (eOp ixT (eOp ixT (yb 1) (eC (.int 2))) (yb 10)) (eC (.int 2))) (eC (.int 1))) (za8 zdr (eOp ixT (eOp ixT (yb 1) (eC (.int 2))) (yb 10)) (eC (.int 2))))) yH)
noncomputable def zli (kE kR:Addr):X5:=
 (yh (sIf (zq (eOp eqA (eOp ixT (yb 2) (eC (.int 0))) (eC (.str "fresh")))) (qB (yf (za3 kE kR) (zb (yb 0) (zb (yb 1) (zb (eC (.int 0)) (zb (eC .non) ze)))))) yH)
 (yh (sIf (zq (eOp eqA (eOp ixT (yb 2) (eC (.int 0))) (eC (.str "ends")))) (qB (yf (zdP kE kR) (zb (yb 0) (zb (yb 1) (zb (eOp ixT (yb 2) (eC (.int 1))) (zb (eOp ixT (yb 2) (eC (.int 2))) ze)))))) yH)
 (yh (sIf (zq (eOp eqA (eOp ixT (yb 2) (eC (.int 0))) (eC (.str "lost")))) (yh (zaO (eC (.bl true)) (za8 zdr (eOp ixT (yb 1) (eC (.int 1))) (eOp ixT (yb 2) (eC (.int 1)))))
 (yh (zaO (eOp ixT (eOp ixT (eOp ixT (yb 1) (eC (.int 0))) (eOp ixT (yb 2) (eC (.int 1)))) (eC (.int 1))) (zgO 3 (z4 (qo 3) (z4 (qo 4) (z4 (qo 5) zeL)))))
 (zaO (yF (zb (eC (.str "stands")) (zb (yb 4) (zb (yb 5) ze)))) (za8 zdr (eOp ixT (eOp ixT (yb 1) (eC (.int 0))) (yb 3)) (eC (.int 2)))))) yH)
 (sIf (zq (eOp inD (eOp ixT (yb 2) (eC (.int 0))) (eFz (yx (zb (eC (.str "again")) (zb (eC (.str "up")) ze)))))) (yh (zaO (eOp ixT (eOp ixT (yb 1) (eC (.int 0))) (eOp ixT (yb 2) (eC (.int 1)))) (zej 3 (z4 (qo 6) (z4 (qo 7) (z4 (qo 8) zeL)))))
 (yh (yq 9 (eOp ixT (eOp ixT (eOp ixT (eOp ixT (yb 0) (eC (.int 0))) (yb 6)) (eC (.int 1))) (eOp ixT (yb 8) (eC (.int 1)))))
 (sIf (zq (eOp eqA (eOp ixT (yb 2) (eC (.int 0))) (eC (.str "up")))) (qB (yf (zdP kE kR) (zb (yb 0) (zb (yb 1) (zb (eOp ixT (yb 2) (eC (.int 1))) (zb (eOp ixT (yb 9) (eC (.int 3))) ze)))))) (yh (zcb (yU (zb (yf (yy yz) (zb (eOp ixT (yb 0) (eC (.int 1))) ze)) ze)) (qo 10) (zjJ kE kR))
 (qB (yf (zcT kE kR) (zb (yb 0) (zb (yb 1) (zb (eOp ixT (yb 2) (eC (.int 1))) (zb (eOp ixT (yb 8) (eC (.int 1))) (zb (eOp zN (eOp ixT (yb 8) (eC (.int 2))) (eC (.int 1))) ze))))))))))) yH))))
noncomputable def zcz (kE kR:Addr):X2:=yi 3 11 (zli kE kR)
section
theorem zbc:FnScope ["net","world","event","number","at","tries","house","caller","state","ask","k"] ["net","world","event"] (zg zhT):=by ac_rfl
theorem zcA (D:Df K mg "_law_do" zhT ["net","world","event"]) (T:Txt K mg kE kR)   (zat:CalT P w K mg base 2 "_law_begin" ["net","world","house","caller"] (za3 kE kR)) (zcV:CalT P w K mg base 4 "_law_end" ["net","world","number","word"] (zdP kE kR)) (zbL:CalT P w K mg base 3 "_law_try" ["net","world","number","at","tries"] (zcT kE kR)):CalT P w K mg base 5 "_law_do" ["net","world","event"] (zcz kE kR):=
 qp D zbc rfl rfl (fun f cdv A outer s H E hr=>(qd (qv (zj (yB hr.units) (yd ye (za (pv 2)) yc) qi (zk _)) (zf (zn (X9 zat hr (ya (za (pv 0)) (ya (za (pv 1)) (ya yc (ya qT zd))))))) zr)
  (qd (qv (zj (yB hr.units) (yd ye (za (pv 2)) yc) qi (zk _)) (zf (zn (X9 zcV hr (ya (za (pv 0)) (ya (za (pv 1)) (ya (yd ye (za (pv 2)) yc) (ya (yd ye (za (pv 2)) yc) zd))))))) zr)
  (qd (qv (zj (yB hr.units) (yd ye (za (pv 2)) yc) qi (zk _)) (qd (yS y6 (zaH (yd ye (za (pv 1)) yc) (yd ye (za (pv 2)) yc) (zfM hr.units)))
  (qd (yS (yd ye (yd ye (yd ye (za (pv 1)) yc) (yd ye (za (pv 2)) yc)) yc) (zeM (zfR rfl (WGs.pe (qG (yJ (WG.pe (yn (yr (i:=3) zbc.nd rfl (by and_intros)))) (WGs.pe (qG (yJ (WG.pe (yn (yr (i:=4) zbc.nd rfl (by and_intros)))) (WGs.pe (qG (yJ (WG.pe (yn (yr (i:=5) zbc.nd rfl (by and_intros)))) (WGs.pe zb9)))))))))))))
  (zf (yS (zu (ya qi (ya (za (pv 4)) (ya (za (pv 5)) zd)))) (zaH (yd ye (yd ye (za (pv 1)) yc) (za (pv 3))) yc (zfM hr.units)))))) zr)
  (zf (qv (zj (zpq hr.units) (yd ye (za (pv 2)) yc) (zP (yw (ya qi (ya qi zd)))) rfl) (qd (yS (yd ye (yd ye (za (pv 1)) yc) (yd ye (za (pv 2)) yc)) (zhB (zje rfl (WGs.pe (qG (yJ (WG.pe (yn (yr (i:=6) zbc.nd rfl (by and_intros)))) (WGs.pe (qG (yJ (WG.pe (yn (yr (i:=7) zbc.nd rfl (by and_intros)))) (WGs.pe (qG (yJ (WG.pe (yn (yr (i:=8) zbc.nd rfl (by and_intros)))) (WGs.pe zb9)))))))))))))
  (qd (zi (i:=9) zbc.nd rfl (Or.inl rfl) (yd ye (yd ye (yd ye (yd ye (za (pv 0)) yc) (za (pv 6))) yc) (yd ye (za (pv 8)) yc)))
  (zf (qv (zj (yB hr.units) (yd ye (za (pv 2)) yc) qi (zk _)) (zf (zn (X9 zcV hr (ya (za (pv 0)) (ya (za (pv 1)) (ya (yd ye (za (pv 2)) yc) (ya (yd ye (za (pv 9)) yc) zd))))))) (qd (zaG PassesOwn.never rfl (yN rfl T.n_range (ya (yk qr rfl T.n_len boot_len (ya (yd ye (za (pv 0)) yc) zd)) zd)) (yn (yr (i:=10) zbc.nd rfl (by and_intros))) (zf (qv (zj (yB hr.units) (yd ye (yd ye (yd ye (za (pv 0)) yc) (za (pv 10))) yc) (yd ye (za (pv 9)) yc) (zk _)) (qd (zn (yK (zR QA QC QB yD (WE.pe (yd ye (za (pv 1)) yc)) (WA.pe (ya (zu (ya (yk qr rfl T.n_len boot_len (ya (yd ye (za (pv 1)) yc) zd)) (ya (za (pv 10)) (ya (yd ye (yd ye (yd ye (za (pv 1)) yc) (za (pv 10))) yc) zd)))) zd)))))
  (zf (yS (ym qF (yd ye (yd ye (yd ye (za (pv 1)) yc) (za (pv 10))) yc) yc) (zaH (yd ye (yd ye (za (pv 1)) yc) (za (pv 10))) yc (zfM hr.units))))) zr)))
  (zf (zn (X9 zbL hr (ya (za (pv 0)) (ya (za (pv 1)) (ya (yd ye (za (pv 2)) yc) (ya (yd ye (za (pv 8)) yc) (ya (ym qF (yd ye (za (pv 8)) yc) yc) zd))))))))))))) zr))))))
end
noncomputable def zim (kE kR:Addr):X5:=
 (yh (sIf (zq (eOp ltI (yb 1) (yf (yy yz) (zb (yb 0) ze)))) (zF (eOp ixT (yb 0) (yb 1))) yH)
 (zF (eOp zN (eOp yR (eOp yR (eC (.int 7919)) (yb 1)) (yb 1)) (eOp yR (eC (.int 31)) (yb 1)))))
noncomputable def zbD (kE kR:Addr):X2:=yi 2 2 (zim kE kR)
section
theorem zkE:FnScope ["script","k"] ["script","k"] (zg zfo):=by ac_rfl
theorem za7 (D:Df K mg "_law_cell" zfo ["script","k"]) (T:Txt K mg kE kR)   :CalT P w K mg base 1 "_law_cell" ["script","k"] (zbD kE kR):=
 qp D zkE rfl rfl (fun f cdv A outer s H E hr=>(qd (qv (zj zdK (za (pv 1)) (yk qr rfl T.n_len boot_len (ya (za (pv 0)) zd)) (zk _)) (zf (yt (yd ye (za (pv 0)) (za (pv 1))))) zr)
  (zf (yt (ym qF (ym zao (ym zao yc (za (pv 1))) (za (pv 1))) (ym zao yc (za (pv 1))))))))
end
noncomputable def zdB (kE kR:Addr):X5:=
 (yh (yq 8 (yf (zdI kE kR) (zb (yb 1) (zb (yb 3) ze))))
 (yh (sIf (zaw (zq (eOp gtI (yf (yy yz) (zb (yb 8) ze)) (eC (.int 1)))) (zq (eOp gtI (yf (yA kE kR) (zb (yb 6) (zb (eC (.int 4)) ze))) (eC (.int 0))))) (yq 8 (eSl (yb 8) (zbh (eC (.int 1))) zdh)) yH)
 (yh (yq 9 (eOp ixT (yb 8) (yf (yA kE kR) (zb (yb 6) (zb (yf (yy yz) (zb (yb 8) ze)) ze)))))
 (yh (qB (zT yO (eUn qD (yb 4)) (zb (yb 9) ze)))
 (qB (yf (zcz kE kR) (zb (yb 1) (zb (yb 3) (zb (yb 9) ze)))))))))
noncomputable def zfc (kE kR:Addr):X5:=
 (yh (yq 6 (yf (zch kE kR) (zb (eOp zN (yf (zbD kE kR) (zb (yb 0) (zb (yb 5) ze))) (yb 5)) ze)))
 (zcb (yU (zb (eOp zN (eC (.int 1)) (yf (yA kE kR) (zb (yb 6) (zb (yb 2) ze)))) ze)) (qo 7) (zdB kE kR)))
noncomputable def zfZ (kE kR:Addr):X5:=
 (yh (yq 3 (yf (zbI kE kR) (zb (yb 1) ze)))
 (yh (yq 4 (eTk (yx ze)))
 (yh (zcb (zgG (zb (eC (.int 1)) (zb (yf (call2 zh7) (zb (eC (.int 12)) (zb (yf (call2 zgA) (zb (eC (.int 63)) (zb (yf (yy yz) (zb (yb 0) ze)) ze))) ze))) ze))) (qo 5) (zfc kE kR))
 (zF (yF (zb (yb 4) (zb (yb 3) ze)))))))
noncomputable def zcQ (kE kR:Addr):X2:=yi 3 10 (zfZ kE kR)
section
theorem yV:FnScope ["script","net","most","world","events","k","pool","turn","some","event"] ["script","net","most"] (zg zdZ):=by ac_rfl
theorem zb1 (D:Df K mg "_law_events" zdZ ["script","net","most"]) (T:Txt K mg kE kR)   (zaq:CalT P w K mg base 1 "_law_world" ["net"] (zbI kE kR)) (zbN:CalT P w K mg base 1 "_law_dig" ["cell"] (zch kE kR)) (zcm:CalT P w K mg base 2 "_law_may" ["net","world"] (zdI kE kR)) (zcA:CalT P w K mg base 5 "_law_do" ["net","world","event"] (zcz kE kR)) (za7:CalT P w K mg base 1 "_law_cell" ["script","k"] (zbD kE kR)) (zA:CalT P w K mg base 1 "_law_next" ["pool","base"] (yA kE kR)):CalT P w K mg base 6 "_law_events" ["script","net","most"] (zcQ kE kR):=
 qp D yV rfl rfl (fun f cdv A outer s H E hr=>(qd (zi (i:=3) yV.nd rfl (Or.inl rfl) (X9 zaq hr (ya (za (pv 1)) zd)))
  (qd (zi (i:=4) yV.nd rfl (Or.inl rfl) (zH (yw zd)))
  (qd (zaG PassesOwn.never rfl (zjN rfl T.n_range (ya yc (ya (yk (zg9 rfl) rfl T.n_max boot_max (ya yc (ya (yk (zeJ rfl) rfl T.n_min boot_min (ya yc (ya (yk qr rfl T.n_len boot_len (ya (za (pv 0)) zd)) zd))) zd))) zd))) (yn (yr (i:=5) yV.nd rfl (by and_intros))) (qd (zi (i:=6) yV.nd rfl (Or.inl rfl) (X9 zbN hr (ya (ym qF (X9 za7 hr (ya (za (pv 0)) (ya (za (pv 5)) zd))) (za (pv 5))) zd)))
  (zf (zaG PassesOwn.never rfl (yN rfl T.n_range (ya (ym qF yc (X9 zA hr (ya (za (pv 6)) (ya (za (pv 2)) zd)))) zd)) (yn (yr (i:=7) yV.nd rfl (by and_intros))) (qd (zi (i:=8) yV.nd rfl (Or.inl rfl) (X9 zcm hr (ya (za (pv 1)) (ya (za (pv 3)) zd))))
  (qd (qv (WW.gt (z5 (zj zdL (yk qr rfl T.n_len boot_len (ya (za (pv 8)) zd)) yc (zk _)) (yY (zj zdL (X9 zA hr (ya (za (pv 6)) (ya yc zd))) yc (zk _))))) (zf (zi (i:=8) yV.nd rfl (Or.inl rfl) (zeo (za (pv 8)) (zau yc) zb7))) zr)
  (qd (zi (i:=9) yV.nd rfl (Or.inl rfl) (yd ye (za (pv 8)) (X9 zA hr (ya (za (pv 6)) (ya (yk qr rfl T.n_len boot_len (ya (za (pv 8)) zd)) zd)))))
  (qd (zn (yK (zR QA QC QB yD (WE.pe (za (pv 4))) (WA.pe (ya (za (pv 9)) zd)))))
  (zf (zn (X9 zcA hr (ya (za (pv 1)) (ya (za (pv 3)) (ya (za (pv 9)) zd))))))))))))))
  (zf (yt (zu (ya (za (pv 4)) (ya (za (pv 3)) zd)))))))))
end
noncomputable def zf4 (kE kR:Addr):X5:=
 (yh (zG [kR] "net" (yb 0) (yb 1))
 (yh (zG [kR] "came" (yb 0) (eC (.int 0)))
 (yh (zG [kR] "errands" (yb 0) (eTk (yx ze)))
 (yh (zG [kR] "puts" (yb 0) (eTk (zax (zcJ (eOp ixT (yb 1) (eC (.int 1)))) (qo 0) qK (eTk (yx ze)) ["purse"] [])))
 (yh (zG [kR] "payments" (yb 0) (eTk (yx ze)))
 (zG [kR] "taken" (yb 0) (eTk (zax (zcJ (eOp ixT (yb 1) (eC (.int 1)))) (qo 0) qK (eC (.int 0)) ["purse"] []))))))))
noncomputable def zbk (kE kR:Addr):X2:=yi 2 2 (zf4 kE kR)
section
theorem ziT:FnScope ["self","net"] ["self","net"] (zg zd5):=by ac_rfl
theorem zfS (D:Di K mg "Run" "Run.__init__" kR zd5 ["self","net"]) (T:Txt K mg kE kR)   :MakT P w K mg base 1 "Run" kR ["self","net"] (zbk kE kR):=
 zi3 D ziT rfl rfl (fun f cdv A outer s H E hr=>(qd (zM (zh ⟨T.cls_Run,T.na_Run_net⟩ qh) (za (pv 0)) (za (pv 1)))
  (qd (zM (zh ⟨T.cls_Run,T.na_Run_came⟩ qh) (za (pv 0)) yc)
  (qd (zM (zh ⟨T.cls_Run,T.na_Run_errands⟩ qh) (za (pv 0)) (zH (yw zd)))
  (qd (zM (zh ⟨T.cls_Run,T.na_Run_puts⟩ qh) (za (pv 0)) (zH (zah (tgs:=["purse"]) (caps:=[]) (zb8 (yd ye (za (pv 1)) yc)) (by bv_omega) (fun _ _ _=>(yn (yr (i:=0) (show (["purse"]:List Str).Nodup by decide +kernel) rfl (by and_intros)))) (fun _ _ _=>zag) (fun _ _ _=>(zH (yw zd))))))
  (qd (zM (zh ⟨T.cls_Run,T.na_Run_payments⟩ qh) (za (pv 0)) (zH (yw zd)))
  (zf (zM (zh ⟨T.cls_Run,T.na_Run_taken⟩ qh) (za (pv 0)) (zH (zah (tgs:=["purse"]) (caps:=[]) (zb8 (yd ye (za (pv 1)) yc)) (by bv_omega) (fun _ _ _=>(yn (yr (i:=0) (show (["purse"]:List Str).Nodup by decide +kernel) rfl (by and_intros)))) (fun _ _ _=>zag) (fun _ _ _=>yc)))))))))))
end
noncomputable def zg6 (kE kR:Addr):X5:=
 (zF (eOp ixT (eOp ixT (eOp ixT (zo [kR] "net" (yb 0)) (eC (.int 0))) (zo [kE] "house" (eOp ixT (zo [kR] "errands" (yb 0)) (yb 1)))) (eC (.int 1))))
noncomputable def qC (kE kR:Addr):X2:=yi 2 2 (zg6 kE kR)
section
theorem zjX:FnScope ["run","number"] ["run","number"] (zg zey):=by ac_rfl
theorem qq (D:Df K mg "asks_of" zey ["run","number"]) (T:Txt K mg kE kR)   :CalT P w K mg base 1 "asks_of" ["run","number"] (qC kE kR):=
 qp D zjX rfl rfl (fun f cdv A outer s H E hr=>(zf (yt (yd ye (yd ye (yd ye (zm (zh ⟨T.cls_Run,T.na_Run_net⟩ qh) (za (pv 0))) yc) (zm (zh ⟨T.cls_Errand,T.na_Errand_house⟩ qh) (yd ye (zm (zh ⟨T.cls_Run,T.na_Run_errands⟩ qh) (za (pv 0))) (za (pv 1))))) yc))))
end
noncomputable def zel (kE kR:Addr):X5:=
 (yh (yq 2 (eOp ixT (zo [kR] "errands" (yb 0)) (yb 1)))
 (yh (sIf (zca (zq (eOp isN (zo [kE] "caller" (yb 2)) (eC .non))) (zca (zq (zo [kE] "is_lost" (yb 2))) (zq (eOp eqA (eOp ixT (zo [kE] "state" (yb 2)) (eC (.int 0))) (eC (.str "ended")))))) (zF (eC (.bl false))) yH)
 (zF (zkf (eOp ixT (eOp ixT (yf (qC kE kR) (zb (yb 0) (zb (eOp ixT (zo [kE] "caller" (yb 2)) (eC (.int 0))) ze))) (eOp ixT (zo [kE] "caller" (yb 2)) (eC (.int 1)))) (eC (.int 5)))))))
noncomputable def zaD (kE kR:Addr):X2:=yi 2 3 (zel kE kR)
section
theorem zdF:FnScope ["run","number","errand"] ["run","number"] (zg zcE):=by ac_rfl
theorem zaE (D:Df K mg "may_be_lost" zcE ["run","number"]) (T:Txt K mg kE kR)   (qq:CalT P w K mg base 1 "asks_of" ["run","number"] (qC kE kR)):CalT P w K mg base 2 "may_be_lost" ["run","number"] (zaD kE kR):=
 qp D zdF rfl rfl (fun f cdv A outer s H E hr=>(qd (zi (i:=2) zdF.nd rfl (Or.inl rfl) (yd ye (zm (zh ⟨T.cls_Run,T.na_Run_errands⟩ qh) (za (pv 0))) (za (pv 1))))
  (qd (qv (WW.gt (zbq (zj zgu (zm (zh ⟨T.cls_Errand,T.na_Errand_caller⟩ qh) (za (pv 2))) qT (zk _)) (zbq (qO (zm (zh ⟨T.cls_Errand,T.na_Errand_is_lost⟩ qh) (za (pv 2)))) (zbF (zj (yB hr.units) (yd ye (zm (zh ⟨T.cls_Errand,T.na_Errand_state⟩ qh) (za (pv 2))) yc) qi (zk _)))))) (zf (yt y6)) zr)
  (zf (yt (zi5 (yd ye (yd ye (X9 qq hr (ya (za (pv 0)) (ya (yd ye (zm (zh ⟨T.cls_Errand,T.na_Errand_caller⟩ qh) (za (pv 2))) yc) zd))) (yd ye (zm (zh ⟨T.cls_Errand,T.na_Errand_caller⟩ qh) (za (pv 2))) yc)) yc)))))))
end
noncomputable def zc5 (kE kR:Addr):X5:=
 (yh (yq 2 (zo [kE] "state" (eOp ixT (zo [kR] "errands" (yb 0)) (yb 1))))
 (yh (sIf (zq (eOp neA (eOp ixT (yb 2) (eC (.int 0))) (eC (.str "stands")))) (zF (eC (.bl false))) yH)
 (yh (yq 3 (eOp ixT (eOp ixT (yf (qC kE kR) (zb (yb 0) (zb (yb 1) ze))) (eOp ixT (yb 2) (eC (.int 1)))) (eC (.int 1))))
 (zF (eOr (eOp eqA (yb 3) (eC (.int 0))) (eOp ltI (eOp ixT (yb 2) (eC (.int 2))) (yb 3)))))))
noncomputable def y8 (kE kR:Addr):X2:=yi 2 4 (zc5 kE kR)
section
theorem zbn:FnScope ["run","number","state","tries"] ["run","number"] (zg zbB):=by ac_rfl
theorem z9 (D:Df K mg "has_tries_left" zbB ["run","number"]) (T:Txt K mg kE kR)   (qq:CalT P w K mg base 1 "asks_of" ["run","number"] (qC kE kR)):CalT P w K mg base 2 "has_tries_left" ["run","number"] (y8 kE kR):=
 qp D zbn rfl rfl (fun f cdv A outer s H E hr=>(qd (zi (i:=2) zbn.nd rfl (Or.inl rfl) (zm (zh ⟨T.cls_Errand,T.na_Errand_state⟩ qh) (yd ye (zm (zh ⟨T.cls_Run,T.na_Run_errands⟩ qh) (za (pv 0))) (za (pv 1)))))
  (qd (qv (zj (zcu hr.units) (yd ye (za (pv 2)) yc) qi (zk _)) (zf (yt y6)) zr)
  (qd (zi (i:=3) zbn.nd rfl (Or.inl rfl) (yd ye (yd ye (X9 qq hr (ya (za (pv 0)) (ya (za (pv 1)) zd))) (yd ye (za (pv 2)) yc)) yc))
  (zf (yt (zkt (zac (yB hr.units) (za (pv 3)) yc (zk _)) (zdE (zac zdK (yd ye (za (pv 2)) yc) (za (pv 3)) (zk _))))))))))
end
noncomputable def zcL (kE kR:Addr):X5:=
 (yh (yq 2 (eOp ixT (zo [kE] "state" (eOp ixT (zo [kR] "errands" (yb 0)) (yb 1))) (eC (.int 0))))
 (yh (yq 3 (eTk (yx ze)))
 (yh (sIf (zq (eOp eqA (yb 2) (eC (.str "works")))) (qB (zbu zbV zfA (yb 3) (zb (eFz (yx (zb (yF (zb (eC (.str "ends")) (zb (yb 1) (zb (eC (.str "bad")) ze)))) (zb (yF (zb (eC (.str "ends")) (zb (yb 1) (zb (eC (.str "spent")) ze)))) (zb (yF (zb (eC (.str "ends")) (zb (yb 1) (zb (eC (.str "well")) ze)))) ze))))) ze))) yH)
 (yh (sIf (zq (yf (zaD kE kR) (zb (yb 0) (zb (yb 1) ze)))) (qB (zT yO (eUn qD (yb 3)) (zb (yF (zb (eC (.str "lost")) (zb (yb 1) ze))) ze))) yH)
 (yh (sIf (zq (yf (y8 kE kR) (zb (yb 0) (zb (yb 1) ze)))) (qB (zT yO (eUn qD (yb 3)) (zb (yF (zb (eC (.str "again")) (zb (yb 1) ze))) ze))) yH)
 (yh (sIf (zq (eOp eqA (yb 2) (eC (.str "stands")))) (qB (zT yO (eUn qD (yb 3)) (zb (yF (zb (eC (.str "up")) (zb (yb 1) ze))) ze))) yH)
 (zF (yb 3))))))))
noncomputable def zbp (kE kR:Addr):X2:=yi 2 4 (zcL kE kR)
noncomputable def zam (kE kR:Addr):X2:=zeG (zbp kE kR)
section
theorem zaW:FnScope ["run","number","word","events"] ["run","number"] (zg zbo):=by ac_rfl
theorem qL (D:Df K mg "events_by_tries" zbo ["run","number"]) (T:Txt K mg kE kR)   (zaE:CalT P w K mg base 2 "may_be_lost" ["run","number"] (zaD kE kR)) (z9:CalT P w K mg base 2 "has_tries_left" ["run","number"] (y8 kE kR)):CalT P w K mg base 3 "events_by_tries" ["run","number"] (zbp kE kR):=
 qp D zaW rfl rfl (fun f cdv A outer s H E hr=>(qd (zi (i:=2) zaW.nd rfl (Or.inl rfl) (yd ye (zm (zh ⟨T.cls_Errand,T.na_Errand_state⟩ qh) (yd ye (zm (zh ⟨T.cls_Run,T.na_Run_errands⟩ qh) (za (pv 0))) (za (pv 1)))) yc))
  (qd (zi (i:=3) zaW.nd rfl (Or.inl rfl) (zH (yw zd)))
  (qd (qv (zj (yB hr.units) (za (pv 2)) qi (zk _)) (zf (zn (zdU zfJ (zR QA PySem.F.slot_list_extend PySem.F.type_list_extend znO (WE.pe (za (pv 3))) (WA.pe (ya (zP (yw (ya (zu (ya qi (ya (za (pv 1)) (ya qi zd)))) (ya (zu (ya qi (ya (za (pv 1)) (ya qi zd)))) (ya (zu (ya qi (ya (za (pv 1)) (ya qi zd)))) zd))))) zd)))))) zr)
  (qd (qv (qO (X9 zaE hr (ya (za (pv 0)) (ya (za (pv 1)) zd)))) (zf (zn (yK (zR QA QC QB yD (WE.pe (za (pv 3))) (WA.pe (ya (zu (ya qi (ya (za (pv 1)) zd))) zd)))))) zr)
  (qd (qv (qO (X9 z9 hr (ya (za (pv 0)) (ya (za (pv 1)) zd)))) (zf (zn (yK (zR QA QC QB yD (WE.pe (za (pv 3))) (WA.pe (ya (zu (ya qi (ya (za (pv 1)) zd))) zd)))))) zr)
  (qd (qv (zj (yB hr.units) (za (pv 2)) qi (zk _)) (zf (zn (yK (zR QA QC QB yD (WE.pe (za (pv 3))) (WA.pe (ya (zu (ya qi (ya (za (pv 1)) zd))) zd)))))) zr)
  (zf (yt (za (pv 3)))))))))))
end
noncomputable def ze8 (kE kR:Addr):X5:=
 (zF (zbu zbV zd9 (eFz (zax (zcJ (yb 0)) (qo 0) qK (eOp ixT (yb 0) (eC (.int 0))) ["one"] [])) (zb (yb 1) ze)))
noncomputable def zaj (kE kR:Addr):X2:=yi 2 2 (ze8 kE kR)
section
theorem zhO:FnScope ["named","name"] ["named","name"] (zg zdu):=by ac_rfl
theorem y4 (D:Df K mg "number_of" zdu ["named","name"]) (T:Txt K mg kE kR)   :CalT P w K mg base 1 "number_of" ["named","name"] (zaj kE kR):=
 qp D zhO rfl rfl (fun f cdv A outer s H E hr=>(zf (yt (zdU zfJ (zR QA PySem.F.slot_list_index PySem.F.type_list_index (zkV hr.units) (WE.pe (zP (zah (tgs:=["one"]) (caps:=[]) (zb8 (za (pv 0))) (by bv_omega) (fun _ _ _=>(yn (yr (i:=0) (show (["one"]:List Str).Nodup by decide +kernel) rfl (by and_intros)))) (fun _ _ _=>zag) (fun _ _ _=>(yd ye (za (pv 0)) yc))))) (WA.pe (ya (za (pv 1)) zd)))))))
end
noncomputable def zfX (kE kR:Addr):X5:=
 (zF (eIf (zq (eOp isN (eOp ixT (yb 1) (eC (.int 2))) (eC .non))) (eC .non) (yf (zaj kE kR) (zb (eOp ixT (zo [kR] "net" (yb 0)) (eC (.int 1))) (zb (eOp ixT (yb 1) (eC (.int 2))) ze)))))
noncomputable def zW (kE kR:Addr):X2:=yi 2 2 (zfX kE kR)
section
theorem ziO:FnScope ["run","ask"] ["run","ask"] (zg zdX):=by ac_rfl
theorem yI (D:Df K mg "purse_of" zdX ["run","ask"]) (T:Txt K mg kE kR)   (y4:CalT P w K mg base 1 "number_of" ["named","name"] (zaj kE kR)):CalT P w K mg base 2 "purse_of" ["run","ask"] (zW kE kR):=
 qp D ziO rfl rfl (fun f cdv A outer s H E hr=>(zf (yt (zoG (zj zgu (yd ye (za (pv 1)) yc) qT (zk _)) qT (X9 y4 hr (ya (yd ye (zm (zh ⟨T.cls_Run,T.na_Run_net⟩ qh) (za (pv 0))) yc) (ya (yd ye (za (pv 1)) yc) zd)))))))
end
noncomputable def zc6 (kE kR:Addr):X5:=
 (zF (eOp zeg (yf (yy yz) (zb (eOp ixT (zo [kR] "puts" (yb 0)) (yb 1)) ze)) (eOp ixT (eOp ixT (eOp ixT (zo [kR] "net" (yb 0)) (eC (.int 1))) (yb 1)) (eC (.int 2)))))
noncomputable def qR (kE kR:Addr):X2:=yi 2 2 (zc6 kE kR)
section
theorem zhk:FnScope ["run","purse"] ["run","purse"] (zg zc0):=by ac_rfl
theorem qX (D:Df K mg "coins_made" zc0 ["run","purse"]) (T:Txt K mg kE kR)   :CalT P w K mg base 1 "coins_made" ["run","purse"] (qR kE kR):=
 qp D zhk rfl rfl (fun f cdv A outer s H E hr=>(zf (yt (ym zgv (yk qr rfl T.n_len boot_len (ya (yd ye (zm (zh ⟨T.cls_Run,T.na_Run_puts⟩ qh) (za (pv 0))) (za (pv 1))) zd)) (yd ye (yd ye (yd ye (zm (zh ⟨T.cls_Run,T.na_Run_net⟩ qh) (za (pv 0))) yc) (za (pv 1))) yc)))))
end
noncomputable def zeE (kE kR:Addr):X5:=
 (zF (yF (zb (eOp zbU (yf (yy yz) (zb (eOp ixT (zo [kR] "puts" (yb 0)) (yb 1)) ze)) (eOp ixT (eOp ixT (eOp ixT (zo [kR] "net" (yb 0)) (eC (.int 1))) (yb 1)) (eC (.int 2)))) (zb (eOp zep (yf (qR kE kR) (zb (yb 0) (zb (yb 1) ze))) (eOp ixT (zo [kR] "taken" (yb 0)) (yb 1))) ze))))
noncomputable def za1 (kE kR:Addr):X2:=yi 2 2 (zeE kE kR)
section
theorem zhj:FnScope ["run","purse"] ["run","purse"] (zg zcZ):=by ac_rfl
theorem za6 (D:Df K mg "purse_told" zcZ ["run","purse"]) (T:Txt K mg kE kR)   (qX:CalT P w K mg base 1 "coins_made" ["run","purse"] (qR kE kR)):CalT P w K mg base 2 "purse_told" ["run","purse"] (za1 kE kR):=
 qp D zhj rfl rfl (fun f cdv A outer s H E hr=>(zf (yt (zu (ya (ym zaJ (yk qr rfl T.n_len boot_len (ya (yd ye (zm (zh ⟨T.cls_Run,T.na_Run_puts⟩ qh) (za (pv 0))) (za (pv 1))) zd)) (yd ye (yd ye (yd ye (zm (zh ⟨T.cls_Run,T.na_Run_net⟩ qh) (za (pv 0))) yc) (za (pv 1))) yc)) (ya (ym zcS (X9 qX hr (ya (za (pv 0)) (ya (za (pv 1)) zd))) (yd ye (zm (zh ⟨T.cls_Run,T.na_Run_taken⟩ qh) (za (pv 0))) (za (pv 1)))) zd))))))
end
noncomputable def zf1 (kE kR:Addr):X5:=
 (yh (yq 2 (yf (zW kE kR) (zb (yb 0) (zb (eOp ixT (yf (qC kE kR) (zb (yb 0) (zb (yb 1) ze))) (eOp ixT (zo [kE] "state" (eOp ixT (zo [kR] "errands" (yb 0)) (yb 1))) (eC (.int 1)))) ze))))
 (zF (eOr (eOp isN (yb 2) (eC .non)) (eOp gtI (eOp ixT (yf (za1 kE kR) (zb (yb 0) (zb (yb 2) ze))) (eC (.int 1))) (eC (.int 0))))))
noncomputable def zbj (kE kR:Addr):X2:=yi 2 3 (zf1 kE kR)
section
theorem ze1:FnScope ["run","number","purse"] ["run","number"] (zg zd1):=by ac_rfl
theorem zb3 (D:Df K mg "has_coin" zd1 ["run","number"]) (T:Txt K mg kE kR)   (yI:CalT P w K mg base 2 "purse_of" ["run","ask"] (zW kE kR)) (qq:CalT P w K mg base 1 "asks_of" ["run","number"] (qC kE kR)) (za6:CalT P w K mg base 2 "purse_told" ["run","purse"] (za1 kE kR)):CalT P w K mg base 3 "has_coin" ["run","number"] (zbj kE kR):=
 qp D ze1 rfl rfl (fun f cdv A outer s H E hr=>(qd (zi (i:=2) ze1.nd rfl (Or.inl rfl) (X9 yI hr (ya (za (pv 0)) (ya (yd ye (X9 qq hr (ya (za (pv 0)) (ya (za (pv 1)) zd))) (yd ye (zm (zh ⟨T.cls_Errand,T.na_Errand_state⟩ qh) (yd ye (zm (zh ⟨T.cls_Run,T.na_Run_errands⟩ qh) (za (pv 0))) (za (pv 1)))) yc)) zd))))
  (zf (yt (zkt (zac zgu (za (pv 2)) qT (zk _)) (zdE (zac zdL (yd ye (X9 za6 hr (ya (za (pv 0)) (ya (za (pv 2)) zd))) yc) yc (zk _))))))))
end
noncomputable def zfa (kE kR:Addr):X5:=
 (zF (eFz (zax (zcJ (yf (zam kE kR) (zb (yb 0) (zb (yb 1) ze)))) (qo 0) (zca (zq (eOp neA (eOp ixT (yb 0) (eC (.int 0))) (eC (.str "again")))) (zq (yf (zbj kE kR) (zb (yb 1) (zb (yb 2) ze))))) (yb 0) ["event"] [("run",0),("number",1)])))
noncomputable def zbt (kE kR:Addr):X2:=yi 2 2 (zfa kE kR)
section
theorem zhR:FnScope ["run","number"] ["run","number"] (zg zdw):=by ac_rfl
theorem zby (D:Df K mg "events_at" zdw ["run","number"]) (T:Txt K mg kE kR)   (qL:CalT P w K mg base 3 "events_by_tries" ["run","number"] (zam kE kR)) (zb3:CalT P w K mg base 3 "has_coin" ["run","number"] (zbj kE kR)):CalT P w K mg base 4 "events_at" ["run","number"] (zbt kE kR):=
 qp D zhR rfl rfl (fun f cdv A outer s H E hr=>(zf (yt (zP (zah (tgs:=["event"]) (caps:=[("run",0),("number",1)]) (zb8 (X9 qL hr (ya (za (pv 0)) (ya (za (pv 1)) zd)))) (by bv_omega) (fun _ _ _=>(yn (yr (i:=0) (show (["event","run","number"]:List Str).Nodup by decide +kernel) rfl (by and_intros)))) (fun _ _ _=>(zlH (WW.gt (zbq (zj (zcu hr.units) (yd ye (za (pv 0)) yc) qi (zk _)) (zbF (qO (X9 zb3 hr (ya (za (pv 1)) (ya (za (pv 2)) zd))))))))) (fun _ _ _=>(za (pv 0))))))))
end
noncomputable def zf0 (kE kR:Addr):X5:=
 (zF (ziw (yf (call2 zaK) (zb (yb 0) (zb (eC (.ty "int")) ze))) (zkf (yf (call2 zaK) (zb (yb 0) (zb (eC (.ty "bool")) ze))))))
noncomputable def zbY (kE kR:Addr):X2:=yi 1 1 (zf0 kE kR)
section
theorem ziQ:FnScope ["thing"] ["thing"] (zg zd0):=by ac_rfl
theorem zb2 (D:Df K mg "is_whole" zd0 ["thing"]) (T:Txt K mg kE kR)   :CalT P w K mg base 1 "is_whole" ["thing"] (zbY kE kR):=
 qp D ziQ rfl rfl (fun f cdv A outer s H E hr=>(zf (yt (zgd (yk zbZ rfl T.n_isinstance boot_isinstance (ya (za (pv 0)) (ya (zdV rfl T.n_int boot_int) zd))) (zdE (zi5 (yk zbZ rfl T.n_isinstance boot_isinstance (ya (za (pv 0)) (ya (zdV rfl T.n_bool boot_bool) zd)))))))))
end
noncomputable def ze9 (kE kR:Addr):X5:=
 (zF (ziw (yf (zbY kE kR) (zb (yb 0) ze)) (zf6 leI leI (yb 1) (yb 0) (yb 2))))
noncomputable def zbs (kE kR:Addr):X2:=yi 3 3 (ze9 kE kR)
section
theorem zhQ:FnScope ["thing","low","high"] ["thing","low","high"] (zg zdv):=by ac_rfl
theorem zbx (D:Df K mg "is_within" zdv ["thing","low","high"]) (T:Txt K mg kE kR)   (zb2:CalT P w K mg base 1 "is_whole" ["thing"] (zbY kE kR)):CalT P w K mg base 2 "is_within" ["thing","low","high"] (zbs kE kR):=
 qp D zhQ rfl rfl (fun f cdv A outer s H E hr=>(zf (yt (zgd (X9 zb2 hr (ya (za (pv 0)) zd)) (zdE (zkw zkQ zkQ (za (pv 1)) (za (pv 0)) (za (pv 2))))))))
end
noncomputable def zec (kE kR:Addr):X5:=
 (yh (sIf (zq (eOp eqA (yb 1) (eC (.tup [.str "fresh"])))) (zF (eC (.bl true))) yH)
 (yh (sIf (zca (zbP (zq (yf (call2 zaK) (zb (yb 1) (zb (eC (.ty "tuple")) ze))))) (zca (zq (eOp ltI (yf (yy yz) (zb (yb 1) ze)) (eC (.int 2)))) (zbP (zq (yf (zbs kE kR) (zb (eOp ixT (yb 1) (eC (.int 1))) (zb (eC (.int 0)) (zb (eOp zep (yf (yy yz) (zb (zo [kR] "errands" (yb 0)) ze)) (eC (.int 1))) ze)))))))) (zF (eC (.bl false))) yH)
 (zF (eOp inN (yb 1) (yf (zbt kE kR) (zb (yb 0) (zb (eOp ixT (yb 1) (eC (.int 1))) ze)))))))
noncomputable def zaA (kE kR:Addr):X2:=yi 2 2 (zec kE kR)
section
theorem ziR:FnScope ["run","event"] ["run","event"] (zg zd3):=by ac_rfl
theorem zb5 (D:Df K mg "can_come" zd3 ["run","event"]) (T:Txt K mg kE kR)   (zby:CalT P w K mg base 4 "events_at" ["run","number"] (zbt kE kR)) (zbx:CalT P w K mg base 2 "is_within" ["thing","low","high"] (zbs kE kR)):CalT P w K mg base 5 "can_come" ["run","event"] (zaA kE kR):=
 qp D ziR rfl rfl (fun f cdv A outer s H E hr=>(qd (qv (zj (yB hr.units) (za (pv 1)) (zku (ss:=["fresh"]) rfl T.c_FRESH) (zk _)) (zf (yt y6)) zr)
  (qd (qv (WW.gt (zbq (za9 (qO (yk zbZ rfl T.n_isinstance boot_isinstance (ya (za (pv 1)) (ya (zdV rfl T.n_tuple boot_tuple) zd))))) (zbq (zj zdK (yk qr rfl T.n_len boot_len (ya (za (pv 1)) zd)) yc (zk _)) (zbF (za9 (qO (X9 zbx hr (ya (yd ye (za (pv 1)) yc) (ya yc (ya (ym zcS (yk qr rfl T.n_len boot_len (ya (zm (zh ⟨T.cls_Run,T.na_Run_errands⟩ qh) (za (pv 0))) zd)) yc) zd)))))))))) (zf (yt y6)) zr)
  (zf (yt (zac (zpp hr.units) (za (pv 1)) (X9 zby hr (ya (za (pv 0)) (ya (yd ye (za (pv 1)) yc) zd))) rfl))))))
end
noncomputable def zcK (kE kR:Addr):X5:=
 (sIf (zbP (zq (yf (zaA kE kR) (zb (yb 0) (zb (yb 1) ze))))) zlQ yH)
noncomputable def qS (kE kR:Addr):X2:=yi 2 2 (zcK kE kR)
section
theorem zgf:FnScope ["run","event"] ["run","event"] (zg zcF):=by ac_rfl
theorem zaF (D:Df K mg "check_event" zcF ["run","event"]) (T:Txt K mg kE kR)   (zb5:CalT P w K mg base 5 "can_come" ["run","event"] (zaA kE kR)):CalT P w K mg base 6 "check_event" ["run","event"] (qS kE kR):=
 qp D zgf rfl rfl (fun f cdv A outer s H E hr=>(zf (qv (za9 (qO (X9 zb5 hr (ya (za (pv 0)) (ya (za (pv 1)) zd))))) (zf zm0) zr)))
end
noncomputable def zf3 (kE kR:Addr):X5:=
 (zF (yf (zaj kE kR) (zb (eOp ixT (yb 0) (eC (.int 0))) (zb (eOp ixT (yb 1) (eC (.int 0))) ze))))
noncomputable def zaB (kE kR:Addr):X2:=yi 2 2 (zf3 kE kR)
section
theorem ziS:FnScope ["net","ask"] ["net","ask"] (zg zd4):=by ac_rfl
theorem zaf (D:Df K mg "asked_by" zd4 ["net","ask"]) (T:Txt K mg kE kR)   (y4:CalT P w K mg base 1 "number_of" ["named","name"] (zaj kE kR)):CalT P w K mg base 2 "asked_by" ["net","ask"] (zaB kE kR):=
 qp D ziS rfl rfl (fun f cdv A outer s H E hr=>(zf (yt (X9 y4 hr (ya (yd ye (za (pv 0)) yc) (ya (yd ye (za (pv 1)) yc) zd))))))
end
noncomputable def zem (kE kR:Addr):X5:=
 (yh (zG [kE] "house" (yb 0) (yb 1))
 (yh (zG [kE] "caller" (yb 0) (yb 2))
 (yh (zG [kE] "state" (yb 0) (yF (zb (eC (.str "works")) ze)))
 (yh (zG [kE] "is_lost" (yb 0) (eC (.bl false)))
 (yh (zG [kE] "asked" (yb 0) (eC .non))
 (zG [kE] "stood" (yb 0) (eC .non)))))))
noncomputable def zZ (kE kR:Addr):X2:=yi 3 3 (zem kE kR)
section
theorem zgg:FnScope ["self","house","caller"] ["self","house","caller"] (zg zcG):=by ac_rfl
theorem zaZ (D:Di K mg "Errand" "Errand.__init__" kE zcG ["self","house","caller"]) (T:Txt K mg kE kR)   :MakT P w K mg base 1 "Errand" kE ["self","house","caller"] (zZ kE kR):=
 zi3 D zgg rfl rfl (fun f cdv A outer s H E hr=>(qd (zM (zh ⟨T.cls_Errand,T.na_Errand_house⟩ qh) (za (pv 0)) (za (pv 1)))
  (qd (zM (zh ⟨T.cls_Errand,T.na_Errand_caller⟩ qh) (za (pv 0)) (za (pv 2)))
  (qd (zM (zh ⟨T.cls_Errand,T.na_Errand_state⟩ qh) (za (pv 0)) (zu (ya qi zd)))
  (qd (zM (zh ⟨T.cls_Errand,T.na_Errand_is_lost⟩ qh) (za (pv 0)) y6)
  (qd (zM (zh ⟨T.cls_Errand,T.na_Errand_asked⟩ qh) (za (pv 0)) qT)
  (zf (zM (zh ⟨T.cls_Errand,T.na_Errand_stood⟩ qh) (za (pv 0)) qT))))))))
end
noncomputable def zbr (kE kR:Addr) (q_begin_try q_begin_errand:X2):X5:=
 (yh (yq 4 (eOp ixT (yf (qC kE kR) (zb (yb 0) (zb (yb 1) ze))) (yb 2)))
 (yh (yq 5 (yf (yy yz) (zb (zo [kR] "errands" (yb 0)) ze)))
 (yh (zG [kE] "state" (eOp ixT (zo [kR] "errands" (yb 0)) (yb 1)) (yF (zb (eC (.str "waits")) (zb (yb 2) (zb (yb 3) ze)))))
 (yh (zG [kE] "asked" (eOp ixT (zo [kR] "errands" (yb 0)) (yb 1)) (yb 5))
 (yh (yq 6 (yf (zW kE kR) (zb (yb 0) (zb (yb 4) ze))))
 (yh (sIf (zaw (zq (eOp zaa (yb 6) (eC .non))) (zca (zq (eOp eqA (yb 3) (eC (.int 1)))) (zq (eOp eqA (eOp ixT (eOp ixT (eOp ixT (zo [kR] "net" (yb 0)) (eC (.int 1))) (yb 6)) (eC (.int 1))) (eC (.str "any")))))) (qB (zT yO (eUn qD (eOp ixT (zo [kR] "puts" (yb 0)) (yb 6))) (zb (yb 5) ze))) yH)
 (qB (yf q_begin_errand (zb (yb 0) (zb (yf (zaB kE kR) (zb (zo [kR] "net" (yb 0)) (zb (yb 4) ze))) (zb (yF (zb (yb 1) (zb (yb 2) (zb (yb 3) ze)))) ze)))))))))))
variable {L:Nat}
section
theorem zaX:FnScope ["run","number","at","tried","ask","begun","purse"] ["run","number","at","tried"] (zg zco):=by ac_rfl
theorem qH {q_begin_try q_begin_errand:X2} (hL:2<=L) (D:Df K mg "begin_try" zco ["run","number","at","tried"]) (T:Txt K mg kE kR) (yI:CalT P w K mg base 2 "purse_of" ["run","ask"] (zW kE kR)) (zV:CalT P w K mg base L "begin_errand" ["run","house","caller"] q_begin_errand) (qq:CalT P w K mg base 1 "asks_of" ["run","number"] (qC kE kR)) (zaf:CalT P w K mg base 2 "asked_by" ["net","ask"] (zaB kE kR)):CalT P w K mg base (L+1) "begin_try" ["run","number","at","tried"] (yi 4 7 (zbr kE kR q_begin_try q_begin_errand)):=
 qp D zaX rfl rfl (fun f cdv A outer s H E hr=>(qd (zi (i:=4) zaX.nd rfl (Or.inl rfl) (yd ye (yg qq (hr.mono (by omega)) rfl (ya (za (pv 0)) (ya (za (pv 1)) zd))) (za (pv 2))))
  (qd (zi (i:=5) zaX.nd rfl (Or.inl rfl) (yk qr rfl T.n_len boot_len (ya (zm (zh ⟨T.cls_Run,T.na_Run_errands⟩ qh) (za (pv 0))) zd)))
  (qd (zM (zh ⟨T.cls_Errand,T.na_Errand_state⟩ qh) (yd ye (zm (zh ⟨T.cls_Run,T.na_Run_errands⟩ qh) (za (pv 0))) (za (pv 1))) (zu (ya qi (ya (za (pv 2)) (ya (za (pv 3)) zd)))))
  (qd (zM (zh ⟨T.cls_Errand,T.na_Errand_asked⟩ qh) (yd ye (zm (zh ⟨T.cls_Run,T.na_Run_errands⟩ qh) (za (pv 0))) (za (pv 1))) (za (pv 5)))
  (qd (zi (i:=6) zaX.nd rfl (Or.inl rfl) (yg yI (hr.mono (by omega)) rfl (ya (za (pv 0)) (ya (za (pv 4)) zd))))
  (qd (qv (WW.gt (z5 (zj zcv (za (pv 6)) qT (zk _)) (yY (WW.gt (zbq (zj (yB hr.units) (za (pv 3)) yc (zk _)) (zbF (zj (yB hr.units) (yd ye (yd ye (yd ye (zm (zh ⟨T.cls_Run,T.na_Run_net⟩ qh) (za (pv 0))) yc) (za (pv 6))) yc) qi (zk _)))))))) (zf (zn (yK (zR QA QC QB yD (WE.pe (yd ye (zm (zh ⟨T.cls_Run,T.na_Run_puts⟩ qh) (za (pv 0))) (za (pv 6)))) (WA.pe (ya (za (pv 5)) zd)))))) zr)
  (zf (zn (yg zV (hr.mono (by omega)) rfl (ya (za (pv 0)) (ya (yg zaf (hr.mono (by omega)) rfl (ya (zm (zh ⟨T.cls_Run,T.na_Run_net⟩ qh) (za (pv 0))) (ya (za (pv 4)) zd))) (ya (zu (ya (za (pv 1)) (ya (za (pv 2)) (ya (za (pv 3)) zd)))) zd)))))))))))))
end
noncomputable def zbi (kE kR:Addr) (q_begin_try q_begin_errand:X2):X5:=
 (yh (qB (zT yO (eUn qD (zo [kR] "errands" (yb 0))) (zb (zdo kE (zZ kE kR) (zb (yb 1) (zb (yb 2) ze))) ze)))
 (yh (yq 3 (eOp zep (yf (yy yz) (zb (zo [kR] "errands" (yb 0)) ze)) (eC (.int 1))))
 (sIf (zq (eOp gtI (yf (yy yz) (zb (yf (qC kE kR) (zb (yb 0) (zb (yb 3) ze))) ze)) (eC (.int 0)))) (qB (yf q_begin_try (zb (yb 0) (zb (yb 3) (zb (eC (.int 0)) (zb (eC (.int 1)) ze)))))) yH)))
section
theorem zbQ:FnScope ["run","house","caller","number"] ["run","house","caller"] (zg zbe):=by ac_rfl
theorem zV {q_begin_try q_begin_errand:X2} (hL:2<=L) (D:Df K mg "begin_errand" zbe ["run","house","caller"]) (T:Txt K mg kE kR) (zaZ:MakT P w K mg base 1 "Errand" kE ["self","house","caller"] (zZ kE kR)) (qH:CalT P w K mg base L "begin_try" ["run","number","at","tried"] q_begin_try) (qq:CalT P w K mg base 1 "asks_of" ["run","number"] (qC kE kR)):CalT P w K mg base (L+1) "begin_errand" ["run","house","caller"] (yi 3 4 (zbi kE kR q_begin_try q_begin_errand)):=
 qp D zbQ rfl rfl (fun f cdv A outer s H E hr=>(qd (zn (yK (zR QA QC QB yD (WE.pe (zm (zh ⟨T.cls_Run,T.na_Run_errands⟩ qh) (za (pv 0)))) (WA.pe (ya (zhC zaZ (hr.mono (by omega)) rfl (ya (za (pv 1)) (ya (za (pv 2)) zd))) zd)))))
  (qd (zi (i:=3) zbQ.nd rfl (Or.inl rfl) (ym zcS (yk qr rfl T.n_len boot_len (ya (zm (zh ⟨T.cls_Run,T.na_Run_errands⟩ qh) (za (pv 0))) zd)) yc))
  (zf (qv (zj zdL (yk qr rfl T.n_len boot_len (ya (yg qq (hr.mono (by omega)) rfl (ya (za (pv 0)) (ya (za (pv 3)) zd))) zd)) yc (zk _)) (zf (zn (yg qH (hr.mono (by omega)) rfl (ya (za (pv 0)) (ya (za (pv 3)) (ya yc (ya yc zd))))))) zr)))))
noncomputable def yj (kE kR:Addr):Nat->(X2) × (X2)
 | 0=>(fun _ _=>.bad,fun _ _=>.bad)
 | n+1=>(yi 4 7 (zbr kE kR (yj kE kR n).1 (yj kE kR n).2),yi 3 4 (zbi kE kR (yj kE kR n).1 (yj kE kR n).2))
noncomputable def zak (kE kR:Addr):X2:=(yj kE kR 12).1
noncomputable def zci (kE kR:Addr):X2:=(yj kE kR 12).2
theorem zI (D_begin_try:Df K mg "begin_try" zco ["run","number","at","tried"]) (D_begin_errand:Df K mg "begin_errand" zbe ["run","house","caller"]) (T:Txt K mg kE kR) (yI:CalT P w K mg base 2 "purse_of" ["run","ask"] (zW kE kR)) (qq:CalT P w K mg base 1 "asks_of" ["run","number"] (qC kE kR)) (zaf:CalT P w K mg base 2 "asked_by" ["net","ask"] (zaB kE kR)) (zaZ:MakT P w K mg base 1 "Errand" kE ["self","house","caller"] (zZ kE kR)):∀ n,CalT P w K mg base (2+n+1) "begin_try" ["run","number","at","tried"] (yj kE kR n).1/\CalT P w K mg base (2+n+1) "begin_errand" ["run","house","caller"] (yj kE kR n).2
 | 0=>⟨CalT.bad D_begin_try zaX,CalT.bad D_begin_errand zbQ⟩
 | n+1=>by
  have ih:=zI D_begin_try D_begin_errand T yI qq zaf zaZ n
  exact ⟨qH (by omega) D_begin_try T yI ih.2 qq zaf,zV (by omega) D_begin_errand T zaZ ih.1 qq⟩
end
noncomputable def zbW (kE kR:Addr) (q_end_errand q_hear:X2):X5:=
 (yh (yq 3 (eOp ixT (zo [kR] "errands" (yb 0)) (yb 1)))
 (yh (zG [kE] "state" (yb 3) (yF (zb (eC (.str "ended")) (zb (yb 2) ze))))
 (sIf (zaw (zq (eOp zaa (zo [kE] "caller" (yb 3)) (eC .non))) (zbP (zq (zo [kE] "is_lost" (yb 3))))) (qB (yf q_hear (zb (yb 0) (zb (zo [kE] "caller" (yb 3)) (zb (yb 2) ze))))) yH)))
section
theorem zcD:FnScope ["run","number","word","errand"] ["run","number","word"] (zg zbR):=by ac_rfl
theorem qM {q_end_errand q_hear:X2} (hL:15<=L) (D:Df K mg "end_errand" zbR ["run","number","word"]) (T:Txt K mg kE kR) (zdc:CalT P w K mg base L "hear" ["run","caller","word"] q_hear):CalT P w K mg base (L+1) "end_errand" ["run","number","word"] (yi 3 4 (zbW kE kR q_end_errand q_hear)):=
 qp D zcD rfl rfl (fun f cdv A outer s H E hr=>(qd (zi (i:=3) zcD.nd rfl (Or.inl rfl) (yd ye (zm (zh ⟨T.cls_Run,T.na_Run_errands⟩ qh) (za (pv 0))) (za (pv 1))))
  (qd (zM (zh ⟨T.cls_Errand,T.na_Errand_state⟩ qh) (za (pv 3)) (zu (ya qi (ya (za (pv 2)) zd))))
  (zf (qv (WW.gt (z5 (zj zcv (zm (zh ⟨T.cls_Errand,T.na_Errand_caller⟩ qh) (za (pv 3))) qT (zk _)) (yY (za9 (qO (zm (zh ⟨T.cls_Errand,T.na_Errand_is_lost⟩ qh) (za (pv 3)))))))) (zf (zn (yg zdc (hr.mono (by omega)) rfl (ya (za (pv 0)) (ya (zm (zh ⟨T.cls_Errand,T.na_Errand_caller⟩ qh) (za (pv 3))) (ya (za (pv 2)) zd)))))) zr)))))
end
noncomputable def zeF (kE kR:Addr) (q_end_errand q_hear:X2):X5:=
 (yh (yq 3 (eOp ixT (yb 1) (eC (.int 0))))
 (yh (yq 4 (eOp ixT (yb 1) (eC (.int 1))))
 (yh (yq 5 (yf (qC kE kR) (zb (yb 0) (zb (yb 3) ze))))
 (sIf (zaw (zq (eOp eqA (yb 2) (eC (.str "well")))) (zq (eOp ltI (eOp zN (yb 4) (eC (.int 1))) (yf (yy yz) (zb (yb 5) ze))))) (qB (yf (zak kE kR) (zb (yb 0) (zb (yb 3) (zb (eOp zN (yb 4) (eC (.int 1))) (zb (eC (.int 1)) ze)))))) (sIf (zca (zq (eOp eqA (yb 2) (eC (.str "well")))) (zaw (zq (eOp eqA (yb 2) (eC (.str "spent")))) (zq (eOp ixT (eOp ixT (yb 5) (yb 4)) (eC (.int 4)))))) (qB (yf q_end_errand (zb (yb 0) (zb (yb 3) (zb (yb 2) ze))))) (yh (zG [kE] "state" (eOp ixT (zo [kR] "errands" (yb 0)) (yb 3)) (yF (zb (eC (.str "stands")) (zb (yb 4) (zb (eOp ixT (yb 1) (eC (.int 2))) ze)))))
 (zG [kE] "stood" (eOp ixT (zo [kR] "errands" (yb 0)) (yb 3)) (zo [kR] "came" (yb 0)))))))))
section
theorem zdH:FnScope ["run","caller","word","number","at","asks"] ["run","caller","word"] (zg zfO):=by ac_rfl
theorem zdc {q_end_errand q_hear:X2} (hL:15<=L) (D:Df K mg "hear" zfO ["run","caller","word"]) (T:Txt K mg kE kR) (qq:CalT P w K mg base 1 "asks_of" ["run","number"] (qC kE kR)) (qH:CalT P w K mg base 15 "begin_try" ["run","number","at","tried"] (zak kE kR)) (qM:CalT P w K mg base L "end_errand" ["run","number","word"] q_end_errand):CalT P w K mg base (L+1) "hear" ["run","caller","word"] (yi 3 6 (zeF kE kR q_end_errand q_hear)):=
 qp D zdH rfl rfl (fun f cdv A outer s H E hr=>(qd (zi (i:=3) zdH.nd rfl (Or.inl rfl) (yd ye (za (pv 1)) yc))
  (qd (zi (i:=4) zdH.nd rfl (Or.inl rfl) (yd ye (za (pv 1)) yc))
  (qd (zi (i:=5) zdH.nd rfl (Or.inl rfl) (yg qq (hr.mono (by omega)) rfl (ya (za (pv 0)) (ya (za (pv 3)) zd))))
  (zf (qv (WW.gt (z5 (zj (yB hr.units) (za (pv 2)) qi (zk _)) (yY (zj zdK (ym qF (za (pv 4)) yc) (yk qr rfl T.n_len boot_len (ya (za (pv 5)) zd)) (zk _))))) (zf (zn (yg qH (hr.mono (by omega)) rfl (ya (za (pv 0)) (ya (za (pv 3)) (ya (ym qF (za (pv 4)) yc) (ya yc zd))))))) (zf (qv (WW.gt (zbq (zj (yB hr.units) (za (pv 2)) qi (zk _)) (zbF (WW.gt (z5 (zj (yB hr.units) (za (pv 2)) qi (zk _)) (yY (qO (yd ye (yd ye (za (pv 5)) (za (pv 4))) yc)))))))) (zf (zn (yg qM (hr.mono (by omega)) rfl (ya (za (pv 0)) (ya (za (pv 3)) (ya (za (pv 2)) zd)))))) (qd (zM (zh ⟨T.cls_Errand,T.na_Errand_state⟩ qh) (yd ye (zm (zh ⟨T.cls_Run,T.na_Run_errands⟩ qh) (za (pv 0))) (za (pv 3))) (zu (ya qi (ya (za (pv 4)) (ya (yd ye (za (pv 1)) yc) zd)))))
  (zf (zM (zh ⟨T.cls_Errand,T.na_Errand_stood⟩ qh) (yd ye (zm (zh ⟨T.cls_Run,T.na_Run_errands⟩ qh) (za (pv 0))) (za (pv 3))) (zm (zh ⟨T.cls_Run,T.na_Run_came⟩ qh) (za (pv 0))))))))))))))
noncomputable def yu (kE kR:Addr):Nat->(X2) × (X2)
 | 0=>(fun _ _=>.bad,fun _ _=>.bad)
 | n+1=>(yi 3 4 (zbW kE kR (yu kE kR n).1 (yu kE kR n).2),yi 3 6 (zeF kE kR (yu kE kR n).1 (yu kE kR n).2))
noncomputable def za4 (kE kR:Addr):X2:=(yu kE kR 12).1
noncomputable def ziq (kE kR:Addr):X2:=(yu kE kR 12).2
theorem yX (D_end_errand:Df K mg "end_errand" zbR ["run","number","word"]) (D_hear:Df K mg "hear" zfO ["run","caller","word"]) (T:Txt K mg kE kR) (qq:CalT P w K mg base 1 "asks_of" ["run","number"] (qC kE kR)) (qH:CalT P w K mg base 15 "begin_try" ["run","number","at","tried"] (zak kE kR)):∀ n,CalT P w K mg base (15+n+1) "end_errand" ["run","number","word"] (yu kE kR n).1/\CalT P w K mg base (15+n+1) "hear" ["run","caller","word"] (yu kE kR n).2
 | 0=>⟨CalT.bad D_end_errand zcD,CalT.bad D_hear zdH⟩
 | n+1=>by
  have ih:=yX D_end_errand D_hear T qq qH n
  exact ⟨qM (by omega) D_end_errand T ih.2,zdc (by omega) D_hear T qq qH ih.1⟩
end
noncomputable def zlh (kE kR:Addr):X5:=
 (yh (yq 2 (eOp ixT (zo [kR] "errands" (yb 0)) (yb 1)))
 (yh (zG [kE] "is_lost" (yb 2) (eC (.bl true)))
 (qB (yf (ziq kE kR) (zb (yb 0) (zb (zo [kE] "caller" (yb 2)) (zb (eC (.str "bad")) ze)))))))
noncomputable def zf5 (kE kR:Addr):X2:=yi 2 3 (zlh kE kR)
section
theorem zjb:FnScope ["run","number","errand"] ["run","number"] (zg zhS):=by ac_rfl
theorem zeK (D:Df K mg "lose" zhS ["run","number"]) (T:Txt K mg kE kR)   (zdc:CalT P w K mg base 28 "hear" ["run","caller","word"] (ziq kE kR)):CalT P w K mg base 29 "lose" ["run","number"] (zf5 kE kR):=
 qp D zjb rfl rfl (fun f cdv A outer s H E hr=>(qd (zi (i:=2) zjb.nd rfl (Or.inl rfl) (yd ye (zm (zh ⟨T.cls_Run,T.na_Run_errands⟩ qh) (za (pv 0))) (za (pv 1))))
  (qd (zM (zh ⟨T.cls_Errand,T.na_Errand_is_lost⟩ qh) (za (pv 2)) y6)
  (zf (zn (X9 zdc hr (ya (za (pv 0)) (ya (zm (zh ⟨T.cls_Errand,T.na_Errand_caller⟩ qh) (za (pv 2))) (ya qi zd)))))))))
end
noncomputable def ze7 (kE kR:Addr):X5:=
 (yh (qB (zT yO (eUn qD (zo [kR] "payments" (yb 0))) (zb (yF (zb (yf (yy yz) (zb (zo [kR] "errands" (yb 0)) ze)) (zb (yb 1) (zb (eOp ixT (zo [kR] "taken" (yb 0)) (yb 1)) ze)))) ze)))
 (zhn getL zdC zaS (zo [kR] "taken" (yb 0)) (yb 1) (eC (.int 1))))
noncomputable def zcs (kE kR:Addr):X2:=yi 2 2 (ze7 kE kR)
section
theorem zhN:FnScope ["run","purse"] ["run","purse"] (zg zdt):=by ac_rfl
theorem zbw (D:Df K mg "take_coin" zdt ["run","purse"]) (T:Txt K mg kE kR)   :CalT P w K mg base 1 "take_coin" ["run","purse"] (zcs kE kR):=
 qp D zhN rfl rfl (fun f cdv A outer s H E hr=>(qd (zn (yK (zR QA QC QB yD (WE.pe (zm (zh ⟨T.cls_Run,T.na_Run_payments⟩ qh) (za (pv 0)))) (WA.pe (ya (zu (ya (yk qr rfl T.n_len boot_len (ya (zm (zh ⟨T.cls_Run,T.na_Run_errands⟩ qh) (za (pv 0))) zd)) (ya (za (pv 1)) (ya (yd ye (zm (zh ⟨T.cls_Run,T.na_Run_taken⟩ qh) (za (pv 0))) (za (pv 1))) zd)))) zd)))))
  (zf (zlJ (zm (zh ⟨T.cls_Run,T.na_Run_taken⟩ qh) (za (pv 0))) (za (pv 1)) zrm yc zn1 zdf))))
end
noncomputable def ze6 (kE kR:Addr):X5:=
 (yh (yq 2 (zo [kE] "state" (eOp ixT (zo [kR] "errands" (yb 0)) (yb 1))))
 (yh (yq 3 (yf (zW kE kR) (zb (yb 0) (zb (eOp ixT (yf (qC kE kR) (zb (yb 0) (zb (yb 1) ze))) (eOp ixT (yb 2) (eC (.int 1)))) ze))))
 (yh (sIf (zq (eOp zaa (yb 3) (eC .non))) (qB (yf (zcs kE kR) (zb (yb 0) (zb (yb 3) ze)))) yH)
 (qB (yf (zak kE kR) (zb (yb 0) (zb (yb 1) (zb (eOp ixT (yb 2) (eC (.int 1))) (zb (eOp zN (eOp ixT (yb 2) (eC (.int 2))) (eC (.int 1))) ze)))))))))
noncomputable def zcr (kE kR:Addr):X2:=yi 2 4 (ze6 kE kR)
section
theorem zcY:FnScope ["run","number","state","purse"] ["run","number"] (zg zds):=by ac_rfl
theorem zbv (D:Df K mg "try_again" zds ["run","number"]) (T:Txt K mg kE kR)   (yI:CalT P w K mg base 2 "purse_of" ["run","ask"] (zW kE kR)) (qH:CalT P w K mg base 15 "begin_try" ["run","number","at","tried"] (zak kE kR)) (zbw:CalT P w K mg base 1 "take_coin" ["run","purse"] (zcs kE kR)) (qq:CalT P w K mg base 1 "asks_of" ["run","number"] (qC kE kR)):CalT P w K mg base 16 "try_again" ["run","number"] (zcr kE kR):=
 qp D zcY rfl rfl (fun f cdv A outer s H E hr=>(qd (zi (i:=2) zcY.nd rfl (Or.inl rfl) (zm (zh ⟨T.cls_Errand,T.na_Errand_state⟩ qh) (yd ye (zm (zh ⟨T.cls_Run,T.na_Run_errands⟩ qh) (za (pv 0))) (za (pv 1)))))
  (qd (zi (i:=3) zcY.nd rfl (Or.inl rfl) (X9 yI hr (ya (za (pv 0)) (ya (yd ye (X9 qq hr (ya (za (pv 0)) (ya (za (pv 1)) zd))) (yd ye (za (pv 2)) yc)) zd))))
  (qd (qv (zj zcv (za (pv 3)) qT (zk _)) (zf (zn (X9 zbw hr (ya (za (pv 0)) (ya (za (pv 3)) zd))))) zr)
  (zf (zn (X9 qH hr (ya (za (pv 0)) (ya (za (pv 1)) (ya (yd ye (za (pv 2)) yc) (ya (ym qF (yd ye (za (pv 2)) yc) yc) zd)))))))))))
end
noncomputable def zjx (kE kR:Addr):X5:=
 (qB (yf (za4 kE kR) (zb (yb 0) (zb (yb 1) (zb (eOp ixT (eOp ixT (yf (qC kE kR) (zb (yb 0) (zb (yb 1) ze))) (eOp ixT (zo [kE] "state" (eOp ixT (zo [kR] "errands" (yb 0)) (yb 1))) (eC (.int 1)))) (eC (.int 3))) ze)))))
noncomputable def zeV (kE kR:Addr):X2:=yi 2 2 (zjx kE kR)
section
theorem zlP:FnScope ["run","number"] ["run","number"] (zg zgm):=by ac_rfl
theorem zdS (D:Df K mg "go_up" zgm ["run","number"]) (T:Txt K mg kE kR)   (qM:CalT P w K mg base 28 "end_errand" ["run","number","word"] (za4 kE kR)) (qq:CalT P w K mg base 1 "asks_of" ["run","number"] (qC kE kR)):CalT P w K mg base 29 "go_up" ["run","number"] (zeV kE kR):=
 qp D zlP rfl rfl (fun f cdv A outer s H E hr=>(zf (zn (X9 qM hr (ya (za (pv 0)) (ya (za (pv 1)) (ya (yd ye (yd ye (X9 qq hr (ya (za (pv 0)) (ya (za (pv 1)) zd))) (yd ye (zm (zh ⟨T.cls_Errand,T.na_Errand_state⟩ qh) (yd ye (zm (zh ⟨T.cls_Run,T.na_Run_errands⟩ qh) (za (pv 0))) (za (pv 1)))) yc)) yc) zd)))))))
end
noncomputable def zfY (kE kR:Addr):X5:=
 (yh (sIf (zq (eOp eqA (eOp ixT (yb 1) (eC (.int 0))) (eC (.str "fresh")))) (qB (yf (zci kE kR) (zb (yb 0) (zb (eC (.int 0)) (zb (eC .non) ze))))) (sIf (zq (eOp eqA (eOp ixT (yb 1) (eC (.int 0))) (eC (.str "ends")))) (qB (yf (za4 kE kR) (zb (yb 0) (zb (eOp ixT (yb 1) (eC (.int 1))) (zb (eOp ixT (yb 1) (eC (.int 2))) ze))))) (sIf (zq (eOp eqA (eOp ixT (yb 1) (eC (.int 0))) (eC (.str "lost")))) (qB (yf (zf5 kE kR) (zb (yb 0) (zb (eOp ixT (yb 1) (eC (.int 1))) ze)))) (sIf (zq (eOp eqA (eOp ixT (yb 1) (eC (.int 0))) (eC (.str "again")))) (qB (yf (zcr kE kR) (zb (yb 0) (zb (eOp ixT (yb 1) (eC (.int 1))) ze)))) (qB (yf (zeV kE kR) (zb (yb 0) (zb (eOp ixT (yb 1) (eC (.int 1))) ze))))))))
 (zfP [kR] "came" (yb 0) 1))
noncomputable def zbX (kE kR:Addr):X2:=yi 2 2 (zfY kE kR)
section
theorem ziP:FnScope ["run","event"] ["run","event"] (zg zdY):=by ac_rfl
theorem zb0 (D:Df K mg "let_come" zdY ["run","event"]) (T:Txt K mg kE kR)   (zV:CalT P w K mg base 15 "begin_errand" ["run","house","caller"] (zci kE kR)) (qM:CalT P w K mg base 28 "end_errand" ["run","number","word"] (za4 kE kR)) (zeK:CalT P w K mg base 29 "lose" ["run","number"] (zf5 kE kR)) (zbv:CalT P w K mg base 16 "try_again" ["run","number"] (zcr kE kR)) (zdS:CalT P w K mg base 29 "go_up" ["run","number"] (zeV kE kR)):CalT P w K mg base 30 "let_come" ["run","event"] (zbX kE kR):=
 qp D ziP rfl rfl (fun f cdv A outer s H E hr=>(qd (qv (zj (yB hr.units) (yd ye (za (pv 1)) yc) qi (zk _)) (zf (zn (X9 zV hr (ya (za (pv 0)) (ya yc (ya qT zd)))))) (zf (qv (zj (yB hr.units) (yd ye (za (pv 1)) yc) qi (zk _)) (zf (zn (X9 qM hr (ya (za (pv 0)) (ya (yd ye (za (pv 1)) yc) (ya (yd ye (za (pv 1)) yc) zd)))))) (zf (qv (zj (yB hr.units) (yd ye (za (pv 1)) yc) qi (zk _)) (zf (zn (X9 zeK hr (ya (za (pv 0)) (ya (yd ye (za (pv 1)) yc) zd))))) (zf (qv (zj (yB hr.units) (yd ye (za (pv 1)) yc) qi (zk _)) (zf (zn (X9 zbv hr (ya (za (pv 0)) (ya (yd ye (za (pv 1)) yc) zd))))) (zf (zn (X9 zdS hr (ya (za (pv 0)) (ya (yd ye (za (pv 1)) yc) zd))))))))))))
  (zf (zlI (zh ⟨T.cls_Run,T.na_Run_came⟩ qh) (za (pv 0))))))
end
noncomputable def zhe (kE kR:Addr):X5:=
 (yh (qB (yf (qS kE kR) (zb (yb 2) (zb (yb 3) ze))))
 (qB (yf (zbX kE kR) (zb (yb 2) (zb (yb 3) ze)))))
noncomputable def zij (kE kR:Addr):X5:=
 (yh (yq 2 (zdo kR (zbk kE kR) (zb (yb 0) ze)))
 (yh (zcN (zhr (yb 1)) (qo 3) (zhe kE kR))
 (zF (yb 2))))
noncomputable def zed (kE kR:Addr):X2:=yi 2 4 (zij kE kR)
section
theorem zeq:FnScope ["net","events","run","event"] ["net","events"] (zg zfl):=by ac_rfl
theorem zda (D:Df K mg "run_of" zfl ["net","events"]) (T:Txt K mg kE kR)   (zfS:MakT P w K mg base 1 "Run" kR ["self","net"] (zbk kE kR)) (zaF:CalT P w K mg base 6 "check_event" ["run","event"] (qS kE kR)) (zb0:CalT P w K mg base 30 "let_come" ["run","event"] (zbX kE kR)):CalT P w K mg base 31 "run_of" ["net","events"] (zed kE kR):=
 qp D zeq rfl rfl (fun f cdv A outer s H E hr=>(qd (zi (i:=2) zeq.nd rfl (Or.inl rfl) (zhC zfS (hr.mono (by decide)) rfl (ya (za (pv 0)) zd)))
  (qd (zfd PassesOwn.never rfl (zlK (za (pv 1))) (yn (yr (i:=3) zeq.nd rfl (by and_intros))) (qd (zn (X9 zaF hr (ya (za (pv 2)) (ya (za (pv 3)) zd))))
  (zf (zn (X9 zb0 hr (ya (za (pv 2)) (ya (za (pv 3)) zd)))))))
  (zf (yt (za (pv 2)))))))
end
noncomputable def zf2 (kE kR:Addr):X5:=
 (yh (yq 2 (eOp ixT (eOp ixT (eOp ixT (zo [kR] "net" (yb 0)) (eC (.int 1))) (yb 1)) (eC (.int 2))))
 (zF (eTk (zax (yU (zb (yf (qR kE kR) (zb (yb 0) (zb (yb 1) ze))) ze)) (qo 0) qK (yf (yy zQ) (zb (eSl (eOp ixT (zo [kR] "puts" (yb 1)) (yb 2)) (zbh (eOp yR (yb 0) (yb 3))) (zbh (eOp yR (eOp zN (yb 0) (eC (.int 1))) (yb 3)))) ze)) ["coin"] [("run",0),("purse",1),("per",2)]))))
noncomputable def qZ (kE kR:Addr):X2:=yi 2 3 (zf2 kE kR)
section
theorem ze2:FnScope ["run","purse","per"] ["run","purse"] (zg zd2):=by ac_rfl
theorem zb4 (D:Df K mg "coins_of" zd2 ["run","purse"]) (T:Txt K mg kE kR)   (qX:CalT P w K mg base 1 "coins_made" ["run","purse"] (qR kE kR)):CalT P w K mg base 2 "coins_of" ["run","purse"] (qZ kE kR):=
 qp D ze2 rfl rfl (fun f cdv A outer s H E hr=>(qd (zi (i:=2) ze2.nd rfl (Or.inr rfl) (yd ye (yd ye (yd ye (zm (zh ⟨T.cls_Run,T.na_Run_net⟩ qh) (za (pv 0))) yc) (za (pv 1))) yc))
  (zf (yt (zH (zah (tgs:=["coin"]) (caps:=[("run",0),("purse",1),("per",2)]) (yN rfl T.n_range (ya (X9 qX hr (ya (za (pv 0)) (ya (za (pv 1)) zd))) zd)) (by bv_omega) (fun _ _ _=>(yn (yr (i:=0) (show (["coin","run","purse","per"]:List Str).Nodup by decide +kernel) rfl (by and_intros)))) (fun _ _ _=>zag) (fun _ _ _=>(zav zaM rfl T.n_tuple boot_tuple (ya (zeo (yd ye (zm (zh ⟨T.cls_Run,T.na_Run_puts⟩ qh) (za (pv 1))) (za (pv 2))) (zau (ym zao (za (pv 0)) (za (pv 3)))) (zau (ym zao (ym qF (za (pv 0)) yc) (za (pv 3))))) zd)))))))))
end
noncomputable def zik (kE kR:Addr):X5:=
 (yh (yq 2 (yf (zed kE kR) (zb (yb 0) (zb (yb 1) ze))))
 (zF (yF (zb (eTk (zax (yU (zb (yf (yy yz) (zb (eOp ixT (yb 0) (eC (.int 1))) ze)) ze)) (qo 0) qK (yf (qZ kE kR) (zb (yb 1) (zb (yb 0) ze))) ["purse"] [("run",2)])) (zb (zo [kR] "payments" (yb 2)) ze)))))
noncomputable def zc7 (kE kR:Addr):X2:=yi 2 3 (zik kE kR)
section
theorem zgU:FnScope ["net","events","run"] ["net","events"] (zg zfm):=by ac_rfl
theorem zcl (D:Df K mg "ledger" zfm ["net","events"]) (T:Txt K mg kE kR)   (zda:CalT P w K mg base 31 "run_of" ["net","events"] (zed kE kR)) (zb4:CalT P w K mg base 2 "coins_of" ["run","purse"] (qZ kE kR)):CalT P w K mg base 32 "ledger" ["net","events"] (zc7 kE kR):=
 qp D zgU rfl rfl (fun f cdv A outer s H E hr=>(qd (zi (i:=2) zgU.nd rfl (Or.inr rfl) (X9 zda hr (ya (za (pv 0)) (ya (za (pv 1)) zd))))
  (zf (yt (zu (ya (zH (zah (tgs:=["purse"]) (caps:=[("run",2)]) (yN rfl T.n_range (ya (yk qr rfl T.n_len boot_len (ya (yd ye (za (pv 0)) yc) zd)) zd)) (by bv_omega) (fun _ _ _=>(yn (yr (i:=0) (show (["purse","run"]:List Str).Nodup by decide +kernel) rfl (by and_intros)))) (fun _ _ _=>zag) (fun _ _ _=>(X9 zb4 hr (ya (za (pv 1)) (ya (za (pv 0)) zd)))))) (ya (zm (zh ⟨T.cls_Run,T.na_Run_payments⟩ qh) (za (pv 2))) zd)))))))
end
noncomputable def zga (kE kR:Addr):X5:=
 (qB (zT yO (eUn qD (yb 5)) (zb (yF ze) ze)))
noncomputable def zg2 (kE kR:Addr):X5:=
 (yh (yq 3 (yF (zb (eTk (zdN (zcq (eOp ixT (yb 2) (eC (.int 2)))) (qo 0) qK (eFz (zfT zdj (zb (eOp ixT (yb 0) (eC (.int 1))) ze))) ["purse"] [])) (zb (eOp ixT (yb 2) (eC (.int 3))) ze))))
 (yh (yq 4 (yf (zc7 kE kR) (zb (yb 0) (zb (yb 1) ze))))
 (yh (sIf (zca (zbP (zq (yf (call2 zaK) (zb (yb 4) (zb (eC (.ty "tuple")) ze))))) (zq (eOp neA (yb 4) (yb 3)))) (zF (eC (.bl false))) yH)
 (yh (zcN (zcq (eOp ixT (yb 4) (eC (.int 0)))) (qo 5) (zga kE kR))
 (yh (qB (eUn zeH (eOp ixT (yb 4) (eC (.int 1)))))
 (zF (eOp eqA (yf (zc7 kE kR) (zb (yb 0) (zb (yf (yy zQ) (zb (yb 1) ze)) ze))) (yb 3))))))))
noncomputable def zcy (kE kR:Addr):X2:=yi 3 6 (zg2 kE kR)
section
theorem zcM:FnScope ["net","events","world","due","found","coins"] ["net","events","world"] (zg zeu):=by ac_rfl
theorem zbM (D:Df K mg "_law_right" zeu ["net","events","world"]) (T:Txt K mg kE kR)   (zcl:CalT P w K mg base 32 "ledger" ["net","events"] (zc7 kE kR)):CalT P w K mg base 33 "_law_right" ["net","events","world"] (zcy kE kR):=
 qp D zcM rfl rfl (fun f cdv A outer s H E hr=>(qd (zi (i:=3) zcM.nd rfl (Or.inl rfl) (zu (ya (zH (zks (tgs:=["purse"]) (caps:=[]) (zfe (yd ye (za (pv 2)) yc)) (by bv_omega) (fun _ _ _=>(yn (yr (i:=0) (show (["purse"]:List Str).Nodup by decide +kernel) rfl (by and_intros)))) (fun _ _ _=>zag) (fun _ _ _=>(zP (zjM zko rfl T.n_list boot_list (ya (yd ye (za (pv 0)) yc) zd)))))) (ya (yd ye (za (pv 2)) yc) zd))))
  (qd (zi (i:=4) zcM.nd rfl (Or.inl rfl) (X9 zcl hr (ya (za (pv 0)) (ya (za (pv 1)) zd))))
  (qd (qv (WW.gt (zbq (za9 (qO (yk zbZ rfl T.n_isinstance boot_isinstance (ya (za (pv 4)) (ya (zdV rfl T.n_tuple boot_tuple) zd))))) (zbF (zj (zcu hr.units) (za (pv 4)) (za (pv 3)) (zk _))))) (zf (yt y6)) zr)
  (qd (zfd PassesOwn.never rfl (zfe (yd ye (za (pv 4)) yc)) (yn (yr (i:=5) zcM.nd rfl (by and_intros))) (zf (zn (yK (zR QA QC QB yD (WE.pe (za (pv 5))) (WA.pe (ya (zu zd) zd)))))))
  (qd (zn (zkv (yd ye (za (pv 4)) yc)))
  (zf (yt (zac (yB hr.units) (X9 zcl hr (ya (za (pv 0)) (ya (zav zaM rfl T.n_tuple boot_tuple (ya (za (pv 1)) zd)) zd))) (za (pv 3)) (zk _))))))))))
end
noncomputable def zlF (kE kR:Addr):X5:=
 (yh (sIf (zaw (zq (eOp eqA (eOp zbU (yb 4) (eC (.int 7))) (eC (.int 0)))) (zbP (zq (yf (zcy kE kR) (zb (yb 1) (zb (eSl (yb 2) zdh (zbh (yb 4))) (zb (yb 3) ze))))))) (zF (eC (.bl false))) yH)
 (qB (yf (zcz kE kR) (zb (yb 1) (zb (yb 3) (zb (eOp ixT (yb 2) (yb 4)) ze))))))
noncomputable def zmW (kE kR:Addr):X5:=
 (yh (yq 1 (yf (zeU kE kR) (zb (yf (zch kE kR) (zb (yf (zbD kE kR) (zb (yb 0) (zb (eC (.int 0)) ze))) ze)) ze)))
 (yh (zaO (yf (zcQ kE kR) (zb (yb 0) (zb (yb 1) (zb (eC (.int 2)) ze)))) (zgO 2 (z4 (qo 2) (z4 (qo 3) zeL))))
 (yh (sIf (zbP (zq (yf (zcy kE kR) (zb (yb 1) (zb (yb 2) (zb (yb 3) ze)))))) (zF (eC (.bl false))) yH)
 (yh (yq 3 (yf (zbI kE kR) (zb (yb 1) ze)))
 (yh (zcb (yU (zb (yf (yy yz) (zb (yb 2) ze)) ze)) (qo 4) (zlF kE kR))
 (zF (eC (.bl true))))))))
noncomputable def zht (kE kR:Addr):X2:=yi 1 5 (zmW kE kR)
section
theorem zdG:FnScope ["script","net","events","world","at"] ["script"] (zg zjY):=by ac_rfl
theorem zpu {f:Addr} {fd:FuncData} (D:Fun K "law" "law" zjY f fd) (T:Txt K mg kE kR)   (zdR:CalT P w K mg base 3 "_law_net" ["pool"] (zeU kE kR)) (zb1:CalT P w K mg base 6 "_law_events" ["script","net","most"] (zcQ kE kR)) (zaq:CalT P w K mg base 1 "_law_world" ["net"] (zbI kE kR)) (zbN:CalT P w K mg base 1 "_law_dig" ["cell"] (zch kE kR)) (zbM:CalT P w K mg base 33 "_law_right" ["net","events","world"] (zcy kE kR)) (zcA:CalT P w K mg base 5 "_law_do" ["net","world","event"] (zcz kE kR)) (za7:CalT P w K mg base 1 "_law_cell" ["script","k"] (zbD kE kR)):FnOk P w K mg base CX0 34 f fd ["script"] (spT K (zht kE kR)):=
 zmZ D zdG rfl rfl (fun cdv A outer s H E hr=>(qd (zi (i:=1) zdG.nd rfl (Or.inl rfl) (X9 zdR hr (ya (X9 zbN hr (ya (X9 za7 hr (ya (za (pv 0)) (ya yc zd))) zd)) zd)))
  (qd (yS (X9 zb1 hr (ya (za (pv 0)) (ya (za (pv 1)) (ya yc zd)))) (zeM (zfR rfl (WGs.pe (qG (yJ (WG.pe (yn (yr (i:=2) zdG.nd rfl (by and_intros)))) (WGs.pe (qG (yJ (WG.pe (yn (yr (i:=3) zdG.nd rfl (by and_intros)))) (WGs.pe zb9))))))))))
  (qd (qv (za9 (qO (X9 zbM hr (ya (za (pv 1)) (ya (za (pv 2)) (ya (za (pv 3)) zd)))))) (zf (yt y6)) zr)
  (qd (zi (i:=3) zdG.nd rfl (Or.inl rfl) (X9 zaq hr (ya (za (pv 1)) zd)))
  (qd (zaG PassesOwn.never rfl (yN rfl T.n_range (ya (yk qr rfl T.n_len boot_len (ya (za (pv 2)) zd)) zd)) (yn (yr (i:=4) zdG.nd rfl (by and_intros))) (qd (qv (WW.gt (z5 (zj (yB hr.units) (ym zaJ (za (pv 4)) yc) yc (zk _)) (yY (za9 (qO (X9 zbM hr (ya (za (pv 1)) (ya (zeo (za (pv 2)) zb7 (zau (za (pv 4)))) (ya (za (pv 3)) zd))))))))) (zf (yt y6)) zr)
  (zf (zn (X9 zcA hr (ya (za (pv 1)) (ya (za (pv 3)) (ya (yd ye (za (pv 2)) (za (pv 4))) zd))))))))
  (zf (yt y6))))))))
end
end My
open Lean in
local macro_rules | `(tactic| simp_arith [$xs,*]) => do
  let ids := ("FT.zkG FT.zsr FT.zss FT.startT FT.yh FT.zF FT.yq FT.sIf FT.qB FT.zaO FT.yH FT.zcb FT.yb FT.eC FT.eOp FT.eUn FT.ziw FT.eOr FT.zkf FT.eIf FT.yf FT.yF FT.eFz FT.eTk FT.yx FT.zfT FT.zf6 FT.lOp FT.eSl FT.zdh FT.zbh FT.zmj FT.zfB FT.zsB FT.zsQ FT.zT FT.ze FT.zb FT.zq FT.zaw FT.zca FT.zbP FT.zsN FT.zsy FT.zsk FT.qf FT.zrD FT.zrF FT.zrE FT.zr2 FT.zr1 FT.zr4 FT.zr3 FT.qo FT.za8 FT.zgO FT.z4 FT.zeL FT.zcJ FT.yU FT.zgG FT.zhM FT.ixT FT.zfr FT.zii FT.zrA FT.zsX FT.zsW FT.zsV FT.zax FT.zck FT.qK Option.join_some Option.join_none FT.zr6 FT.zme FT.zaS FT.zsT FT.zsS FT.zsR QE map_nil Qp length_nil List.cons_append nil_append List.getElem?_cons_zero getElem?_cons_succ List.set_cons_zero List.set_cons_succ List.replicate Nat.zero_add Nat.reduceAdd Nat.reduceSub FT.zsx FT.zsw FT.zsA FT.zsz Int.reduceBEq Int.reduceLT FT.zso FT.zsG FT.zsH FT.zsJ FT.zsK FT.zsD FT.zsu FT.zsL FT.zsE FT.zsI FT.zsa Bool.false_eq_true reduceIte Nat.reduceEqDiff Nat.succ.injEq Bool.not_true Bool.not_false FT.zjl FT.zst FT.zsM Int.reduceToNat Int.reducePow ne_eq Int.reduceEq not_false_eq_true Int.reduceNeg Bool.bne_true Bool.bne_false Bool.true_bne Bool.false_bne decide_true decide_false FT.zmK FT.zsj FT.zsi FT.zsp FT.zsq".splitOn " ").toArray.map fun s => Lean.mkIdent s.toName
  `(tactic| simp (config := {decide := true}) only [$[$ids:term],*, $xs,*])
namespace My
open PySem L2 FT
structure Ask where
 to:Str
 tries:Int
 purse:Option Str
 word:Str
 hears:Bool
 sure:Bool
structure Hs where
 name:Str
 asks:List Ask
structure Pu where
 name:Str
 earns:Str
 per:Int
structure Net where
 hs:List Hs
 ps:List Pu
noncomputable def opS (o:Option Str):FT.T:=o.elim .non .str
noncomputable def qu (a:Ask):FT.T:=.tup [.str a.to,.int a.tries,opS a.purse,.str a.word,.bl a.hears,.bl a.sure]
noncomputable def hsT (h:Hs):FT.T:=.tup [.str h.name,.tup (h.asks.map qu)]
noncomputable def puT (p:Pu):FT.T:=.tup [.str p.name,.str p.earns,.int p.per]
noncomputable def qg (n:Net):FT.T:=.tup [.tup (n.hs.map hsT),.tup (n.ps.map puT)]
inductive Ph where
 | works
 | waits (a t:Nat)
 | stands (a t:Nat)
 | ended (w:Str)
noncomputable def phT:Ph->FT.T
 | .works=>.tup [.str "works"]
 | .waits a t=>.tup [.str "waits",.int (a:Int),.int (t:Int)]
 | .stands a t=>.tup [.str "stands",.int (a:Int),.int (t:Int)]
 | .ended w=>.tup [.str "ended",.str w]
structure Er where
 house:Nat
 caller:Option (Nat × Nat × Nat)
 ph:Ph
 lost:Bool
 asked:Option Nat
 stood:Option Nat
noncomputable abbrev nT (n:Nat):FT.T:=.int (n:Int)
noncomputable def clT (o:Option (Nat × Nat × Nat)):FT.T:=o.elim .non fun c=>.tup [nT c.1,nT c.2.1,nT c.2.2]
noncomputable def onT (o:Option Nat):FT.T:=o.elim .non nT
noncomputable def erF (e:Er):List (Str × FT.T):=[("house",nT e.house),("caller",clT e.caller),("state",phT e.ph),("is_lost",.bl e.lost),("asked",onT e.asked),("stood",onT e.stood)]
structure Run where
 came:Nat
 es:List Er
 puts:List (List Nat)
 pays:List (Nat × Nat × Nat)
 taken:List Nat
noncomputable def zab (p:Nat × Nat × Nat):FT.T:=.tup [nT p.1,nT p.2.1,nT p.2.2]
structure Lay where
 a:Nat
 p:Nat
 q:Nat
 t:Nat
 es:List Nat
 ps:List Nat
noncomputable def zcc (nt:FT.T) (l:Lay) (R:Run):List (Str × FT.T):=[("net",nt),("came",nT R.came),("errands",.ref l.a),("puts",.ref l.p),("payments",.ref l.q),("taken",.ref l.t)]
variable {e:Er} {l:Lay} {u:List Nat} {M:Mem} {i x:Nat} {R:Run}
section
variable (kE kR:Addr)
noncomputable def ezC (es:List Nat) (rs:List Er):List (Nat × Cell):=List.zipWith (fun x e=>(x,Cell.ins kE (erF e))) es rs
noncomputable def pzC (ps:List Nat) (us:List (List Nat)):List (Nat × Cell):=List.zipWith (fun x u=>(x,Cell.lst (u.map nT))) ps us
noncomputable def cells (nt:FT.T) (r:Nat) (l:Lay) (R:Run):List (Nat × Cell):=
 (r,.ins kR (zcc nt l R))::(l.a,.lst (l.es.map .ref))::(l.p,.lst (l.ps.map .ref))::(l.q,.lst (R.pays.map zab))::(l.t,.lst (R.taken.map nT))::(ezC kE l.es R.es++pzC l.ps R.puts)
def Holds (M:Mem) (L:List (Nat × Cell)):Prop:=∀ p ∈ L,M[p.1]? = some p.2
theorem Holds.set {L:List (Nat × Cell)} (h:Holds M L) (nd:(L.map (·.1)).Nodup) {k:Nat} {p:Nat × Cell} (hk:L[k]? = some p) (c:Cell):Holds (M.set p.1 c) (L.set k (p.1,c)):=by
 intro q hq
 have hkl:=(Qx.mp hk).1
 obtain ⟨i,hi⟩:=mem_iff_getElem?.mp hq
 rw [Qc] at hi
 by_cases e:k=i
 ·rw [Qy e,Qy hkl] at hi
  cases hi
  exact get_set (h p (Qa hk))
 ·rw [Qz e] at hi
  have hne:p.1 ≠ q.1:=fun z=>by
   have h1:(L.map (·.1))[k]? = some p.1:=by rw [Qb,hk];rfl
   have h2:(L.map (·.1))[i]? = some q.1:=by rw [Qb,hi];rfl
   exact e ((List.getElem?_inj (by simpa using hkl) nd).mp (h1.trans (by rw [h2,z])))
  rw [Qc,Qz hne]
  exact h q (Qa hi)
structure RunAt (nt:FT.T) (b r:Nat) (l:Lay) (M:Mem) (R:Run):Prop where
 ho:Holds M (cells kE kR nt r l R)
 nd:((cells kE kR nt r l R).map (·.1)).Nodup
 lo:∀ p ∈ cells kE kR nt r l R,b<=p.1
 el:l.es.length=R.es.length
 pl:l.ps.length=R.puts.length
 tl:R.taken.length=R.puts.length
def Kp (b:Nat) (M M':Mem):Prop:=M.length<=M'.length/\∀ i,i<b->M'[i]? = M[i]?
theorem Kp.refl (b:Nat) (M:Mem):Kp b M M:=⟨Q3 _,fun _ _=>rfl⟩
theorem Kp.trans {b:Nat} {A B C:Mem} (h:Kp b A B) (g:Kp b B C):Kp b A C:=⟨Qj h.1 g.1,fun i hi=>by rw [g.2 i hi,h.2 i hi]⟩
theorem Kp.set {b:Nat} (M:Mem) (c:Cell) (hx:b<=x):Kp b M (M.set x c):=⟨by simp,fun i hi=>by rw [Qc,Qz (by omega)]⟩
theorem Kp.app {b:Nat} (M:Mem) (cs:List Cell) (hb:b<=M.length):Kp b M (M++cs):=⟨by simp,fun i hi=>Q6 (by omega)⟩
variable {kE kR} {nt:FT.T} {b r:Nat} {l:Lay} {M:Mem} {R:Run}
theorem zip_get {α β γ:Type} {f:α->β->γ} {as:List α} {bs:List β} {x:α} {y:β} (h1:as[i]? = some x) (h2:bs[i]? = some y):(List.zipWith f as bs)[i]? = some (f x y):=by
 rw [List.getElem?_zipWith,h1,h2]
theorem RunAt.run (h:RunAt kE kR nt b r l M R):M[r]? = some (.ins kR (zcc nt l R)):=h.ho (r,_) (.head _)
theorem RunAt.er (h:RunAt kE kR nt b r l M R):M[l.a]? = some (.lst (l.es.map .ref)):=h.ho (l.a,_) (.tail _ (.head _))
theorem RunAt.pu (h:RunAt kE kR nt b r l M R):M[l.p]? = some (.lst (l.ps.map .ref)):=h.ho (l.p,_) (.tail _ (.tail _ (.head _)))
theorem RunAt.py (h:RunAt kE kR nt b r l M R):M[l.q]? = some (.lst (R.pays.map zab)):=h.ho (l.q,_) (.tail _ (.tail _ (.tail _ (.head _))))
theorem RunAt.tk (h:RunAt kE kR nt b r l M R):M[l.t]? = some (.lst (R.taken.map nT)):=h.ho (l.t,_) (.tail _ (.tail _ (.tail _ (.tail _ (.head _)))))
theorem zqn {es:List Nat} {rs:List Er} (h1:es[i]? = some x) (h2:rs[i]? = some e):(ezC kE es rs)[i]? = some (x,.ins kE (erF e)):=zip_get h1 h2
theorem zoY {ps:List Nat} {us:List (List Nat)} (h1:ps[i]? = some x) (h2:us[i]? = some u):(pzC ps us)[i]? = some (x,.lst (u.map nT)):=zip_get h1 h2
theorem zdQ (h:RunAt kE kR nt b r l M R):(ezC kE l.es R.es).length=R.es.length:=by unfold ezC;rw [List.length_zipWith,h.el,Nat.min_self]
theorem zlz (h:RunAt kE kR nt b r l M R) (h1:l.es[i]? = some x) (h2:R.es[i]? = some e):(cells kE kR nt r l R)[5+i]? = some (x,.ins kE (erF e)):=by
 have hi:=(Qx.mp h2).1
 rw [Nat.add_comm]
 show (ezC kE l.es R.es++pzC l.ps R.puts)[i]? = _
 rw [Q6 (by rw [zdQ h];exact hi)]
 exact zqn h1 h2
theorem zly (h:RunAt kE kR nt b r l M R) (h1:l.ps[i]? = some x) (h2:R.puts[i]? = some u):(cells kE kR nt r l R)[5+(R.es.length+i)]? = some (x,.lst (u.map nT)):=by
 rw [Nat.add_comm 5]
 show (ezC kE l.es R.es++pzC l.ps R.puts)[R.es.length+i]? = _
 rw [Q8 (by rw [zdQ h];omega),zdQ h,show R.es.length+i-R.es.length=i by omega]
 exact zoY h1 h2
theorem RunAt.at_e (h:RunAt kE kR nt b r l M R) (h2:R.es[i]? = some e):∃ x,l.es[i]? = some x/\M[x]? = some (.ins kE (erF e)):=by
 have hi:=(Qx.mp h2).1
 refine ⟨l.es[i]'(by rw [h.el];exact hi),Q0 _,?_⟩
 exact h.ho _ (Qa (zlz h (Q0 (by rw [h.el];exact hi)) h2))
theorem RunAt.at_p (h:RunAt kE kR nt b r l M R) (h2:R.puts[i]? = some u):∃ x,l.ps[i]? = some x/\M[x]? = some (.lst (u.map nT)):=by
 have hi:=(Qx.mp h2).1
 refine ⟨l.ps[i]'(by rw [h.pl];exact hi),Q0 _,?_⟩
 exact h.ho _ (Qa (zly h (Q0 (by rw [h.pl];exact hi)) h2))
theorem RunAt.write (h:RunAt kE kR nt b r l M R) {k:Nat} {c0 c:Cell} (hk:(cells kE kR nt r l R)[k]? = some (x,c0)) {R':Run} (e:cells kE kR nt r l R'=(cells kE kR nt r l R).set k (x,c)) (h1:R'.es.length=R.es.length) (h2:R'.puts.length=R.puts.length) (h3:R'.taken.length=R.taken.length):RunAt kE kR nt b r l (M.set x c) R'/\b<=x:=by
 have em:(cells kE kR nt r l R').map (·.1)=(cells kE kR nt r l R).map (·.1):=by
  rw [e,List.map_set]
  refine ext_getElem? fun i=>?_
  rw [Qc]
  by_cases z:k=i
  ·subst z
   have:=(Qx.mp hk).1
   rw [Qy rfl,Qy (by simpa using this),Qb,hk]
   rfl
  ·rw [Qz z]
 refine ⟨⟨by rw [e];exact h.ho.set h.nd hk c,by rw [em];exact h.nd,fun p hp=>?_,by rw [h1];exact h.el,by rw [h2];exact h.pl,by rw [h3,h2];exact h.tl⟩,h.lo _ (Qa hk)⟩
 have:p.1 ∈ (cells kE kR nt r l R').map (·.1):=mem_map.mpr ⟨p,hp,rfl⟩
 rw [em] at this
 obtain ⟨q,hq,eq⟩:=mem_map.mp this
 rw [← eq];exact h.lo q hq
theorem zge {α β γ:Type} {f:α->β->γ}:∀ {as:List α} {bs:List β} {i:Nat} {x:α} (y:β),as[i]? = some x->List.zipWith f as (bs.set i y)=(List.zipWith f as bs).set i (f x y)
 | [],_,_,_,_,h=>by simp at h
 | a::as,[],i,x,y,h=>by simp
 | a::as,b::bs,0,x,y,h=>by simp at h;simp [h]
 | a::as,b::bs,i+1,x,y,h=>by simp at h;simp [zge y h]
noncomputable def Run.setE (R:Run) (i:Nat) (e:Er):Run:={ R with es:=R.es.set i e }
theorem RunAt.setE (h:RunAt kE kR nt b r l M R) (h1:l.es[i]? = some x) (h2:R.es[i]? = some e) (e':Er):RunAt kE kR nt b r l (M.set x (.ins kE (erF e'))) (R.setE i e')/\b<=x:=by
 refine h.write (zlz h h1 h2) ?_ (by simp [Run.setE]) rfl rfl
 have hi:=(Qx.mp h2).1
 rw [Nat.add_comm 5]
 show _=_::_::_::_::_::(ezC kE l.es R.es++pzC l.ps R.puts).set i (x,.ins kE (erF e'))
 rw [List.set_append_left _ _ (by rw [zdQ h];exact hi),show (ezC kE l.es R.es).set i (x,.ins kE (erF e'))=ezC kE l.es (R.es.set i e') from (zge e' h1).symm]
 rfl
noncomputable def Run.setP (R:Run) (i:Nat) (u:List Nat):Run:={ R with puts:=R.puts.set i u }
theorem RunAt.setP (h:RunAt kE kR nt b r l M R) (h1:l.ps[i]? = some x) (h2:R.puts[i]? = some u) (u':List Nat):RunAt kE kR nt b r l (M.set x (.lst (u'.map nT))) (R.setP i u')/\b<=x:=by
 refine h.write (zly h h1 h2) ?_ rfl (by simp [Run.setP]) rfl
 rw [Nat.add_comm 5]
 show _=_::_::_::_::_::(ezC kE l.es R.es++pzC l.ps R.puts).set (R.es.length+i) (x,.lst (u'.map nT))
 rw [set_append_right _ _ (by rw [zdQ h];omega),zdQ h,show R.es.length+i-R.es.length=i by omega,show (pzC l.ps R.puts).set i (x,.lst (u'.map nT))=pzC l.ps (R.puts.set i u') from (zge u' h1).symm]
 rfl
theorem RunAt.setCame (h:RunAt kE kR nt b r l M R) (n:Nat):RunAt kE kR nt b r l (M.set r (.ins kR (zcc nt l { R with came:=n }))) { R with came:=n }/\b<=r:=h.write (k:=0) rfl rfl rfl rfl rfl
theorem RunAt.setPays (h:RunAt kE kR nt b r l M R) (ps:List (Nat × Nat × Nat)):RunAt kE kR nt b r l (M.set l.q (.lst (ps.map zab))) { R with pays:=ps }/\b<=l.q:=h.write (k:=3) rfl rfl rfl rfl rfl
theorem RunAt.setTaken (h:RunAt kE kR nt b r l M R) (ts:List Nat) (ht:ts.length=R.taken.length):RunAt kE kR nt b r l (M.set l.t (.lst (ts.map nT))) { R with taken:=ts }/\b<=l.t:=h.write (k:=4) rfl rfl rfl rfl ht
theorem RunAt.kept (h:RunAt kE kR nt b r l M R) {M':Mem} (k:∀ (i:Nat) c,M[i]? = some c->M'[i]? = some c):RunAt kE kR nt b r l M' R:=⟨fun p hp=>k _ _ (h.ho p hp),h.nd,h.lo,h.el,h.pl,h.tl⟩
theorem RunAt.app (h:RunAt kE kR nt b r l M R) (cs:List Cell):RunAt kE kR nt b r l (M++cs) R:=h.kept fun i c e=>by rw [Q6 (qA e)];exact e
noncomputable def Run.push (R:Run) (e:Er):Run:={ R with es:=R.es++[e] }
theorem RunAt.push (h:RunAt kE kR nt b r l M R) (hb:b<=M.length) (e:Er):RunAt kE kR nt b r { l with es:=l.es++[M.length] } ((M++[Cell.ins kE (erF e)]).set l.a (.lst ((l.es++[M.length]).map .ref))) (R.push e):=by
 have ez:ezC kE (l.es++[M.length]) (R.es++[e])=ezC kE l.es R.es++[(M.length,.ins kE (erF e))]:=by
  unfold ezC
  rw [List.zipWith_append h.el]
  rfl
 have fresh:∀ p ∈ cells kE kR nt r l R,p.1<M.length:=fun p hp=>qA (h.ho p hp)
 have hm:∀ p,p ∈ cells kE kR nt r { l with es:=l.es++[M.length] } (R.push e)->p=(l.a,.lst ((l.es++[M.length]).map .ref))\/p=(M.length,.ins kE (erF e))\/(p ∈ cells kE kR nt r l R/\p.1 ≠ l.a):=by
  intro p hp
  have nd:=h.nd
  have na:∀ q ∈ ezC kE l.es R.es++pzC l.ps R.puts,q.1 ≠ l.a:=fun q hq z=>by
   have h2:=(nodup_cons.mp (nodup_cons.mp nd).2).1
   exact h2 (mem_map.mpr ⟨q,.tail _ (.tail _ (.tail _ hq)),z⟩)
  have n0:r ≠ l.a:=fun z=>(nodup_cons.mp nd).1 (mem_map.mpr ⟨(l.a,_),.head _,z.symm⟩)
  have n2:l.p ≠ l.a:=fun z=>(nodup_cons.mp (nodup_cons.mp nd).2).1 (mem_map.mpr ⟨(l.p,_),.head _,z⟩)
  have n3:l.q ≠ l.a:=fun z=>(nodup_cons.mp (nodup_cons.mp nd).2).1 (mem_map.mpr ⟨(l.q,_),.tail _ (.head _),z⟩)
  have n4:l.t ≠ l.a:=fun z=>(nodup_cons.mp (nodup_cons.mp nd).2).1 (mem_map.mpr ⟨(l.t,_),.tail _ (.tail _ (.head _)),z⟩)
  unfold cells at hp
  rcases QF.mp hp with rfl | hp
  ·exact .inr (.inr ⟨.head _,n0⟩)
  rcases QF.mp hp with rfl | hp
  ·exact .inl rfl
  rcases QF.mp hp with rfl | hp
  ·exact .inr (.inr ⟨.tail _ (.tail _ (.head _)),n2⟩)
  rcases QF.mp hp with rfl | hp
  ·exact .inr (.inr ⟨.tail _ (.tail _ (.tail _ (.head _))),n3⟩)
  rcases QF.mp hp with rfl | hp
  ·exact .inr (.inr ⟨.tail _ (.tail _ (.tail _ (.tail _ (.head _)))),n4⟩)
  replace hp:p ∈ ezC kE (l.es++[M.length]) (R.es++[e])++pzC l.ps R.puts:=hp
  rw [ez] at hp
  rcases mem_append.mp hp with hp | hp
  ·rcases mem_append.mp hp with hp | hp
   ·exact .inr (.inr ⟨.tail _ (.tail _ (.tail _ (.tail _ (.tail _ (mem_append_left _ hp))))),na p (mem_append_left _ hp)⟩)
   ·exact .inr (.inl (QG.mp hp))
  ·exact .inr (.inr ⟨.tail _ (.tail _ (.tail _ (.tail _ (.tail _ (Qm _ hp))))),na p (Qm _ hp)⟩)
 have la:=h.er
 have hla:=qA la
 refine ⟨fun p hp=>?_,?_,fun p hp=>?_,by simp [Run.push,h.el],h.pl,h.tl⟩
 ·rcases hm p hp with rfl | rfl | ⟨hp,hne⟩
  ·exact get_set (by rw [Q6 hla];exact la)
  ·show (List.set _ _ _)[M.length]? = _
   rw [Qc,Qz (by omega)];exact yM
  ·rw [Qc,Qz (Ne.symm hne),Q6 (fresh p hp)];exact h.ho p hp
 ·have e2:(cells kE kR nt r { l with es:=l.es++[M.length] } (R.push e)).map (·.1)=r::l.a::l.p::l.q::l.t::((ezC kE l.es R.es).map (·.1)++[M.length]++(pzC l.ps R.puts).map (·.1)):=by
   show _::_::_::_::_::(ezC kE (l.es++[M.length]) (R.es++[e])++pzC l.ps R.puts).map (·.1)=_
   rw [ez]
   simp
  have e1:(cells kE kR nt r l R).map (·.1)=r::l.a::l.p::l.q::l.t::((ezC kE l.es R.es).map (·.1)++(pzC l.ps R.puts).map (·.1)):=by
   show _::_::_::_::_::(ezC kE l.es R.es++pzC l.ps R.puts).map (·.1)=_
   rw [Qq]
  have pm:List.Perm ((cells kE kR nt r { l with es:=l.es++[M.length] } (R.push e)).map (·.1)) (M.length::(cells kE kR nt r l R).map (·.1)):=by
   rw [e2,e1]
   have:List.Perm ((ezC kE l.es R.es).map (·.1)++[M.length]++(pzC l.ps R.puts).map (·.1)) (M.length::((ezC kE l.es R.es).map (·.1)++(pzC l.ps R.puts).map (·.1))):=by
    rw [QH]
    exact List.perm_middle
   refine ((((((this.cons _).cons _).cons _).cons _).cons _).trans ?_)
   have sw:∀ (x y:Nat) (L:List Nat),List.Perm (x::y::L) (y::x::L):=fun x y L=>List.Perm.swap y x L
   refine ((((sw _ _ _).cons _).cons _).cons _).cons _ |>.trans ?_
   refine (((sw _ _ _).cons _).cons _).cons _ |>.trans ?_
   refine ((sw _ _ _).cons _).cons _ |>.trans ?_
   refine (sw _ _ _).cons _ |>.trans ?_
   exact sw _ _ _
  refine pm.nodup_iff.mpr (nodup_cons.mpr ⟨fun z=>?_,h.nd⟩)
  obtain ⟨q,hq,eq⟩:=mem_map.mp z
  have:=fresh q hq
  omega
 ·rcases hm p hp with rfl | rfl | ⟨hp,_⟩
  ·exact h.lo (l.a,.lst (l.es.map .ref)) (.tail _ (.head _))
  ·exact hb
  ·exact h.lo p hp
end
noncomputable def zcI (s:Str):List Str->Nat->Option Nat
 | [],_=>none
 | y::ys,k=>if (y==s)=true then some k else zcI s ys (k+1)
theorem zif (s:Str):∀ (ys:List Str) (k:Nat),zgE (.str s) (ys.map .str) k=zcI s ys k
 | [],_=>rfl
 | y::ys,k=>by
  show (if (y==s)=true then some k else zgE (.str s) (ys.map .str) (k+1))=_
  rw [zif s ys (k+1)]
  rfl
theorem zgF {s:Str}:∀ {ys:List Str} {k n:Nat},zcI s ys k=some n->k<=n/\n<k+ys.length
 | [],_,_,h=>by cases h
 | y::ys,k,n,h=>by
  unfold zcI at h
  split at h
  ·cases h;simp
  ·have:=zgF h
   rw [Qp]
   omega
noncomputable def Net.hix (n:Net) (s:Str):Nat:=(zcI s (n.hs.map (·.name)) 0).getD 0
noncomputable def Net.pix (n:Net) (s:Str):Nat:=(zcI s (n.ps.map (·.name)) 0).getD 0
noncomputable def Net.asks (n:Net) (h:Nat):List Ask:=((n.hs[h]?).map (·.asks)).getD []
noncomputable def Net.pof (n:Net) (a:Ask):Option Nat:=a.purse.map n.pix
structure WA (n:Net) (i:Nat) (a:Ask):Prop where
 to:zcI a.to (n.hs.map (·.name)) 0=some (n.hix a.to)
 up:i<n.hix a.to
 pu:∀ s,a.purse=some s->zcI s (n.ps.map (·.name)) 0=some (n.pix s)
 tr:0<=a.tries
structure WN (n:Net):Prop where
 hl:n.hs.length<=4
 h1:0<n.hs.length
 pl:n.ps.length<=100
 al:∀ h ∈ n.hs,h.asks.length<=100
 as:∀ i a,a ∈ n.asks i->WA n i a
 pr:∀ p ∈ n.ps,1<=p.per/\p.per<=1000000
variable {n:Net}
theorem WA.lt {a:Ask} (h:WA n i a):n.hix a.to<n.hs.length:=by
 have:=zgF h.to
 simp at this
 exact this
theorem WA.plt {a:Ask} (h:WA n i a) {k:Nat} (e:n.pof a=some k):k<n.ps.length:=by
 unfold Net.pof at e
 cases q:a.purse with
 | none=>rw [q] at e;cases e
 | some s=>
  rw [q] at e
  cases e
  have:=zgF (h.pu s q)
  simp at this
  exact this
variable {f:Str}
section
variable (kE kR:Addr)
theorem zgW {α:Type} (xs:List α) (nm:α->Str) (tl:α->List FT.T) {s:Str} {n:Nat} (h:zcI s (xs.map nm) 0=some n) (hl:xs.length<=1000) (M:Mem):zaj kE kR [.tup (xs.map fun x=>.tup (.str (nm x)::tl x)),.str s] M = .ok (nT n) M:=by
 unfold zaj ze8
 have c:zy (qo 0) qK (eOp ixT (yb 0) (eC (.int 0))) (xs.map fun x=>FT.T.tup (.str (nm x)::tl x)) [none] M [] = .ok ((xs.map nm).map .str) M:=by
  rw [map_map]
  exact Ok.mapc (r:=fun x=>FT.T.tup (.str (nm x)::tl x)) (fun σ=>∃ o,σ=[o]) _ ⟨_,rfl⟩ (by omega) (by
   rintro x σ hx ⟨o,rfl⟩
   exact ⟨[some (.tup (.str (nm x)::tl x))],rfl,⟨_,rfl⟩,by simp_arith;rfl⟩)
 have k:zd9 (.lst ((xs.map nm).map .str)) [.str s] M = .ok (nT n) M:=by
  unfold zd9 yo
  dsimp only
  rw [Qy,zif,h]
  ·rw [Qs]
   refine ⟨rfl,all_eq_true.mpr fun t ht=>?_⟩
   obtain ⟨y,_,rfl⟩:=mem_map.mp ht
   rfl
 have i1:zbV (.lst ((xs.map nm).map .str)) M=true:=rfl
 simp_arith [c,zbu,i1,k]
variable {kE kR}
theorem zmM (wn:WN n) {a:Ask} (w:WA n i a) (M:Mem):zaB kE kR [qg n,qu a] M = .ok (nT (n.hix a.to)) M:=by
 unfold zaB zf3 qg qu
 have h:=fun M=>zgW kE kR n.hs (·.name) (fun h=>[.tup (h.asks.map qu)]) w.to (by have:=wn.hl;omega) M
 rw [show (n.hs.map fun h=>FT.T.tup (.str h.name::[.tup (h.asks.map qu)]))=n.hs.map hsT from rfl] at h
 simp_arith [h]
variable {b r:Nat}
theorem yT {k:Addr} {fs:List (Str × FT.T)} {t:FT.T} (h:M[x]? = some (.ins k fs)) (e:fs.lookup f=some t):zaQ [k] f (.ref x) M = .ok t M:=by
 unfold zaQ
 simp only [h]
 rw [Qy (by simp),e]
 rfl
theorem zba {k:Addr} {fs fs':List (Str × FT.T)} {y:FT.T} (h:M[x]? = some (.ins k fs)) (e:zc2 f y fs=fs') (hl:fs.length<1000):zaT [k] f (.ref x) y M = .ok () (M.set x (.ins k fs')):=by
 unfold zaT
 simp only [h]
 rw [Qy ⟨by simp,hl⟩,e]
theorem RunAt.net (h:RunAt kE kR (qg n) b r l M R):zaQ [kR] "net" (.ref r) M = .ok (qg n) M:=yT h.run rfl
theorem RunAt.came (h:RunAt kE kR (qg n) b r l M R):zaQ [kR] "came" (.ref r) M = .ok (nT R.came) M:=yT h.run rfl
theorem RunAt.errands (h:RunAt kE kR (qg n) b r l M R):zaQ [kR] "errands" (.ref r) M = .ok (.ref l.a) M:=yT h.run rfl
theorem RunAt.putsF (h:RunAt kE kR (qg n) b r l M R):zaQ [kR] "puts" (.ref r) M = .ok (.ref l.p) M:=yT h.run rfl
theorem RunAt.payF (h:RunAt kE kR (qg n) b r l M R):zaQ [kR] "payments" (.ref r) M = .ok (.ref l.q) M:=yT h.run rfl
theorem RunAt.takenF (h:RunAt kE kR (qg n) b r l M R):zaQ [kR] "taken" (.ref r) M = .ok (.ref l.t) M:=yT h.run rfl
theorem zp {α:Type} {f:α->FT.T} {xs:List α} {x:α} (e:xs[i]? = some x):atI (xs.map f) (i:Int)=some (f x):=by rw [FT.zbl,Qb,e];rfl
theorem zX (h:RunAt kE kR (qg n) b r l M R) (he:R.es[i]? = some e) (hh:e.house<n.hs.length):qC kE kR [.ref r,nT i] M = .ok (.tup ((n.asks e.house).map qu)) M:=by
 unfold qC zg6
 obtain ⟨x,hx,hc⟩:=h.at_e he
 have h1:=yT (f:="house") hc rfl
 have hn:n.hs[e.house]? = some n.hs[e.house]:=Q0 hh
 have h2:=zp (f:=hsT) hn
 have h3:n.asks e.house=(n.hs[e.house]).asks:=by unfold Net.asks;rw [hn];rfl
 rw [h3]
 have hnt:=h.net
 unfold qg at hnt
 simp_arith [zo,hnt,h.errands,h.er,zp (f:=FT.T.ref) hx,h1,h2]
 rw [show hsT n.hs[e.house] = .tup [.str n.hs[e.house].name,.tup (n.hs[e.house].asks.map qu)] from rfl]
 simp_arith
theorem zdy (h:RunAt kE kR (qg n) b r l M R) (wn:WN n) {a:Ask} (w:WA n i a):zW kE kR [.ref r,qu a] M = .ok (onT (n.pof a)) M:=by
 unfold zW zfX qu
 have hnt:=h.net
 unfold qg at hnt
 cases q:a.purse with
 | none=>
  have i1:∀ M,isN (opS none) .non M = .ok (.bl true) M:=fun _=>rfl
  have e1:n.pof a=none:=by unfold Net.pof;rw [q];rfl
  rw [e1]
  simp_arith [eIf,i1]
  rfl
 | some s=>
  have i1:∀ M,isN (opS (some s)) .non M = .ok (.bl false) M:=fun _=>rfl
  have e1:n.pof a=some (n.pix s):=by unfold Net.pof;rw [q];rfl
  rw [e1]
  have hk:=zgW kE kR n.ps (·.name) (fun p=>[.str p.earns,.int p.per]) (w.pu s q) (by have:=wn.pl;omega) M
  rw [show (n.ps.map fun p=>FT.T.tup (.str p.name::[.str p.earns,.int p.per]))=n.ps.map puT from rfl,show FT.T.str s=opS (some s) from rfl] at hk
  simp_arith [eIf,i1,zo,hnt,hk]
  rfl
noncomputable def Run.told (R:Run) (n:Net) (k:Nat):Int × Int:=((((R.puts.getD k []).length:Int) % (n.ps.getD k ⟨"","",1⟩).per),((R.puts.getD k []).length:Int) / (n.ps.getD k ⟨"","",1⟩).per-(R.taken.getD k 0:Nat))
theorem zm5 (h:RunAt kE kR (qg n) b r l M R) (wn:WN n) (hp:R.puts.length=n.ps.length) {k:Nat} (hk:k<n.ps.length):za1 kE kR [.ref r,nT k] M = .ok (.tup [.int (R.told n k).1,.int (R.told n k).2]) M:=by
 unfold za1 zeE
 have hpe:n.ps[k]? = some n.ps[k]:=Q0 hk
 have hu:R.puts[k]? = some (R.puts[k]'(by omega)):=Q0 _
 obtain ⟨x,hx,hc⟩:=h.at_p hu
 have ht:R.taken[k]? = some (R.taken[k]'(by have:=h.tl;omega)):=Q0 _
 have hper:=wn.pr n.ps[k] (getElem_mem _)
 have hnt:=h.net
 unfold qg at hnt
 have h2:atI (n.ps.map puT) (k:Int)=some (.tup [.str n.ps[k].name,.str n.ps[k].earns,.int n.ps[k].per]):=zp (f:=puT) hpe
 have ln:yz (.ref x) M = .ok (.int (((R.puts[k]'(by omega)).length:Nat):Int)) M:=by
  unfold yz yQ yo
  simp only [hc]
  simp
 have dv:∀ i M,zeg (.int i) (.int n.ps[k].per) M = .ok (.int (i.fdiv n.ps[k].per)) M:=fun i M=>zeY (zkh 100 (by decide) (by omega) (by
  refine Nat.lt_of_le_of_lt (show n.ps[k].per.natAbs<=10 ^ 7 from by simp only [Nat.reducePow];omega) (Nat.pow_lt_pow_right (by decide) (by decide))))
 have md:∀ i M,zbU (.int i) (.int n.ps[k].per) M = .ok (.int (i.fmod n.ps[k].per)) M:=fun i M=>zjl (by omega)
 have cm:qR kE kR [.ref r,nT k] M = .ok (.int ((((R.puts[k]'(by omega)).length:Nat):Int).fdiv n.ps[k].per)) M:=by
  unfold qR zc6
  simp_arith [zo,h.putsF,h.pu,zp (f:=FT.T.ref) hx,ln,hnt,h2,dv]
 simp_arith [zo,h.putsF,h.pu,zp (f:=FT.T.ref) hx,ln,hnt,h2,md,cm,h.takenF,h.tk,zp (f:=nT) ht]
 unfold Run.told
 rw [Q7,Q7,Q7,hu,hpe,ht,Q9 _ (by omega),Int.fdiv_eq_ediv_of_nonneg _ (by omega)]
 rfl
end
noncomputable def yp (h:Nat) (c:Option (Nat × Nat × Nat)):Er:=⟨h,c,.works,false,none,none⟩
noncomputable def Net.any (n:Net) (k:Nat):Bool:=(n.ps.getD k ⟨"","",1⟩).earns==("any":Str)
noncomputable def Run.share (R:Run) (n:Net) (a:Ask) (tr x:Nat):Run:=match n.pof a with
 | none=>R
 | some k=>if tr=1\/n.any k=true then R.setP k (R.puts.getD k []++[x]) else R
noncomputable def z7 (n:Net) (g:Run->Nat->Option (Nat × Nat × Nat)->Run) (R:Run) (num at' tr:Nat):Run:=match R.es[num]? with
 | none=>R
 | some e=>match (n.asks e.house)[at']? with
  | none=>R
  | some a=>g ((R.setE num { e with ph:=.waits at' tr,asked:=some R.es.length }).share n a tr R.es.length) (n.hix a.to) (some (num,at',tr))
noncomputable def zD (n:Net):Nat->Run->Nat->Option (Nat × Nat × Nat)->Run
 | 0,R,_,_=>R
 | f+1,R,h,c=>if n.asks h=[] then R.push (yp h c) else z7 n (zD n f) (R.push (yp h c)) R.es.length 0 1
structure SB (B:Nat) (R:Run):Prop where
 es:R.es.length<=B
 pu:∀ u ∈ R.puts,u.length<=B
 py:R.pays.length<=B
 tk:∀ v ∈ R.taken,v<=B
variable {B:Nat}
theorem SB.mono {C:Nat} (h:SB B R) (hc:B<=C):SB C R:=⟨Qj h.es hc,fun u hu=>Qj (h.pu u hu) hc,Qj h.py hc,fun v hv=>Qj (h.tk v hv) hc⟩
theorem SB.push (h:SB B R) (e:Er):SB (B+1) (R.push e):=⟨by simp [Run.push];exact h.es,fun u hu=>QI (h.pu u hu),QI h.py,fun v hv=>QI (h.tk v hv)⟩
theorem SB.setE (h:SB B R) (i:Nat) (e:Er):SB B (R.setE i e):=⟨by simp [Run.setE];exact h.es,h.pu,h.py,h.tk⟩
theorem mem_set {α:Type} {xs:List α} {k:Nat} {y v:α} (h:v ∈ xs.set k y):v ∈ xs\/v=y:=by
 obtain ⟨i,hi⟩:=mem_iff_getElem?.mp h
 rw [Qc] at hi
 split at hi
 ·split at hi
  ·exact .inr (by cases hi;rfl)
  ·cases hi
 ·exact .inl (Qa hi)
theorem SB.share (h:SB B R) (n:Net) (a:Ask) (tr x:Nat):SB (B+1) (R.share n a tr x):=by
 unfold Run.share
 split
 ·exact h.mono (by omega)
 ·rename_i k _
  split
  ·refine ⟨QI h.es,fun u hu=>?_,QI h.py,fun v hv=>QI (h.tk v hv)⟩
   rcases mem_set hu with hu | rfl
   ·exact QI (h.pu u hu)
   ·rw [Qn,Qt]
    by_cases hk:k<R.puts.length
    ·have:=h.pu (R.puts.getD k []) (by rw [Q7,Q0 hk];exact getElem_mem _)
     omega
    ·rw [Q7,getElem?_eq_none (by omega)]
     simp
  ·exact h.mono (by omega)
theorem zbG (R:Run) (n:Net) (a:Ask) (tr x:Nat):(R.share n a tr x).es=R.es/\(R.share n a tr x).puts.length=R.puts.length/\(R.share n a tr x).taken=R.taken/\(R.share n a tr x).pays=R.pays/\(R.share n a tr x).came=R.came:=by
 unfold Run.share
 split
 ·exact ⟨rfl,rfl,rfl,rfl,rfl⟩
 ·split
  ·exact ⟨rfl,by simp [Run.setP],rfl,rfl,rfl⟩
  ·exact ⟨rfl,rfl,rfl,rfl,rfl⟩
variable {kE kR:Addr} {q1 q2:X2} {at':Nat} {g:Run->Nat->Option (Nat × Nat × Nat)->Run}
section
variable {b r:Nat}
noncomputable def Lv (kE kR:Addr) (n:Net) (b r:Nat) (R':Run) (M:Mem):FT.T->Mem->Prop:=fun t M'=>t = .non/\Kp b M M'/\∃ l',RunAt kE kR (qg n) b r l' M' R'
theorem any_eq {k:Nat} {p:Pu} (h:n.ps[k]? = some p) (M:Mem):eqA (.str p.earns) (.str "any") M = .ok (.bl (n.any k)) M:=by
 unfold Net.any
 rw [Q7,h]
 rfl
theorem zkA (wn:WN n) (hB:B<100000) {num tr:Nat} {a:Ask} 
 (h:RunAt kE kR (qg n) b r l M R) (sb:SB B R) (hp:R.puts.length=n.ps.length) (he:R.es[num]? = some e) (hh:e.house<n.hs.length) (ha:(n.asks e.house)[at']? = some a)
 (hg:∀ (l:Lay) (M:Mem) (R':Run),R'=(R.setE num { e with ph:=.waits at' tr,asked:=some R.es.length }).share n a tr R.es.length->RunAt kE kR (qg n) b r l M R'->Ok (q2 [.ref r,nT (n.hix a.to),clT (some (num,at',tr))] M) (Lv kE kR n b r (g R' (n.hix a.to) (some (num,at',tr))) M)) :
  Ok (yi 4 7 (zbr kE kR q1 q2) [.ref r,nT num,nT at',nT tr] M) (Lv kE kR n b r (z7 n g R num at' tr) M):=by
 have w:=wn.as e.house a (Qa ha)
 have e0:z7 n g R num at' tr=g ((R.setE num { e with ph:=.waits at' tr,asked:=some R.es.length }).share n a tr R.es.length) (n.hix a.to) (some (num,at',tr)):=by
  unfold z7
  rw [he]
  dsimp only
  rw [ha]
 rw [e0]
 refine zx rfl ?_
 unfold zbr
 obtain ⟨x,hx,hc⟩:=h.at_e he
 have ln:yz (.ref l.a) M = .ok (nT R.es.length) M:=by
  unfold yz yQ yo
  simp only [h.er]
  simp [h.el]
 obtain ⟨h1,bx⟩:=h.setE hx he { e with ph:=.waits at' tr }
 have s1:=zba (f:="state") (y:=.tup [.str "waits",nT at',nT tr]) (fs':=erF { e with ph:=.waits at' tr }) hc rfl (by simp [erF])
 have he1:(R.setE num { e with ph:=.waits at' tr }).es[num]? = some { e with ph:=.waits at' tr }:=by
  show (R.es.set num _)[num]? = _
  rw [Qc,Qy rfl,Qy (Qx.mp he).1]
 obtain ⟨h2,_⟩:=h1.setE hx he1 { e with ph:=.waits at' tr,asked:=some R.es.length }
 have ss:(R.setE num { e with ph:=.waits at' tr }).setE num { e with ph:=.waits at' tr,asked:=some R.es.length }=R.setE num { e with ph:=.waits at' tr,asked:=some R.es.length }:=by
  show ({ R with es:=(R.es.set num _).set num _ }:Run)=_
  rw [List.set_set]
  rfl
 rw [ss] at h2
 have hc1:(M.set x (.ins kE (erF { e with ph:=.waits at' tr })))[x]? = some (.ins kE (erF { e with ph:=.waits at' tr })):=get_set hc
 have s2:=zba (f:="asked") (y:=nT R.es.length) (fs':=erF { e with ph:=.waits at' tr,asked:=some R.es.length }) hc1 rfl (by simp [erF])
 simp_arith [zX h he hh,zp (f:=qu) ha,zo,h.errands,ln,zG,h.er,zp (f:=FT.T.ref) hx,s1,h1.errands,h1.er,s2,zdy h2 wn w]
 generalize hM2:(M.set x (.ins kE (erF { e with ph:=.waits at' tr }))).set x (.ins kE (erF { e with ph:=.waits at' tr,asked:=some R.es.length }))=M2 at h2 ⊢
 have k2:Kp b M M2:=by rw [← hM2];exact (Kp.set _ _ bx).trans (Kp.set _ _ bx)
 have hnt:=h2.net
 have fin:∀ (l3:Lay) (M3:Mem),Kp b M M3->RunAt kE kR (qg n) b r l3 M3 ((R.setE num { e with ph:=.waits at' tr,asked:=some R.es.length }).share n a tr R.es.length)->
   Ok ((zaB kE kR [qg n,qu a] M3).bind fun y M=>(q2 [.ref r,y,.tup [nT num,nT at',nT tr]] M).bind fun _ M=>.ok .non M) (Lv kE kR n b r (g ((R.setE num { e with ph:=.waits at' tr,asked:=some R.es.length }).share n a tr R.es.length) (n.hix a.to) (some (num,at',tr))) M):=by
  intro l3 M3 k3 h3
  rw [zmM wn w]
  simp_arith
  refine Ok.bind (hg l3 M3 _ rfl h3) ?_
  rintro t M4 ⟨rfl,k4,l4,h4⟩
  try simp_arith
  exact Ok.ret ⟨rfl,k3.trans k4,l4,h4⟩
 cases q:n.pof a with
 | none=>
  have i1:∀ M,zaa (onT none) .non M = .ok (.bl false) M:=fun _=>rfl
  have e1:(R.setE num { e with ph:=.waits at' tr,asked:=some R.es.length }).share n a tr R.es.length=R.setE num { e with ph:=.waits at' tr,asked:=some R.es.length }:=by unfold Run.share;rw [q]
  simp_arith [i1,hnt]
  exact fin l M2 k2 (by rw [e1];exact h2)
 | some k=>
  have hk:=w.plt q
  rw [show onT (some k) = .int (k:Int) from rfl]
  have i1:∀ M,zaa (.int (k:Int)) .non M = .ok (.bl true) M:=fun _=>rfl
  have hu:(R.setE num { e with ph:=.waits at' tr,asked:=some R.es.length }).puts[k]? = some (R.puts[k]'(by omega)):=Q0 (show k<R.puts.length by omega)
  obtain ⟨y,hy,hcy⟩:=h2.at_p hu
  have gd:R.puts.getD k []=R.puts[k]'(by omega):=by rw [Q7,Q0 (show k<R.puts.length by omega)];rfl
  obtain ⟨h3,by3⟩:=h2.setP hy hu (R.puts.getD k []++[R.es.length])
  have ap:=zO (t:=nT R.es.length) hcy (by rw [Qh,sizeLine_eq];have:=sb.pu _ (getElem_mem (show k<R.puts.length by omega));omega)
  have hps:n.ps[k]? = some n.ps[k]:=Q0 hk
  have hpa:atI (n.ps.map puT) (k:Int)=some (.tup [.str n.ps[k].name,.str n.ps[k].earns,.int n.ps[k].per]):=zp (f:=puT) hps
  have lc:qD (.ref y) M2 = .ok (.ref y) M2:=qE hcy
  unfold qg at hnt
  by_cases hs:tr=1\/n.any k=true
  ·have e1:(R.setE num { e with ph:=.waits at' tr,asked:=some R.es.length }).share n a tr R.es.length=(R.setE num { e with ph:=.waits at' tr,asked:=some R.es.length }).setP k (R.puts.getD k []++[R.es.length]):=by
    unfold Run.share
    rw [q]
    dsimp only
    rw [Qy hs]
    rfl
   have h3':RunAt kE kR (qg n) b r l (M2.set y (.lst (((R.puts[k]'(by omega)).map nT)++[nT R.es.length]))) ((R.setE num { e with ph:=.waits at' tr,asked:=some R.es.length }).share n a tr R.es.length):=by
    rw [e1,gd]
    rw [gd,Qq] at h3
    exact h3
   have k3:Kp b M (M2.set y (.lst (((R.puts[k]'(by omega)).map nT)++[nT R.es.length]))):=k2.trans (Kp.set _ _ by3)
   have fn:=fin l _ k3 h3'
   have hn3:=h3'.net
   by_cases z:tr=1
   ·have zt:((tr:Int)==1)=true:=by rw [z];rfl
    simp_arith [i1,zt,h2.putsF,h2.pu,zp (f:=FT.T.ref) hy,lc,ap,hn3]
    exact fn
   ·have zt:((tr:Int)==1)=false:=by simp;omega
    have ha':n.any k=true:=hs.resolve_left z
    simp_arith [i1,zt,hnt,hpa,any_eq hps,ha',h2.putsF,h2.pu,zp (f:=FT.T.ref) hy,lc,ap,hn3]
    exact fn
  ·have e1:(R.setE num { e with ph:=.waits at' tr,asked:=some R.es.length }).share n a tr R.es.length=R.setE num { e with ph:=.waits at' tr,asked:=some R.es.length }:=by
    unfold Run.share
    rw [q]
    dsimp only
    rw [Qz hs]
   have zt:((tr:Int)==1)=false:=by
    have:¬ tr=1:=fun z=>hs (.inl z)
    simp;omega
   have ha':n.any k=false:=by
    cases z:n.any k with
    | false=>rfl
    | true=>exact absurd (.inr z) hs
   have fn:=fin l M2 k2 (by rw [e1];exact h2)
   unfold qg at fn
   simp_arith [i1,zt,hnt,hpa,any_eq hps,ha']
   exact fn
theorem zbg (R:Run) (e:Er):(R.push e).es[R.es.length]? = some e:=List.getElem?_concat_length
theorem ziK (wn:WN n):∀ (f m:Nat),2*f<=m->∀ {B:Nat} {h:Nat} {c:Option (Nat × Nat × Nat)} {l:Lay} {M:Mem} {R:Run},B+2*f<100000->RunAt kE kR (qg n) b r l M R->b<=M.length->SB B R->R.puts.length=n.ps.length->h<n.hs.length->n.hs.length<=h+f->
  Ok ((yj kE kR m).2 [.ref r,nT h,clT c] M) (Lv kE kR n b r (zD n f R h c) M)
 | 0,m,_,B,h,c,l,M,R,_,_,_,_,_,hh,hf=>absurd hh (by omega)
 | f+1,0,hm,B,h,c,l,M,R,_,_,_,_,_,hh,hf=>absurd hm (by omega)
 | f+1,m+1,hm,B,h,c,l,M,R,hB,ra,hbM,sb,hp,hh,hf=>by
  show Ok (yi 3 4 (zbi kE kR (yj kE kR m).1 (yj kE kR m).2) [.ref r,nT h,clT c] M) _
  refine zx rfl ?_
  unfold zbi
  have i0:zZ kE kR [.ref M.length,nT h,clT c] (M++[.ins kE []]) = .ok .non (M++[.ins kE (erF (yp h c))]):=by
   unfold zZ zem
   have st:∀ (fs fs':List (Str × FT.T)) (f:Str) (y:FT.T),zc2 f y fs=fs'->fs.length<1000->zaT [kE] f (.ref M.length) y (M++[.ins kE fs]) = .ok () (M++[.ins kE fs']):=fun fs fs' f y e hl=>by
    rw [zba (x:=M.length) yM e hl]
    congr 1
    rw [set_append_right _ _ (Q3 _),Qu]
    rfl
   simp_arith [zG,st [] [("house",nT h)] "house" (nT h) rfl (by simp),st [("house",nT h)] [("house",nT h),("caller",clT c)] "caller" (clT c) rfl (by simp),st [("house",nT h),("caller",clT c)] [("house",nT h),("caller",clT c),("state",.tup [.str "works"])] "state" (.tup [.str "works"]) rfl (by simp),st [("house",nT h),("caller",clT c),("state",.tup [.str "works"])] [("house",nT h),("caller",clT c),("state",.tup [.str "works"]),("is_lost",.bl false)] "is_lost" (.bl false) rfl (by simp),st [("house",nT h),("caller",clT c),("state",.tup [.str "works"]),("is_lost",.bl false)] [("house",nT h),("caller",clT c),("state",.tup [.str "works"]),("is_lost",.bl false),("asked",.non)] "asked" .non rfl (by simp),st [("house",nT h),("caller",clT c),("state",.tup [.str "works"]),("is_lost",.bl false),("asked",.non)] (erF (yp h c)) "stood" .non rfl (by simp)]
  have ra1:=ra.push hbM (yp h c)
  have er1:(M++[Cell.ins kE (erF (yp h c))])[l.a]? = some (.lst (l.es.map .ref)):=by rw [Q6 (qA ra.er)];exact ra.er
  have ap:=zO (t:=.ref M.length) er1 (by rw [Qh,sizeLine_eq,ra.el];have:=sb.es;omega)
  rw [show l.es.map FT.T.ref++[.ref M.length]=(l.es++[M.length]).map .ref from by simp] at ap
  have kp:Kp b M ((M++[Cell.ins kE (erF (yp h c))]).set l.a (.lst ((l.es++[M.length]).map .ref))):=(Kp.app _ _ hbM).trans (Kp.set _ _ (ra.lo (l.a,.lst (l.es.map .ref)) (.tail _ (.head _))))
  have mk:zdo kE (zZ kE kR) (zb (yb 1) (zb (yb 2) ze)) [some (.ref r),some (nT h),some (clT c),none] M = .ok (.ref M.length) (M++[.ins kE (erF (yp h c))]):=by
   simp_arith [zdo,i0]
   rfl
  simp_arith [zo,ra.errands,qE ra.er,mk,ap]
  generalize hM1:(M++[Cell.ins kE (erF (yp h c))]).set l.a (.lst ((l.es++[M.length]).map .ref))=M1 at ra1 kp ⊢
  have ln:yz (.ref l.a) M1 = .ok (.int ((R.es.length:Int)+1)) M1:=by
   unfold yz yQ yo
   have:=ra1.er
   simp only at this
   simp only [this]
   simp [ra.el]
  have sub1:(R.es.length:Int)+1-1=(R.es.length:Int):=by omega
  have hn1:(R.push (yp h c)).es[R.es.length]? = some (yp h c):=zbg R _
  have as1:=zX ra1 hn1 hh
  simp_arith [ra1.errands,ln,sub1,as1]
  by_cases h0:n.asks h=[]
  ·have e1:zD n (f+1) R h c=R.push (yp h c):=by unfold zD;rw [Qy h0]
   rw [e1]
   have:(yp h c).house=h:=rfl
   rw [this,h0]
   simp_arith
   exact Ok.ret ⟨rfl,kp,_,ra1⟩
  ·have e1:zD n (f+1) R h c=z7 n (zD n f) (R.push (yp h c)) R.es.length 0 1:=by rw [zD,Qz h0]
   rw [e1]
   obtain ⟨a,as,hq⟩:=List.exists_cons_of_ne_nil h0
   have ha:(n.asks (yp h c).house)[0]? = some a:=by show (n.asks h)[0]? = _;rw [hq];rfl
   have w:=wn.as h a (by rw [hq];exact .head _)
   have hlen:decide ((0:Int)<(((n.asks (yp h c).house).map qu).length:Int))=true:=Qv (by
    rw [Qh]
    show (0:Int)<((n.asks h).length:Int)
    rw [hq];simp)
   simp_arith [hlen]
   obtain ⟨m',rfl⟩:∃ m',m=m'+1:=⟨m-1,by omega⟩
   refine Ok.bind (zkA wn (q1:=(yj kE kR m').1) (q2:=(yj kE kR m').2) (g:=zD n f) (B:=B+1) (by omega) ra1 (sb.push _) hp hn1 hh ha ?_) ?_
   ·intro l3 M3 R3 e3 ra3
    have hM3:b<=M3.length:=Qj (ra3.lo _ (.head _)) (Nat.le_of_lt (qA ra3.run))
    have sl:=zbG ((R.push (yp h c)).setE R.es.length { yp h c with ph:=.waits 0 1,asked:=some (R.push (yp h c)).es.length }) n a 1 (R.push (yp h c)).es.length
    refine ziK wn f m' (by omega) (B:=B+2) (by omega) ra3 hM3 ?_ ?_ (by exact w.lt) (by have:=w.up;omega)
    ·rw [e3]
     exact ((sb.push _).setE _ _).share n a 1 _
    ·rw [e3,sl.2.1]
     exact hp
   ·rintro t M2 ⟨rfl,k2,l2,h2⟩
    try simp_arith
    exact Ok.ret ⟨rfl,kp.trans k2,l2,h2⟩
end
noncomputable def zay (n:Net) (g:Run->Nat->Str->Run) (R:Run) (c:Nat × Nat × Nat) (w:Str):Run:=match R.es[c.1]? with
 | none=>R
 | some e=>if (w==("well":Str))=true/\c.2.1+1<(n.asks e.house).length then z7 n (zD n 4) R c.1 (c.2.1+1) 1
  else if (w==("well":Str))=true\/((w==("spent":Str))=true/\((n.asks e.house)[c.2.1]?).any (·.hears)=true) then g R c.1 w
  else R.setE c.1 { e with ph:=.stands c.2.1 c.2.2,stood:=some R.came }
noncomputable def zK (n:Net):Nat->Run->Nat->Str->Run
 | 0,R,_,_=>R
 | f+1,R,i,w=>match R.es[i]? with
  | none=>R
  | some e=>match e.caller with
   | none=>R.setE i { e with ph:=.ended w }
   | some c=>if e.lost=true then R.setE i { e with ph:=.ended w } else zay n (zK n f) (R.setE i { e with ph:=.ended w }) c w
def zeA (n:Net) (e:Er):Prop:=match e.ph with
 | .waits a t=>a<(n.asks e.house).length/\1<=t
 | .stands a t=>a<(n.asks e.house).length/\e.stood.isSome=true/\1<=t
 | _=>True
structure RI (n:Net) (R:Run):Prop where
 hs:∀ (i:Nat) (e:Er),R.es[i]? = some e->e.house<n.hs.length
 cl:∀ (i:Nat) (e:Er) (c:Nat × Nat × Nat),R.es[i]? = some e->e.caller=some c->c.1<i/\∃ ce,R.es[c.1]? = some ce/\ce.house<e.house/\c.2.1<(n.asks ce.house).length
 ph:∀ (i:Nat) (e:Er),R.es[i]? = some e->zeA n e
 pl:R.puts.length=n.ps.length
variable {e' q:Er} {j:Nat}
theorem zan {es:List Er} (h:(es.set i e')[j]? = some q):(j=i/\q=e'/\i<es.length)\/(j ≠ i/\es[j]? = some q):=by
 rw [Qc] at h
 split at h
 ·rename_i z
  split at h
  ·cases h;exact .inl ⟨z.symm,rfl,by omega⟩
  ·cases h
 ·rename_i z
  exact .inr ⟨fun y=>z y.symm,h⟩
theorem RI.setE (h:RI n R) (he:R.es[i]? = some e) (h1:e'.house=e.house) (h2:e'.caller=e.caller) (h3:zeA n e'):RI n (R.setE i e'):=by
 have fwd:∀ {j:Nat} {q:Er},R.es[j]? = some q->∃ q',(R.setE i e').es[j]? = some q'/\q'.house=q.house:=fun {j q} hq=>by
  show ∃ q',(R.es.set i e')[j]? = some q'/\_
  rw [Qc]
  by_cases z:i=j
  ·rw [Qy z,Qy (Qx.mp he).1]
   subst z
   rw [he] at hq
   cases hq
   exact ⟨e',rfl,h1⟩
  ·rw [Qz z];exact ⟨q,hq,rfl⟩
 refine ⟨fun j q hq=>?_,fun j q c hq hc=>?_,fun j q hq=>?_,h.pl⟩
 ·rcases zan hq with ⟨rfl,rfl,_⟩ | ⟨_,hq⟩
  ·rw [h1];exact h.hs _ _ he
  ·exact h.hs _ _ hq
 ·rcases zan hq with ⟨rfl,rfl,_⟩ | ⟨_,hq⟩
  ·rw [h2] at hc
   obtain ⟨a,ce,b1,b2,b3⟩:=h.cl _ _ _ he hc
   obtain ⟨q',d1,d2⟩:=fwd b1
   exact ⟨a,q',d1,by rw [d2,h1];exact b2,by rw [d2];exact b3⟩
  ·obtain ⟨a,ce,b1,b2,b3⟩:=h.cl _ _ _ hq hc
   obtain ⟨q',d1,d2⟩:=fwd b1
   exact ⟨a,q',d1,by rw [d2];exact b2,by rw [d2];exact b3⟩
 ·rcases zan hq with ⟨rfl,rfl,_⟩ | ⟨_,hq⟩
  ·exact h3
  ·exact h.ph _ _ hq
section
variable {b r:Nat}
theorem zdn (w s:Str) (M:Mem):eqA (.str w) (.str s) M = .ok (.bl (w==s)) M:=rfl
theorem zeQ (w s:Str) (M:Mem):neA (.str w) (.str s) M = .ok (.bl (!(w==s))) M:=rfl
theorem zi8 (wn:WN n) (hB:B<90000) {num tr:Nat} {a:Ask} 
 (h:RunAt kE kR (qg n) b r l M R) (sb:SB B R) (hp:R.puts.length=n.ps.length) (he:R.es[num]? = some e) (hh:e.house<n.hs.length) (ha:(n.asks e.house)[at']? = some a) :
  Ok (zak kE kR [.ref r,nT num,nT at',nT tr] M) (Lv kE kR n b r (z7 n (zD n 4) R num at' tr) M):=by
 show Ok (yi 4 7 (zbr kE kR (yj kE kR 11).1 (yj kE kR 11).2) [.ref r,nT num,nT at',nT tr] M) _
 have w:=wn.as e.house a (Qa ha)
 refine zkA wn (B:=B) (by omega) h sb hp he hh ha ?_
 intro l3 M3 R3 e3 ra3
 have hM3:b<=M3.length:=Qj (ra3.lo _ (.head _)) (Nat.le_of_lt (qA ra3.run))
 have sl:=zbG (R.setE num { e with ph:=.waits at' tr,asked:=some R.es.length }) n a tr R.es.length
 refine ziK wn 4 11 (by omega) (B:=B+1) (by omega) ra3 hM3 (by rw [e3];exact (sb.setE _ _).share n a tr _) (by rw [e3,sl.2.1];exact hp) w.lt (by have:=wn.hl;omega)
theorem zjr (wn:WN n) {g:Run->Nat->Str->Run} (hB:B<90000) {c:Nat × Nat × Nat} {w:Str} 
 (h:RunAt kE kR (qg n) b r l M R) (sb:SB B R) (ri:RI n R) (he:R.es[c.1]? = some e) (hat:c.2.1<(n.asks e.house).length)
 (hg:Ok (q1 [.ref r,nT c.1,.str w] M) (Lv kE kR n b r (g R c.1 w) M)) :
  Ok (yi 3 6 (zeF kE kR q1 q2) [.ref r,clT (some c),.str w] M) (Lv kE kR n b r (zay n g R c w) M):=by
 have hh:=ri.hs _ _ he
 generalize hR:zay n g R c w=R'
 have e0:R'=if (w==("well":Str))=true/\c.2.1+1<(n.asks e.house).length then z7 n (zD n 4) R c.1 (c.2.1+1) 1
  else if (w==("well":Str))=true\/((w==("spent":Str))=true/\((n.asks e.house)[c.2.1]?).any (·.hears)=true) then g R c.1 w
  else R.setE c.1 { e with ph:=.stands c.2.1 c.2.2,stood:=some R.came }:=by
  rw [← hR]
  unfold zay
  rw [he]
 obtain ⟨x,hx,hc⟩:=h.at_e he
 have ha:(n.asks e.house)[c.2.1]? = some (n.asks e.house)[c.2.1]:=Q0 hat
 have haa:atI ((n.asks e.house).map qu) (c.2.1:Int)=some (.tup [.str (n.asks e.house)[c.2.1].to,.int (n.asks e.house)[c.2.1].tries,opS (n.asks e.house)[c.2.1].purse,.str (n.asks e.house)[c.2.1].word,.bl (n.asks e.house)[c.2.1].hears,.bl (n.asks e.house)[c.2.1].sure]):=zp (f:=qu) ha
 have a4:∀ (t0 t1 t2 t3 t4 t5:FT.T),atI [t0,t1,t2,t3,t4,t5] 4=some t4:=fun _ _ _ _ _ _=>rfl
 refine zx rfl ?_
 unfold zeF
 rw [show clT (some c) = .tup [nT c.1,nT c.2.1,nT c.2.2] from rfl]
 have hl:(((n.asks e.house).map qu).length:Int)=((n.asks e.house).length:Int):=by rw [Qh]
 simp_arith [zX h he hh,zdn,hl]
 have s1:=zba (f:="state") (y:=.tup [.str "stands",nT c.2.1,nT c.2.2]) (fs':=erF { e with ph:=.stands c.2.1 c.2.2 }) hc rfl (by simp [erF])
 obtain ⟨h1,bx⟩:=h.setE hx he { e with ph:=.stands c.2.1 c.2.2 }
 have hc1:(M.set x (.ins kE (erF { e with ph:=.stands c.2.1 c.2.2 })))[x]? = some (.ins kE (erF { e with ph:=.stands c.2.1 c.2.2 })):=get_set hc
 have s2:=zba (f:="stood") (y:=nT R.came) (fs':=erF { e with ph:=.stands c.2.1 c.2.2,stood:=some R.came }) hc1 rfl (by simp [erF])
 have he1:(R.setE c.1 { e with ph:=.stands c.2.1 c.2.2 }).es[c.1]? = some { e with ph:=.stands c.2.1 c.2.2 }:=by
  show (R.es.set c.1 _)[c.1]? = _
  rw [Qc,Qy rfl,Qy (Qx.mp he).1]
 obtain ⟨h2,_⟩:=h1.setE hx he1 { e with ph:=.stands c.2.1 c.2.2,stood:=some R.came }
 have ss:(R.setE c.1 { e with ph:=.stands c.2.1 c.2.2 }).setE c.1 { e with ph:=.stands c.2.1 c.2.2,stood:=some R.came }=R.setE c.1 { e with ph:=.stands c.2.1 c.2.2,stood:=some R.came }:=by
  show ({ R with es:=(R.es.set c.1 _).set c.1 _ }:Run)=_
  rw [List.set_set]
  rfl
 rw [ss] at h2
 have k2:Kp b M ((M.set x (.ins kE (erF { e with ph:=.stands c.2.1 c.2.2 }))).set x (.ins kE (erF { e with ph:=.stands c.2.1 c.2.2,stood:=some R.came }))):=(Kp.set _ _ bx).trans (Kp.set _ _ bx)
 have ca:zaQ [kR] "came" (.ref r) (M.set x (.ins kE (erF { e with ph:=.stands c.2.1 c.2.2 }))) = .ok (nT R.came) (M.set x (.ins kE (erF { e with ph:=.stands c.2.1 c.2.2 }))):=h1.came
 by_cases hw:(w==("well":Str))=true
 ·by_cases hl2:c.2.1+1<(n.asks e.house).length
  ·rw [Qy ⟨hw,hl2⟩] at e0
   rw [e0]
   have d1:decide ((c.2.1:Int)+1<((n.asks e.house).length:Int))=true:=Qv (by omega)
   simp_arith [hw,d1]
   refine Ok.bind (zi8 wn hB h sb ri.pl he hh (at':=c.2.1+1) (tr:=1) (Q0 hl2)) ?_
   rintro t M2 ⟨rfl,k2,l2,h2⟩
   try simp_arith
   exact Ok.ret ⟨rfl,k2,l2,h2⟩
  ·rw [Qz fun z=>hl2 z.2,Qy (.inl hw)] at e0
   rw [e0]
   have d1:decide ((c.2.1:Int)+1<((n.asks e.house).length:Int))=false:=Qw (by omega)
   simp_arith [hw,d1]
   refine Ok.bind hg ?_
   rintro t M2 ⟨rfl,k2,l2,h2⟩
   try simp_arith
   exact Ok.ret ⟨rfl,k2,l2,h2⟩
 ·have hw':(w==("well":Str))=false:=by simpa using hw
  rw [Qz fun z=>hw z.1] at e0
  by_cases hs:(w==("spent":Str))=true
  ·by_cases hh2:(n.asks e.house)[c.2.1].hears=true
   ·rw [Qy (.inr ⟨hs,by rw [ha];exact hh2⟩)] at e0
    rw [e0]
    simp_arith [hw',hs,haa,a4,hh2]
    refine Ok.bind hg ?_
    rintro t M2 ⟨rfl,k2,l2,h2⟩
    try simp_arith
    exact Ok.ret ⟨rfl,k2,l2,h2⟩
   ·have hh3:(n.asks e.house)[c.2.1].hears=false:=by simpa using hh2
    rw [Qz (by
     rintro (z | ⟨_,z⟩)
     ·exact hw z
     ·rw [ha] at z;exact hh2 z)] at e0
    rw [e0]
    simp_arith [hw',hs,haa,a4,hh3,zG,zo,h.errands,h.er,zp (f:=FT.T.ref) hx,s1,ca,h1.errands,h1.er,s2]
    exact Ok.ret ⟨rfl,k2,l,h2⟩
  ·have hs':(w==("spent":Str))=false:=by simpa using hs
   rw [Qz (by
    rintro (z | ⟨z,_⟩)
    ·exact hw z
    ·exact hs z)] at e0
   rw [e0]
   simp_arith [hw',hs',zG,zo,h.errands,h.er,zp (f:=FT.T.ref) hx,s1,ca,h1.errands,h1.er,s2]
   exact Ok.ret ⟨rfl,k2,l,h2⟩
theorem ziu (wn:WN n):∀ (f m:Nat),2*f<=m->∀ {B i:Nat} {w:Str} {e:Er} {l:Lay} {M:Mem} {R:Run},B<90000->RunAt kE kR (qg n) b r l M R->SB B R->RI n R->R.es[i]? = some e->e.house<f->
  Ok ((yu kE kR m).1 [.ref r,nT i,.str w] M) (Lv kE kR n b r (zK n f R i w) M)
 | 0,m,_,B,i,w,e,l,M,R,_,_,_,_,_,hf=>absurd hf (by omega)
 | f+1,0,hm,B,i,w,e,l,M,R,_,_,_,_,_,hf=>absurd hm (by omega)
 | f+1,m+1,hm,B,i,w,e,l,M,R,hB,h,sb,ri,he,hf=>by
  show Ok (yi 3 4 (zbW kE kR (yu kE kR m).1 (yu kE kR m).2) [.ref r,nT i,.str w] M) _
  refine zx rfl ?_
  unfold zbW
  obtain ⟨x,hx,hc⟩:=h.at_e he
  have s1:=zba (f:="state") (y:=.tup [.str "ended",.str w]) (fs':=erF { e with ph:=.ended w }) hc rfl (by simp [erF])
  obtain ⟨h1,bx⟩:=h.setE hx he { e with ph:=.ended w }
  have hc1:(M.set x (.ins kE (erF { e with ph:=.ended w })))[x]? = some (.ins kE (erF { e with ph:=.ended w })):=get_set hc
  have f1:=yT (f:="caller") hc1 rfl
  have f2:=yT (f:="is_lost") hc1 rfl
  have k1:Kp b M (M.set x (.ins kE (erF { e with ph:=.ended w }))):=Kp.set _ _ bx
  generalize hR:zK n (f+1) R i w=R'
  simp_arith [zo,h.errands,h.er,zp (f:=FT.T.ref) hx,zG,s1,f1]
  generalize hM1:M.set x (.ins kE (erF { e with ph:=.ended w }))=M1 at h1 f1 f2 k1 ⊢
  cases q:e.caller with
  | none=>
   have e1:zK n (f+1) R i w=R.setE i { e with ph:=.ended w }:=by unfold zK;rw [he];dsimp only;rw [q]
   have i1:∀ M,zaa (clT none) .non M = .ok (.bl false) M:=fun _=>rfl
   rw [← hR,e1]
   have q':({ e with ph:=.ended w }:Er).caller=none:=q
   rw [q] at f1
   simp_arith [i1]
   exact Ok.ret ⟨rfl,k1,l,h1⟩
  | some c=>
   have i1:∀ M,zaa (clT (some c)) .non M = .ok (.bl true) M:=fun _=>rfl
   cases ql:e.lost with
   | true=>
    have e1:zK n (f+1) R i w=R.setE i { e with ph:=.ended w }:=by unfold zK;rw [he];dsimp only;rw [q];dsimp only;rw [Qy ql]
    rw [← hR,e1]
    rw [ql] at f2
    simp_arith [i1,f2]
    exact Ok.ret ⟨rfl,k1,l,h1⟩
   | false=>
    have e1:zK n (f+1) R i w=zay n (zK n f) (R.setE i { e with ph:=.ended w }) c w:=by rw [zK,he];dsimp only;rw [q];dsimp only;rw [Qz (by rw [ql];simp)]
    rw [← hR,e1]
    rw [ql] at f2
    rw [q] at f1
    have ri1:RI n (R.setE i { e with ph:=.ended w }):=ri.setE he rfl rfl True.intro
    have hei:(R.setE i { e with ph:=.ended w }).es[i]? = some { e with ph:=.ended w }:=by
     show (R.es.set i _)[i]? = _
     rw [Qc,Qy rfl,Qy (Qx.mp he).1]
    obtain ⟨_,ce,c1,c2,c3⟩:=ri1.cl i _ c hei q
    obtain ⟨m',rfl⟩:∃ m',m=m'+1:=⟨m-1,by omega⟩
    simp_arith [i1,f2,f1]
    refine Ok.bind (zjr wn (q1:=(yu kE kR m').1) (q2:=(yu kE kR m').2) (g:=zK n f) hB h1 (sb.setE _ _) ri1 c1 c3 ?_) ?_
    ·exact ziu wn f m' (by omega) hB h1 (sb.setE _ _) ri1 c1 (by have c2':ce.house<e.house:=c2;omega)
    ·rintro t M2 ⟨rfl,k2,l2,h2⟩
     try simp_arith
     exact Ok.ret ⟨rfl,k1.trans k2,l2,h2⟩
end
inductive Evt where
 | fresh
 | ends (i:Nat) (w:Str)
 | lost (i:Nat)
 | again (i:Nat)
 | up (i:Nat)
noncomputable def evT:Evt->FT.T
 | .fresh=>.tup [.str "fresh"]
 | .ends i w=>.tup [.str "ends",nT i,.str w]
 | .lost i=>.tup [.str "lost",nT i]
 | .again i=>.tup [.str "again",nT i]
 | .up i=>.tup [.str "up",nT i]
noncomputable def Ph.isW:Ph->Bool
 | .works=>true
 | _=>false
noncomputable def Ph.isS:Ph->Bool
 | .stands _ _=>true
 | _=>false
noncomputable def Ph.isE:Ph->Bool
 | .ended _=>true
 | _=>false
noncomputable def Ph.at1:Ph->Nat
 | .waits a _=>a
 | .stands a _=>a
 | _=>0
noncomputable def Ph.at2:Ph->Nat
 | .waits _ t=>t
 | .stands _ t=>t
 | _=>0
noncomputable def Run.er (R:Run) (i:Nat):Er:=R.es.getD i (yp 0 none)
theorem z3 (h:R.es[i]? = some e):R.er i=e:=by unfold Run.er;rw [Q7,h];rfl
noncomputable def Net.ask (n:Net) (h k:Nat):Ask:=(n.asks h).getD k ⟨"",0,none,"",false,false⟩
theorem zbz {h k:Nat} {a:Ask} (e:(n.asks h)[k]? = some a):n.ask h k=a:=by unfold Net.ask;rw [Q7,e];rfl
noncomputable def zU (n:Net) (R:Run) (e:Er):Bool:=match e.caller with
 | none=>false
 | some c=>!(e.lost || e.ph.isE) && !(n.ask (R.er c.1).house c.2.1).sure
noncomputable def zJ (n:Net) (e:Er):Bool:=e.ph.isS && ((n.ask e.house e.ph.at1).tries==0 || decide ((e.ph.at2:Int)<(n.ask e.house e.ph.at1).tries))
noncomputable def yZ (n:Net) (R:Run) (e:Er):Bool:=match n.pof (n.ask e.house e.ph.at1) with
 | none=>true
 | some k=>decide (0<(R.told n k).2)
noncomputable def zap (n:Net) (R:Run) (i:Nat):List Evt:=(if (R.er i).ph.isW=true then [.ends i "bad",.ends i "spent",.ends i "well"] else [])++(if zU n R (R.er i)=true then [.lost i] else [])++(if zJ n (R.er i)=true then [.again i] else [])++(if (R.er i).ph.isS=true then [.up i] else [])
noncomputable def Evt.isA:Evt->Bool
 | .again _=>true
 | _=>false
noncomputable def zaC (n:Net) (R:Run) (i:Nat):List Evt:=(zap n R i).filter fun ev=>!ev.isA || yZ n R (R.er i)
variable {xs:List FT.T}
section
variable {b r:Nat}
theorem phW (p:Ph) (M:Mem):∃ t ts,phT p = .tup (t::ts)/\eqA t (.str "works") M = .ok (.bl p.isW) M/\eqA t (.str "stands") M = .ok (.bl p.isS) M/\neA t (.str "stands") M = .ok (.bl (!p.isS)) M/\eqA t (.str "ended") M = .ok (.bl p.isE) M:=by
 cases p with
 | works=>exact ⟨_,_,rfl,rfl,rfl,rfl,rfl⟩
 | waits a t=>exact ⟨_,_,rfl,rfl,rfl,rfl,rfl⟩
 | stands a t=>exact ⟨_,_,rfl,rfl,rfl,rfl,rfl⟩
 | ended w=>exact ⟨_,_,rfl,rfl,rfl,rfl,rfl⟩
theorem phS {p:Ph} (h:p.isS=true):phT p = .tup [.str "stands",nT p.at1,nT p.at2]:=by
 cases p with
 | stands a t=>rfl
 | _=>cases h
theorem zct (h:e.ph.isS=true) (k:zeA n e):e.ph.at1<(n.asks e.house).length:=by
 unfold zeA at k
 cases q:e.ph with
 | stands a t=>rw [q] at k;exact k.1
 | _=>rw [q] at h;cases h
theorem ziW (h:RunAt kE kR (qg n) b r l M R) (ri:RI n R) (he:R.es[i]? = some e):zaD kE kR [.ref r,nT i] M = .ok (.bl (zU n R e)) M:=by
 unfold zaD zel
 obtain ⟨x,hx,hc⟩:=h.at_e he
 have f1:=yT (f:="caller") hc rfl
 have f2:=yT (f:="is_lost") hc rfl
 have f3:=yT (f:="state") hc rfl
 obtain ⟨t,ts,p1,_,_,_,p4⟩:=phW e.ph M
 rw [p1] at f3
 unfold zU
 cases q:e.caller with
 | none=>
  rw [q] at f1
  have i1:∀ M,isN (clT none) .non M = .ok (.bl true) M:=fun _=>rfl
  simp_arith [zo,h.errands,h.er,zp (f:=FT.T.ref) hx,f1,i1]
 | some c=>
  rw [q] at f1
  have i1:∀ M,isN (.tup [nT c.1,nT c.2.1,nT c.2.2]) .non M = .ok (.bl false) M:=fun _=>rfl
  rw [show clT (some c) = .tup [nT c.1,nT c.2.1,nT c.2.2] from rfl] at f1
  obtain ⟨_,ce,c1,c2,c3⟩:=ri.cl i e c he q
  have ha:(n.asks ce.house)[c.2.1]? = some (n.asks ce.house)[c.2.1]:=Q0 c3
  have haa:atI ((n.asks ce.house).map qu) (c.2.1:Int)=some (.tup [.str (n.asks ce.house)[c.2.1].to,.int (n.asks ce.house)[c.2.1].tries,opS (n.asks ce.house)[c.2.1].purse,.str (n.asks ce.house)[c.2.1].word,.bl (n.asks ce.house)[c.2.1].hears,.bl (n.asks ce.house)[c.2.1].sure]):=zp (f:=qu) ha
  have a5:∀ (t0 t1 t2 t3 t4 t5:FT.T),atI [t0,t1,t2,t3,t4,t5] 5=some t5:=fun _ _ _ _ _ _=>rfl
  dsimp only
  rw [z3 c1,zbz ha]
  cases ql:e.lost with
  | true=>
   rw [ql] at f2
   simp_arith [zo,h.errands,h.er,zp (f:=FT.T.ref) hx,f1,i1,f2]
   rfl
  | false=>
   rw [ql] at f2
   cases qe:e.ph.isE with
   | true=>
    rw [qe] at p4
    simp_arith [zo,h.errands,h.er,zp (f:=FT.T.ref) hx,f1,i1,f2,f3,p4]
    rfl
   | false=>
    rw [qe] at p4
    simp_arith [zo,h.errands,h.er,zp (f:=FT.T.ref) hx,f1,i1,f2,f3,p4,zX h c1 (ri.hs _ _ c1),haa,a5]
    cases (n.asks ce.house)[c.2.1].sure <;> rfl
theorem zhg (h:RunAt kE kR (qg n) b r l M R) (ri:RI n R) (he:R.es[i]? = some e):y8 kE kR [.ref r,nT i] M = .ok (.bl (zJ n e)) M:=by
 unfold y8 zc5
 obtain ⟨x,hx,hc⟩:=h.at_e he
 have f3:=yT (f:="state") hc rfl
 unfold zJ
 cases qs:e.ph.isS with
 | false=>
  obtain ⟨t,ts,p1,_,_,p3,_⟩:=phW e.ph M
  rw [p1] at f3
  rw [qs] at p3
  simp_arith [zo,h.errands,h.er,zp (f:=FT.T.ref) hx,f3,p3]
  rfl
 | true=>
  rw [phS qs] at f3
  have hl:=zct qs (ri.ph _ _ he)
  have ha:(n.asks e.house)[e.ph.at1]? = some (n.asks e.house)[e.ph.at1]:=Q0 hl
  have haa:atI ((n.asks e.house).map qu) (e.ph.at1:Int)=some (.tup [.str (n.asks e.house)[e.ph.at1].to,.int (n.asks e.house)[e.ph.at1].tries,opS (n.asks e.house)[e.ph.at1].purse,.str (n.asks e.house)[e.ph.at1].word,.bl (n.asks e.house)[e.ph.at1].hears,.bl (n.asks e.house)[e.ph.at1].sure]):=zp (f:=qu) ha
  rw [zbz ha]
  have ns:∀ M,neA (.str "stands") (.str "stands") M = .ok (.bl false) M:=fun _=>rfl
  cases q0:(n.asks e.house)[e.ph.at1].tries==0 with
  | true=>
   simp_arith [zo,h.errands,h.er,zp (f:=FT.T.ref) hx,f3,ns,zX h he (ri.hs _ _ he),haa,q0]
   rfl
  | false=>
   simp_arith [zo,h.errands,h.er,zp (f:=FT.T.ref) hx,f3,ns,zX h he (ri.hs _ _ he),haa,q0]
   rfl
theorem zox (h:RunAt kE kR (qg n) b r l M R) (wn:WN n) (ri:RI n R) (he:R.es[i]? = some e) (qs:e.ph.isS=true):zbj kE kR [.ref r,nT i] M = .ok (.bl (yZ n R e)) M:=by
 unfold zbj zf1
 obtain ⟨x,hx,hc⟩:=h.at_e he
 have f3:=yT (f:="state") hc rfl
 rw [phS qs] at f3
 have hl:=zct qs (ri.ph _ _ he)
 have ha:(n.asks e.house)[e.ph.at1]? = some (n.asks e.house)[e.ph.at1]:=Q0 hl
 have haa:atI ((n.asks e.house).map qu) (e.ph.at1:Int)=some (qu (n.asks e.house)[e.ph.at1]):=zp (f:=qu) ha
 have w:=wn.as e.house _ (Qa ha)
 have po:=zdy h wn w
 unfold yZ
 rw [zbz ha]
 cases q:n.pof (n.asks e.house)[e.ph.at1] with
 | none=>
  rw [q] at po
  have i1:∀ M,isN (onT none) .non M = .ok (.bl true) M:=fun _=>rfl
  simp_arith [zo,h.errands,h.er,zp (f:=FT.T.ref) hx,f3,zX h he (ri.hs _ _ he),haa,po,i1]
 | some k=>
  rw [q] at po
  have i1:∀ M,isN (onT (some k)) .non M = .ok (.bl false) M:=fun _=>rfl
  have te:=zm5 h wn ri.pl (w.plt q)
  rw [show (nT k:FT.T)=onT (some k) from rfl] at te
  simp_arith [zo,h.errands,h.er,zp (f:=FT.T.ref) hx,f3,zX h he (ri.hs _ _ he),haa,po,i1,te]
theorem zoq {a:Nat} {ys:List FT.T} (h:M[a]? = some (.lst xs)) (hl:xs.length+ys.length<1000000):zfA (.ref a) [.lst ys] M = .ok .non (M.set a (.lst (xs++ys))):=by
 unfold zfA
 simp only [h,Qy hl]
theorem zk7 {a:Nat} (h:M[a]? = some (.lst xs)):zbV (.ref a) M=true:=by
 unfold zbV yo
 simp only [h]
 rfl
theorem zi1 (h:RunAt kE kR (qg n) b r l M R) (ri:RI n R) (he:R.es[i]? = some e):zam kE kR [.ref r,nT i] M = .ok (.lst ((zap n R i).map evT)) M:=by
 have key:Ok (zbp kE kR [.ref r,nT i] M) fun t M'=>t = .ref M.length/\M'=M++[.lst ((zap n R i).map evT)]:=by
  refine zx rfl ?_
  unfold zcL
  obtain ⟨x,hx,hc⟩:=h.at_e he
  have f3:=yT (f:="state") hc rfl
  obtain ⟨t,ts,p1,p2,p3,_,_⟩:=phW e.ph M
  have p2':∀ M',eqA t (.str "works") M' = .ok (.bl e.ph.isW) M':=fun M'=>by
   obtain ⟨t',ts',q1,q2,_⟩:=phW e.ph M'
   rw [p1] at q1;cases q1;exact q2
  have p3':∀ M',eqA t (.str "stands") M' = .ok (.bl e.ph.isS) M':=fun M'=>by
   obtain ⟨t',ts',q1,_,q2,_⟩:=phW e.ph M'
   rw [p1] at q1;cases q1;exact q2
  rw [p1] at f3
  have ml:=fun cs=>ziW (h.app cs) ri he
  have tl:=fun cs=>zhg (h.app cs) ri he
  have lc:∀ (ys:List FT.T),qD (.ref M.length) (M++[.lst ys]) = .ok (.ref M.length) (M++[.lst ys]):=fun ys=>qE yM
  have ap:∀ (ys:List FT.T) (y:FT.T),ys.length<100->yO (.ref M.length) [y] (M++[.lst ys]) = .ok .non (M++[.lst (ys++[y])]):=fun ys y hl=>by
   rw [zO yM (by rw [sizeLine_eq];omega),set_append_right _ _ (Q3 _),Qu]
   rfl
  have ex:∀ (zs:List FT.T),zs.length<100->zfA (.ref M.length) [.lst zs] (M++[.lst []]) = .ok .non (M++[.lst zs]):=fun zs hl=>by
   rw [zoq yM (by simp;omega),set_append_right _ _ (Q3 _),Qu]
   rfl
  have il:∀ (ys:List FT.T),zbV (.ref M.length) (M++[.lst ys])=true:=fun ys=>zk7 yM
  unfold zap
  rw [z3 he]
  cases qw:e.ph.isW <;> cases qm:zU n R e <;> cases qt:zJ n e <;> cases qs:e.ph.isS <;> (simp_arith [zo,h.errands,h.er,zp (f:=FT.T.ref) hx,f3,p2',p3',qw,qs,ml,qm,tl,qt,zbu,il,ex,lc,ap,Nat.reduceLT];exact Ok.ret ⟨rfl,rfl⟩)
 obtain ⟨t,M',e1,rfl,rfl⟩:=key
 unfold zam zeG
 rw [e1]
 dsimp only
 rw [yM]
 dsimp only
 rw [Qy]
 refine ⟨by simp,Q3 _,fun y hy=>?_⟩
 obtain ⟨ev,_,rfl⟩:=mem_map.mp hy
 cases ev <;> exact .tup fun z hz=>by
  simp only [QF,not_mem_nil,or_false] at hz
  rcases hz with rfl | rfl | rfl <;> first | exact .str _ | exact .int _
end
noncomputable def Evt.num:Evt->Nat
 | .fresh=>0
 | .ends i _=>i
 | .lost i=>i
 | .again i=>i
 | .up i=>i
noncomputable def Evt.isF:Evt->Bool
 | .fresh=>true
 | _=>false
variable {ev:Evt}
section
variable {b r:Nat}
theorem zk6 (h:ev ∈ zap n R i) (ha:ev.isA=true):(R.er i).ph.isS=true:=by
 unfold zap at h
 cases ev with
 | again j=>
  simp only [mem_append] at h
  rcases h with ((h | h) | h) | h
  ·split at h <;> simp at h
  ·split at h <;> simp at h
  ·split at h
   ·rename_i q
    unfold zJ at q
    rw [Qs] at q
    exact q.1
   ·simp at h
  ·split at h <;> simp at h
 | _=>cases ha
theorem zor (ev:Evt):∃ s ts,evT ev = .tup (.str s::ts)/\(s==("again":Str))=ev.isA/\(s==("fresh":Str))=ev.isF:=by
 cases ev <;> exact ⟨_,_,rfl,rfl,rfl⟩
theorem zjH (i:Nat):(zap n R i).length<=10:=by
 unfold zap
 rw [Qn,Qn,Qn]
 have:∀ (c:Bool) (xs:List Evt),xs.length<=3->(if c=true then xs else []).length<=3:=fun c xs h=>by cases c <;> simp [h]
 have h1:=this (R.er i).ph.isW [.ends i "bad",.ends i "spent",.ends i "well"] (by simp)
 have h2:(if zU n R (R.er i)=true then [Evt.lost i] else []).length<=1:=by split <;> simp
 have h3:(if zJ n (R.er i)=true then [Evt.again i] else []).length<=1:=by split <;> simp
 have h4:(if (R.er i).ph.isS=true then [Evt.up i] else []).length<=1:=by split <;> simp
 omega
theorem zmC (h:RunAt kE kR (qg n) b r l M R) (wn:WN n) (ri:RI n R) (he:R.es[i]? = some e):zbt kE kR [.ref r,nT i] M = .ok (.lst ((zaC n R i).map evT)) M:=by
 unfold zbt zfa
 have c:zy (qo 0) (zca (zq (eOp neA (eOp ixT (yb 0) (eC (.int 0))) (eC (.str "again")))) (zq (yf (zbj kE kR) (zb (yb 1) (zb (yb 2) ze))))) (yb 0) ((zap n R i).map evT) [none,some (.ref r),some (nT i)] M [] = .ok ((zaC n R i).map evT) M:=
  Ok.filt (r:=evT) (fun σ=>∃ o,σ=[o,some (.ref r),some (nT i)]) _ evT ⟨_,rfl⟩ (Qj (zjH i) (by decide)) (by
   rintro ev σ hev ⟨o,rfl⟩
   refine ⟨[some (evT ev),some (.ref r),some (nT i)],rfl,⟨_,rfl⟩,?_,fun _=>rfl⟩
   obtain ⟨s,ts,h1,h2,_⟩:=zor ev
   rw [h1]
   cases q:ev.isA with
   | false=>
    rw [q] at h2
    simp_arith [zeQ,h2]
    rfl
   | true=>
    rw [q] at h2
    have hs:e.ph.isS=true:=by rw [← z3 he];exact zk6 hev q
    simp_arith [zeQ,h2,zox h wn ri he hs]
    rw [z3 he]
    rfl)
 simp_arith [zi1 h ri he,c]
theorem zqp (M:Mem) (x y:Evt):∃ q,eqD M 20 (evT x) (evT y)=some q/\(x=y->q=true):=by
 have hs:∀ w:Str,eqS (.str w) (.str w)=true:=fun w=>by show (w==w)=true;simp
 have hi:∀ i:Int,eqS (.int i) (.int i)=true:=fun w=>by show (w==w)=true;simp
 cases x <;> cases y <;> refine ⟨_,rfl,fun z=>?_⟩ <;> first | (cases z) | skip
 all_goals first | rfl | (simp [hs,hi]) | skip
theorem zpT (M:Mem) {x:Evt}:∀ {ys:List Evt},x ∈ ys->∃ bs,zdm M (evT x) (ys.map evT)=some bs/\bs.any id=true:=by
 intro ys
 have all:∀ ys:List Evt,∃ bs,zdm M (evT x) (ys.map evT)=some bs/\(x ∈ ys->bs.any id=true):=by
  intro ys
  induction ys with
  | nil=>exact ⟨[],rfl,fun h=>by cases h⟩
  | cons y ys ih=>
   obtain ⟨bs,h1,h2⟩:=ih
   obtain ⟨q,q1,q2⟩:=zqp M y x
   refine ⟨q::bs,?_,fun h=>?_⟩
   ·rw [QE]
    unfold zdm
    rw [q1,h1]
   ·rcases QF.mp h with rfl | h
    ·rw [any_cons,q2 rfl];rfl
    ·rw [any_cons,h2 h,Bool.or_true]
 intro h
 obtain ⟨bs,h1,h2⟩:=all ys
 exact ⟨bs,h1,h2 h⟩
theorem zqz (h:RunAt kE kR (qg n) b r l M R) (wn:WN n) (ri:RI n R) (hB:R.es.length<1000000) (hf:ev.isF=false) (he:R.es[ev.num]? = some e) (hm:ev ∈ zaC n R ev.num):qS kE kR [.ref r,evT ev] M = .ok .non M:=by
 have hl:=(Qx.mp he).1
 have cc:zaA kE kR [.ref r,evT ev] M = .ok (.bl true) M:=by
  unfold zaA zec
  obtain ⟨bs,b1,b2⟩:=zpT M hm
  have iN:inN (evT ev) (.lst ((zaC n R ev.num).map evT)) M = .ok (.bl true) M:=by
   unfold inN yQ yo
   simp only [b1,b2]
  have ii:∀ (xs:List FT.T) M,zaK (.tup xs) (.ty "tuple") M = .ok (.bl true) M:=fun _ _=>rfl
  have ln:yz (.ref l.a) M = .ok (nT R.es.length) M:=by
   unfold yz yQ yo
   simp only [h.er]
   simp [h.el]
  have wi:zbs kE kR [nT ev.num,.int 0,.int ((R.es.length:Int)-1)] M = .ok (.bl true) M:=by
   have wh:zbY kE kR [nT ev.num] M = .ok (.bl true) M:=by
    unfold zbY zf0
    have h1:zaK (nT ev.num) (.ty "int") M = .ok (.bl true) M:=rfl
    have h2:zaK (nT ev.num) (.ty "bool") M = .ok (.bl false) M:=rfl
    simp_arith [h1,h2]
   unfold zbs ze9
   have d1:decide ((0:Int)<=(ev.num:Int))=true:=Qv (by omega)
   have d2:decide ((ev.num:Int)<=(R.es.length:Int)-1)=true:=Qv (by omega)
   simp_arith [wh,d1,d2]
  have ea:=zmC h wn ri he
  have e0:∃ s ts,evT ev = .tup (.str s::nT ev.num::ts)/\eqA (evT ev) (.tup [.str "fresh"]) M = .ok (.bl false) M:=by
   cases ev with
   | fresh=>cases hf
   | ends i w=>exact ⟨_,_,rfl,rfl⟩
   | lost i=>exact ⟨_,_,rfl,rfl⟩
   | again i=>exact ⟨_,_,rfl,rfl⟩
   | up i=>exact ⟨_,_,rfl,rfl⟩
  obtain ⟨s,ts,e1,e2⟩:=e0
  rw [e1] at e2 iN ⊢
  have d3:decide (((FT.T.str s::nT ev.num::ts).length:Int)<2)=false:=Qw (by simp;omega)
  simp only [Qp] at d3
  simp_arith [e2,ii,d3,zo,h.errands,ln,wi,ea,iN]
 unfold qS zcK
 simp_arith [cc]
theorem zlA (h:RunAt kE kR (qg n) b r l M R):qS kE kR [.ref r,evT .fresh] M = .ok .non M:=by
 have cc:zaA kE kR [.ref r,evT .fresh] M = .ok (.bl true) M:=by
  unfold zaA zec
  have e2:eqA (evT .fresh) (.tup [.str "fresh"]) M = .ok (.bl true) M:=rfl
  simp_arith [e2]
 unfold qS zcK
 simp_arith [cc]
end
noncomputable def zjR (R:Run) (k:Nat):Run:={ R with pays:=R.pays++[(R.es.length,k,R.taken.getD k 0)],taken:=R.taken.set k (R.taken.getD k 0+1) }
noncomputable def takeO (R:Run) (o:Option Nat):Run:=o.elim R (zjR R)
noncomputable def zde (n:Net) (R:Run) (i:Nat):Run:=z7 n (zD n 4) (takeO R (n.pof (n.ask (R.er i).house (R.er i).ph.at1))) i (R.er i).ph.at1 ((R.er i).ph.at2+1)
noncomputable def zcP (n:Net) (R:Run) (i:Nat):Run:=(R.er i).caller.elim R fun c=>zay n (zK n 4) (R.setE i { R.er i with lost:=true }) c "bad"
noncomputable def upR (n:Net) (R:Run) (i:Nat):Run:=zK n 4 R i (n.ask (R.er i).house (R.er i).ph.at1).word
noncomputable def doR (n:Net) (R:Run):Evt->Run
 | .fresh=>zD n 4 R 0 none
 | .ends i w=>zK n 4 R i w
 | .lost i=>zcP n R i
 | .again i=>zde n R i
 | .up i=>upR n R i
noncomputable def Run.tick (R:Run):Run:={ R with came:=R.came+1 }
noncomputable def zal (n:Net) (R:Run) (ev:Evt):Run:=(doR n R ev).tick
section
variable {b r:Nat}
theorem SB.takeO (sb:SB B R) (o:Option Nat):SB (B+1) (takeO R o):=by
 cases o with
 | none=>exact sb.mono (by omega)
 | some k=>
  refine ⟨QI sb.es,fun u hu=>QI (sb.pu u hu),?_,fun v hv=>?_⟩
  ·show (R.pays++_).length<=_
   rw [Qn,Qt]
   have:=sb.py
   omega
  ·rcases mem_set hv with hv | rfl
   ·exact QI (sb.tk v hv)
   ·by_cases hk:k<R.taken.length
    ·have:=sb.tk (R.taken.getD k 0) (by rw [Q7,Q0 hk];exact getElem_mem _)
     omega
    ·rw [Q7,getElem?_eq_none (by omega)]
     simp
theorem zfi (R:Run) (o:Option Nat):(takeO R o).es=R.es/\(takeO R o).puts=R.puts/\(takeO R o).came=R.came:=by cases o <;> exact ⟨rfl,rfl,rfl⟩
theorem zm6 (h:RunAt kE kR (qg n) b r l M R) (hB:B<90000) (sb:SB B R) (hp:R.puts.length=n.ps.length) {k:Nat} (hk:k<n.ps.length):Ok (zcs kE kR [.ref r,nT k] M) (Lv kE kR n b r (zjR R k) M):=by
 refine zx rfl ?_
 unfold ze7
 have hkt:k<R.taken.length:=by have:=h.tl;omega
 have ht:R.taken[k]? = some R.taken[k]:=Q0 hkt
 have gd:R.taken.getD k 0=R.taken[k]:=by rw [Q7,ht];rfl
 have ln:yz (.ref l.a) M = .ok (nT R.es.length) M:=by
  unfold yz yQ yo
  simp only [h.er]
  simp [h.el]
 obtain ⟨h1,b1⟩:=h.setPays (R.pays++[(R.es.length,k,R.taken[k])])
 have ap:=zO (t:=.tup [nT R.es.length,nT k,nT R.taken[k]]) h.py (by rw [Qh,sizeLine_eq];have:=sb.py;omega)
 rw [show R.pays.map zab++[.tup [nT R.es.length,nT k,nT R.taken[k]]]=(R.pays++[(R.es.length,k,R.taken[k])]).map zab from by simp [zab]] at ap
 simp_arith [zo,h.payF,qE h.py,h.errands,ln,h.takenF,h.tk,zp (f:=nT) ht,ap]
 generalize hM1:M.set l.q (.lst ((R.pays++[(R.es.length,k,R.taken[k])]).map zab))=M1 at h1 ⊢
 have k1:Kp b M M1:=by rw [← hM1];exact Kp.set _ _ b1
 obtain ⟨h2,b2⟩:=h1.setTaken (R.taken.set k (R.taken[k]+1)) (by simp)
 have hix:ixN (R.taken.map nT).length (k:Int)=some k:=by
  rw [zpQ (by rw [Qh];omega),QD]
 have tk1:M1[l.t]? = some (.lst (R.taken.map nT)):=h1.tk
 have ms:(R.taken.map nT).set k (.int ((R.taken[k]:Int)+1))=(R.taken.set k (R.taken[k]+1)).map nT:=by
  rw [List.map_set];rfl
 have ad:∀ i j M,zdC (.int i) (.int j) M = .ok (.int (i+j)) M:=fun _ _ _=>rfl
 unfold zhn getL
 simp_arith [zo,h1.takenF,yP tk1,zp (f:=nT) ht,ad,tk1,hix,ms]
 refine Ok.ret ⟨rfl,k1.trans (Kp.set _ _ b2),l,?_⟩
 unfold zjR
 rw [gd]
 exact h2
theorem zri (h:RunAt kE kR (qg n) b r l M R):b<=M.length:=Qj (h.lo _ (.head _)) (Nat.le_of_lt (qA h.run))
theorem zmN (h:RunAt kE kR (qg n) b r l M R) (wn:WN n) (hB:B+1<90000) (sb:SB B R) (ri:RI n R) (he:R.es[i]? = some e) (hs:e.ph.isS=true):Ok (zcr kE kR [.ref r,nT i] M) (Lv kE kR n b r (zde n R i) M):=by
 refine zx rfl ?_
 unfold ze6
 have hl:=zct hs (ri.ph _ _ he)
 have ha:(n.asks e.house)[e.ph.at1]? = some (n.asks e.house)[e.ph.at1]:=Q0 hl
 have haa:atI ((n.asks e.house).map qu) (e.ph.at1:Int)=some (qu (n.asks e.house)[e.ph.at1]):=zp (f:=qu) ha
 have w:=wn.as e.house _ (Qa ha)
 have po:=zdy h wn w
 obtain ⟨x,hx,hc⟩:=h.at_e he
 have f3:=yT (f:="state") hc rfl
 rw [phS hs] at f3
 unfold zde
 rw [z3 he,zbz ha]
 simp_arith [zo,h.errands,h.er,zp (f:=FT.T.ref) hx,f3,zX h he (ri.hs _ _ he),haa,po]
 have go:∀ (l1:Lay) (M1:Mem) (o:Option Nat),Kp b M M1->RunAt kE kR (qg n) b r l1 M1 (takeO R o)->Ok ((zak kE kR [.ref r,nT i,nT e.ph.at1,.int ((e.ph.at2:Int)+1)] M1).bind fun _ M=>.ok FT.T.non M) (Lv kE kR n b r (z7 n (zD n 4) (takeO R o) i e.ph.at1 (e.ph.at2+1)) M):=by
  intro l1 M1 o k1 h1
  have te:=zfi R o
  refine Ok.bind (zi8 wn (B:=B+1) (tr:=e.ph.at2+1) hB h1 (sb.takeO o) (by rw [te.2.1];exact ri.pl) (by rw [te.1];exact he) (ri.hs _ _ he) ha) ?_
  rintro t M2 ⟨rfl,k2,l2,h2⟩
  exact Ok.ret ⟨rfl,k1.trans k2,l2,h2⟩
 cases q:n.pof (n.asks e.house)[e.ph.at1] with
 | none=>
  have i1:∀ M,zaa (onT none) .non M = .ok (.bl false) M:=fun _=>rfl
  simp_arith [i1]
  exact go l M none (Kp.refl _ _) h
 | some k=>
  have i1:∀ M,zaa (onT (some k)) .non M = .ok (.bl true) M:=fun _=>rfl
  simp_arith [i1]
  rw [show onT (some k)=nT k from rfl]
  refine Ok.bind (zm6 h (by omega) sb ri.pl (w.plt q)) ?_
  rintro t M1 ⟨rfl,k1,l1,h1⟩
  try simp_arith
  exact go l1 M1 (some k) k1 h1
theorem zjD (h:RunAt kE kR (qg n) b r l M R) (wn:WN n) (hB:B<90000) (sb:SB B R) (ri:RI n R) (he:R.es[i]? = some e) (w:Str):Ok (za4 kE kR [.ref r,nT i,.str w] M) (Lv kE kR n b r (zK n 4 R i w) M):=
 ziu wn 4 12 (by omega) hB h sb ri he (by have:=ri.hs _ _ he;have:=wn.hl;omega)
theorem zqG (h:RunAt kE kR (qg n) b r l M R) (wn:WN n) (hB:B<90000) (sb:SB B R) (ri:RI n R) (he:R.es[i]? = some e) (hs:e.ph.isS=true):Ok (zeV kE kR [.ref r,nT i] M) (Lv kE kR n b r (upR n R i) M):=by
 refine zx rfl ?_
 unfold zjx
 have hl:=zct hs (ri.ph _ _ he)
 have ha:(n.asks e.house)[e.ph.at1]? = some (n.asks e.house)[e.ph.at1]:=Q0 hl
 have haa:atI ((n.asks e.house).map qu) (e.ph.at1:Int)=some (.tup [.str (n.asks e.house)[e.ph.at1].to,.int (n.asks e.house)[e.ph.at1].tries,opS (n.asks e.house)[e.ph.at1].purse,.str (n.asks e.house)[e.ph.at1].word,.bl (n.asks e.house)[e.ph.at1].hears,.bl (n.asks e.house)[e.ph.at1].sure]):=zp (f:=qu) ha
 obtain ⟨x,hx,hc⟩:=h.at_e he
 have f3:=yT (f:="state") hc rfl
 rw [phS hs] at f3
 unfold upR
 rw [z3 he,zbz ha]
 simp_arith [zo,h.errands,h.er,zp (f:=FT.T.ref) hx,f3,zX h he (ri.hs _ _ he),haa]
 refine Ok.bind (zjD h wn hB sb ri he _) ?_
 rintro t M2 ⟨rfl,k2,l2,h2⟩
 try simp_arith
 exact Ok.ret ⟨rfl,k2,l2,h2⟩
theorem znT (h:RunAt kE kR (qg n) b r l M R) (wn:WN n) (hB:B<90000) (sb:SB B R) (ri:RI n R) (he:R.es[i]? = some e) {c:Nat × Nat × Nat} (hq:e.caller=some c):Ok (zf5 kE kR [.ref r,nT i] M) (Lv kE kR n b r (zcP n R i) M):=by
 refine zx rfl ?_
 unfold zlh
 obtain ⟨x,hx,hc⟩:=h.at_e he
 have s1:=zba (f:="is_lost") (y:=.bl true) (fs':=erF { e with lost:=true }) hc rfl (by simp [erF])
 obtain ⟨h1,bx⟩:=h.setE hx he { e with lost:=true }
 have hc1:(M.set x (.ins kE (erF { e with lost:=true })))[x]? = some (.ins kE (erF { e with lost:=true })):=get_set hc
 have f1:=yT (f:="caller") hc1 rfl
 have k1:Kp b M (M.set x (.ins kE (erF { e with lost:=true }))):=Kp.set _ _ bx
 have e0:zcP n R i=zay n (zK n 4) (R.setE i { e with lost:=true }) c "bad":=by
  have el:∀ (o:Option (Nat × Nat × Nat)) (f:Nat × Nat × Nat->Run),o=some c->o.elim R f=f c:=fun o f h=>by rw [h];rfl
  unfold zcP
  rw [z3 he]
  exact el _ _ hq
 rw [e0]
 simp_arith [zo,h.errands,h.er,zp (f:=FT.T.ref) hx,zG,s1]
 generalize hM1:M.set x (.ins kE (erF { e with lost:=true }))=M1 at h1 f1 k1 ⊢
 replace f1:zaQ [kE] "caller" (.ref x) M1 = .ok (clT e.caller) M1:=f1
 rw [hq] at f1
 have ri1:RI n (R.setE i { e with lost:=true }):=ri.setE he rfl rfl (by have:=ri.ph _ _ he;unfold zeA at this ⊢;exact this)
 have hei:(R.setE i { e with lost:=true }).es[i]? = some { e with lost:=true }:=by
  show (R.es.set i _)[i]? = _
  rw [Qc,Qy rfl,Qy (Qx.mp he).1]
 obtain ⟨_,ce,c1,c2,c3⟩:=ri1.cl i _ c hei hq
 simp_arith [f1]
 refine Ok.bind (show Ok (ziq kE kR [.ref r,clT (some c),.str "bad"] M1) (Lv kE kR n b r (zay n (zK n 4) (R.setE i { e with lost:=true }) c "bad") M1) from ?_) ?_
 ·show Ok (yi 3 6 (zeF kE kR (yu kE kR 11).1 (yu kE kR 11).2) [.ref r,clT (some c),.str "bad"] M1) _
  refine zjr wn hB h1 (sb.setE _ _) ri1 c1 c3 ?_
  exact ziu wn 4 11 (by omega) hB h1 (sb.setE _ _) ri1 c1 (by have:=ri1.hs _ _ c1;have:=wn.hl;omega)
 ·rintro t M2 ⟨rfl,k2,l2,h2⟩
  try simp_arith
  exact Ok.ret ⟨rfl,k1.trans k2,l2,h2⟩
noncomputable def zqF (R:Run):Evt->Prop
 | .fresh=>True
 | .ends i _=>∃ e,R.es[i]? = some e
 | .lost i=>∃ e c,R.es[i]? = some e/\e.caller=some c
 | .again i=>∃ e,R.es[i]? = some e/\e.ph.isS=true
 | .up i=>∃ e,R.es[i]? = some e/\e.ph.isS=true
theorem zpD (h:RunAt kE kR (qg n) b r l M R) (wn:WN n) (hB:B+10<90000) (sb:SB B R) (ri:RI n R) (ho:zqF R ev):Ok (zbX kE kR [.ref r,evT ev] M) (Lv kE kR n b r (zal n R ev) M):=by
 refine zx rfl ?_
 unfold zfY
 have fin:∀ (M1:Mem),Lv kE kR n b r (doR n R ev) M .non M1->Ok ((zfP [kR] "came" (yb 0) 1 [some (.ref r),some (evT ev)] M1).bind zcd) (Lv kE kR n b r (zal n R ev) M):=by
  rintro M1 ⟨_,k1,l1,h1⟩
  obtain ⟨h2,b2⟩:=h1.setCame ((doR n R ev).came+1)
  have s1:=zba (f:="came") (y:=.int (((doR n R ev).came:Int)+1)) (fs':=zcc (qg n) l1 { (doR n R ev) with came:=(doR n R ev).came+1 }) h1.run rfl (by simp [zcc])
  have ad:∀ i j M,zdC (.int i) (.int j) M = .ok (.int (i+j)) M:=fun _ _ _=>rfl
  simp_arith [zfP,h1.came,ad,s1]
  exact Ok.ret ⟨rfl,k1.trans (Kp.set _ _ b2),l1,h2⟩
 cases ev with
 | fresh=>
  have q:∀ M,eqA (.str "fresh") (.str "fresh") M = .ok (.bl true) M:=fun _=>rfl
  rw [show evT .fresh = .tup [.str "fresh"] from rfl] at fin ⊢
  simp_arith [q]
  refine Ok.bind (show Ok (zci kE kR [.ref r,.int 0,.non] M) (Lv kE kR n b r (zD n 4 R 0 none) M) from ziK wn 4 12 (by omega) (B:=B) (c:=none) (h:=0) (by omega) h (zri h) sb ri.pl wn.h1 (by have:=wn.hl;omega)) ?_
  rintro t M1 ⟨rfl,k1,l1,h1⟩
  have:=fin M1 ⟨rfl,k1,l1,h1⟩
  try simp_arith
  exact this
 | ends i w=>
  obtain ⟨e,he⟩:=ho
  have q0:∀ M,eqA (.str "ends") (.str "fresh") M = .ok (.bl false) M:=fun _=>rfl
  have q:∀ M,eqA (.str "ends") (.str "ends") M = .ok (.bl true) M:=fun _=>rfl
  rw [show evT (.ends i w) = .tup [.str "ends",nT i,.str w] from rfl] at fin ⊢
  simp_arith [q0,q]
  refine Ok.bind (zjD h wn (by omega) sb ri he w) ?_
  rintro t M1 ⟨rfl,k1,l1,h1⟩
  have:=fin M1 ⟨rfl,k1,l1,h1⟩
  try simp_arith
  exact this
 | lost i=>
  obtain ⟨e,c,he,hq⟩:=ho
  have q0:∀ M,eqA (.str "lost") (.str "fresh") M = .ok (.bl false) M:=fun _=>rfl
  have q1:∀ M,eqA (.str "lost") (.str "ends") M = .ok (.bl false) M:=fun _=>rfl
  have q:∀ M,eqA (.str "lost") (.str "lost") M = .ok (.bl true) M:=fun _=>rfl
  rw [show evT (.lost i) = .tup [.str "lost",nT i] from rfl] at fin ⊢
  simp_arith [q0,q1,q]
  refine Ok.bind (znT h wn (by omega) sb ri he hq) ?_
  rintro t M1 ⟨rfl,k1,l1,h1⟩
  have:=fin M1 ⟨rfl,k1,l1,h1⟩
  try simp_arith
  exact this
 | again i=>
  obtain ⟨e,he,hs⟩:=ho
  have q0:∀ M,eqA (.str "again") (.str "fresh") M = .ok (.bl false) M:=fun _=>rfl
  have q1:∀ M,eqA (.str "again") (.str "ends") M = .ok (.bl false) M:=fun _=>rfl
  have q2:∀ M,eqA (.str "again") (.str "lost") M = .ok (.bl false) M:=fun _=>rfl
  have q:∀ M,eqA (.str "again") (.str "again") M = .ok (.bl true) M:=fun _=>rfl
  rw [show evT (.again i) = .tup [.str "again",nT i] from rfl] at fin ⊢
  simp_arith [q0,q1,q2,q]
  refine Ok.bind (zmN h wn (by omega) sb ri he hs) ?_
  rintro t M1 ⟨rfl,k1,l1,h1⟩
  have:=fin M1 ⟨rfl,k1,l1,h1⟩
  try simp_arith
  exact this
 | up i=>
  obtain ⟨e,he,hs⟩:=ho
  have q0:∀ M,eqA (.str "up") (.str "fresh") M = .ok (.bl false) M:=fun _=>rfl
  have q1:∀ M,eqA (.str "up") (.str "ends") M = .ok (.bl false) M:=fun _=>rfl
  have q2:∀ M,eqA (.str "up") (.str "lost") M = .ok (.bl false) M:=fun _=>rfl
  have q:∀ M,eqA (.str "up") (.str "again") M = .ok (.bl false) M:=fun _=>rfl
  rw [show evT (.up i) = .tup [.str "up",nT i] from rfl] at fin ⊢
  simp_arith [q0,q1,q2,q]
  refine Ok.bind (zqG h wn (by omega) sb ri he hs) ?_
  rintro t M1 ⟨rfl,k1,l1,h1⟩
  have:=fin M1 ⟨rfl,k1,l1,h1⟩
  try simp_arith
  exact this
end
variable {n:Net}
def lv (e:Er):Prop:=e.lost=false/\e.ph.isE=false
def WT (R:Run):Prop:=∀ (i:Nat) (e:Er) (c:Nat × Nat × Nat),R.es[i]? = some e->e.caller=some c->lv e->∃ ce,R.es[c.1]? = some ce/\ce.ph = .waits c.2.1 c.2.2/\ce.asked=some i
def NL (R:Run) (k:Nat):Prop:=∀ (i:Nat) (e:Er) (c:Nat × Nat × Nat),R.es[i]? = some e->e.caller=some c->c.1=k->¬ lv e
def QS (R R':Run) (k:Nat):Prop:=∀ (i:Nat) (e':Er),R'.es[i]? = some e'->e'.ph.isS=true->(∃ e,R.es[i]? = some e/\e.ph=e'.ph/\e.stood=e'.stood)\/(e'.stood=some k/\∃ e a t,R.es[i]? = some e/\e.ph = .waits a t)
structure Inv' (n:Net) (R:Run):Prop where
 ri:RI n R
 wt:WT R
theorem zc4 (he:R.es[i]? = some e) (e':Er):(R.setE i e').es[i]? = some e':=by
 show (R.es.set i _)[i]? = _
 rw [Qc,Qy rfl,Qy (Qx.mp he).1]
theorem zeb (h:j ≠ i):(R.setE i e').es[j]? = R.es[j]?:=by
 show (R.es.set i _)[j]? = _
 rw [Qc,Qz (Ne.symm h)]
theorem WT.setE (h:WT R) (he:R.es[i]? = some e) (h2:e'.caller=e.caller) (hv:lv e'->lv e) (nl:NL R i):WT (R.setE i e'):=by
 intro j q c hq hc lq
 have key:∀ q0,R.es[j]? = some q0->q0.caller=some c->lv q0->∃ ce,(R.setE i e').es[c.1]? = some ce/\ce.ph = .waits c.2.1 c.2.2/\ce.asked=some j:=fun q0 h0 hc0 l0=>by
  obtain ⟨ce,c1,c2,c3⟩:=h j q0 c h0 hc0 l0
  have:c.1 ≠ i:=fun z=>nl j q0 c h0 hc0 z l0
  exact ⟨ce,by rw [zeb this];exact c1,c2,c3⟩
 rcases zan hq with ⟨rfl,rfl,_⟩ | ⟨_,hq⟩
 ·exact key e he (by rw [← h2];exact hc) (hv lq)
 ·exact key q hq hc lq
theorem RI.push (h:RI n R) {hh:Nat} {c:Option (Nat × Nat × Nat)} (h1:hh<n.hs.length) (hc:∀ c',c=some c'->∃ ce,R.es[c'.1]? = some ce/\ce.house<hh/\c'.2.1<(n.asks ce.house).length):RI n (R.push (yp hh c)):=by
 have old:∀ {j:Nat} {q:Er},(R.push (yp hh c)).es[j]? = some q->(R.es[j]? = some q)\/(j=R.es.length/\q=yp hh c):=fun {j q} hq=>by
  replace hq:(R.es++[yp hh c])[j]? = some q:=hq
  by_cases z:j<R.es.length
  ·rw [Q6 z] at hq;exact .inl hq
  ·rw [Q8 (by omega)] at hq
   have:j-R.es.length=0:=by
    have:=(Qx.mp hq).1
    simp at this
    omega
   rw [this] at hq
   cases hq
   exact .inr ⟨by omega,rfl⟩
 have fwd:∀ {j:Nat} {q:Er},R.es[j]? = some q->(R.push (yp hh c)).es[j]? = some q:=fun {j q} hq=>by
  show (R.es++_)[j]? = _
  rw [Q6 (Qx.mp hq).1];exact hq
 refine ⟨fun j q hq=>?_,fun j q c' hq hc'=>?_,fun j q hq=>?_,h.pl⟩
 ·rcases old hq with hq | ⟨_,rfl⟩
  ·exact h.hs _ _ hq
  ·exact h1
 ·rcases old hq with hq | ⟨rfl,rfl⟩
  ·obtain ⟨a,ce,b1,b2,b3⟩:=h.cl _ _ _ hq hc'
   exact ⟨a,ce,fwd b1,b2,b3⟩
  ·obtain ⟨ce,b1,b2,b3⟩:=hc c' hc'
   exact ⟨(Qx.mp b1).1,ce,fwd b1,b2,b3⟩
 ·rcases old hq with hq | ⟨_,rfl⟩
  ·exact h.ph _ _ hq
  ·exact True.intro
theorem zhY {x:Er} (hq:(R.push x).es[j]? = some q):R.es[j]? = some q\/(j=R.es.length/\q=x):=by
 replace hq:(R.es++[x])[j]? = some q:=hq
 by_cases z:j<R.es.length
 ·rw [Q6 z] at hq;exact .inl hq
 ·rw [Q8 (by omega)] at hq
  have:j-R.es.length=0:=by
   have:=(Qx.mp hq).1
   simp at this
   omega
  rw [this] at hq
  cases hq
  exact .inr ⟨by omega,rfl⟩
theorem zd7 {x:Er} (hq:R.es[j]? = some q):(R.push x).es[j]? = some q:=by
 show (R.es++_)[j]? = _
 rw [Q6 (Qx.mp hq).1];exact hq
theorem RI.share (h:RI n R) (a:Ask) (tr x:Nat):RI n (R.share n a tr x):=by
 obtain ⟨s1,s2,_⟩:=zbG R n a tr x
 exact ⟨by rw [s1];exact h.hs,by rw [s1];exact h.cl,by rw [s1];exact h.ph,by rw [s2];exact h.pl⟩
def Old (R R':Run):Prop:=R.es.length<=R'.es.length/\R'.came=R.came/\(∀ (i:Nat) (e:Er),R.es[i]? = some e->R'.es[i]? = some e)/\∀ (i:Nat) (e:Er),R'.es[i]? = some e->R.es.length<=i->e.ph.isS=false
theorem zeN {num tr:Nat} {a:Ask} (he:R.es[num]? = some e) (ha:(n.asks e.house)[at']? = some a):z7 n g R num at' tr=g ((R.setE num { e with ph:=.waits at' tr,asked:=some R.es.length }).share n a tr R.es.length) (n.hix a.to) (some (num,at',tr)):=by
 unfold z7
 rw [he]
 dsimp only
 rw [ha]
theorem WT.share (h:WT R) (a:Ask) (tr x:Nat):WT (R.share n a tr x):=by
 intro i e c
 rw [(zbG R n a tr x).1]
 exact h i e c
theorem zgN (wn:WN n):∀ (f:Nat) {R:Run} {h:Nat} {c:Option (Nat × Nat × Nat)} {B:Nat},n.hs.length<=h+f->RI n R->WT R->SB B R->h<n.hs.length->
  (∀ c',c=some c'->∃ ce,R.es[c'.1]? = some ce/\ce.house<h/\c'.2.1<(n.asks ce.house).length/\ce.ph = .waits c'.2.1 c'.2.2/\ce.asked=some R.es.length)->
  RI n (zD n f R h c)/\WT (zD n f R h c)/\SB (B+2*f) (zD n f R h c)/\Old R (zD n f R h c)
 | 0,R,h,c,B,hf,_,_,_,hh,_=>absurd hh (by omega)
 | f+1,R,h,c,B,hf,ri,wt,sb,hh,hc=>by
  have ri1:RI n (R.push (yp h c)):=ri.push hh fun c' z=>by obtain ⟨ce,a1,a2,a3,_⟩:=hc c' z;exact ⟨ce,a1,a2,a3⟩
  have wt1:WT (R.push (yp h c)):=fun i e c' he hc' l=>by
   rcases zhY he with he | ⟨rfl,rfl⟩
   ·obtain ⟨ce,a1,a2,a3⟩:=wt i e c' he hc' l
    exact ⟨ce,zd7 a1,a2,a3⟩
   ·obtain ⟨ce,a1,_,_,a4,a5⟩:=hc c' hc'
    exact ⟨ce,zd7 a1,a4,a5⟩
  have od1:Old R (R.push (yp h c)):=⟨by simp [Run.push],rfl,fun i e he=>zd7 he,fun i e he hi=>by
   rcases zhY he with he | ⟨rfl,rfl⟩
   ·exact absurd (Qx.mp he).1 (by omega)
   ·rfl⟩
  by_cases h0:n.asks h=[]
  ·have e1:zD n (f+1) R h c=R.push (yp h c):=by unfold zD;rw [Qy h0]
   rw [e1]
   exact ⟨ri1,wt1,(sb.push _).mono (by omega),od1⟩
  ·have e1:zD n (f+1) R h c=z7 n (zD n f) (R.push (yp h c)) R.es.length 0 1:=by rw [zD,Qz h0]
   obtain ⟨a,as,hq⟩:=List.exists_cons_of_ne_nil h0
   have ha:(n.asks (yp h c).house)[0]? = some a:=by show (n.asks h)[0]? = _;rw [hq];rfl
   have w:=wn.as h a (by rw [hq];exact .head _)
   rw [e1,zeN (zbg R _) ha]
   have len1:(R.push (yp h c)).es.length=R.es.length+1:=by simp [Run.push]
   have nl:NL (R.push (yp h c)) R.es.length:=fun i e c' he hc' z=>by
    have:=(ri1.cl i e c' he hc').1
    have:=(Qx.mp he).1
    omega
   have ri2:RI n ((R.push (yp h c)).setE R.es.length { yp h c with ph:=.waits 0 1,asked:=some (R.push (yp h c)).es.length }):=ri1.setE (zbg R _) rfl rfl (show 0<(n.asks h).length/\1<=1 from ⟨by rw [hq];simp,Q3 _⟩)
   have wt2:WT ((R.push (yp h c)).setE R.es.length { yp h c with ph:=.waits 0 1,asked:=some (R.push (yp h c)).es.length }):=wt1.setE (zbg R _) rfl (fun _=>⟨rfl,rfl⟩) nl
   have sb2:=((sb.push (yp h c)).setE R.es.length { yp h c with ph:=.waits 0 1,asked:=some (R.push (yp h c)).es.length }).share n a 1 (R.push (yp h c)).es.length
   obtain ⟨s1,s2,s3,s4,s5⟩:=zbG ((R.push (yp h c)).setE R.es.length { yp h c with ph:=.waits 0 1,asked:=some (R.push (yp h c)).es.length }) n a 1 (R.push (yp h c)).es.length
   obtain ⟨r1,r2,r3,r4⟩:=zgN wn f (h:=n.hix a.to) (c:=some (R.es.length,0,1)) (by have:=w.up;omega) (ri2.share a 1 _) (wt2.share a 1 _) sb2 w.lt (fun c' z=>by
    cases z
    rw [s1]
    refine ⟨_,zc4 (zbg R _) _,w.up,?_,rfl,?_⟩
    ·show 0<(n.asks h).length
     rw [hq];simp
    ·show some (R.push (yp h c)).es.length=some (List.length (List.set _ _ _))
     rw [length_set])
   refine ⟨r1,r2,r3.mono (by omega),?_,?_,fun i e he=>?_,fun i e he hi=>?_⟩
   ·have l2:((R.push (yp h c)).setE R.es.length { yp h c with ph:=.waits 0 1,asked:=some (R.push (yp h c)).es.length }).es.length=R.es.length+1:=by simp [Run.setE,Run.push]
    have:=r4.1
    rw [s1,l2] at this
    exact Qj (Nat.le_succ _) this
   ·rw [r4.2.1,s5];rfl
   ·refine r4.2.2.1 i e ?_
    rw [s1,zeb (by have:=(Qx.mp he).1;omega)]
    exact zd7 he
   ·by_cases z:i<R.es.length+1
    ·have hi':i=R.es.length:=by omega
     subst hi'
     have:=r4.2.2.1 R.es.length { yp h c with ph:=.waits 0 1,asked:=some (R.push (yp h c)).es.length } (by rw [s1];exact zc4 (zbg R _) _)
     rw [he] at this
     cases this
     rfl
    ·exact r4.2.2.2 i e he (by rw [s1];simp [Run.setE,Run.push];omega)
theorem zi7 (wn:WN n) {num tr:Nat} (ri:RI n R) (wt:WT R) (sb:SB B R) (he:R.es[num]? = some e) (hat:at'<(n.asks e.house).length) (hl:e.ph.isE=false) (nl:NL R num) (htr:1<=tr) :
  RI n (z7 n (zD n 4) R num at' tr)/\WT (z7 n (zD n 4) R num at' tr)/\SB (B+9) (z7 n (zD n 4) R num at' tr)/\R.es.length<=(z7 n (zD n 4) R num at' tr).es.length/\(z7 n (zD n 4) R num at' tr).came=R.came /\
   (∀ (i:Nat) (q:Er),R.es[i]? = some q->i ≠ num->(z7 n (zD n 4) R num at' tr).es[i]? = some q)/\QS R (z7 n (zD n 4) R num at' tr) R.came:=by
 have ha:(n.asks e.house)[at']? = some (n.asks e.house)[at']:=Q0 hat
 have w:=wn.as e.house _ (Qa ha)
 rw [zeN he ha]
 have ri2:RI n (R.setE num { e with ph:=.waits at' tr,asked:=some R.es.length }):=ri.setE he rfl rfl (show at'<(n.asks e.house).length/\1<=tr from ⟨hat,htr⟩)
 have wt2:WT (R.setE num { e with ph:=.waits at' tr,asked:=some R.es.length }):=wt.setE he rfl (fun z=>⟨z.1,hl⟩) nl
 obtain ⟨s1,s2,s3,s4,s5⟩:=zbG (R.setE num { e with ph:=.waits at' tr,asked:=some R.es.length }) n (n.asks e.house)[at'] tr R.es.length
 have sb2:=(sb.setE num { e with ph:=.waits at' tr,asked:=some R.es.length }).share n (n.asks e.house)[at'] tr R.es.length
 obtain ⟨r1,r2,r3,r4⟩:=zgN wn 4 (h:=n.hix (n.asks e.house)[at'].to) (c:=some (num,at',tr)) (by have:=wn.hl;omega) (ri2.share _ tr _) (wt2.share _ tr _) sb2 w.lt (fun c' z=>by
  cases z
  rw [s1]
  refine ⟨_,zc4 he _,w.up,hat,rfl,?_⟩
  show some R.es.length=some (List.length (List.set _ _ _))
  rw [length_set])
 have ol:∀ (i:Nat) (q:Er),R.es[i]? = some q->i ≠ num->(zD n 4 ((R.setE num { e with ph:=.waits at' tr,asked:=some R.es.length }).share n (n.asks e.house)[at'] tr R.es.length) (n.hix (n.asks e.house)[at'].to) (some (num,at',tr))).es[i]? = some q:=fun i q hq hi=>r4.2.2.1 i q (by rw [s1,zeb hi];exact hq)
 refine ⟨r1,r2,r3.mono (by omega),?_,by rw [r4.2.1,s5];rfl,ol,fun i e' h' hs=>?_⟩
 ·have l2:(R.setE num { e with ph:=.waits at' tr,asked:=some R.es.length }).es.length=R.es.length:=by simp [Run.setE]
  have:=r4.1
  rw [s1,l2] at this
  exact this
 ·by_cases z:i<R.es.length
  ·by_cases hi:i=num
   ·subst hi
    have:=r4.2.2.1 i { e with ph:=.waits at' tr,asked:=some R.es.length } (by rw [s1];exact zc4 he _)
    rw [h'] at this
    cases this
    cases hs
   ·have hq:R.es[i]? = some R.es[i]:=Q0 z
    have:=ol i _ hq hi
    rw [h'] at this
    cases this
    exact .inl ⟨_,hq,rfl,rfl⟩
  ·have:=r4.2.2.2 i e' h' (by rw [s1];simp [Run.setE];omega)
   rw [hs] at this
   cases this
end My
namespace My
open PySem L2 FT
variable {n:Net}
structure Res (n:Net) (R R':Run) (B:Nat):Prop where
 ri:RI n R'
 wt:WT R'
 sb:SB B R'
 le:R.es.length<=R'.es.length
 ca:R'.came=R.came
 qs:QS R R' R.came
variable {B:Nat} {R:Run}
theorem zih (wn:WN n) {g:Run->Nat->Str->Run} {c:Nat × Nat × Nat} {w:Str} {ce:Er} (ri:RI n R) (wt:WT R) (sb:SB B R) (he:R.es[c.1]? = some ce) (hat:c.2.1<(n.asks ce.house).length) (hw:ce.ph = .waits c.2.1 c.2.2) (nl:NL R c.1) (hg:Res n R (g R c.1 w) (B+9)):Res n R (zay n g R c w) (B+9):=by
 unfold zay
 rw [he]
 dsimp only
 split
 ·rename_i h1
  obtain ⟨r1,r2,r3,r4,r5,_,r7⟩:=zi7 wn (tr:=1) ri wt sb he h1.2 (by rw [hw];rfl) nl (Q3 _)
  exact ⟨r1,r2,r3,r4,r5,r7⟩
 ·split
  ·exact hg
  ·have h1:1<=c.2.2:=by have:=ri.ph _ _ he;unfold zeA at this;rw [hw] at this;exact this.2
   refine ⟨ri.setE he rfl rfl (show c.2.1<(n.asks ce.house).length/\(some R.came).isSome=true/\1<=c.2.2 from ⟨hat,rfl,h1⟩),wt.setE he rfl (fun z=>⟨z.1,by rw [hw];rfl⟩) nl,(sb.setE _ _).mono (by omega),by simp [Run.setE],rfl,fun i e' h' hs=>?_⟩
   rcases zan h' with ⟨rfl,rfl,_⟩ | ⟨_,h'⟩
   ·exact .inr ⟨rfl,ce,_,_,he,hw⟩
   ·exact .inl ⟨e',h',rfl,rfl⟩
theorem zeX (wn:WN n):∀ (f:Nat) {R:Run} {i:Nat} {w:Str} {e:Er} {B:Nat},RI n R->WT R->SB B R->R.es[i]? = some e->e.house<f->e.ph.isE=false->NL R i->Res n R (zK n f R i w) (B+9)
 | 0,R,i,w,e,B,_,_,_,_,hf,_,_=>absurd hf (by omega)
 | f+1,R,i,w,e,B,ri,wt,sb,he,hf,hl,nl=>by
  have ri1:RI n (R.setE i { e with ph:=.ended w }):=ri.setE he rfl rfl True.intro
  have wt1:WT (R.setE i { e with ph:=.ended w }):=wt.setE he rfl (fun z=>absurd z.2 (by show ¬ true=false;simp)) nl
  have back:∀ {j:Nat} {q:Er},(R.setE i { e with ph:=.ended w }).es[j]? = some q->q.ph.isE=false->R.es[j]? = some q:=fun {j q} hq hE=>by
   rcases zan hq with ⟨rfl,rfl,_⟩ | ⟨_,hq⟩
   ·cases hE
   ·exact hq
  have stop:Res n R (R.setE i { e with ph:=.ended w }) (B+9):=⟨ri1,wt1,(sb.setE _ _).mono (by omega),by simp [Run.setE],rfl,fun j e' h' hs=>by
   rcases zan h' with ⟨rfl,rfl,_⟩ | ⟨_,h'⟩
   ·cases hs
   ·exact .inl ⟨e',h',rfl,rfl⟩⟩
  unfold zK
  rw [he]
  dsimp only
  cases q:e.caller with
  | none=>rw [q] at stop;exact stop
  | some c=>
   dsimp only
   cases ql:e.lost with
   | true=>rw [Qy rfl];rw [q,ql] at stop;exact stop
   | false=>
    rw [Qz (by simp)]
    have es:({ e with ph:=.ended w }:Er)={ house:=e.house,caller:=some c,ph:=.ended w,lost:=false,asked:=e.asked,stood:=e.stood }:=by rw [← q,← ql]
    rw [← es]
    obtain ⟨ce,c1,c2,c3⟩:=wt i e c he q ⟨ql,hl⟩
    obtain ⟨d1,ce',d2,d3,d4⟩:=ri.cl i e c he q
    rw [c1] at d2
    cases d2
    have hne:c.1 ≠ i:=by omega
    have c1':(R.setE i { e with ph:=.ended w }).es[c.1]? = some ce:=by rw [zeb hne];exact c1
    have nl1:NL (R.setE i { e with ph:=.ended w }) c.1:=fun j e' cc h' hc' z l'=>by
     have h2:=back h' l'.2
     obtain ⟨x,x1,x2,x3⟩:=wt j e' cc h2 hc' l'
     rw [z,c1] at x1
     cases x1
     rw [c3] at x3
     cases x3
     rw [zc4 he] at h'
     cases h'
     cases l'.2
    have hend:=zeX wn f (w:=w) ri1 wt1 (sb.setE _ _) c1' (by omega) (by rw [c2];rfl) nl1
    have hh:=zih wn (w:=w) ri1 wt1 (sb.setE _ _) c1' d4 c2 nl1 hend
    refine ⟨hh.ri,hh.wt,hh.sb,by have:=hh.le;simp [Run.setE] at this;exact this,hh.ca,fun j e' h' hs=>?_⟩
    rcases hh.qs j e' h' hs with ⟨e1,a1,a2,a3⟩ | ⟨a1,e1,a,t,a2,a3⟩
    ·exact .inl ⟨e1,back a1 (by rw [a2];cases z:e'.ph <;> rw [z] at hs <;> first | rfl | cases hs),a2,a3⟩
    ·exact .inr ⟨a1,e1,a,t,back a2 (by rw [a3];rfl),a3⟩
variable {e:Er} {i:Nat}
theorem zkr (wt:WT R) (he:R.es[i]? = some e) (hn:∀ a t,e.ph ≠ .waits a t):NL R i:=fun j e' c h' hc z l=>by
 obtain ⟨ce,a1,a2,_⟩:=wt j e' c h' hc l
 rw [z,he] at a1
 cases a1
 exact hn _ _ a2
noncomputable def EvC (n:Net) (R:Run):Evt->Prop
 | .fresh=>True
 | .ends i _=>∃ e,R.es[i]? = some e/\e.ph.isW=true
 | .lost i=>∃ e c,R.es[i]? = some e/\e.caller=some c/\lv e
 | .again i=>∃ e,R.es[i]? = some e/\e.ph.isS=true/\zJ n e=true
 | .up i=>∃ e,R.es[i]? = some e/\e.ph.isS=true
variable {ev:Evt}
theorem zgJ (he:R.es[i]? = some e) (h:ev ∈ zaC n R i):ev.isF=false/\ev.num=i/\EvC n R ev:=by
 have h:=(mem_filter.mp h).1
 unfold zap at h
 rw [z3 he] at h
 simp only [mem_append] at h
 rcases h with ((h | h) | h) | h
 ·split at h
  ·rename_i q
   simp only [QF,not_mem_nil,or_false] at h
   rcases h with rfl | rfl | rfl <;> exact ⟨rfl,rfl,e,he,q⟩
  ·cases h
 ·split at h
  ·rename_i q
   rw [QG.mp h]
   unfold zU at q
   split at q
   ·cases q
   ·rename_i c hc
    rw [Qs] at q
    have q1:=q.1
    refine ⟨rfl,rfl,e,c,he,hc,?_,?_⟩
    ·cases z:e.lost with
     | false=>rfl
     | true=>rw [z] at q1;cases q1
    ·cases z:e.ph.isE with
     | false=>rfl
     | true=>rw [z,Bool.or_true] at q1;cases q1
  ·cases h
 ·split at h
  ·rename_i q
   rw [QG.mp h]
   have q':=q
   unfold zJ at q'
   rw [Qs] at q'
   exact ⟨rfl,rfl,e,he,q'.1,q⟩
  ·cases h
 ·split at h
  ·rename_i q
   rw [QG.mp h]
   exact ⟨rfl,rfl,e,he,q⟩
  ·cases h
theorem EvC.ok (h:EvC n R ev):zqF R ev:=by
 cases ev with
 | fresh=>exact True.intro
 | ends i w=>obtain ⟨e,a,_⟩:=h;exact ⟨e,a⟩
 | lost i=>obtain ⟨e,c,a,b,_⟩:=h;exact ⟨e,c,a,b⟩
 | again i=>obtain ⟨e,a,b,_⟩:=h;exact ⟨e,a,b⟩
 | up i=>exact h
theorem zlr (wn:WN n) (ri:RI n R) (wt:WT R) (sb:SB B R) (hc:EvC n R ev):Res n R (doR n R ev) (B+10):=by
 have up10:∀ {R':Run},Res n R R' (B+9)->Res n R R' (B+10):=fun h=>⟨h.ri,h.wt,h.sb.mono (by omega),h.le,h.ca,h.qs⟩
 cases ev with
 | fresh=>
  obtain ⟨r1,r2,r3,r4⟩:=zgN wn 4 (h:=0) (c:=none) (by have:=wn.hl;omega) ri wt sb wn.h1 (fun c' z=>by cases z)
  refine ⟨r1,r2,r3.mono (by omega),r4.1,r4.2.1,fun i e' h' hs=>?_⟩
  by_cases z:i<R.es.length
  ·have hq:R.es[i]? = some R.es[i]:=Q0 z
   have:=r4.2.2.1 i _ hq
   rw [show doR n R .fresh=zD n 4 R 0 none from rfl,this] at h'
   cases h'
   exact .inl ⟨_,hq,rfl,rfl⟩
  ·have:=r4.2.2.2 i e' h' (by omega)
   rw [hs] at this
   cases this
 | ends i w=>
  obtain ⟨e,he,hw⟩:=hc
  have hp:e.ph = .works:=by
   cases q:e.ph with
   | works=>rfl
   | _=>rw [q] at hw;cases hw
  exact up10 (zeX wn 4 ri wt sb he (by have:=ri.hs _ _ he;have:=wn.hl;omega) (by rw [hp];rfl) (zkr wt he fun a t z=>by rw [hp] at z;cases z))
 | up i=>
  obtain ⟨e,he,hs⟩:=hc
  exact up10 (zeX wn 4 ri wt sb he (by have:=ri.hs _ _ he;have:=wn.hl;omega) (by cases q:e.ph <;> rw [q] at hs <;> first | rfl | cases hs) (zkr wt he fun a t z=>by rw [z] at hs;cases hs))
 | again i=>
  obtain ⟨e,he,hs,_⟩:=hc
  show Res n R (zde n R i) _
  unfold zde
  rw [z3 he]
  have te:=zfi R (n.pof (n.ask e.house e.ph.at1))
  have ri1:RI n (takeO R (n.pof (n.ask e.house e.ph.at1))):=⟨by rw [te.1];exact ri.hs,by rw [te.1];exact ri.cl,by rw [te.1];exact ri.ph,by rw [te.2.1];exact ri.pl⟩
  have wt1:WT (takeO R (n.pof (n.ask e.house e.ph.at1))):=by intro j q c;rw [te.1];exact wt j q c
  have nl1:NL (takeO R (n.pof (n.ask e.house e.ph.at1))) i:=by intro j q c;rw [te.1];exact zkr wt he (fun a t z=>by rw [z] at hs;cases hs) j q c
  obtain ⟨r1,r2,r3,r4,r5,_,r7⟩:=zi7 wn (at':=e.ph.at1) (tr:=e.ph.at2+1) ri1 wt1 (sb.takeO _) (by rw [te.1];exact he) (zct hs (ri.ph _ _ he)) (by cases q:e.ph <;> rw [q] at hs <;> first | rfl | cases hs) nl1 (by omega)
  refine ⟨r1,r2,r3.mono (by omega),by rw [te.1] at r4;exact r4,by rw [r5,te.2.2],?_⟩
  intro j e' h' hs'
  have:=r7 j e' h' hs'
  rw [te.1,te.2.2] at this
  exact this
 | lost i=>
  obtain ⟨e,c,he,hq,hlv⟩:=hc
  show Res n R (zcP n R i) _
  have e0:zcP n R i=zay n (zK n 4) (R.setE i { e with lost:=true }) c "bad":=by
   have el:∀ (o:Option (Nat × Nat × Nat)) (f:Nat × Nat × Nat->Run),o=some c->o.elim R f=f c:=fun o f h=>by rw [h];rfl
   unfold zcP
   rw [z3 he]
   exact el _ _ hq
  rw [e0]
  have ri1:RI n (R.setE i { e with lost:=true }):=ri.setE he rfl rfl (by have:=ri.ph _ _ he;unfold zeA at this ⊢;exact this)
  obtain ⟨ce,c1,c2,c3⟩:=wt i e c he hq hlv
  obtain ⟨d1,ce',d2,d3,d4⟩:=ri.cl i e c he hq
  rw [c1] at d2
  cases d2
  have hne:c.1 ≠ i:=by omega
  have c1':(R.setE i { e with lost:=true }).es[c.1]? = some ce:=by rw [zeb hne];exact c1
  have wt1:WT (R.setE i { e with lost:=true }):=fun j q cc h' hc' l'=>by
   have key:∀ q0,R.es[j]? = some q0->q0.caller=some cc->lv q0->∃ ce,(R.setE i { e with lost:=true }).es[cc.1]? = some ce/\ce.ph = .waits cc.2.1 cc.2.2/\ce.asked=some j:=fun q0 h0 hc0 l0=>by
    obtain ⟨x,x1,x2,x3⟩:=wt j q0 cc h0 hc0 l0
    by_cases z:cc.1=i
    ·rw [z] at x1 ⊢
     rw [he] at x1
     cases x1
     exact ⟨_,zc4 he _,x2,x3⟩
    ·exact ⟨x,by rw [zeb z];exact x1,x2,x3⟩
   rcases zan h' with ⟨rfl,rfl,_⟩ | ⟨_,h'⟩
   ·cases l'.1
   ·exact key q h' hc' l'
  have nl1:NL (R.setE i { e with lost:=true }) c.1:=fun j e' cc h' hc' z l'=>by
   rcases zan h' with ⟨rfl,rfl,_⟩ | ⟨hji,h'⟩
   ·cases l'.1
   ·obtain ⟨x,x1,x2,x3⟩:=wt j e' cc h' hc' l'
    rw [z,c1] at x1
    cases x1
    rw [c3] at x3
    cases x3
    exact hji rfl
  have hend:=zeX wn 4 (w:="bad") ri1 wt1 (sb.setE _ _) c1' (by have:=ri1.hs _ _ c1';have:=wn.hl;omega) (by rw [c2];rfl) nl1
  have hh:=zih wn (w:="bad") ri1 wt1 (sb.setE _ _) c1' d4 c2 nl1 hend
  refine ⟨hh.ri,hh.wt,hh.sb.mono (by omega),by have:=hh.le;simp [Run.setE] at this;exact this,hh.ca,fun j e' h' hs=>?_⟩
  rcases hh.qs j e' h' hs with ⟨e1,a1,a2,a3⟩ | ⟨a1,e1,a,t,a2,a3⟩
  ·rcases zan a1 with ⟨rfl,rfl,_⟩ | ⟨_,a1⟩
   ·exact .inl ⟨e,he,a2,a3⟩
   ·exact .inl ⟨e1,a1,a2,a3⟩
  ·rcases zan a2 with ⟨rfl,rfl,_⟩ | ⟨_,a2⟩
   ·exact .inr ⟨a1,e,a,t,he,a3⟩
   ·exact .inr ⟨a1,e1,a,t,a2,a3⟩
end My
namespace My
open PySem L2 FT
noncomputable def Run.new (n:Net):Run:=⟨0,[],n.ps.map fun _=>[],[],n.ps.map fun _=>0⟩
noncomputable def zC (n:Net) (evs:List Evt):Run:=evs.foldl (zal n) (Run.new n)
def Can (n:Net) (R:Run) (ev:Evt):Prop:=ev.isF=true\/((∃ e,R.es[ev.num]? = some e)/\ev ∈ zaC n R ev.num)
noncomputable def VEv (n:Net):Run->List Evt->Prop
 | _,[]=>True
 | R,ev::evs=>Can n R ev/\VEv n (zal n R ev) evs
variable {ev:Evt} {n:Net} {R:Run}
theorem Can.c (h:Can n R ev):EvC n R ev:=by
 rcases h with h | ⟨⟨e,he⟩,hm⟩
 ·cases ev with
  | fresh=>exact True.intro
  | _=>cases h
 ·exact (zgJ he hm).2.2
structure Good (n:Net) (R:Run) (B:Nat):Prop where
 ri:RI n R
 wt:WT R
 sb:SB B R
 sd:∀ (i:Nat) (e:Er) (k:Nat),R.es[i]? = some e->e.ph.isS=true->e.stood=some k->k<R.came
theorem zmp (n:Net):Good n (Run.new n) 0:=⟨⟨fun i e h=>by simp [Run.new] at h,fun i e c h=>by simp [Run.new] at h,fun i e h=>by simp [Run.new] at h,by simp [Run.new]⟩,fun i e c h=>by simp [Run.new] at h,⟨Q3 _,fun u hu=>by
 obtain ⟨_,_,rfl⟩:=mem_map.mp hu
 exact Q3 _,Q3 _,fun v hv=>by
 obtain ⟨_,_,rfl⟩:=mem_map.mp hv
 exact Q3 _⟩,fun i e k h=>by simp [Run.new] at h⟩
variable {B:Nat}
theorem zlb (wn:WN n) (g:Good n R B) (hc:Can n R ev):Good n (zal n R ev) (B+10):=by
 have r:=zlr wn g.ri g.wt g.sb hc.c
 exact ⟨⟨r.ri.hs,r.ri.cl,r.ri.ph,r.ri.pl⟩,r.wt,⟨r.sb.es,r.sb.pu,r.sb.py,r.sb.tk⟩,fun i e k he hs hk=>by
  show k<(doR n R ev).came+1
  rw [r.ca]
  rcases r.qs i e he hs with ⟨e1,a1,a2,a3⟩ | ⟨a1,_⟩
  ·have:=g.sd i e1 k a1 (by rw [a2];exact hs) (by rw [a3];exact hk)
   omega
  ·rw [a1] at hk
   cases hk
   omega⟩
variable {kE kR:Addr} {l:Lay} {M:Mem}
section
variable {b r:Nat}
theorem zpB {G:Gd} {bd:FT.T->FT.Ev->Mem->Out FT.Ev} {el:FT.Ev->Mem->Out FT.T} {M:Mem} {α:Type} {r:α->FT.T} (hG:zaP G M) (I:FT.Ev->Prop) (f:α->FT.T):∀ {xs:List α} {σ:FT.Ev} {acc:List FT.T},I σ->acc.length+xs.length<=100000->
  (∀ x σ,x ∈ xs->I σ->∃ σ1,bd (r x) σ M = .ok σ1 M/\I σ1/\el σ1 M = .ok (f x) M)->qW G bd qK el (xs.map r) σ M acc = .ok (acc++xs.map f) M
 | [],σ,acc,_,_,_=>by simp [qW,zdO hG]
 | x::xs,σ,acc,h,hl,t=>by
  obtain ⟨σ1,e1,h1,e2⟩:=t x σ (.head _) h
  rw [Qp] at hl
  have ih:=zpB hG I f (xs:=xs) (σ:=σ1) (acc:=acc++[f x]) h1 (by rw [Qn,Qp,length_nil];omega) (fun y σ hy=>t y σ (.tail _ hy))
  rw [QE]
  unfold qW
  rw [zdO hG,e1]
  show ((el σ1 M).bind _)=_
  rw [e2]
  show (if acc.length<sizeLine then qW G bd qK el (xs.map r) σ1 M (acc++[f x]) else .bad)=_
  rw [Qy (by rw [sizeLine_eq];omega),ih]
  simp
theorem zfv {a:Nat} {xs:List FT.T} (h:M[a]? = some (.lst xs)):zc3 (.ref a) M=some (xs,[(a,xs)]):=by
 show (match M[a]? with | some (.lst xs)=>some (xs,[(a,xs)]) | _=>none)=_
 rw [h]
end
variable {M' X:Mem}
section
theorem zjm (M X:Mem) (c:Cell):(M++(c::X))[M.length]? = some c:=by
 rw [Q8 (Q3 _),Qu];rfl
theorem znP (M X:Mem) (c d:Cell):(M++(c::X)).set M.length d=M++(d::X):=by
 rw [set_append_right _ _ (Q3 _),Qu];rfl
theorem zeB {c d:Cell} {i:Nat} (h:X[i]? = some d):(M++(c::X))[M.length+1+i]? = some d:=by
 rw [Q8 (by omega),show M.length+1+i-M.length=i+1 by omega,getElem?_cons_succ];exact h
theorem setM {fs fs':List (Str × FT.T)} {f:Str} {y:FT.T} (e:zc2 f y fs=fs') (hl:fs.length<1000):zaT [kR] f (.ref M.length) y (M++(.ins kR fs::X)) = .ok () (M++(.ins kR fs'::X)):=by
 rw [zba (zjm M X _) e hl,znP]
noncomputable def puA (b p:Nat):List Nat:=(List.range p).map fun j=>b+2+j
noncomputable def newX (n:Net) (b:Nat):Mem:=(.lst []::List.replicate n.ps.length (.lst []))++[.lst ((puA b n.ps.length).map .ref)]++[.lst []]++[.lst ((n.ps.map fun _=>0).map nT)]
noncomputable def zcH (n:Net) (b:Nat):Lay:=⟨b+1,b+2+n.ps.length,b+3+n.ps.length,b+4+n.ps.length,[],puA b n.ps.length⟩
theorem znL (M:Mem):RunAt kE kR (qg n) M.length M.length (zcH n M.length) (M++(.ins kR (zcc (qg n) (zcH n M.length) (Run.new n))::newX n M.length)) (Run.new n):=by
 have pz:pzC (puA M.length n.ps.length) (n.ps.map fun _=>[])=(List.range n.ps.length).map fun j=>(M.length+2+j,Cell.lst []):=by
  unfold pzC puA
  refine ext_getElem? fun i=>?_
  rw [List.getElem?_zipWith,Qb,Qb,Qb]
  by_cases z:i<n.ps.length
  ·rw [getElem?_range z,Q0 z]
   rfl
  ·rw [getElem?_eq_none (by simpa using z)]
   rfl
 have cs:cells kE kR (qg n) M.length (zcH n M.length) (Run.new n)=(M.length,.ins kR (zcc (qg n) (zcH n M.length) (Run.new n)))::(M.length+1,.lst [])::(M.length+2+n.ps.length,.lst ((puA M.length n.ps.length).map .ref))::(M.length+3+n.ps.length,.lst [])::(M.length+4+n.ps.length,.lst ((n.ps.map fun _=>0).map nT))::((List.range n.ps.length).map fun j=>(M.length+2+j,Cell.lst [])):=by
  rw [← pz]
  rfl
 have xl:newX n M.length=Cell.lst []::(List.replicate n.ps.length (Cell.lst [])++[.lst ((puA M.length n.ps.length).map .ref),.lst [],.lst ((n.ps.map fun _=>0).map nT)]):=by
  unfold newX
  simp
 have ap:∀ (k:Nat) (d:Cell),[Cell.lst ((puA M.length n.ps.length).map FT.T.ref),.lst [],.lst ((n.ps.map fun _=>0).map nT)][k]? = some d->(newX n M.length)[n.ps.length+1+k]? = some d:=fun k d h=>by
  rw [xl,show n.ps.length+1+k=(n.ps.length+k)+1 by omega,getElem?_cons_succ,Q8 (by rw [length_replicate];omega),length_replicate,show n.ps.length+k-n.ps.length=k by omega]
  exact h
 refine ⟨?_,?_,?_,rfl,by simp [zcH,puA,Run.new],by simp [Run.new]⟩
 ·rw [cs]
  intro p hp
  rcases QF.mp hp with rfl | hp
  ·exact zjm _ _ _
  rcases QF.mp hp with rfl | hp
  ·exact zeB (i:=0) (by rw [xl];rfl)
  rcases QF.mp hp with rfl | hp
  ·have:=zeB (M:=M) (c:=.ins kR (zcc (qg n) (zcH n M.length) (Run.new n))) (ap 0 _ rfl)
   rw [show M.length+1+(n.ps.length+1+0)=M.length+2+n.ps.length by omega] at this
   exact this
  rcases QF.mp hp with rfl | hp
  ·have:=zeB (M:=M) (c:=.ins kR (zcc (qg n) (zcH n M.length) (Run.new n))) (ap 1 _ rfl)
   rw [show M.length+1+(n.ps.length+1+1)=M.length+3+n.ps.length by omega] at this
   exact this
  rcases QF.mp hp with rfl | hp
  ·have:=zeB (M:=M) (c:=.ins kR (zcc (qg n) (zcH n M.length) (Run.new n))) (ap 2 _ rfl)
   rw [show M.length+1+(n.ps.length+1+2)=M.length+4+n.ps.length by omega] at this
   exact this
  ·obtain ⟨j,hj,rfl⟩:=mem_map.mp hp
   have hj:=mem_range.mp hj
   have:(newX n M.length)[1+j]? = some (.lst []):=by
    rw [xl,Nat.add_comm 1 j,getElem?_cons_succ,Q6 (by rw [length_replicate];exact hj),List.getElem?_replicate,Qy hj]
   have:=zeB (M:=M) (c:=.ins kR (zcc (qg n) (zcH n M.length) (Run.new n))) this
   rw [show M.length+1+(1+j)=M.length+2+j by omega] at this
   exact this
 ·rw [cs]
  simp only [QE,map_map]
  have hm:∀ x,x ∈ (List.range n.ps.length).map ((fun p:Nat × Cell=>p.1) ∘ fun j=>(M.length+2+j,Cell.lst []))->M.length+2<=x/\x<M.length+2+n.ps.length:=fun x hx=>by
   obtain ⟨j,hj,rfl⟩:=mem_map.mp hx
   have:=mem_range.mp hj
   simp only [Function.comp]
   omega
  refine nodup_cons.mpr ⟨?_,nodup_cons.mpr ⟨?_,nodup_cons.mpr ⟨?_,nodup_cons.mpr ⟨?_,nodup_cons.mpr ⟨?_,?_⟩⟩⟩⟩⟩
  ·intro z
   simp only [QF] at z
   rcases z with z | z | z | z | z
   ·omega
   ·omega
   ·omega
   ·omega
   ·have:=hm _ z;omega
  ·intro z
   simp only [QF] at z
   rcases z with z | z | z | z
   ·omega
   ·omega
   ·omega
   ·have:=hm _ z;omega
  ·intro z
   simp only [QF] at z
   rcases z with z | z | z
   ·omega
   ·omega
   ·have:=hm _ z;omega
  ·intro z
   simp only [QF] at z
   rcases z with z | z
   ·omega
   ·have:=hm _ z;omega
  ·intro z
   have:=hm _ z;omega
  ·rw [List.Nodup,List.pairwise_map]
   exact (List.nodup_range).imp fun h=>by simp only [Function.comp];omega
 ·rw [cs]
  intro p hp
  rcases QF.mp hp with rfl | hp
  ·exact Q3 _
  rcases QF.mp hp with rfl | hp
  ·exact Nat.le_succ _
  rcases QF.mp hp with rfl | hp
  ·show M.length<=M.length+2+n.ps.length;omega
  rcases QF.mp hp with rfl | hp
  ·show M.length<=M.length+3+n.ps.length;omega
  rcases QF.mp hp with rfl | hp
  ·show M.length<=M.length+4+n.ps.length;omega
  ·obtain ⟨j,_,rfl⟩:=mem_map.mp hp
   show M.length<=M.length+2+j;omega
theorem ziy:∀ (xs:List FT.T) (o:Option FT.T) (M:Mem) (acc:List FT.T),acc.length+xs.length<=100000->zy (qo 0) qK (eTk (yx ze)) xs [o] M acc = .ok (acc++(List.range xs.length).map fun j=>.ref (M.length+j)) (M++List.replicate xs.length (.lst []))
 | [],o,M,acc,_=>by simp [zy]
 | x::xs,o,M,acc,hl=>by
  rw [Qp] at hl
  have ih:=ziy xs (some x) (M++[.lst []]) (acc++[.ref M.length]) (by rw [Qn,Qt];omega)
  unfold zy
  show (if acc.length<sizeLine then zy (qo 0) qK (eTk (yx ze)) xs [some x] (M++[.lst []]) (acc++[.ref M.length]) else .bad)=_
  rw [Qy (by rw [sizeLine_eq];omega),ih]
  congr 1
  ·rw [QH,Qp,List.range_succ_eq_map,QE,map_map]
   congr 1
   show FT.T.ref M.length::_=FT.T.ref (M.length+0)::_
   congr 1
   refine map_congr_left fun j _=>?_
   simp
   omega
  ·rw [Qp,replicate_succ]
   simp
theorem zjq (wn:WN n) (M:Mem):Ok (zbk kE kR [.ref M.length,qg n] (M++[.ins kR []])) fun t M'=>t = .non/\M'=M++(.ins kR (zcc (qg n) (zcH n M.length) (Run.new n))::newX n M.length):=by
 refine zx rfl ?_
 unfold zf4
 have pl:=wn.pl
 have ap:∀ (X:Mem) (c d:Cell),M++c::X++[d]=M++(c::(X++[d])):=fun X c d=>by simp
 have ln:∀ (X:Mem) (c:Cell),(M++c::X).length=M.length+1+X.length:=fun X c=>by simp;omega
 have s1:=setM (kR:=kR) (M:=M) (X:=[]) (fs:=[]) (f:="net") (y:=qg n) (fs':=[("net",qg n)]) rfl (by decide)
 have s2:=setM (kR:=kR) (M:=M) (X:=[]) (fs:=[("net",qg n)]) (f:="came") (y:=.int 0) (fs':=[("net",qg n),("came",.int 0)]) rfl (by simp)
 have s3:=setM (kR:=kR) (M:=M) (X:=[.lst []]) (fs:=[("net",qg n),("came",.int 0)]) (f:="errands") (y:=.ref (M.length+1)) (fs':=[("net",qg n),("came",.int 0),("errands",.ref (M.length+1))]) rfl (by simp)
 have it:zcJ (eOp ixT (yb 1) (eC (.int 1))) [some (.ref M.length),some (qg n)]=fun M=>.ok (n.ps.map puT) M:=rfl
 have cp:∀ o,zy (qo 0) qK (eTk (yx ze)) (n.ps.map puT) [o] (M++(.ins kR [("net",qg n),("came",.int 0),("errands",.ref (M.length+1))]::[.lst []])) [] = .ok ((puA M.length n.ps.length).map .ref) (M++(.ins kR [("net",qg n),("came",.int 0),("errands",.ref (M.length+1))]::(.lst []::List.replicate n.ps.length (.lst [])))):=fun o=>by
  rw [ziy _ _ _ _ (by rw [length_nil,Qh];omega),Qh,nil_append]
  congr 1
  ·unfold puA
   rw [map_map]
   refine map_congr_left fun j _=>?_
   simp
  ·simp
 have s4:=setM (kR:=kR) (M:=M) (X:=(.lst []::List.replicate n.ps.length (.lst []))++[.lst ((puA M.length n.ps.length).map .ref)]) (fs:=[("net",qg n),("came",.int 0),("errands",.ref (M.length+1))]) (f:="puts") (y:=.ref (M.length+2+n.ps.length)) (fs':=[("net",qg n),("came",.int 0),("errands",.ref (M.length+1)),("puts",.ref (M.length+2+n.ps.length))]) rfl (by simp)
 have s5:=setM (kR:=kR) (M:=M) (X:=(.lst []::List.replicate n.ps.length (.lst []))++[.lst ((puA M.length n.ps.length).map .ref)]++[.lst []]) (fs:=[("net",qg n),("came",.int 0),("errands",.ref (M.length+1)),("puts",.ref (M.length+2+n.ps.length))]) (f:="payments") (y:=.ref (M.length+3+n.ps.length)) (fs':=[("net",qg n),("came",.int 0),("errands",.ref (M.length+1)),("puts",.ref (M.length+2+n.ps.length)),("payments",.ref (M.length+3+n.ps.length))]) rfl (by simp)
 have s6:=setM (kR:=kR) (M:=M) (X:=newX n M.length) (fs:=[("net",qg n),("came",.int 0),("errands",.ref (M.length+1)),("puts",.ref (M.length+2+n.ps.length)),("payments",.ref (M.length+3+n.ps.length))]) (f:="taken") (y:=.ref (M.length+4+n.ps.length)) (fs':=zcc (qg n) (zcH n M.length) (Run.new n)) rfl (by simp)
 have ct:∀ o M',zy (qo 0) qK (eC (.int 0)) (n.ps.map puT) [o] M' [] = .ok ((n.ps.map fun _=>0).map nT) M':=fun o M'=>by
  rw [map_map]
  exact Ok.mapc (r:=puT) (fun σ=>∃ o,σ=[o]) _ ⟨_,rfl⟩ (by omega) (by
   rintro x σ hx ⟨o,rfl⟩
   exact ⟨[some (puT x)],rfl,⟨_,rfl⟩,rfl⟩)
 have l4:(M++Cell.ins kR [("net",qg n),("came",.int 0),("errands",.ref (M.length+1))]::(.lst []::List.replicate n.ps.length (Cell.lst []))).length=M.length+2+n.ps.length:=by simp;omega
 have l5:(M++Cell.ins kR [("net",qg n),("came",.int 0),("errands",.ref (M.length+1)),("puts",.ref (M.length+2+n.ps.length))]::((.lst []::List.replicate n.ps.length (Cell.lst []))++[.lst ((puA M.length n.ps.length).map .ref)])).length=M.length+3+n.ps.length:=by simp;omega
 have l6:(M++Cell.ins kR [("net",qg n),("came",.int 0),("errands",.ref (M.length+1)),("puts",.ref (M.length+2+n.ps.length)),("payments",.ref (M.length+3+n.ps.length))]::((.lst []::List.replicate n.ps.length (Cell.lst []))++[.lst ((puA M.length n.ps.length).map .ref)]++[.lst []])).length=M.length+4+n.ps.length:=by simp;omega
 have st:∀ (f:Str) (y:FT.T) (fv:Ev->Mem->Out FT.T) (M0 M1 M2:Mem),fv [some (.ref M.length),some (qg n)] M0 = .ok y M1->zaT [kR] f (.ref M.length) y M1 = .ok () M2->zG [kR] f (yb 0) fv [some (.ref M.length),some (qg n)] M0 = .ok (.nx [some (.ref M.length),some (qg n)]) M2:=fun f y fv M0 M1 M2 h1 h2=>by
  unfold zG
  rw [h1]
  show (zaT [kR] f (.ref M.length) y M1).bind _=_
  rw [h2]
  rfl
 refine ⟨.non,_,?_,rfl,rfl⟩
 have t1:=st "net" (qg n) (yb 1) _ _ _ rfl s1
 have t2:=st "came" (.int 0) (eC (.int 0)) _ _ _ rfl s2
 have t3:=st "errands" (.ref (M.length+1)) (eTk (yx ze)) (M++(.ins kR [("net",qg n),("came",.int 0)]::[])) _ _ (by
  show Out.ok (FT.T.ref (M++[Cell.ins kR [("net",qg n),("came",.int 0)]]).length) (M++[Cell.ins kR [("net",qg n),("came",.int 0)]]++[.lst []]) = .ok (.ref (M.length+1)) (M++(.ins kR [("net",qg n),("came",.int 0)]::[.lst []]))
  simp) s3
 have t4:=st "puts" (.ref (M.length+2+n.ps.length)) (eTk (zax (zcJ (eOp ixT (yb 1) (eC (.int 1)))) (qo 0) qK (eTk (yx ze)) ["purse"] [])) (M++(.ins kR [("net",qg n),("came",.int 0),("errands",.ref (M.length+1))]::[.lst []])) _ _ (by
  show ((zy (qo 0) qK (eTk (yx ze)) (n.ps.map puT) [none] (M++(.ins kR [("net",qg n),("came",.int 0),("errands",.ref (M.length+1))]::[.lst []])) []).bind fun ts M1=>Out.ok (FT.T.ref M1.length) (M1++[Cell.lst ts]))=_
  rw [cp]
  show Out.ok (FT.T.ref (List.length _)) _=_
  rw [l4,ap]) s4
 have t5:=st "payments" (.ref (M.length+3+n.ps.length)) (eTk (yx ze)) (M++(.ins kR [("net",qg n),("came",.int 0),("errands",.ref (M.length+1)),("puts",.ref (M.length+2+n.ps.length))]::((.lst []::List.replicate n.ps.length (.lst []))++[.lst ((puA M.length n.ps.length).map .ref)]))) _ _ (by
  show Out.ok (FT.T.ref (List.length _)) _=_
  rw [l5,ap]) s5
 have t6:=st "taken" (.ref (M.length+4+n.ps.length)) (eTk (zax (zcJ (eOp ixT (yb 1) (eC (.int 1)))) (qo 0) qK (eC (.int 0)) ["purse"] [])) (M++(.ins kR [("net",qg n),("came",.int 0),("errands",.ref (M.length+1)),("puts",.ref (M.length+2+n.ps.length)),("payments",.ref (M.length+3+n.ps.length))]::((.lst []::List.replicate n.ps.length (.lst []))++[.lst ((puA M.length n.ps.length).map .ref)]++[.lst []]))) _ _ (by
  show ((zy (qo 0) qK (eC (.int 0)) (n.ps.map puT) [none] _ []).bind fun ts M1=>Out.ok (FT.T.ref M1.length) (M1++[Cell.lst ts]))=_
  rw [ct]
  show Out.ok (FT.T.ref (List.length _)) _=_
  rw [l6,ap]
  rfl) s6
 rw [show startT 2 [.ref M.length,qg n]=[some (.ref M.length),some (qg n)] from rfl]
 unfold yh
 rw [t1]
 show ((((zG [kR] "came" (yb 0) (eC (.int 0)) [some (.ref M.length),some (qg n)] _).bind _)).bind zcd)=_
 rw [t2]
 show ((((zG [kR] "errands" (yb 0) (eTk (yx ze)) [some (.ref M.length),some (qg n)] _).bind _)).bind zcd)=_
 rw [t3]
 show ((((zG [kR] "puts" (yb 0) _ [some (.ref M.length),some (qg n)] _).bind _)).bind zcd)=_
 rw [t4]
 show ((((zG [kR] "payments" (yb 0) _ [some (.ref M.length),some (qg n)] _).bind _)).bind zcd)=_
 rw [t5]
 show (((zG [kR] "taken" (yb 0) _ [some (.ref M.length),some (qg n)] _)).bind zcd)=_
 rw [t6]
 rfl
theorem zpy (wn:WN n) (M:Mem) {σ:Ev} (hσ:yb 0 σ=fun M=>.ok (qg n) M):∃ M',zdo kR (zbk kE kR) (zb (yb 0) ze) σ M = .ok (.ref M.length) M'/\RunAt kE kR (qg n) M.length M.length (zcH n M.length) M' (Run.new n)/\Kp M.length M M':=by
 obtain ⟨t,M',e,rfl,rfl⟩:=zjq (kE:=kE) (kR:=kR) wn M
 refine ⟨_,?_,znL M,?_⟩
 ·unfold zdo zb ze
  rw [hσ]
  show ((zbk kE kR [.ref M.length,qg n] (M++[.ins kR []])).bind _)=_
  rw [e]
  rfl
 ·exact ⟨by simp,fun i hi=>Q6 hi⟩
def EvS (t:FT.T) (evs:List Evt) (M:Mem):Prop:=∃ G,zfk t M=some (evs.map evT,G)/\zaP G M/\∀ g ∈ G,g.1<M.length
theorem zdk {α β:Type} {f:β->α->β} {x:β} {xs:List α} {k:Nat} {y:α} (h:xs[k]? = some y):(xs.take (k+1)).foldl f x=f ((xs.take k).foldl f x) y:=by
 rw [take_succ,h,List.foldl_append]
 rfl
theorem VEv.at_ {n:Net}:∀ {evs:List Evt} {R:Run} {k:Nat} {ev:Evt},VEv n R evs->evs[k]? = some ev->Can n ((evs.take k).foldl (zal n) R) ev
 | [],_,_,_,_,h=>by simp at h
 | e0::evs,R,0,ev,v,h=>by
  simp at h
  subst h
  exact v.1
 | e0::evs,R,k+1,ev,v,h=>by
  simp at h
  exact VEv.at_ (k:=k) v.2 h
theorem zbC (wn:WN n) {evs:List Evt} (v:VEv n (Run.new n) evs):∀ k,k<=evs.length->Good n (zC n (evs.take k)) (10*k)
 | 0,_=>zmp n
 | k+1,h=>by
  have hk:evs[k]? = some evs[k]:=Q0 (by omega)
  have g:=zbC wn v k (by omega)
  have c:=v.at_ hk
  unfold zC at g ⊢
  rw [zdk hk]
  have:=zlb wn g c
  exact ⟨this.ri,this.wt,this.sb.mono (by omega),this.sd⟩
theorem zkS (wn:WN n) {b r:Nat} (h:RunAt kE kR (qg n) b r l M R) (g:Good n R B) (hB:B+10<90000) (hc:Can n R ev):qS kE kR [.ref r,evT ev] M = .ok .non M/\Ok (zbX kE kR [.ref r,evT ev] M) (Lv kE kR n b r (zal n R ev) M):=by
 refine ⟨?_,zpD h wn hB g.sb g.ri hc.c.ok⟩
 rcases hc with hf | ⟨⟨e,he⟩,hm⟩
 ·cases ev with
  | fresh=>exact zlA h
  | _=>cases hf
 ·have:=zgJ he hm
  exact zqz h wn g.ri (by have:=g.sb.es;omega) this.1 he hm
theorem zoR (wn:WN n) {t:FT.T} {evs:List Evt} (ht:EvS t evs M) (v:VEv n (Run.new n) evs) (hl:evs.length<=2000):Ok (zed kE kR [qg n,t] M) fun u M'=>u = .ref M.length/\Kp M.length M M'/\∃ l,RunAt kE kR (qg n) M.length M.length l M' (zC n evs):=by
 obtain ⟨G,hs,hG,hlt⟩:=ht
 have cs:∀ {M':Mem},Kp M.length M M'->zaP G M':=fun k g hg=>by rw [k.2 g.1 (hlt g hg)];exact hG g hg
 refine zx rfl ?_
 unfold zij
 obtain ⟨M1,e1,h1,k1⟩:=zpy (kE:=kE) (kR:=kR) wn M (σ:=[some (qg n),some t,none,none]) rfl
 have hs1:zfk t M1=some (evs.map evT,G):=by
  cases t with
  | ref a=>
   have hs:(match M[a]? with
    | some (.lst xs)=>some (xs,[(a,xs)])
    | _=>none)=some (evs.map evT,G):=hs
   show (match M1[a]? with
    | some (.lst xs)=>some (xs,[(a,xs)])
    | _=>none)=_
   cases q:M[a]? with
   | none=>rw [q] at hs;cases hs
   | some c=>rw [k1.2 a (qA q)];exact hs
  | _=>exact hs
 simp_arith [e1,zcN,zhr,hs1]
 refine Ok.bind (Ok.forG (r:=evT) (xs:=evs) (fun k σ M'=>∃ o,σ=[some (qg n),some t,some (.ref M.length),o]/\Kp M.length M M'/\∃ l,RunAt kE kR (qg n) M.length M.length l M' (zC n (evs.take k))) (fun i σ M' h=>by obtain ⟨o,_,k,_⟩:=h;exact cs k) ⟨none,rfl,k1,_,h1⟩ ?_) ?_
 ·rintro k ev σ M2 hk ⟨o,rfl,k2,l2,h2⟩
  have hkl:=(Qx.mp hk).1
  obtain ⟨c1,c2⟩:=zkS wn h2 (zbC wn v k (by omega)) (by omega) (v.at_ hk)
  unfold zhe
  simp_arith [c1]
  refine Ok.bind c2 ?_
  rintro u M3 ⟨rfl,k3,l3,h3⟩
  try simp_arith
  refine Ok.ret ⟨_,rfl,_,rfl,k2.trans k3,l3,?_⟩
  unfold zC at h3 ⊢
  rw [zdk hk]
  exact h3
 ·rintro fl M' ⟨σ,rfl,o,rfl,k2,l2,h2⟩
  rw [take_length] at h2
  simp_arith
  exact Ok.ret ⟨rfl,k2,l2,h2⟩
theorem zm7 (h:Kp M.length M M'):M'.take M.length=M:=by
 refine ext_getElem? fun i=>?_
 by_cases z:i<M.length
 ·rw [List.getElem?_take_of_lt z];exact h.2 i z
 ·rw [getElem?_eq_none (by rw [Qr];omega),getElem?_eq_none (by omega)]
end
noncomputable def zd8 (n:Net) (R:Run):List Evt:=.fresh::(List.range R.es.length).flatMap (zaC n R)
section
theorem zmD (R:Run) (i:Nat):(zaC n R i).length<=10:=Qj (List.length_filter_le _ _) (zjH i)
theorem zfz (R:Run):∀ k,((List.range k).flatMap (zaC n R)).length<=10*k
 | 0=>by simp
 | k+1=>by
  rw [range_succ,List.flatMap_append,Qn]
  have h1:=zfz R k
  have h2:=zmD (n:=n) R k
  have h3:([k].flatMap (zaC n R))=zaC n R k:=by simp
  rw [h3]
  omega
theorem zrc (ev:Evt):FT.T.lt 0 (evT ev):=by
 cases ev with
 | fresh=>
  refine .tup fun u hu=>?_
  rw [QG.mp hu];exact .str _
 | ends i w=>
  refine .tup fun u hu=>?_
  simp only [QF,not_mem_nil,or_false] at hu
  rcases hu with rfl | rfl | rfl
  ·exact .str _
  ·exact .int _
  ·exact .str _
 | lost i=>
  refine .tup fun u hu=>?_
  simp only [QF,not_mem_nil,or_false] at hu
  rcases hu with rfl | rfl
  ·exact .str _
  ·exact .int _
 | again i=>
  refine .tup fun u hu=>?_
  simp only [QF,not_mem_nil,or_false] at hu
  rcases hu with rfl | rfl
  ·exact .str _
  ·exact .int _
 | up i=>
  refine .tup fun u hu=>?_
  simp only [QF,not_mem_nil,or_false] at hu
  rcases hu with rfl | rfl
  ·exact .str _
  ·exact .int _
theorem znQ (h:ev ∈ zd8 n R):Can n R ev:=by
 rcases QF.mp h with rfl | h
 ·exact .inl rfl
 ·obtain ⟨i,hi,hm⟩:=List.mem_flatMap.mp h
  have hi:=mem_range.mp hi
  have he:R.es[i]? = some R.es[i]:=Q0 hi
  have:=zgJ he hm
  exact .inr ⟨⟨_,by rw [this.2.1];exact he⟩,by rw [this.2.1];exact hm⟩
end
variable {d:Int} {xs:List Int}
section
theorem zib (c:Int) (M:Mem):zch kE kR [.int c] M = .ok (.ref M.length) (M++[(Po.new c).cell]):=by
 unfold zch zjw
 simp_arith
 rw [show Po.new c=⟨if c-10 ^ 18 > 0 then c-10 ^ 18 else 0,c % 10 ^ 18,0⟩ from rfl,Q9 _ (by decide)]
 rfl
theorem zk2 (p:Po) (a:Nat) (base:Int) (M:Mem) (e:M[a]? = some p.cell) (h:0<base) (hb:base.natAbs<10 ^ 100):yA kE kR [.ref a,.int base] M = .ok (.int (p.dig base)) (M.set a (p.nxt base).cell):=by
 unfold yA zil
 have ha:a<M.length:=(Qx.mp e).1
 have hd:∀ i M,zeg (.int i) (.int base) M = .ok (.int (i.fdiv base)) M:=fun i M=>zeY (zkh 100 (by decide) (by omega) hb)
 have hm:∀ i M,zbU (.int i) (.int base) M = .ok (.int (i.fmod base)) M:=fun i M=>zjl (by omega)
 by_cases hp:0<p.a
 ·simp_arith [e,Po.cell,hd,hm,Qv hp]
  unfold Po.dig Po.nxt
  rw [Qy hp,Qy hp,Q9 _ (by omega),Int.fdiv_eq_ediv_of_nonneg _ (by omega)]
 ·have hs:∀ c:Cell,(M.set a c)[a]? = some c:=fun c=>by rw [Qc,Qy rfl,Qy ha]
  have h1:∀ j M,yR (.int 7919) (.int j) M = .ok (.int (7919*j)) M:=fun j M=>zaY (by decide)
  have hx:∀ x:Int,0<=x.fmod 1000000007/\x.fmod 1000000007<1000000007:=fun x=>by rw [Q9 _ (by decide)];omega
  have hy:∀ x:Int,0<=x.fmod 998244353/\x.fmod 998244353<998244353:=fun x=>by rw [Q9 _ (by decide)];omega
  have h2:∀ (x y:Int) M,yR (.int (x.fmod 1000000007+11)) (.int y) M = .ok (.int ((x.fmod 1000000007+11)*y)) M:=fun x y M=>zaY (by have:=hx x;omega)
  have h3:∀ (x y:Int) M,yR (.int (x.fmod 998244353)) (.int y) M = .ok (.int (x.fmod 998244353*y)) M:=fun x y M=>zaY (by have:=hy x;omega)
  simp_arith [e,Po.cell,hd,hm,Qw hp,hs,h1,h2,h3]
  unfold Po.dig Po.nxt
  rw [Qz hp,Qz hp]
  simp only [Q9 _ (show (0:Int)<=1000000007 by decide),Q9 _ (show (0:Int)<=998244353 by decide),Q9 _ (show (0:Int)<=2147483647 by decide),Int.fdiv_eq_ediv_of_nonneg _ (show (0:Int)<=8 by decide),Q9 _ (show (0:Int)<=base by omega)]
def PO (a:Nat) (M:Mem):Prop:=∃ p:Po,M[a]? = some p.cell
theorem PO.fr {a:Nat} (h:PO a M) {S:List Nat} (f:Fr S M M') (hs:a ∉ S):PO a M':=by
 obtain ⟨p,e⟩:=h
 exact ⟨p,f.get e hs⟩
theorem qI {a:Nat} {base:Int} (e:PO a M) (h:0<base) (hb:base.natAbs<10 ^ 100) :
  Ok (yA kE kR [.ref a,.int base] M) fun t M'=>∃ d:Int,t = .int d/\0<=d/\d<base/\PO a M'/\Fr [a] M M':=by
 obtain ⟨p,e⟩:=e
 exact Ok.of (zk2 p a base M e h hb) ⟨_,rfl,p.dig_lo h,p.dig_hi h,⟨_,get_set e⟩,Fr.set _ _ _⟩
theorem PO.app {c:Int}:PO M.length (M++[(Po.new c).cell]):=⟨_,yM⟩
theorem zjG {ns:List Int} {n:Nat} (hn:n<=1000) (M:Mem):∃ c,zbD kE kR [.lst (ns.map .int),.int (n:Int)] M = .ok (.int c) M:=by
 unfold zbD zim
 by_cases h:n<ns.length
 ·refine ⟨ns[n],?_⟩
  have a:atI (ns.map FT.T.int) (n:Int)=some (.int ns[n]):=by rw [FT.zbl];simp [h]
  have d:decide ((n:Int)<((ns.map FT.T.int).length:Int))=true:=Qv (by rw [Qh];omega)
  simp_arith [d,a]
 ·have d:decide ((n:Int)<((ns.map FT.T.int).length:Int))=false:=Qw (by rw [Qh];omega)
  have m1:∀ M,yR (.int 7919) (.int (n:Int)) M = .ok (.int (7919*(n:Int))) M:=fun M=>zaY (by decide)
  have m2:∀ M,yR (.int (7919*(n:Int))) (.int (n:Int)) M = .ok (.int (7919*(n:Int)*(n:Int))) M:=fun M=>zaY (by omega)
  have m3:∀ M,yR (.int 31) (.int (n:Int)) M = .ok (.int (31*(n:Int))) M:=fun M=>zaY (by decide)
  exact ⟨7919*(n:Int)*(n:Int)+31*(n:Int),by simp_arith [d,m1,m2,m3]⟩
theorem pick (h0:0<=d) (h1:d<xs.length):∃ v ∈ xs,atI (xs.map FT.T.int) d=some (.int v):=by
 obtain ⟨x,h1,h2⟩:=zlG (xs:=xs.map FT.T.int) h0 (by simpa using h1)
 obtain ⟨v,hv,rfl⟩:=mem_map.mp h2
 exact ⟨v,hv,h1⟩
theorem zeO (lo hi:Int) (h0:0<=d) (h1:d<xs.length) (h:xs.all (fun v=>decide (lo<=v/\v<=hi))=true):∃ v:Int,atI (xs.map FT.T.int) d=some (.int v)/\lo<=v/\v<=hi:=by
 obtain ⟨v,hv,e⟩:=pick h0 h1
 have:=all_eq_true.mp h v hv
 exact ⟨v,e,of_decide_eq_true this⟩
theorem zhw {b:Int} (h0:0<b) (h:b<=10 ^ 40):b.natAbs<10 ^ 100:=by
 refine Nat.lt_of_le_of_lt (show b.natAbs<=10 ^ 40 from ?_) (Nat.pow_lt_pow_right (by decide) (by decide))
 simp only [Int.reducePow] at h
 simp only [Nat.reducePow]
 omega
theorem zmQ {xs:List Str} (h0:0<=d) (h1:d<xs.length):∃ v ∈ xs,atI (xs.map FT.T.str) d=some (.str v):=by
 obtain ⟨x,h1,h2⟩:=zlG (xs:=xs.map FT.T.str) h0 (by simpa using h1)
 obtain ⟨v,hv,rfl⟩:=mem_map.mp h2
 exact ⟨v,hv,h1⟩
theorem zq2 {b:Int} (h0:0<=b) (h1:b<3):∃ v:Str,(v = "bad"\/v = "spent")/\atI [FT.T.str "bad",.str "bad",.str "spent"] b=some (.str v):=by
 have:b=0\/b=1\/b=2:=by omega
 rcases this with rfl | rfl | rfl
 ·exact ⟨_,.inl rfl,rfl⟩
 ·exact ⟨_,.inl rfl,rfl⟩
 ·exact ⟨_,.inr rfl,rfl⟩
end
end My
namespace FT
open PySem L2
variable {σ:Ev} {p q:X5} {Q:Fl->Mem->Prop} {M:Mem}
theorem Ok.seqX (h:∀ X,X=zbO q->Ok ((p σ M).bind X) Q):Ok (yh p q σ M) Q:=h _ rfl
theorem Ok.seqR {Q:T->Mem->Prop} (h:∀ X,X=(fun fl M=>(zbO q fl M).bind zcd)->Ok ((p σ M).bind X) Q):Ok ((yh p q σ M).bind zcd) Q:=by
 have:=h _ rfl
 unfold yh
 rw [zmK]
 exact this
theorem Ok.seqP (P:Fl->Mem->Prop) (h:Ok (p σ M) P) (g:∀ fl M',P fl M'->Ok (zbO q fl M') Q):Ok (yh p q σ M) Q:=Ok.bind h g
end FT
namespace My
open PySem L2 FT
noncomputable abbrev S (l:List Nat):Str:=⟨l.toArray⟩
theorem zdp (l:List Nat):(S l).length=l.length:=by simp [Str.length]
theorem sz {n:Nat} (h:n<=10000):n<=sizeLine:=by rw [sizeLine_eq];omega
variable {l:List Nat}
theorem zr5 (h:l.length<=10000) (M:Mem):yz (.str (S l)) M = .ok (.int (l.length:Int)) M:=by
 unfold yz
 dsimp only
 rw [zdp,Qy (sz h)]
noncomputable def isL (c:Nat):Bool:=decide (97<=c/\c<=122)
noncomputable def isW (l:List Nat):Bool:=decide (1<=l.length/\l.length<=8) && l.all isL
theorem adE {m:List Nat} (h:l.length+m.length<=10000) (M:Mem):zN (.str (S l)) (.str (S m)) M = .ok (.str (S (l++m))) M:=by
 unfold zN
 dsimp only
 rw [Qy (sz (by rw [zdp,zdp];exact h))]
 congr 2
 show Str.append _ _=_
 unfold Str.append
 simp
theorem zoM (zs:List Str):zfj (zs.map FT.T.str)=some zs:=by
 induction zs with
 | nil=>rfl
 | cons z zs ih=>simp only [QE,zfj,ih,Option.map_some]
theorem zn0 (x:Str) (M:Mem):isStr (.str x) M=true:=rfl
theorem zlc:∀ (cs:List Nat) (acc:Array Nat),(cs.map fun c=>S [c]).foldl (fun acc p=>acc++(Str.ofString "").cps++p.cps) acc=acc++cs.toArray
 | [],acc=>by simp
 | c::cs,acc=>by
  rw [QE,List.foldl_cons,zlc cs]
  simp [show (Str.ofString "").cps = #[] by decide]
theorem zre (cs:List Nat):Txt.join "" (cs.map fun c=>S [c])=S cs:=by
 unfold Txt.join Builtin.Str.glued
 cases cs with
 | nil=>rfl
 | cons c cs=>
  show Str.mk _=_
  congr 1
  rw [QE,List.headD_cons,List.drop_succ_cons,drop_zero,zlc]
  simp
theorem join_eq {cs:List Nat} (h:cs.length<=10) (M:Mem):zeS (.str "") [.lst (cs.map fun c=>.str (S [c]))] M = .ok (.str (S cs)) M:=by
 have e:(cs.map fun c=>FT.T.str (S [c]))=(cs.map fun c=>S [c]).map FT.T.str:=by rw [map_map];rfl
 have hs:((cs.map fun c=>S [c]).map (·.length)).sum=cs.length:=by
  clear h e
  induction cs with
  | nil=>rfl
  | cons c cs ih=>simp only [QE,List.sum_cons,Qp,ih];show 1+cs.length=_;omega
 rw [e]
 unfold zeS
 simp only [yo,zoM]
 rw [Qy (by rw [hs,show (Str.ofString "").length=0 from rfl];omega),zre]
theorem zqR:∀ n:Nat,n<7->∀ a:Nat,a<n+1->Builtin.Str.strSliceIndices none (some (a:Int)) 1 n=List.range a:=by decide +kernel
theorem zqS:∀ n:Nat,n<7->∀ a:Nat,a<n+1->Builtin.Str.strSliceIndices (some (a:Int)) none 1 n=(List.range (n-a)).map (· + a):=by decide +kernel
theorem zqA:∀ n:Nat,n<26->atI (Str.ofString "abcdefghijklmnopqrstuvwxyz").cps.toList (n:Int)=some (97+n):=by decide +kernel
theorem zd6 (r:List Nat):∀ n,(List.range n).filterMap (fun k=>r[k]?)=r.take n
 | 0=>by simp
 | n+1=>by
  rw [range_succ,List.filterMap_append,zd6 r n,take_succ]
  congr 1
theorem zqx (hl:l.length<=6) {a:Nat} (ha:a<=l.length) (M:Mem):zdz (.str (S l)) none (some (a:Int)) M = .ok (.str (S (l.take a))) M:=by
 have e:Txt.slice (S l) none (some (a:Int))=S (l.take a):=by
  unfold Txt.slice
  rw [zdp,zqR _ (by omega) a (by omega),length_range]
  split
  ·rename_i h
   have:a=l.length:=by simpa using h
   rw [this,take_length]
  ·congr 1
   rw [show (fun x=>(S l).cps[x]?)=fun k=>l[k]? from by funext k;simp,zd6]
 unfold zdz
 dsimp only
 rw [Qy (sz (by rw [zdp];omega)),e]
theorem zqy (hl:l.length<=6) {a:Nat} (ha:a<=l.length) (M:Mem):zdz (.str (S l)) (some (a:Int)) none M = .ok (.str (S (l.drop a))) M:=by
 have e:Txt.slice (S l) (some (a:Int)) none=S (l.drop a):=by
  unfold Txt.slice
  rw [zdp,zqS _ (by omega) a (by omega),Qh,length_range]
  split
  ·rename_i h
   have:a=0:=by simp at h;omega
   rw [this,drop_zero]
  ·congr 1
   rw [List.filterMap_map,show ((fun x=>(S l).cps[x]?) ∘ fun x=>x+a)=fun k=>(l.drop a)[k]? from by funext k;simp [Nat.add_comm],zd6]
   rw [take_of_length_le (by rw [length_drop];omega)]
 unfold zdz
 dsimp only
 rw [Qy (sz (by rw [zdp];omega)),e]
theorem zid {d:Int} (h0:0<=d) (h:d<26) (M:Mem):ixS (.str "abcdefghijklmnopqrstuvwxyz") (.int d) M = .ok (.str (S [97+d.toNat])) M:=by
 obtain ⟨n,rfl⟩:∃ n:Nat,d=n:=⟨d.toNat,by omega⟩
 unfold ixS
 simp only [zqA n (by omega)]
 exact Qy (sz (by decide))
theorem zpA (c:Nat) (k:Nat) (M:Mem):zgy (.str (S [c])) (.int ((k % 2:Nat):Int)) M = .ok (.str (S (if k % 2=1 then [c] else []))) M:=by
 have h:k % 2=0\/k % 2=1:=by omega
 unfold zgy
 dsimp only
 rcases h with h | h
 ·rw [h,Qy (by refine ⟨by decide,fun z _=>absurd (by decide) z,fun z _=>absurd (by decide) z⟩)]
  rfl
 ·rw [h,Qy (by refine ⟨by decide,fun _ h=>by simp at h,fun _ h=>by simp at h⟩)]
  rfl
noncomputable def nmL (b:List Nat) (a f k:Nat):List Nat:=b.take a++[97+(f+5*k) % 26]++b.drop a++(if k % 2=1 then [97+f] else [])
theorem zeP (b:List Nat) (a f k:Nat):(nmL b a f k).length=b.length+1+k % 2:=by
 have h:k % 2=0\/k % 2=1:=by omega
 unfold nmL
 rw [Qn,Qn,Qn,Qr,length_drop,Qt]
 rcases h with h | h <;> (rw [h];simp;omega)
variable {f:Nat}
theorem zra {b:List Nat} (hb:b.all isL=true) (h6:b.length<=6) {a k:Nat} (hf:f<26):isW (nmL b a f k)=true:=by
 unfold isW
 rw [zeP,Qs]
 refine ⟨Qv (by omega),all_eq_true.mpr fun c hc=>?_⟩
 have hb:=all_eq_true.mp hb
 unfold nmL at hc
 rcases mem_append.mp hc with hc | hc
 ·rcases mem_append.mp hc with hc | hc
  ·rcases mem_append.mp hc with hc | hc
   ·exact hb c (List.mem_of_mem_take hc)
   ·rw [QG.mp hc];exact Qv (by omega)
  ·exact hb c (List.mem_of_mem_drop hc)
 ·split at hc
  ·rw [QG.mp hc];exact Qv (by omega)
  ·cases hc
variable {i j:Nat}
theorem zpx {b:List Nat} {a:Nat} (hf:f<26) (hij:i<j) (hj:j<4) (e:nmL b a f i=nmL b a f j):False:=by
 have hl:=congrArg List.length e
 rw [zeP,zeP] at hl
 unfold nmL at e
 rw [show i % 2=j % 2 by omega] at e
 have e1:=List.append_cancel_right e
 have e2:=List.append_cancel_right e1
 have e3:=List.append_cancel_left e2
 have e4:97+(f+5*i) % 26=97+(f+5*j) % 26:=by simpa using e3
 have:j=i+2:=by omega
 omega
noncomputable def nmS (b:List Nat) (a f n:Nat):List Str:=(List.range n).map fun k=>S (nmL b a f k)
theorem zpw {b:List Nat} {a n:Nat} (hf:f<26) (hn:n<=4):(nmS b a f n).Nodup:=by
 unfold nmS
 refine List.pairwise_map.mpr (List.Pairwise.imp_of_mem ?_ (List.pairwise_lt_range (n:=n)))
 intro i j hi hj hlt e
 have e:=congrArg (fun s:Str=>s.cps.toList) e
 simp at e
 exact zpx hf hlt (by have:=mem_range.mp hj;omega) e
structure Nms (ws:List Str):Prop where
 nd:ws.Nodup
 w:∀ x ∈ ws,∃ l,x=S l/\isW l=true
 ln:∃ h,∀ x ∈ ws,x.length=h\/x.length=h+1
theorem zpv {b:List Nat} (hb:b.all isL=true) (h6:b.length<=6) {a n:Nat} (hf:f<26) (hn:n<=4):Nms (nmS b a f n):=⟨zpw hf hn,fun x hx=>by
 obtain ⟨k,_,rfl⟩:=mem_map.mp hx
 exact ⟨_,rfl,zra hb h6 hf⟩,b.length+1,fun x hx=>by
 obtain ⟨k,_,rfl⟩:=mem_map.mp hx
 rw [zdp,zeP]
 omega⟩
variable {kE kR:Addr} {M:Mem}
section
theorem zhz {a:Nat} (e:PO a M) {n:Nat} (hn:n<=4):Ok (zcx kE kR [.ref a,.int (n:Int)] M) fun t M'=>∃ w ws,t = .ref w/\M'[w]? = some (.lst (ws.map .str))/\M.length<=w/\Nms ws/\ws.length=n/\PO a M'/\Fr [a] M M':=by
 refine zx rfl ?_
 unfold zg0
 have ha:a<M.length:=by obtain ⟨p,e⟩:=e;exact qA e
 rw [show startT 9 [.ref a,.int (n:Int)]=[some (.ref a),some (.int (n:Int)),none,none,none,none,none,none,none] from rfl]
 right
 simp_arith
 left
 right
 simp_arith [zbu,zn0]
 refine Ok.bind (qI e (by decide) (by decide)) ?_
 rintro t M1 ⟨m,rfl,m0,m1,p1,f1⟩
 simp_arith [zad (show -(2 ^ 62)<=m/\m<2 ^ 62 by omega)]
 refine Ok.bind (Ok.comp (r:=FT.T.int) (fun i acc σ M'=>(∃ cs:List Nat,acc=cs.map (fun c=>.str (S [c]))/\cs.length=i/\cs.all isL=true)/\(∃ o,σ=[o,some (.str "abcdefghijklmnopqrstuvwxyz"),some (.ref a)])/\PO a M'/\Fr [a] M M') (rgI m.toNat) 0 [] ⟨⟨[],rfl,rfl,rfl⟩,⟨_,rfl⟩,p1,f1⟩ (by rw [zaI];exact sz (by simp;omega)) ?_) ?_
 ·rintro k x σ M2 acc hk ⟨⟨cs,rfl,hz,h1⟩,⟨o,rfl⟩,p2,f2⟩
  simp_arith
  refine Ok.bind (qI p2 (by decide) (by decide)) ?_
  rintro t M3 ⟨d,rfl,d0,d1,p3,f3⟩
  simp_arith [zid d0 d1]
  refine Ok.ret ⟨⟨cs++[97+d.toNat],by simp,by simp [hz],?_⟩,⟨_,rfl⟩,p3,f2.trans f3⟩
  rw [List.all_append,h1]
  simp only [all_cons,List.all_nil,Bool.true_and,Bool.and_true]
  exact Qv (by omega)
 rintro ts M2 ⟨σ,⟨b,rfl,hz,hb⟩,_,p2,f2⟩
 rw [Nat.zero_add,zaI] at hz
 have hb6:b.length<=6:=by omega
 simp_arith [join_eq (cs:=b) (by omega)]
 left
 right
 simp_arith [zr5 (l:=b) (by omega)]
 refine Ok.bind (qI p2 (by omega) (zhw (by omega) (by omega))) ?_
 rintro t M3 ⟨av,rfl,a0,a1,p3,f3⟩
 obtain ⟨at_,rfl⟩:∃ at_:Nat,av=at_:=⟨av.toNat,by omega⟩
 try simp_arith
 left
 right
 simp_arith
 refine Ok.bind (qI p3 (by decide) (by decide)) ?_
 rintro t M4 ⟨fv,rfl,f0,f1',p4,f4⟩
 obtain ⟨f,rfl⟩:∃ f:Nat,fv=f:=⟨fv.toNat,by omega⟩
 try simp_arith
 left
 right
 simp_arith
 left
 have fr4:Fr [a] M M4:=(f2.trans f3).trans f4
 have l4:=fr4.1
 right
 simp_arith [zad (M:=M4++[.lst []]) (j:=(n:Int)) (by omega),QD]
 refine Ok.bind (Ok.for (r:=FT.T.int) (xs:=rgI n) (fun k σ M'=>(∃ o7 o8,σ=[some (.ref a),some (.int (n:Int)),some (.str "abcdefghijklmnopqrstuvwxyz"),some (.str (S b)),some (.int (at_:Int)),some (.int (f:Int)),some (.ref M4.length),o7,o8])/\M'=M4++[.lst ((nmS b at_ f k).map .str)]) ⟨⟨none,none,rfl⟩,rfl⟩ ?_) ?_
 ·rintro k x σ M5 hx ⟨⟨o7,o8,rfl⟩,rfl⟩
  obtain ⟨hk,rfl⟩:=zbf hx
  unfold zf8
  have m1:∀ M,yR (.int 5) (.int (k:Int)) M = .ok (.int (5*(k:Int))) M:=fun M=>zaY (by decide)
  have hd:((f:Int)+5*(k:Int)).fmod 26=(((f+5*k) % 26:Nat):Int):=by rw [Q9 _ (by decide)];omega
  have hk2:((k:Int)).fmod 2=((k % 2:Nat):Int):=by rw [Q9 _ (by decide)];omega
  have c1:=fun M=>zqx (l:=b) hb6 (a:=at_) (by omega) M
  have c2:=fun M=>zqy (l:=b) hb6 (a:=at_) (by omega) M
  have x1:=fun M=>zid (d:=(((f+5*k) % 26:Nat):Int)) (by omega) (by omega) M
  have x2:=fun M=>zid (d:=(f:Int)) (by omega) (by omega) M
  rw [QD] at x1
  rw [QD] at x2
  have y1:=fun M=>adE (l:=b.take at_) (m:=[97+(f+5*k) % 26]) (by rw [Qr,Qt];omega) M
  have y2:=fun M=>adE (l:=b.take at_++[97+(f+5*k) % 26]) (m:=b.drop at_) (by rw [Qn,Qr,Qt,length_drop];omega) M
  have y3:=fun M=>adE (l:=b.take at_++[97+(f+5*k) % 26]++b.drop at_) (m:=if k % 2=1 then [97+f] else []) (by
   have:(if k % 2=1 then [97+f] else []).length<=1:=by split <;> simp
   rw [Qn,Qn,Qr,Qt,length_drop];omega) M
  have z1:=fun M=>zpA (97+f) k M
  have g:(M4++[Cell.lst ((nmS b at_ f k).map .str)])[M4.length]? = some (.lst ((nmS b at_ f k).map .str)):=yM
  have hl:((nmS b at_ f k).map FT.T.str).length<sizeLine:=by
   unfold nmS
   rw [Qh,Qh,length_range,sizeLine_eq]
   omega
  nofun
  simp_arith [ziv,m1,hd,c1,c2,x1,y1,y2]
  left
  simp_arith [qE g,x2,hk2,z1,y3,zO g hl]
  refine Ok.ret ⟨_,rfl,⟨_,_,rfl⟩,?_⟩
  rw [set_append_right _ _ (Q3 _),Qu]
  unfold nmS
  rw [range_succ,Qq,Qq]
  rfl
 rintro fl M5 ⟨σ,rfl,⟨o7,o8,rfl⟩,rfl⟩
 rw [zaI]
 left
 simp_arith
 refine Ok.ret ⟨M4.length,nmS b at_ f n,rfl,yM,l4,zpv hb hb6 (by omega) hn,by simp [nmS],p4.fr (Fr.app _ _) (by simp),fr4.tr (Fr.app _ _) (by simp)⟩
end
variable {P:FT.T} {pn:List Str}
section
def PV (P:FT.T) (pn:List Str) (a:Nat) (M:Mem):Prop:=P = .lst (pn.map .str)\/∃ w,P = .ref w/\w ≠ a/\M[w]? = some (.lst (pn.map .str))
theorem PV.lst {a:Nat} (h:PV P pn a M):yo P M=some (pn.map .str):=by
 rcases h with rfl | ⟨w,rfl,_,h3⟩
 ·rfl
 ·unfold yo;simp only [h3]
theorem PV.len {a:Nat} (h:PV P pn a M):yz P M = .ok (nT pn.length) M:=by
 rcases h with rfl | ⟨w,rfl,_,h3⟩
 ·rw [zme,Qh]
 ·rw [zfw h3,Qh]
structure AO (later pn:List Str) (q:Ask):Prop where
 to:q.to ∈ later
 t0:0<=q.tries
 t4:q.tries<=4
 pu:∀ s,q.purse=some s->s ∈ pn
 wo:q.word = "bad"\/q.word = "spent"
theorem zkU (l:List FT.T) (M:Mem):neA (.lst l) (.lst []) M = .ok (.bl (!l.isEmpty)) M:=by cases l <;> rfl
theorem zpS (b:Bool) (M:Mem):zj9 (.bl b) M = .ok (.int (if b then 1 else 0)) M:=rfl
theorem zgz {i j:Int} :zgA (.int i) (.int j) M = .ok (.int (if j<i then j else i)) M:=rfl
theorem zoB {a:Nat} (e:PO a M) {later:List Str} (hP:PV P pn a M) (hl:later.length<=4) (hp:pn.length<=2) {most:Nat} (hm:most<=3) :
  Ok (zee kE kR [.ref a,.lst (later.map .str),P,.int (most:Int)] M) fun t M'=>∃ as:List Ask,t = .tup (as.map qu)/\as.length<=most/\(∀ q ∈ as,AO later pn q)/\PO a M'/\Fr [a] M M':=by
 refine zx rfl ?_
 unfold zin
 have ha:a<M.length:=by obtain ⟨p,e⟩:=e;exact qA e
 rw [show startT 10 [.ref a,.lst (later.map .str),P,.int (most:Int)]=[some (.ref a),some (.lst (later.map .str)),some P,some (.int (most:Int)),none,none,none,none,none,none] from rfl]
 right
 simp_arith
 left
 have pf:Fr [a] M (M++[Cell.lst []]):=(Fr.app _ _).mono
 right
 simp_arith
 refine Ok.bind (qI (e.fr (Fr.app _ [Cell.lst []]) (by simp)) (by decide) (by decide)) ?_
 rintro t M1 ⟨d,rfl,d0,d1,p1,f1⟩
 obtain ⟨v,hv,v0,v3⟩:=zeO (xs:=[1,1,2,2,3,0,2,1]) 0 3 d0 d1 rfl
 simp only [QE,map_nil] at hv
 obtain ⟨n,hn,hnl,hn0⟩:∃ n:Nat,(if v<(most:Int) then v else (most:Int))*(if (!(later.map FT.T.str).isEmpty)=true then 1 else 0)=(n:Int)/\n<=most/\(later=[]->n=0):=by
  cases later with
  | nil=>exact ⟨0,by simp,Nat.zero_le _,fun _=>rfl⟩
  | cons x xs=>
   simp only [QE,List.isEmpty_cons,Bool.not_false,if_true,Int.mul_one]
   refine ⟨(if v<(most:Int) then v else (most:Int)).toNat,?_,?_,fun h=>by cases h⟩
   ·split <;> omega
   ·split <;> omega
 have ml:∀ (x y:Int) M,(x=if v<(most:Int) then v else (most:Int))->yR (.int x) (.int y) M = .ok (.int (x*y)) M:=fun x y M h=>zaY (by rw [h];split <;> omega)
 simp_arith [hv,zgz,zkU,zpS,ml _ _ _ rfl,hn,zad (M:=M1) (j:=(n:Int)) (by omega),QD]
 refine Ok.bind (Ok.for (r:=FT.T.int) (xs:=rgI n) (fun k σ M'=>(∃ o5 o6 o7 o8 o9,σ=[some (.ref a),some (.lst (later.map .str)),some P,some (.int (most:Int)),some (.ref M.length),o5,o6,o7,o8,o9])/\(∃ as:List Ask,M'[M.length]? = some (.lst (as.map qu))/\as.length=k/\∀ q ∈ as,AO later pn q)/\PO a M'/\Fr [a,M.length] (M++[Cell.lst []]) M') ⟨⟨_,_,_,_,_,rfl⟩,⟨[],f1.get yM (by simp;omega),rfl,fun q h=>by cases h⟩,p1,f1.sub (by simp)⟩ ?_) ?_
 ·rintro k x σ M2 hx ⟨⟨o5,o6,o7,o8,o9,rfl⟩,⟨as,g2,hk,hao⟩,p2,f2⟩
  obtain ⟨hkn,rfl⟩:=zbf hx
  have hlr:later ≠ []:=fun z=>by have:=hn0 z;omega
  have hl0:0<later.length:=by cases later with | nil=>exact absurd rfl hlr | cons _ _=>simp
  have hPk:∀ {M'},Fr [a,M.length] (M++[Cell.lst []]) M'->PV P pn a M':=fun {M'} f=>by
   rcases hP with h | ⟨w,h1,h2,h3⟩
   ·exact .inl h
   ·have:=qA h3
    exact .inr ⟨w,h1,h2,f.get ((Fr.app M [Cell.lst []]).get0 h3) (by simp;omega)⟩
  unfold zhf
  nofun
  simp_arith [Qh]
  refine Ok.bind (qI p2 (by omega) (zhw (by omega) (by omega))) ?_
  rintro t M3 ⟨w,rfl,w0,w1,p3,f3⟩
  obtain ⟨to,hto,hat⟩:=zmQ (xs:=later) w0 w1
  simp_arith [hat]
  left
  nofun
  simp_arith
  refine Ok.bind (qI p3 (by decide) (by decide)) ?_
  rintro t M4 ⟨w',rfl,w0',w1',p4,f4⟩
  obtain ⟨tr,htr,tr0,tr4⟩:=zeO (xs:=[1,2,2,3,4,0,0,1]) 0 4 w0' w1' rfl
  simp only [QE,map_nil] at htr
  simp_arith [htr]
  left
  have f24:Fr [a,M.length] (M++[Cell.lst []]) M4:=(f2.tr f3 (by simp)).tr f4 (by simp)
  have P4:=hPk f24
  have rp:zgq P (.int 2) M4 = .ok (pn.map FT.T.str++pn.map FT.T.str) M4:=by
   unfold zgq
   simp only [P4.lst]
   rw [Qy ⟨by decide,by decide,by rw [Qh];omega⟩]
   simp [List.replicate]
  have ct:zeI (.lst [.non]) (.lst (pn.map FT.T.str++pn.map FT.T.str)) M4 = .ok (.non::(pn.map FT.T.str++pn.map FT.T.str)) M4:=by
   show (if _ then _ else _)=_
   rw [Qy (by rw [Qn,Qh,Qt,sizeLine_eq];omega)]
   rfl
  have m2:∀ M,yR (.int 2) (nT pn.length) M = .ok (.int (2*(pn.length:Int))) M:=fun M=>zaY (by decide)
  nofun
  simp_arith [rp,ct,P4.len,m2]
  refine Ok.bind (qI p4 (by omega) (zhw (by omega) (by omega))) ?_
  rintro t M5 ⟨z,rfl,z0,z1,p5,f5⟩
  obtain ⟨pu,hpu,hpm⟩:∃ pu:Option Str,atI (FT.T.non::(pn.map FT.T.str++pn.map FT.T.str)) z=some (opS pu)/\∀ s,pu=some s->s ∈ pn:=by
   obtain ⟨zz,rfl⟩:=Int.eq_ofNat_of_zero_le z0
   rw [FT.zbl]
   cases zz with
   | zero=>exact ⟨none,rfl,fun s h=>by cases h⟩
   | succ zz=>
    have hz:zz<(pn++pn).length:=by rw [Qn];omega
    rw [getElem?_cons_succ,← Qq,Qb,Q0 hz]
    exact ⟨some (pn++pn)[zz],rfl,fun s h=>by cases h;exact (mem_append.mp (getElem_mem hz)).elim id id⟩
  simp_arith [hpu]
  left
  nofun
  simp_arith
  refine Ok.bind (qI p5 (by decide) (by decide)) ?_
  rintro t M6 ⟨y,rfl,y0,y1,p6,f6⟩
  obtain ⟨wo,hwo,hwa⟩:=zq2 y0 y1
  simp_arith [hwa]
  left
  have f26:Fr [a,M.length] (M++[Cell.lst []]) M6:=(f24.tr f5 (by simp)).tr f6 (by simp)
  have g6:M6[M.length]? = some (.lst (as.map qu)):=f6.get (f5.get (f4.get (f3.get g2 (by simp;omega)) (by simp;omega)) (by simp;omega)) (by simp;omega)
  simp_arith [qE g6]
  refine Ok.bind (qI p6 (by decide) (by decide)) ?_
  rintro t M7 ⟨b1,rfl,b10,b11,p7,f7⟩
  simp_arith
  refine Ok.bind (qI p7 (by decide) (by decide)) ?_
  rintro t M8 ⟨b2,rfl,b20,b21,p8,f8⟩
  have g8:M8[M.length]? = some (.lst (as.map qu)):=f8.get (f7.get g6 (by simp;omega)) (by simp;omega)
  obtain ⟨q0,hq0⟩:∃ q0:Ask,q0=⟨to,tr,pu,wo,b1==0,b2==0⟩:=⟨_,rfl⟩
  have ap:=zO (t:=qu q0) g8 (by rw [Qh,sizeLine_eq];omega)
  rw [show as.map qu++[qu q0]=(as++[q0]).map qu from by simp,show qu q0 = .tup [.str to,.int tr,opS pu,.str wo,.bl (b1==0),.bl (b2==0)] from by rw [hq0];rfl] at ap
  simp_arith [ap]
  refine Ok.ret ⟨_,rfl,⟨_,_,_,_,_,rfl⟩,⟨as++[q0],get_set g8,by simp [hk],fun q hq=>?_⟩,p8.fr (Fr.set _ _ _) (by simp;omega),((f26.tr f7 (by simp)).tr f8 (by simp)).tr (Fr.set _ _ _) (by simp)⟩
  rcases mem_append.mp hq with hq | hq
  ·exact hao q hq
  ·rw [QG.mp hq,hq0]
   exact ⟨hto,tr0,tr4,hpm,hwo⟩
 rintro fl M2 ⟨σ,rfl,⟨o5,o6,o7,o8,o9,rfl⟩,⟨as,g2,hk,hao⟩,p2,f2⟩
 rw [zaI] at hk
 left
 simp_arith [zdW g2]
 refine Ok.ret ⟨as,rfl,by omega,hao,p2,?_⟩
 exact ((Fr.app M [Cell.lst []]).mono (S:=[a])).tr f2 (by simp)
end
theorem zix {α:Type} (f:α->FT.T) (xs:List α) (k:Nat):zbE (xs.map f) (some (k:Int)) none=(xs.drop k).map f:=by
 unfold zbE
 rw [HT.zgn,HT.zhU,Qh,← map_drop,← map_take]
 congr 1
 by_cases h:k<=xs.length
 ·rw [Nat.min_eq_left h,take_of_length_le (by rw [length_drop];omega)]
 ·rw [Nat.min_eq_right (by omega),List.drop_of_length_le (Q3 _),List.drop_of_length_le (by omega)]
  simp
theorem zlu {α:Type} (f:α->FT.T) (xs:List α) (k:Nat):zbE (xs.map f) none (some (k:Int))=(xs.take k).map f:=by
 unfold zbE
 rw [HT.zgn,HT.zhU,Qh,drop_zero,Nat.sub_zero,← map_take]
 congr 1
 by_cases h:k<=xs.length
 ·rw [Nat.min_eq_left h]
 ·rw [Nat.min_eq_right (by omega),take_of_length_le (Q3 _),take_of_length_le (by omega)]
variable {ws:List Str}
theorem Nms.sub {us:List Str} (h:Nms ws) (s:us.Sublist ws):Nms us:=⟨h.nd.sublist s,fun x hx=>h.w x (s.subset hx),h.ln.imp fun k hk x hx=>hk x (s.subset hx)⟩
theorem Nms.rev (h:Nms ws):Nms ws.reverse:=⟨List.pairwise_reverse.mpr (h.nd.imp Ne.symm),fun x hx=>h.w x (List.mem_reverse.mp hx),h.ln.imp fun k hk x hx=>hk x (List.mem_reverse.mp hx)⟩
structure GN (n:Net):Prop where
 hn:Nms (n.hs.map (·.name))
 h1:1<=n.hs.length
 h4:n.hs.length<=4
 pn:Nms (n.ps.map (·.name))
 p2:n.ps.length<=2
 pe:∀ p ∈ n.ps,(p.earns = "first"\/p.earns = "any")/\1<=p.per/\p.per<=9
 a3:∀ h ∈ n.hs,h.asks.length<=3
 ao:∀ i h,n.hs[i]? = some h->∀ q ∈ h.asks,AO ((n.hs.map (·.name)).drop (i+1)) (n.ps.map (·.name)) q
 a6:(n.hs.map (·.asks.length)).sum<=6
section
theorem zpz {a:Nat} (e:PO a M):Ok (zeU kE kR [.ref a] M) fun t M'=>∃ n,t=qg n/\GN n/\PO a M'/\Fr [a] M M':=by
 refine zx rfl ?_
 unfold zjt
 have ha:a<M.length:=by obtain ⟨p,e⟩:=e;exact qA e
 rw [show startT 10 [.ref a]=[some (.ref a),none,none,none,none,none,none,none,none,none] from rfl]
 right
 simp_arith
 refine Ok.bind (qI e (by decide) (by decide)) ?_
 rintro t M1 ⟨d,rfl,d0,d1,p1,f1⟩
 obtain ⟨v,hv,v1,v4⟩:=zeO (xs:=[2,3,3,4,4,3,2,1]) 1 4 d0 d1 rfl
 simp only [QE,map_nil] at hv
 obtain ⟨nh,rfl⟩:∃ nh:Nat,v=nh:=⟨v.toNat,by omega⟩
 simp_arith [hv]
 refine Ok.bind (zhz p1 (n:=nh) (by omega)) ?_
 rintro t M2 ⟨w,hs,rfl,gw,hw,nmh,hlh,p2,f2⟩
 try simp_arith
 left
 right
 simp_arith
 refine Ok.bind (qI p2 (by decide) (by decide)) ?_
 rintro t M3 ⟨d',rfl,d0',d1',p3,f3⟩
 obtain ⟨v',hv',v1',v4'⟩:=zeO (xs:=[0,1,1,2]) 0 2 d0' d1' rfl
 simp only [QE,map_nil] at hv'
 obtain ⟨np,rfl⟩:∃ np:Nat,v'=np:=⟨v'.toNat,by omega⟩
 simp_arith [hv']
 refine Ok.bind (zhz p3 (n:=np) (by omega)) ?_
 rintro t M4 ⟨w',ps,rfl,gw',hw',nmp,hlp,p4,f4⟩
 try simp_arith
 left
 have wa:w ≠ a:=by have:=f1.1;omega
 have lw2:w<M2.length:=qA gw
 have l3:=f3.1
 have wa':w' ≠ a:=by have:=f1.1;have:=f2.1;omega
 have gw4:M4[w]? = some (.lst (hs.map .str)):=f4.get (f3.get gw (by simpa using wa)) (by simpa using wa)
 right
 simp_arith
 refine Ok.bind (qI p4 (by decide) (by decide)) ?_
 rintro t M5 ⟨c,rfl,c0,c1,p5,f5⟩
 have gw5:M5[w]? = some (.lst (hs.map .str)):=f5.get gw4 (by simpa using wa)
 have gw5':M5[w']? = some (.lst (ps.map .str)):=f5.get gw' (by simpa using wa')
 have fr5:Fr [a] M M5:=((((f1.trans f2).trans f3).trans f4).trans f5)
 -- the purses as they lie
 have key:∀ (P:FT.T) (pn:List Str),PV P pn a M5->Nms pn->pn.length<=2->(∀ w2,P = .ref w2->w2<M5.length)->∀ (X:Fl->Mem->Out FT.T),(X=fun fl M=>(zbO (yh (yq 3 (eTk (yx ze)))
 (yh (yq 4 (eC (.int 6)))
 (yh (zcb (yU (zb (yf (yy yz) (zb (yb 1) ze)) ze)) (qo 5) (zfH kE kR))
 (yh (yq 7 (eTk (yx ze)))
 (yh (zcN (zcq (yb 2)) (qo 8) (zfG kE kR))
 (zF (yF (zb (yf (yy zQ) (zb (yb 3) ze)) (zb (yf (yy zQ) (zb (yb 7) ze)) ze))))))))) fl M).bind zcd)->
   Ok (X (.nx [some (.ref a),some (.ref w),some P,none,none,none,none,none,none,none]) M5) fun t M'=>∃ n,t=qg n/\GN n/\PO a M'/\Fr [a] M M':=by
  intro P pn hP nmP hpl hPl X hX
  rw [hX]
  clear hX
  simp only [qf]
  right
  try simp_arith
  left
  right
  try simp_arith
  left
  have lM5:=fr5.1
  have g6:(M5++[Cell.lst []])[w]? = some (.lst (hs.map .str)):=(Fr.app M5 [Cell.lst []]).get0 gw5
  right
  simp_arith [zfw g6,Qh,zad (M:=M5++[Cell.lst []]) (j:=(hs.length:Int)) (by omega),QD]
  refine Ok.bind (Ok.for (r:=FT.T.int) (xs:=rgI hs.length) (fun k σ M'=>∃ (ss:List Hs) (o5 o6:Option FT.T),σ=[some (.ref a),some (.ref w),some P,some (.ref M5.length),some (.int (6-((ss.map (·.asks.length)).sum:Nat))),o5,o6,none,none,none]/\M'[M5.length]? = some (.lst (ss.map hsT))/\ss.map (·.name)=hs.take k/\(∀ h ∈ ss,h.asks.length<=3)/\(∀ i h,ss[i]? = some h->∀ q ∈ h.asks,AO (hs.drop (i+1)) pn q)/\(ss.map (·.asks.length)).sum<=6/\PO a M'/\Fr [a,M5.length] (M5++[Cell.lst []]) M') ⟨[],none,none,rfl,yM,rfl,(fun h hh=>by cases hh),(fun i h hh=>by simp at hh),by simp,p5.fr (Fr.app _ _) (by simp),Fr.refl _ _⟩ ?_) ?_
  ·rintro k x σ M6 hx ⟨ss,o5,o6,rfl,g3,hnm,ha3,hao,h6,p6,f6⟩
   obtain ⟨hk,rfl⟩:=zbf hx
   have hsl:ss.length=k:=by
    have:=congrArg List.length hnm
    rw [Qh,Qr] at this
    omega
   unfold zfH
   have gw6:M6[w]? = some (.lst (hs.map .str)):=f6.get g6 (by simp;have:=qA gw5;omega)
   have hP6:PV P pn a M6:=by
    rcases hP with h | ⟨w2,h1,h2,h3⟩
    ·exact .inl h
    ·exact .inr ⟨w2,h1,h2,f6.get ((Fr.app M5 [Cell.lst []]).get0 h3) (by simp;have:=qA h3;omega)⟩
   have lw:yo (.ref w) M6=some (hs.map .str):=by unfold yo;simp only [gw6]
   have cu:zbE (hs.map FT.T.str) (some ((k:Int)+1)) none=(hs.drop (k+1)).map .str:=by
    rw [show (k:Int)+1=((k+1:Nat):Int) by omega,zix]
   obtain ⟨mo,hmo,hmo3,hmor⟩:∃ mo:Nat,(if 6-(((ss.map (·.asks.length)).sum:Nat):Int)<3 then 6-(((ss.map (·.asks.length)).sum:Nat):Int) else 3)=(mo:Int)/\mo<=3/\mo+(ss.map (·.asks.length)).sum<=6:=by
    split
    ·exact ⟨(6-(((ss.map (·.asks.length)).sum:Nat):Int)).toNat,by omega,by omega,by omega⟩
    ·exact ⟨3,rfl,by omega,by omega⟩
   nofun
   simp_arith [lw,cu,zgz,hmo]
   refine Ok.bind (zoB p6 hP6 (by rw [length_drop];omega) hpl hmo3) ?_
   rintro t M7 ⟨as,rfl,hal,haq,p7,f7⟩
   try simp_arith
   left
   nofun
   simp_arith [Qh]
   left
   have g37:M7[M5.length]? = some (.lst (ss.map hsT)):=f7.get g3 (by simp;omega)
   have gw7:M7[w]? = some (.lst (hs.map .str)):=f7.get gw6 (by simpa using wa)
   have hnk:hs[k]? = some (hs[k]'hk):=Q0 hk
   have ix:ixT (.ref w) (.int (k:Int)) M7 = .ok (.str (hs[k]'hk)) M7:=by
    unfold ixT zii
    simp only [gw7,zp (f:=FT.T.str) hnk]
    rfl
   have ap:=zO (t:=hsT ⟨hs[k]'hk,as⟩) g37 (by rw [Qh,sizeLine_eq];omega)
   rw [show ss.map hsT++[hsT ⟨hs[k]'hk,as⟩]=(ss++[(⟨hs[k]'hk,as⟩:Hs)]).map hsT from by simp,show hsT ⟨hs[k]'hk,as⟩ = .tup [.str (hs[k]'hk),.tup (as.map qu)] from rfl] at ap
   have ix2:(zfr (atI (hs.map FT.T.str) (k:Int)) M7) = .ok (.str (hs[k]'hk)) M7:=by rw [zp (f:=FT.T.str) hnk];rfl
   simp_arith [qE g37,gw7,zp (f:=FT.T.str) hnk,ap]
   have sm:((ss++[(⟨hs[k]'hk,as⟩:Hs)]).map (·.asks.length)).sum=(ss.map (·.asks.length)).sum+as.length:=by simp
   refine Ok.ret ⟨_,rfl,ss++[⟨hs[k]'hk,as⟩],some (.int (k:Int)),some (.tup (as.map qu)),?_,get_set g37,?_,fun h hh=>?_,fun i h hi q hq=>?_,?_,p7.fr (Fr.set _ _ _) (by simp;omega),(f6.tr f7 (by simp)).tr (Fr.set _ _ _) (by simp)⟩
   ·rw [sm,show (6:Int)-(((ss.map (·.asks.length)).sum+as.length:Nat):Int)=6-(((ss.map (·.asks.length)).sum:Nat):Int)-(as.length:Int) by omega]
   ·rw [Qq,hnm,take_succ,hnk];rfl
   ·rcases mem_append.mp hh with hh | hh
    ·exact ha3 h hh
    ·rw [QG.mp hh];show as.length<=3;omega
   ·rw [List.getElem?_append] at hi
    split at hi
    ·exact hao i h hi q hq
    ·have:i=k:=by
      have:=(Qx.mp hi).1
      rw [Qt] at this
      omega
     subst this
     rw [hsl,Qu] at hi
     cases hi
     exact haq q hq
   ·rw [sm];omega
  rintro fl M6 ⟨σ,rfl,ss,o5,o6,rfl,g3,hnm,ha3,hao,h6,p6,f6⟩
  rw [zaI,take_length] at hnm
  left
  right
  try simp_arith
  left
  have hP7:PV P pn a (M6++[Cell.lst []]):=by
   rcases hP with h | ⟨w2,h1,h2,h3⟩
   ·exact .inl h
   ·exact .inr ⟨w2,h1,h2,(Fr.app M6 [Cell.lst []]).get0 (f6.get ((Fr.app M5 [Cell.lst []]).get0 h3) (by simp;have:=qA h3;omega))⟩
  have l6:M5.length<M6.length:=qA g3
  obtain ⟨G,hG,hGk⟩:∃ G,zc3 P (M6++[Cell.lst []])=some (pn.map .str,G)/\∀ M',Fr [a,M6.length] (M6++[Cell.lst []]) M'->zaP G M':=by
   rcases hP7 with rfl | ⟨w2,rfl,h2,h3⟩
   ·exact ⟨[],rfl,fun M' f=>zmx M'⟩
   ·refine ⟨[(w2,pn.map .str)],?_,fun M' f=>zfy (f.get h3 ?_)⟩
    ·unfold zc3
     simp only [h3]
    ·have:=hPl w2 rfl
     simp
     omega
  right
  simp_arith [zcN,zcq,hG]
  refine Ok.bind (Ok.forG (G:=G) (r:=FT.T.str) (xs:=pn) (fun k σ M'=>∃ (us:List Pu) (o8 o9:Option FT.T),σ=[some (.ref a),some (.ref w),some P,some (.ref M5.length),some (.int (6-((ss.map (·.asks.length)).sum:Nat))),o5,o6,some (.ref M6.length),o8,o9]/\M'[M6.length]? = some (.lst (us.map puT))/\us.map (·.name)=pn.take k/\(∀ p ∈ us,(p.earns = "first"\/p.earns = "any")/\1<=p.per/\p.per<=9)/\PO a M'/\Fr [a,M6.length] (M6++[Cell.lst []]) M') (fun i σ M' h=>by obtain ⟨_,_,_,_,_,_,_,_,f⟩:=h;exact hGk _ f) ⟨[],none,none,rfl,yM,rfl,(fun h hh=>by cases hh),p6.fr (Fr.app _ _) (by simp),Fr.refl _ _⟩ ?_) ?_
  ·rintro k x σ M7 hx ⟨us,o8,o9,rfl,g7,hun,hpe,p7,f7⟩
   have hk:=(Qx.mp hx).1
   have hul:us.length=k:=by
    have:=congrArg List.length hun
    rw [Qh,Qr] at this
    omega
   unfold zfG
   nofun
   simp_arith
   refine Ok.bind (qI p7 (by decide) (by decide)) ?_
   rintro t M8 ⟨z,rfl,z0,z1,p8,f8⟩
   obtain ⟨ea,hea,hat⟩:=zmQ (xs:=["first","any"]) z0 (by simpa using z1)
   simp only [QE,map_nil] at hat
   have hea:ea = "first"\/ea = "any":=by simpa using hea
   simp_arith [hat]
   left
   have g8:M8[M6.length]? = some (.lst (us.map puT)):=f8.get g7 (by simp;omega)
   simp_arith [qE g8]
   refine Ok.bind (qI p8 (by decide) (by decide)) ?_
   rintro t M9 ⟨y,rfl,y0,y1,p9,f9⟩
   simp_arith
   refine Ok.bind (qI p9 (by decide) (by decide)) ?_
   rintro t M10 ⟨u,rfl,u0,u1,p10,f10⟩
   obtain ⟨pr,hpr,hp1,hp9⟩:∃ pr:Int,atI [FT.T.int 1,.int 1,.int 2,.int 3,.int (1+y)] u=some (.int pr)/\1<=pr/\pr<=9:=by
    have:u=0\/u=1\/u=2\/u=3\/u=4:=by omega
    rcases this with rfl | rfl | rfl | rfl | rfl
    ·exact ⟨1,rfl,by decide,by decide⟩
    ·exact ⟨1,rfl,by decide,by decide⟩
    ·exact ⟨2,rfl,by decide,by decide⟩
    ·exact ⟨3,rfl,by decide,by decide⟩
    ·exact ⟨1+y,rfl,by omega,by omega⟩
   have g10:M10[M6.length]? = some (.lst (us.map puT)):=f10.get (f9.get g8 (by simp;omega)) (by simp;omega)
   have ap:=zO (t:=puT ⟨x,ea,pr⟩) g10 (by rw [Qh,sizeLine_eq];omega)
   rw [show us.map puT++[puT ⟨x,ea,pr⟩]=(us++[(⟨x,ea,pr⟩:Pu)]).map puT from by simp,show puT ⟨x,ea,pr⟩ = .tup [.str x,.str ea,.int pr] from rfl] at ap
   simp_arith [hpr,ap]
   refine Ok.ret ⟨_,rfl,us++[⟨x,ea,pr⟩],_,_,rfl,get_set g10,by rw [Qq,hun,take_succ,hx];rfl,fun p hp=>?_,p10.fr (Fr.set _ _ _) (by simp;omega),(((f7.tr f8 (by simp)).tr f9 (by simp)).tr f10 (by simp)).tr (Fr.set _ _ _) (by simp)⟩
   rcases mem_append.mp hp with hp | hp
   ·exact hpe p hp
   ·rw [QG.mp hp];exact ⟨hea,hp1,hp9⟩
  rintro fl M7 ⟨σ,rfl,us,o8,o9,rfl,g7,hun,hpe,p7,f7⟩
  rw [take_length] at hun
  left
  have g37:M7[M5.length]? = some (.lst (ss.map hsT)):=f7.get ((Fr.app M6 [Cell.lst []]).get0 g3) (by simp;omega)
  simp_arith [zdW g37,zdW g7]
  have hsn:ss.length=hs.length:=by have:=congrArg List.length hnm;rwa [Qh] at this
  have hun2:us.length=pn.length:=by have:=congrArg List.length hun;rwa [Qh] at this
  refine Ok.ret ⟨⟨ss,us⟩,rfl,⟨by rw [hnm];exact nmh,by show 1<=ss.length;omega,by show ss.length<=4;omega,by rw [hun];exact nmP,by show us.length<=2;omega,hpe,ha3,by rw [hnm,hun];exact hao,h6⟩,p7,?_⟩
  refine (fr5.tr (Fr.app M5 [Cell.lst []]) (by simp)).tr (f6.tr (((Fr.app M6 [Cell.lst []]).mono (S:=[a])).tr f7 (by simp)) ?_) ?_
  all_goals simp
  all_goals omega
 by_cases hc:c=0
 ·have lw:yo (.ref w) M5=some (hs.map .str):=by unfold yo;simp only [gw5]
  have rv:zgo (.ref w) (some (-1)) M5 = .ok (.lst (hs.reverse.map .str)) M5:=by
   show (if (some (-1:Int))=some (-1) then rvX (.ref w) M5 else .bad)=_
   rw [Qy rfl]
   unfold rvX
   simp only [lw]
   rw [List.map_reverse]
  have ll:yo (.lst (hs.reverse.map FT.T.str)) M5=some (hs.reverse.map .str):=rfl
  have cu:=zlu FT.T.str hs.reverse ps.length
  subst hc
  simp_arith [eRv,rv,zfw gw5',Qh,ll,cu]
  exact key _ (hs.reverse.take ps.length) (.inl rfl) (nmh.rev.sub (List.take_sublist _ _)) (by rw [Qr];omega) (fun w2 z=>by cases z) _ hX
 ·simp_arith [show (c==0)=false by simpa using hc]
  exact key _ ps (.inr ⟨w',rfl,wa',gw5'⟩) nmp (by omega) (fun w2 z=>by cases z;exact qA gw5') _ hX
end
variable {ys:List Str} {s:Str}
theorem zeT (nd:ys.Nodup) (h:ys[j]? = some s):∀ k,zcI s ys k=some (k+j):=by
 induction ys generalizing j with
 | nil=>simp at h
 | cons y ys ih=>
  intro k
  have nd':=nodup_cons.mp nd
  unfold zcI
  cases j with
  | zero=>
   simp at h
   rw [h]
   simp
  | succ j=>
   simp at h
   have hne:¬ (y==s)=true:=fun z=>by
    have:y=s:=by simpa using z
    exact nd'.1 (this ▸ Qa h)
   rw [Qz hne,ih nd'.2 h (k+1)]
   congr 1
   omega
theorem zh6 (nd:ys.Nodup) {k:Nat} (h:s ∈ ys.drop k):∃ j,k<=j/\ys[j]? = some s:=by
 obtain ⟨i,hi⟩:=mem_iff_getElem?.mp h
 rw [List.getElem?_drop] at hi
 exact ⟨k+i,by omega,hi⟩
variable {n:Net}
theorem GN.wn (h:GN n):WN n:=by
 refine ⟨h.h4,h.h1,by have:=h.p2;omega,fun x hx=>by have:=h.a3 x hx;omega,fun i a ha=>?_,fun p hp=>by have:=h.pe p hp;omega⟩
 unfold Net.asks at ha
 cases e:n.hs[i]? with
 | none=>rw [e] at ha;cases ha
 | some x=>
  rw [e] at ha
  have ao:=h.ao i x e a ha
  obtain ⟨j,hj,ej⟩:=zh6 h.hn.nd ao.to
  have q:=zeT h.hn.nd ej 0
  rw [Nat.zero_add] at q
  have qx:n.hix a.to=j:=by unfold Net.hix;rw [q];rfl
  refine ⟨by rw [q,qx],by omega,fun s hs=>?_,ao.t0⟩
  obtain ⟨k,ek⟩:=mem_iff_getElem?.mp (ao.pu s hs)
  have q:=zeT h.pn.nd ek 0
  unfold Net.pix
  rw [q]
  rfl
variable {p:Pu}
theorem zo8 (gn:GN n) {k:Nat} (hk:n.ps[k]? = some p):n.pix p.name=k:=by
 have:(n.ps.map (·.name))[k]? = some p.name:=by rw [Qb,hk];rfl
 unfold Net.pix
 rw [zeT gn.pn.nd this 0,Nat.zero_add]
 rfl
variable {h:Nat}
theorem znq (gn:GN n) {a:Ask} (ha:a ∈ n.asks h) {k:Nat} (hk:n.ps[k]? = some p):n.pof a=some k ↔ a.purse=some p.name:=by
 unfold Net.pof
 constructor
 ·intro e
  cases q:a.purse with
  | none=>rw [q] at e;cases e
  | some s=>
   rw [q] at e
   have e:n.pix s=k:=Qd e
   unfold Net.asks at ha
   cases eh:n.hs[h]? with
   | none=>rw [eh] at ha;cases ha
   | some x=>
    rw [eh] at ha
    obtain ⟨j,hj⟩:=mem_iff_getElem?.mp ((gn.ao h x eh a ha).pu s q)
    have:=zeT gn.pn.nd hj 0
    unfold Net.pix at e
    rw [this,Nat.zero_add] at e
    have e:j=k:=e
    subst e
    rw [Qb,hk] at hj
    exact hj.symm
 ·intro e
  rw [e]
  exact congrArg some (zo8 gn hk)
variable {σ:FT.Ev} {q:FT.Ev->Mem->Out Fl} {Q:Fl->Mem->Prop} {R:Run}
section
theorem _root_.FT.Ok.ifB {c:FT.Ev->Mem->Out Bool} {p:FT.Ev->Mem->Out Fl} (b:Bool) (hc:c σ M = .ok b M) (h:Ok (if b=true then p σ M else q σ M) Q):Ok (sIf c p q σ M) Q:=by
 unfold sIf
 rw [hc]
 exact h
theorem _root_.FT.Ok.ifP {c:FT.Ev->Mem->Out Bool} {p:FT.Ev->Mem->Out Fl} (P:Bool->Mem->Prop) (h:Ok (c σ M) P) (g:∀ b M1,P b M1->Ok (if b=true then p σ M1 else q σ M1) Q):Ok (sIf c p q σ M) Q:=Ok.bind h g
end
inductive Slot where
 | w | a | d | p | q
 | e (i:Nat)
 | k (k:Nat)
 | g (k:Nat)
 | c (k:Nat)
deriving DecidableEq
noncomputable def Net.per (n:Net) (k:Nat):Nat:=(n.ps.getD k ⟨"","",1⟩).per.toNat
noncomputable def qN (u:List Nat) (m:Nat):List (List Nat):=(List.range (u.length / m)).map fun j=>(u.drop (j*m)).take m
noncomputable def qJ (u:List Nat) (m:Nat):List Nat:=u.drop (u.length / m*m)
noncomputable def Slot.ok (n:Net) (R:Run):Slot->Prop
 | .e i=>i<R.es.length
 | .k j=>j<n.ps.length
 | .g j=>j<n.ps.length
 | .c j=>j<n.ps.length
 | _=>True
noncomputable def tuL (c:List Nat):FT.T:=.tup (c.map nT)
noncomputable def ctn (n:Net) (ad:Slot->Nat) (R:Run) (D:List (Key × FT.T)):Slot->Cell
 | .w=>.lst [.ref (ad .a),.ref (ad .d),.ref (ad .p),.ref (ad .q)]
 | .a=>.lst ((List.range R.es.length).map fun i=>.ref (ad (.e i)))
 | .d=>.dic D
 | .p=>.lst ((List.range n.ps.length).map fun j=>.ref (ad (.k j)))
 | .q=>.lst (R.pays.map zab)
 | .e i=>.lst [nT (R.er i).house,clT (R.er i).caller,phT (R.er i).ph]
 | .k j=>.lst [.ref (ad (.g j)),.ref (ad (.c j)),nT (R.taken.getD j 0)]
 | .g j=>.lst ((qJ (R.puts.getD j []) (n.per j)).map nT)
 | .c j=>.lst ((qN (R.puts.getD j []) (n.per j)).map tuL)
noncomputable def zcp (R:Run) (i:Nat):Bool:=((R.es[i]?).map (·.lost)).getD false
structure Wd (n:Net) (ad:Slot->Nat) (M:Mem) (R:Run) (D:List (Key × FT.T)):Prop where
 ho:∀ s,s.ok n R->M[ad s]? = some (ctn n ad R D s)
 inj:∀ s t,s.ok n R->t.ok n R->ad s=ad t->s=t
 dl:∀ i:Nat,(yW D (.inl (i:Int))).isSome=zcp R i
 dk:D.length<=R.came
 pl:R.puts.length=n.ps.length
 tl:R.taken.length=n.ps.length
structure Wf2 (n:Net) (ad:Slot->Nat) (M:Mem) (R:Run) (ad':Slot->Nat) (M':Mem) (R':Run):Prop where
 le:M.length<=M'.length
 kp:∀ i,i<M.length->(∀ s,s.ok n R->ad s ≠ i)->M'[i]? = M[i]?
 nw:∀ s,s.ok n R'->(s.ok n R/\ad' s=ad s)\/M.length<=ad' s
 ww:ad' .w=ad .w
def Wst (n:Net) (ad:Slot->Nat) (M:Mem) (R R':Run) (M':Mem):Prop:=∃ ad' D',Wd n ad' M' R' D'/\Wf2 n ad M R ad' M' R'
variable {e e':Er} {D:List (Key × FT.T)} {M':Mem} {R':Run} {ad ad':Slot->Nat}
section
theorem Wf2.refl:Wf2 n ad M R ad M R:=⟨Q3 _,fun _ _ _=>rfl,fun _ h=>.inl ⟨h,rfl⟩,rfl⟩
theorem Wf2.trans {ad'':Slot->Nat} {M'':Mem} {R'':Run} (h:Wf2 n ad M R ad' M' R') (g:Wf2 n ad' M' R' ad'' M'' R''):Wf2 n ad M R ad'' M'' R'':=by
 refine ⟨Qj h.le g.le,fun i hi ho=>?_,fun s hs=>?_,g.ww.trans h.ww⟩
 ·rw [g.kp i (Q5 hi h.le) fun s hs z=>?_,h.kp i hi ho]
  rcases h.nw s hs with ⟨h1,h2⟩ | h2
  ·exact ho s h1 (h2.symm.trans z)
  ·omega
 ·rcases g.nw s hs with ⟨h1,h2⟩ | h2
  ·rcases h.nw s h1 with ⟨h3,h4⟩ | h4
   ·exact .inl ⟨h3,h2.trans h4⟩
   ·exact .inr (by omega)
  ·exact .inr (Qj h.le h2)
theorem Wst.trans' {R1 R2:Run} {M1 M2:Mem} {ad1:Slot->Nat} {D1:List (Key × FT.T)} (f:Wf2 n ad M R ad1 M1 R1) (h:Wst n ad1 M1 R1 R2 M2):Wst n ad M R R2 M2:=by
 obtain ⟨ad2,D2,h1,h2⟩:=h
 exact ⟨ad2,D2,h1,f.trans h2⟩
theorem Wd.write (h:Wd n ad M R D) {s:Slot} {c:Cell} {D':List (Key × FT.T)} (hs:s.ok n R) (hR:R'.es.length=R.es.length) (hc:ctn n ad R' D' s=c) (he:∀ t,t ≠ s->ctn n ad R' D' t=ctn n ad R D t)
 (dl:∀ i:Nat,(yW D' (.inl (i:Int))).isSome=zcp R' i) (dk:D'.length<=R'.came) (pl:R'.puts.length=R.puts.length) (tl:R'.taken.length=R.taken.length):Wd n ad (M.set (ad s) c) R' D'/\Wf2 n ad M R ad (M.set (ad s) c) R':=by
 have ok:∀ t:Slot,t.ok n R' ↔ t.ok n R:=fun t=>by cases t <;> simp [Slot.ok,hR]
 have hl:=qA (h.ho s hs)
 refine ⟨⟨fun t ht=>?_,fun t u ht hu e=>h.inj t u ((ok t).mp ht) ((ok u).mp hu) e,dl,dk,by rw [pl];exact h.pl,by rw [tl];exact h.tl⟩,⟨by simp,fun i _ ho=>?_,fun t ht=>.inl ⟨(ok t).mp ht,rfl⟩,rfl⟩⟩
 ·by_cases z:t=s
  ·subst z
   rw [Qc,Qy rfl,Qy hl,hc]
  ·rw [Qc,Qz fun y=>z (h.inj s t hs ((ok t).mp ht) y).symm,he t z]
   exact h.ho t ((ok t).mp ht)
 ·rw [Qc,Qz (ho s hs)]
theorem Wd.at_w (h:Wd n ad M R D):M[ad .w]? = some (.lst [.ref (ad .a),.ref (ad .d),.ref (ad .p),.ref (ad .q)]):=h.ho .w trivial
theorem Wd.at_a (h:Wd n ad M R D):M[ad .a]? = some (.lst ((List.range R.es.length).map fun i=>.ref (ad (.e i)))):=h.ho .a trivial
theorem Wd.at_d (h:Wd n ad M R D):M[ad .d]? = some (.dic D):=h.ho .d trivial
theorem Wd.at_p (h:Wd n ad M R D):M[ad .p]? = some (.lst ((List.range n.ps.length).map fun j=>.ref (ad (.k j)))):=h.ho .p trivial
theorem Wd.at_q (h:Wd n ad M R D):M[ad .q]? = some (.lst (R.pays.map zab)):=h.ho .q trivial
theorem Wd.at_e (h:Wd n ad M R D) (he:R.es[i]? = some e):M[ad (.e i)]? = some (.lst [nT e.house,clT e.caller,phT e.ph]):=by
 have:=h.ho (.e i) (Qx.mp he).1
 simp only [ctn] at this
 rw [z3 he] at this
 exact this
theorem Wd.at_k (h:Wd n ad M R D) (hj:j<n.ps.length):M[ad (.k j)]? = some (.lst [.ref (ad (.g j)),.ref (ad (.c j)),nT (R.taken.getD j 0)]):=h.ho (.k j) hj
theorem Wd.at_g (h:Wd n ad M R D) (hj:j<n.ps.length):M[ad (.g j)]? = some (.lst ((qJ (R.puts.getD j []) (n.per j)).map nT)):=h.ho (.g j) hj
theorem Wd.at_c (h:Wd n ad M R D) (hj:j<n.ps.length):M[ad (.c j)]? = some (.lst ((qN (R.puts.getD j []) (n.per j)).map tuL)):=h.ho (.c j) hj
theorem y9 {N:Nat} {f:Nat->FT.T} (h:i<N):atI ((List.range N).map f) (i:Int)=some (f i):=zp (getElem?_range h)
theorem zmX (h:j ≠ i):(R.setE i e').er j=R.er j:=by
 unfold Run.er
 rw [Q7,Q7,zeb h]
theorem zjA (he:R.es[i]? = some e):(R.setE i e').er i=e':=z3 (zc4 he e')
theorem Wd.setE (h:Wd n ad M R D) (he:R.es[i]? = some e) (e':Er) (h1:e'.house=e.house) (h2:e'.caller=e.caller) (h3:e'.lost=e.lost):Wd n ad (M.set (ad (.e i)) (.lst [nT e.house,clT e.caller,phT e'.ph])) (R.setE i e') D/\Wf2 n ad M R ad (M.set (ad (.e i)) (.lst [nT e.house,clT e.caller,phT e'.ph])) (R.setE i e'):=by
 have hi:=(Qx.mp he).1
 have hl:(R.setE i e').es.length=R.es.length:=length_set ..
 refine h.write (s:=.e i) hi hl ?_ (fun t ht=>?_) (fun j=>?_) h.dk rfl rfl
 ·simp only [ctn]
  rw [zjA he,h1,h2]
 ·cases t with
  | a=>simp only [ctn];rw [hl]
  | e j=>simp only [ctn];rw [zmX fun z=>ht (by rw [z])]
  | _=>rfl
 ·rw [h.dl j]
  unfold zcp
  by_cases z:j=i
  ·subst z
   rw [zc4 he,he]
   exact h3.symm
  ·rw [zeb z]
theorem Wd.pushE (h:Wd n ad M R D) (hh:Nat) (c:Option (Nat × Nat × Nat)):Wd n (fun s=>if s = .e R.es.length then M.length else ad s) ((M++[Cell.lst [nT hh,clT c,.tup [.str "works"]]]).set (ad .a) (.lst (((List.range R.es.length).map fun i=>FT.T.ref (ad (.e i)))++[.ref M.length]))) (R.push (yp hh c)) D /\
  Wf2 n ad M R (fun s=>if s = .e R.es.length then M.length else ad s) ((M++[Cell.lst [nT hh,clT c,.tup [.str "works"]]]).set (ad .a) (.lst (((List.range R.es.length).map fun i=>FT.T.ref (ad (.e i)))++[.ref M.length]))) (R.push (yp hh c)):=by
 have lt:∀ s,s.ok n R->ad s<M.length:=fun s hs=>qA (h.ho s hs)
 have hl:(R.push (yp hh c)).es.length=R.es.length+1:=by simp [Run.push]
 have ok:∀ s:Slot,s.ok n (R.push (yp hh c))->s = .e R.es.length\/(s ≠ .e R.es.length/\s.ok n R):=fun s hs=>by
  cases s with
  | e i=>
   have hs:i<(R.push (yp hh c)).es.length:=hs
   by_cases z:i=R.es.length
   ·exact .inl (by rw [z])
   ·exact .inr ⟨fun y=>z (Slot.e.inj y),show i<R.es.length by omega⟩
  | _=>exact .inr ⟨(fun y=>by cases y),hs⟩
 have old:∀ i,i<R.es.length->(R.push (yp hh c)).er i=R.er i:=fun i hi=>by
  unfold Run.er
  rw [Q7,Q7]
  show ((R.es++_)[i]?).getD _=_
  rw [Q6 hi]
 have la:=lt .a trivial
 refine ⟨⟨fun s hs=>?_,fun s t hs ht e=>?_,fun i=>?_,h.dk,h.pl,h.tl⟩,⟨by simp,fun i hi ho=>?_,fun s hs=>?_,Qz (fun y=>by cases y)⟩⟩
 ·rcases ok s hs with rfl | ⟨hne,hs'⟩
  ·rw [Qy rfl,Qc,Qz (by omega),Q8 (Q3 _),Qu]
   simp only [ctn]
   rw [show (R.push (yp hh c)).er R.es.length=yp hh c from z3 (zbg R _)]
   rfl
  ·rw [Qz hne]
   have hlt:=lt s hs'
   by_cases z:s = .a
   ·subst z
    rw [Qc,Qy rfl,Qy (by simp;omega)]
    simp only [ctn]
    rw [hl,range_succ,Qq,List.map_singleton,Qy rfl]
    congr 3
    refine map_congr_left fun i hi=>?_
    have:=mem_range.mp hi
    rw [Qz fun y=>by have:=Slot.e.inj y;omega]
   ·rw [Qc,Qz fun y=>z (h.inj .a s trivial hs' y).symm,Q6 hlt,h.ho s hs']
    cases s with
    | e i=>simp only [ctn];rw [old i hs']
    | a=>exact absurd rfl z
    | w=>rfl
    | d=>rfl
    | p=>rfl
    | q=>rfl
    | k j=>rfl
    | g j=>rfl
    | c j=>rfl
 ·rcases ok s hs with rfl | ⟨hne,hs'⟩
  ·rcases ok t ht with rfl | ⟨hnt,ht'⟩
   ·rfl
   ·rw [Qy rfl,Qz hnt] at e
    have:=lt t ht'
    omega
  ·rcases ok t ht with rfl | ⟨hnt,ht'⟩
   ·rw [Qz hne,Qy rfl] at e
    have:=lt s hs'
    omega
   ·rw [Qz hne,Qz hnt] at e
    exact h.inj s t hs' ht' e
 ·rw [h.dl i]
  unfold zcp
  show _=(((R.es++[yp hh c])[i]?).map (·.lost)).getD false
  by_cases z:i<R.es.length
  ·rw [Q6 z]
  ·rw [getElem?_eq_none (by omega)]
   by_cases y:i=R.es.length
   ·subst y
    rw [List.getElem?_concat_length]
    rfl
   ·rw [getElem?_eq_none (by rw [Qn,Qt];omega)]
 ·rw [Qc,Qz (ho .a trivial),Q6 hi]
 ·rcases ok s hs with rfl | ⟨hne,hs'⟩
  ·exact .inr (by rw [Qy rfl];exact Q3 _)
  ·exact .inl ⟨hs',Qz hne⟩
end
variable {m:Nat}
theorem zqv {l:Nat} (hm:1<=m) (h:l % m+1 ≠ m):(l+1) / m=l / m:=by
 have h1:=Nat.mod_lt l (show 0<m by omega)
 have h2:=Nat.div_add_mod l m
 refine Nat.div_eq_of_lt_le ?_ ?_
 ·rw [Nat.mul_comm];omega
 ·rw [Nat.succ_mul,Nat.mul_comm];omega
theorem zqw {l:Nat} (hm:1<=m) (h:l % m+1=m):(l+1) / m=l / m+1:=by
 have h2:=Nat.div_add_mod l m
 have e:l+1=m*(l / m+1):=by rw [Nat.mul_succ];omega
 rw [e,Nat.mul_div_cancel_left _ (by omega)]
theorem zgH (u:List Nat) (m:Nat):(qJ u m).length=u.length % m:=by
 unfold qJ
 rw [length_drop]
 have:=Nat.div_add_mod u.length m
 rw [Nat.mul_comm] at this
 omega
variable {u:List Nat} {x:Nat}
theorem zof (hm:1<=m) (h:u.length % m+1 ≠ m):qJ (u++[x]) m=qJ u m++[x]/\qN (u++[x]) m=qN u m:=by
 have hq:=Nat.div_mul_le_self u.length m
 unfold qJ qN
 rw [Qn,Qt,zqv hm h]
 refine ⟨List.drop_append_of_le_length hq,map_congr_left fun j hj=>?_⟩
 have hj:=mem_range.mp hj
 have h1:(j+1)*m<=u.length:=(Nat.le_div_iff_mul_le (by omega)).mp hj
 rw [Nat.succ_mul] at h1
 rw [List.drop_append_of_le_length (by omega),List.take_append_of_le_length (by rw [length_drop];omega)]
theorem zmJ (hm:1<=m) (h:u.length % m+1=m):qJ (u++[x]) m=[]/\qN (u++[x]) m=qN u m++[qJ u m++[x]]:=by
 have hq:=Nat.div_mul_le_self u.length m
 have hg:=zgH u m
 have h2:=Nat.div_add_mod u.length m
 rw [Nat.mul_comm] at h2
 unfold qJ at hg
 unfold qJ qN
 rw [Qn,Qt,zqw hm h]
 refine ⟨List.drop_of_length_le (by rw [Qn,Qt,Nat.succ_mul];omega),?_⟩
 rw [range_succ,Qq,List.map_singleton]
 congr 1
 ·refine map_congr_left fun j hj=>?_
  have hj:=mem_range.mp hj
  have h1:(j+1)*m<=u.length:=(Nat.le_div_iff_mul_le (by omega)).mp hj
  rw [Nat.succ_mul] at h1
  rw [List.drop_append_of_le_length (by omega),List.take_append_of_le_length (by rw [length_drop];omega)]
 ·rw [List.drop_append_of_le_length hq,take_of_length_le]
  rw [Qn,Qt]
  omega
section
theorem zc1 {k:Nat} (hk:k<R.puts.length) (u:List Nat):(R.setP k u).puts.getD j []=if j=k then u else R.puts.getD j []:=by
 show (R.puts.set k u).getD j []=_
 rw [Q7,Q7,Qc]
 by_cases h:k=j
 ·rw [Qy h,Qy hk,Qy h.symm];rfl
 ·rw [Qz h,Qz (Ne.symm h)]
theorem Wd.giv (h:Wd n ad M R D) {k:Nat} (hk:k<n.ps.length) (hm:1<=n.per k) (hf:(R.puts.getD k []).length % n.per k+1 ≠ n.per k) :
  Wd n ad (M.set (ad (.g k)) (.lst ((qJ (R.puts.getD k []) (n.per k)++[x]).map nT))) (R.setP k (R.puts.getD k []++[x])) D/\Wf2 n ad M R ad (M.set (ad (.g k)) (.lst ((qJ (R.puts.getD k []) (n.per k)++[x]).map nT))) (R.setP k (R.puts.getD k []++[x])):=by
 have hk':k<R.puts.length:=by rw [h.pl];exact hk
 obtain ⟨e1,e2⟩:=zof (x:=x) hm hf
 refine h.write (s:=.g k) hk rfl ?_ (fun t ht=>?_) (fun i=>h.dl i) h.dk (length_set ..) rfl
 ·simp only [ctn]
  rw [zc1 hk',Qy rfl,e1]
 ·cases t with
  | g j=>
   simp only [ctn]
   rw [zc1 hk',Qz fun z=>ht (by rw [z])]
  | c j=>
   simp only [ctn]
   rw [zc1 hk']
   split
   ·rename_i z
    rw [z,e2]
   ·rfl
  | _=>rfl
theorem Wd.coin (h:Wd n ad M R D) {k:Nat} (hk:k<n.ps.length) (hm:1<=n.per k) (hf:(R.puts.getD k []).length % n.per k+1=n.per k) {M1:Mem}
 (hM:M1=(((M.set (ad (.g k)) (.lst ((qJ (R.puts.getD k []) (n.per k)++[x]).map nT))).set (ad (.c k)) (.lst ((qN (R.puts.getD k []) (n.per k)++[qJ (R.puts.getD k []) (n.per k)++[x]]).map tuL)))++[Cell.lst []]).set (ad (.k k)) (.lst [.ref M.length,.ref (ad (.c k)),nT (R.taken.getD k 0)])) :
  Wst n ad M R (R.setP k (R.puts.getD k []++[x])) M1:=by
 have hk':k<R.puts.length:=by rw [h.pl];exact hk
 obtain ⟨e1,e2⟩:=zmJ (x:=x) hm hf
 have lt:∀ s,s.ok n R->ad s<M.length:=fun s hs=>qA (h.ho s hs)
 have hlen:M1.length=M.length+1:=by rw [hM];simp
 have ok:∀ s:Slot,s.ok n (R.setP k (R.puts.getD k []++[x])) ↔ s.ok n R:=fun s=>by cases s <;> exact Iff.rfl
 have old:∀ i,i<M.length->M1[i]? = if ad (.k k)=i then some (.lst [.ref M.length,.ref (ad (.c k)),nT (R.taken.getD k 0)]) else if ad (.c k)=i then some (.lst ((qN (R.puts.getD k []) (n.per k)++[qJ (R.puts.getD k []) (n.per k)++[x]]).map tuL)) else if ad (.g k)=i then some (.lst ((qJ (R.puts.getD k []) (n.per k)++[x]).map nT)) else M[i]?:=fun i hi=>by
  rw [hM,Qc]
  split
  ·rw [Qy (by simp;omega)]
  ·rw [Q6 (by simp;exact hi),Qc]
   split
   ·rw [Qy (by simp;omega)]
   ·rw [Qc]
    split
    ·rw [Qy (by omega)]
    ·rfl
 have new:M1[M.length]? = some (.lst []):=by
  have:=lt (.k k) hk
  rw [hM,Qc,Qz (by omega),Q8 (by simp)]
  simp
 refine ⟨fun s=>if s = .g k then M.length else ad s,D,⟨fun s hs=>?_,fun s t hs ht e=>?_,fun i=>h.dl i,h.dk,by rw [← h.pl];exact length_set ..,h.tl⟩,⟨by omega,fun i hi ho=>?_,fun s hs=>?_,Qz (fun y=>by cases y)⟩⟩
 ·replace hs:=(ok s).mp hs
  have hl:=lt s hs
  by_cases z:s = .g k
  ·subst z
   rw [Qy rfl,new]
   simp only [ctn]
   rw [zc1 hk',Qy rfl,e1]
   rfl
  ·rw [Qz z,old _ hl]
   by_cases y1:s = .k k
   ·subst y1
    rw [Qy rfl]
    simp only [ctn]
    rw [Qy trivial,Qz (fun y=>by cases y)]
    rfl
   rw [Qz fun y=>y1 (h.inj (.k k) _ hk hs y).symm]
   by_cases y2:s = .c k
   ·subst y2
    rw [Qy rfl]
    simp only [ctn]
    rw [zc1 hk',Qy rfl,e2]
   rw [Qz fun y=>y2 (h.inj (.c k) _ hk hs y).symm,Qz fun y=>z (h.inj (.g k) _ hk hs y).symm,h.ho s hs]
   cases s with
   | g j=>
    simp only [ctn]
    rw [zc1 hk',Qz fun y=>z (by rw [y])]
   | c j=>
    simp only [ctn]
    rw [zc1 hk',Qz fun y=>y2 (by rw [y])]
   | k j=>
    simp only [ctn]
    rw [Qz fun y=>y1 (by rw [Slot.g.inj y]),Qz (fun y=>by cases y)]
    rfl
   | _=>rfl
 ·replace hs:=(ok s).mp hs
  replace ht:=(ok t).mp ht
  have h1:=lt s hs
  have h2:=lt t ht
  by_cases z:s = .g k
  ·by_cases y:t = .g k
   ·rw [z,y]
   ·rw [Qy z,Qz y] at e;omega
  ·by_cases y:t = .g k
   ·rw [Qz z,Qy y] at e;omega
   ·rw [Qz z,Qz y] at e
    exact h.inj s t hs ht e
 ·rw [old i hi,Qz (ho (.k k) hk),Qz (ho (.c k) hk),Qz (ho (.g k) hk)]
 ·by_cases z:s = .g k
  ·exact .inr (by rw [Qy z];exact Q3 _)
  ·exact .inl ⟨(ok s).mp hs,Qz z⟩
end
theorem zgK (gn:GN n) {a:Ask} (ha:a ∈ n.asks h) {k:Nat} (hk:n.ps[k]? = some p) (M:Mem):eqA (.str p.name) (opS a.purse) M = .ok (.bl (decide (n.pof a=some k))) M:=by
 rw [show decide (n.pof a=some k)=decide (a.purse=some p.name) from decide_eq_decide.mpr (znq gn ha hk)]
 cases q:a.purse with
 | none=>rfl
 | some s=>
  show eqA (.str p.name) (.str s) M=_
  rw [zdn]
  congr 2
  by_cases z:s=p.name
  ·rw [z];simp
  ·have z2:¬ (some s=some p.name):=fun y=>z (Qd y)
   rw [Qw z2]
   simpa using fun y=>z y.symm
variable {B hh:Nat}
section
theorem zkO (wn:WN n) {k:Nat} (hk:k<n.ps.length):(n.per k:Int)=n.ps[k].per/\1<=n.per k/\n.per k<=1000000:=by
 have h1:=wn.pr n.ps[k] (getElem_mem _)
 unfold Net.per
 rw [Q7,Q0 hk]
 show ((n.ps[k].per.toNat:Nat):Int)=_/\1<=n.ps[k].per.toNat/\n.ps[k].per.toNat<=_
 omega
theorem zlN (R:Run) (n:Net) (a:Ask) (tr x:Nat) {k:Nat} (q:n.pof a=some k):R.share n a tr x=if tr=1\/n.any k=true then R.setP k (R.puts.getD k []++[x]) else R:=by unfold Run.share;rw [q]
theorem zhL (gn:GN n) (h:Wd n ad M R D) (sb:SB B R) (hB:B<90000) {a:Ask} (ha:a ∈ n.asks hh) (tr x:Nat) {f:Bool} (hf:f=true ↔ tr=1) :
  Ok (zbJ kE kR [qg n,.ref (ad .w),qu a,.bl f,nT x] M) fun t M'=>t = .non/\Wst n ad M R (R.share n a tr x) M':=by
 have wn:=gn.wn
 refine zx rfl ?_
 unfold zg1
 rw [show qg n = .tup [.tup (n.hs.map hsT),.tup (n.ps.map puT)] from rfl,show qu a = .tup [.str a.to,.int a.tries,opS a.purse,.str a.word,.bl a.hears,.bl a.sure] from rfl]
 have rg:∀ M,zbT [.int (n.ps.length:Int)] M = .ok ((rgI n.ps.length).map .int) M:=fun M=>zad (j:=(n.ps.length:Int)) (by have:=wn.pl;omega)
 simp_arith [Qh,rg,QD]
 refine Ok.bind (Ok.for (r:=FT.T.int) (xs:=rgI n.ps.length) (fun i σ M'=>∃ o5 o6 o7 o8 o9,σ=[some (.tup [.tup (n.hs.map hsT),.tup (n.ps.map puT)]),some (.ref (ad .w)),some (.tup [.str a.to,.int a.tries,opS a.purse,.str a.word,.bl a.hears,.bl a.sure]),some (.bl f),some (nT x),o5,o6,o7,o8,o9]/\Wst n ad M R (if (∃ k,k<i/\n.pof a=some k) then R.share n a tr x else R) M') ⟨none,none,none,none,none,rfl,by rw [Qz fun z=>by obtain ⟨k,hk,_⟩:=z;omega];exact ⟨ad,D,h,.refl⟩⟩ ?_) ?_
 ·rintro i y σ M1 hy ⟨o5,o6,o7,o8,o9,rfl,ws⟩
  obtain ⟨hi,rfl⟩:=zbf hy
  have hps:n.ps[i]? = some n.ps[i]:=Q0 hi
  have hpa:atI (n.ps.map puT) (i:Int)=some (.tup [.str n.ps[i].name,.str n.ps[i].earns,.int n.ps[i].per]):=zp (f:=puT) hps
  have en:=zgK gn ha hps
  have any:=any_eq (n:=n) hps
  simp_arith
  unfold zf9
  nofun
  simp_arith [hpa]
  left
  by_cases d:n.pof a=some i
  ·have d':decide (n.pof a=some i)=true:=Qv d
   rw [Qz (fun z=>by obtain ⟨k,hk,e⟩:=z;rw [d] at e;cases e;omega)] at ws
   rw [Qy ⟨i,Nat.lt_succ_self _,d⟩,zlN R n a tr x d]
   by_cases c:tr=1\/n.any i=true
   ·rw [Qy c]
    obtain ⟨ad1,D1,w1,f1⟩:=ws
    rw [← f1.ww]
    refine Ok.ifB true ?_ ?_
    ·by_cases t1:tr=1
     ·have:f=true:=hf.mpr t1
      simp_arith [en,d',this]
     ·have f0:f=false:=by
       cases z:f with
       | false=>rfl
       | true=>exact absurd (hf.mp z) t1
      have qa:n.any i=true:=c.resolve_left t1
      simp_arith [en,d',f0,any,qa]
    ·rw [Qy rfl]
     obtain ⟨pe,pm1,pm2⟩:=zkO wn hi
     rw [← pe]
     have ga:=w1.at_g hi
     have ka:=w1.at_k hi
     have hul:(qJ (R.puts.getD i []) (n.per i)).length<90000:=by
      rw [zgH]
      have:=Nat.mod_lt (R.puts.getD i []).length (show 0<n.per i by omega)
      have:=Nat.mod_le (R.puts.getD i []).length (n.per i)
      have hb:(R.puts.getD i []).length<=B:=by
       have hp:i<R.puts.length:=by rw [w1.pl];exact hi
       rw [Q7,Q0 hp]
       exact sb.pu _ (getElem_mem _)
      omega
     have ap:=zO (t:=nT x) ga (by rw [Qh,sizeLine_eq];omega)
     rw [show (qJ (R.puts.getD i []) (n.per i)).map nT++[nT x]=(qJ (R.puts.getD i []) (n.per i)++[x]).map nT from by simp] at ap
     have ne1:ad1 (.g i) ≠ ad1 (.k i):=fun z=>by have:=w1.inj (.g i) (.k i) hi hi z;cases this
     have ne2:ad1 (.g i) ≠ ad1 (.c i):=fun z=>by have:=w1.inj (.g i) (.c i) hi hi z;cases this
     have ne3:ad1 (.c i) ≠ ad1 (.k i):=fun z=>by have:=w1.inj (.c i) (.k i) hi hi z;cases this
     nofun
     simp_arith [w1.at_w,w1.at_p,y9 hi]
     left
     nofun
     simp_arith [ka,qE ga,ap]
     left
     have kb:(M1.set (ad1 (.g i)) (.lst ((qJ (R.puts.getD i []) (n.per i)++[x]).map nT)))[ad1 (.k i)]? = some (.lst [.ref (ad1 (.g i)),.ref (ad1 (.c i)),nT (R.taken.getD i 0)]):=by rw [Qc,Qz ne1];exact ka
     have gb:(M1.set (ad1 (.g i)) (.lst ((qJ (R.puts.getD i []) (n.per i)++[x]).map nT)))[ad1 (.g i)]? = some (.lst ((qJ (R.puts.getD i []) (n.per i)++[x]).map nT)):=get_set ga
     have cb:(M1.set (ad1 (.g i)) (.lst ((qJ (R.puts.getD i []) (n.per i)++[x]).map nT)))[ad1 (.c i)]? = some (.lst ((qN (R.puts.getD i []) (n.per i)).map tuL)):=by rw [Qc,Qz ne2];exact w1.at_c hi
     have ln:yz (.ref (ad1 (.g i))) (M1.set (ad1 (.g i)) (.lst ((qJ (R.puts.getD i []) (n.per i)++[x]).map nT))) = .ok (nT ((R.puts.getD i []).length % n.per i+1)) (M1.set (ad1 (.g i)) (.lst ((qJ (R.puts.getD i []) (n.per i)++[x]).map nT))):=by
      unfold yz yQ yo
      simp only [gb]
      rw [Qh,Qn,zgH]
      rfl
     by_cases full:(R.puts.getD i []).length % n.per i+1=n.per i
     ·have z1:((((R.puts.getD i []).length % n.per i+1:Nat):Int)==((n.per i:Nat):Int))=true:=by rw [full];exact beq_self_eq_true _
      have tl:zQ (.ref (ad1 (.g i))) (M1.set (ad1 (.g i)) (.lst ((qJ (R.puts.getD i []) (n.per i)++[x]).map nT))) = .ok (tuL (qJ (R.puts.getD i []) (n.per i)++[x])) (M1.set (ad1 (.g i)) (.lst ((qJ (R.puts.getD i []) (n.per i)++[x]).map nT))):=by
       unfold zQ yQ yo
       simp only [gb]
       rfl
      have hcl:(qN (R.puts.getD i []) (n.per i)).length<=B:=by
       have hp:i<R.puts.length:=by rw [w1.pl];exact hi
       have hb:(R.puts.getD i []).length<=B:=by
        rw [Q7,Q0 hp]
        exact sb.pu _ (getElem_mem _)
       unfold qN
       rw [Qh,length_range]
       exact Qj (Nat.div_le_self _ _) hb
      have ap2:=zO (t:=tuL (qJ (R.puts.getD i []) (n.per i)++[x])) cb (by rw [Qh,sizeLine_eq];omega)
      rw [show (qN (R.puts.getD i []) (n.per i)).map tuL++[tuL (qJ (R.puts.getD i []) (n.per i)++[x])]=(qN (R.puts.getD i []) (n.per i)++[qJ (R.puts.getD i []) (n.per i)++[x]]).map tuL from by simp] at ap2
      have wc:=w1.coin (x:=x) hi pm1 full rfl
      refine Ok.ifB true (by simp_arith [kb,ln,z1]) ?_
      rw [Qy rfl]
      nofun
      simp_arith [kb,qE cb,tl,ap2]
      left
      generalize hM2:(M1.set (ad1 (.g i)) (.lst ((qJ (R.puts.getD i []) (n.per i)++[x]).map nT))).set (ad1 (.c i)) (.lst ((qN (R.puts.getD i []) (n.per i)++[qJ (R.puts.getD i []) (n.per i)++[x]]).map tuL))=M2 at wc
      have hl2:M2.length=M1.length:=by rw [← hM2];simp
      have kc:(M2++[Cell.lst []])[ad1 (.k i)]? = some (.lst [.ref (ad1 (.g i)),.ref (ad1 (.c i)),nT (R.taken.getD i 0)]):=by
       rw [Q6 (by rw [hl2];exact qA ka),← hM2,Qc,Qz ne3]
       exact kb
      rw [← hl2] at wc
      simp_arith [kc]
      refine Ok.ret ⟨_,rfl,_,_,_,_,_,rfl,?_⟩
      exact Wst.trans' (D1:=D1) f1 wc
     ·have z1:((((R.puts.getD i []).length % n.per i+1:Nat):Int)==((n.per i:Nat):Int))=false:=by
       have:¬ (((R.puts.getD i []).length % n.per i+1:Nat):Int)=((n.per i:Nat):Int):=by omega
       simpa using this
      refine Ok.ifB false (by simp_arith [kb,ln,z1]) ?_
      rw [Qz (by decide)]
      simp_arith
      obtain ⟨g1,g2⟩:=w1.giv (x:=x) hi pm1 full
      exact Ok.ret ⟨_,rfl,_,_,_,_,_,rfl,Wst.trans' (D1:=D1) f1 ⟨ad1,D1,g1,g2⟩⟩
   ·rw [Qz c]
    have f0:f=false:=by
     cases z:f with
     | false=>rfl
     | true=>exact absurd (.inl (hf.mp z)) c
    have qa:n.any i=false:=by
     cases z:n.any i with
     | false=>rfl
     | true=>exact absurd (.inr z) c
    refine Ok.ifB false (by simp_arith [en,d',f0,any,qa]) ?_
    rw [Qz (by decide)]
    simp_arith
    exact Ok.ret ⟨_,rfl,_,_,_,_,_,rfl,ws⟩
  ·have d':decide (n.pof a=some i)=false:=Qw d
   have e1:(∃ k,k<i+1/\n.pof a=some k) ↔ ∃ k,k<i/\n.pof a=some k:=by
    constructor
    ·rintro ⟨k,h1,h2⟩
     refine ⟨k,?_,h2⟩
     have:k ≠ i:=fun z=>d (by rw [← z];exact h2)
     omega
    ·rintro ⟨k,h1,h2⟩
     exact ⟨k,by omega,h2⟩
   refine Ok.ifB false (by simp_arith [en,d']) ?_
   rw [Qz (by decide)]
   simp_arith
   refine Ok.ret ⟨_,rfl,_,_,_,_,_,rfl,?_⟩
   rw [show (if (∃ k,k<i+1/\n.pof a=some k) then R.share n a tr x else R)=if (∃ k,k<i/\n.pof a=some k) then R.share n a tr x else R from by simp only [e1]]
   exact ws
 ·rintro fl M1 ⟨σ,rfl,o5,o6,o7,o8,o9,rfl,ws⟩
  rw [zaI] at ws
  simp_arith
  refine Ok.ret ⟨rfl,?_⟩
  split at ws
  ·exact ws
  ·rename_i z
   have e0:R.share n a tr x=R:=by
    unfold Run.share
    cases q:n.pof a with
    | none=>rfl
    | some k=>exact absurd ⟨k,(wn.as hh a ha).plt q,q⟩ z
   rw [e0]
   exact ws
end
section
theorem zig (wn:WN n) {k:Nat} (h:zcI s (n.hs.map (·.name)) 0=some k) (M:Mem):za2 kE kR [qg n,.str s] M = .ok (nT k) M:=by
 unfold za2 zg3 qg
 have c:zy (qo 0) qK (eOp ixT (yb 0) (eC (.int 0))) (n.hs.map hsT) [none] M [] = .ok ((n.hs.map (·.name)).map .str) M:=by
  rw [map_map]
  refine Ok.mapc (r:=hsT) (fun σ=>∃ o,σ=[o]) _ ⟨_,rfl⟩ (by have:=wn.hl;omega) ?_
  rintro x σ hx ⟨o,rfl⟩
  exact ⟨[some (.tup [.str x.name,.tup (x.asks.map qu)])],rfl,⟨_,rfl⟩,by simp_arith;rfl⟩
 have k:zd9 (.lst ((n.hs.map (·.name)).map .str)) [.str s] M = .ok (nT k) M:=by
  unfold zd9 yo
  dsimp only
  rw [Qy,zif,h]
  rw [Qs]
  refine ⟨rfl,all_eq_true.mpr fun t ht=>?_⟩
  obtain ⟨y,_,rfl⟩:=mem_map.mp ht
  rfl
 have i1:zbV (.lst ((n.hs.map (·.name)).map .str)) M=true:=rfl
 simp_arith [c,zbu,i1,k]
theorem zho (h:Wd n ad M R D):yz (.ref (ad .a)) M = .ok (nT R.es.length) M:=by
 unfold yz yQ yo
 simp only [h.at_a]
 simp
theorem zcn (hh:Nat) (hl:hh<n.hs.length):atI (n.hs.map hsT) (hh:Int)=some (.tup [.str (n.hs[hh]).name,.tup ((n.asks hh).map qu)]):=by
 have hn:n.hs[hh]? = some n.hs[hh]:=Q0 hl
 have as:n.asks hh=(n.hs[hh]).asks:=by unfold Net.asks;rw [hn];rfl
 rw [as]
 exact zp (f:=hsT) hn
noncomputable def muB (σ:FT.Ev) (_:Mem):Nat:=match σ with
 | [_,_,some (.int h),_,some (.tup (_::_)),_]=>5-h.toNat
 | _=>0
theorem ziJ (gn:GN n) (h:Wd n ad M R D) (sb:SB B R) (hB:B+20<90000) (hl:hh<n.hs.length) (c:Option (Nat × Nat × Nat)) :
  Ok (za3 kE kR [qg n,.ref (ad .w),nT hh,clT c] M) fun t M'=>t = .non/\Wst n ad M R (zD n 4 R hh c) M':=by
 have wn:=gn.wn
 refine zx rfl ?_
 unfold zg5
 right
 simp_arith
 left
 refine Ok.bind (Ok.while (R:=fun _ _=>False) (Q:=fun σ M'=>Wst n ad M R (zD n 4 R hh c) M') (fun σ M'=>∃ o5,(∃ f h1 c1 t ts ad1 D1 R1 B1,σ=[some (qg n),some (.ref (ad .w)),some (nT h1),some (clT c1),some (.tup (t::ts)),o5]/\Wd n ad1 M' R1 D1/\Wf2 n ad M R ad1 M' R1/\zD n 4 R hh c=zD n f R1 h1 c1/\n.hs.length<=h1+f/\h1<n.hs.length/\SB B1 R1/\B1+2*f<=B+8)\/∃ o2 o3,σ=[some (qg n),some (.ref (ad .w)),o2,o3,some (.tup []),o5]/\Wst n ad M R (zD n 4 R hh c) M') muB ⟨none,.inl ⟨4,hh,c,_,_,ad,D,R,B,rfl,h,.refl,rfl,by have:=wn.hl;omega,hl,sb,by omega⟩⟩ ?_) ?_
 ·rintro σ M1 ⟨o5,⟨f,h1,c1,t,ts,ad1,D1,R1,B1,rfl,w1,f1,eb,hf,hl1,sb1,hB1⟩ | ⟨o2,o3,rfl,ws⟩⟩
  ·have nt:∀ M,neA (.tup (t::ts)) (.tup []) M = .ok (.bl true) M:=fun _=>rfl
   obtain ⟨f,rfl⟩:∃ f',f=f'+1:=⟨f-1,by omega⟩
   have cc:Ok (zb6 kE kR [some (qg n),some (.ref (ad .w)),some (nT h1),some (clT c1),some (.tup (t::ts)),o5] M1) fun b M2=>b=true/\M2=M1:=by
    unfold zb6
    simp_arith [nt]
    exact Ok.ret ⟨rfl,rfl⟩
   refine cc.mono ?_
   rintro b M2 ⟨rfl,rfl⟩
   refine .inl ⟨rfl,?_⟩
   have mu1:muB [some (qg n),some (.ref (ad .w)),some (nT h1),some (clT c1),some (.tup (t::ts)),o5] M2=5-h1:=by
    show 5-((h1:Int)).toNat=_
    rw [QD]
   rw [mu1,← f1.ww]
   have h4:=wn.hl
   unfold zgc
   rw [show qg n = .tup [.tup (n.hs.map hsT),.tup (n.ps.map puT)] from rfl]
   have ha1:=zcn h1 hl1
   obtain ⟨w2,f2⟩:=w1.pushE h1 c1
   have ap:=zO (a:=ad1 .a) (t:=.ref M2.length) (M:=M2++[Cell.lst [nT h1,clT c1,.tup [.str "works"]]]) (by rw [Q6 (qA w1.at_a)];exact w1.at_a) (by rw [Qh,length_range,sizeLine_eq];have:=sb1.es;omega)
   have lc:qD (.ref (ad1 .a)) M2 = .ok (.ref (ad1 .a)) M2:=qE w1.at_a
   nofun
   simp_arith [w1.at_w,zho w1]
   left
   nofun
   simp_arith [ha1]
   left
   nofun
   simp_arith [w1.at_w,lc,ap]
   left
   generalize (M2++[Cell.lst [nT h1,clT c1,.tup [.str "works"]]]).set (ad1 .a) (.lst (((List.range R1.es.length).map fun i=>FT.T.ref (ad1 (.e i)))++[.ref M2.length]))=M3 at w2 f2
   have hwa:(fun s=>if s=Slot.e R1.es.length then M2.length else ad1 s) .w=ad1 .w:=f2.ww
   have hpe:(R1.push (yp h1 c1)).es[R1.es.length]? = some (yp h1 c1):=zbg R1 _
   cases q:n.asks h1 with
   | nil=>
    have n0:∀ M,neA (.tup []) (.tup []) M = .ok (.bl false) M:=fun _=>rfl
    have e1:zD n (f+1) R1 h1 c1=R1.push (yp h1 c1):=by unfold zD;rw [Qy q]
    rw [map_nil]
    simp_arith [n0]
    refine Ok.ret (.inl ⟨_,.inl rfl,⟨_,.inr ⟨_,_,by rw [f1.ww],?_⟩⟩,?_⟩)
    ·rw [eb,e1]
     exact ⟨_,_,w2,f1.trans f2⟩
    ·show (0:Nat)<_
     omega
   | cons a as=>
    have h0:¬ n.asks h1=[]:=by rw [q];simp
    have n1:∀ M,neA (.tup (qu a::as.map qu)) (.tup []) M = .ok (.bl true) M:=fun _=>rfl
    have ha:(n.asks h1)[0]? = some a:=by rw [q];rfl
    have hm:a ∈ n.asks h1:=by rw [q];exact .head _
    have w:=wn.as h1 a hm
    have e1:zD n (f+1) R1 h1 c1=zD n f (((R1.push (yp h1 c1)).setE R1.es.length { yp h1 c1 with ph:=.waits 0 1,asked:=some (R1.push (yp h1 c1)).es.length }).share n a 1 (R1.push (yp h1 c1)).es.length) (n.hix a.to) (some (R1.es.length,0,1)):=by
     rw [zD,Qz h0,zeN (zbg R1 _) ha]
    obtain ⟨w3,f3⟩:=w2.setE hpe { yp h1 c1 with ph:=.waits 0 1,asked:=some (R1.push (yp h1 c1)).es.length } rfl rfl rfl
    have pl:(R1.push (yp h1 c1)).es.length=R1.es.length+1:=by simp [Run.push]
    have sbx:SB (B1+1) ((R1.push (yp h1 c1)).setE R1.es.length { yp h1 c1 with ph:=.waits 0 1,asked:=some (R1.push (yp h1 c1)).es.length }):=(sb1.push _).setE _ _
    rw [QE]
    refine Ok.ifB true (by simp_arith [n1]) ?_
    rw [Qy rfl]
    have a0:=w2.at_a
    have ew:M3[M2.length]? = some (.lst [nT h1,clT c1,.tup [.str "works"]]):=by
     have:=w2.at_e hpe
     rw [Qy rfl] at this
     exact this
    have ww2:=w2.at_w
    rw [Qz (fun y=>by cases y),Qz (fun y=>by cases y),Qz (fun y=>by cases y),Qz (fun y=>by cases y),Qz (fun y=>by cases y)] at ww2
    rw [Qz (fun y=>by cases y)] at a0
    have ar:atI ((List.range (R1.push (yp h1 c1)).es.length).map fun i=>FT.T.ref (if Slot.e i=Slot.e R1.es.length then M2.length else ad1 (.e i))) (R1.es.length:Int)=some (.ref M2.length):=by
     rw [y9 (by omega),Qy rfl]
    rw [Qy rfl] at w3 f3
    have so:=zhL (kE:=kE) (kR:=kR) gn w3 sbx (by omega) hm 1 (R1.push (yp h1 c1)).es.length (f:=true) ⟨fun _=>rfl,fun _=>rfl⟩
    rw [Qz (fun y=>by cases y),pl,show nT (R1.es.length+1) = .int ((R1.es.length:Int)+1) from rfl,show qg n = .tup [.tup (n.hs.map hsT),.tup (n.ps.map puT)] from rfl] at so
    nofun
    simp_arith [ww2,a0,ar,ew]
    left
    nofun
    rw [pl] at w3 f3 e1 sbx
    simp_arith
    refine Ok.bind so ?_
    rintro t4 M4 ⟨rfl,ad4,D4,w4,f4⟩
    have hq:=zig (kE:=kE) (kR:=kR) wn w.to
    rw [show qg n = .tup [.tup (n.hs.map hsT),.tup (n.ps.map puT)] from rfl] at hq
    try simp_arith
    left
    nofun
    simp_arith
    left
    rw [show qu a = .tup [.str a.to,.int a.tries,opS a.purse,.str a.word,.bl a.hears,.bl a.sure] from rfl]
    simp_arith [hq]
    refine Ok.ret (.inl ⟨_,.inl rfl,⟨_,.inl ⟨f,n.hix a.to,some (R1.es.length,0,1),_,_,ad4,D4,_,B1+2,by rw [f1.ww];rfl,w4,f1.trans (f2.trans (f3.trans f4)),by rw [eb,e1],by have:=w.up;omega,w.lt,sbx.share n a 1 _,by omega⟩⟩,?_⟩)
    show 5-((n.hix a.to:Int)).toNat<_
    rw [QD]
    have:=w.up
    omega
  ·have nt:∀ M,neA (.tup []) (.tup []) M = .ok (.bl false) M:=fun _=>rfl
   have cc:Ok (zb6 kE kR [some (qg n),some (.ref (ad .w)),o2,o3,some (.tup []),o5] M1) fun b M2=>b=false/\M2=M1:=by
    unfold zb6
    simp_arith [nt]
    exact Ok.ret ⟨rfl,rfl⟩
   refine cc.mono ?_
   rintro b M2 ⟨rfl,rfl⟩
   exact .inr ⟨rfl,ws⟩
 ·rintro fl M1 (⟨σ,rfl,ws⟩ | ⟨t,_,z⟩)
  ·simp_arith
   exact Ok.ret ⟨rfl,ws⟩
  ·exact z.elim
end
variable {t:FT.T}
section
theorem zjU {a b c:FT.T} (h:M[x]? = some (.lst [a,b,c])):zdr (.ref x) (.int 2) t M = .ok () (M.set x (.lst [a,b,t])):=by
 have e:zaS (.ref x) (.int 2) t M = .ok () (M.set x (.lst [a,b,t])):=by
  unfold zaS
  simp only [h]
  rfl
 show (match M[x]? with
  | some (.dic kvs)=>if kvs.length<sizeLine then Out.ok () (M.set x (.dic (za5 kvs (.inl 2) t))) else .bad
  | _=>zaS (.ref x) (.int 2) t M)=_
 rw [h]
 exact e
theorem zmT (h:Wd n ad M R D) (i:Nat):zft (.int (i:Int)) (.ref (ad .d)) M = .ok (.bl (!zcp R i)) M:=by
 unfold zft zf7
 simp only [h.at_d,zic,h.dl i]
theorem zi6 (gn:GN n) (h:Wd n ad M R D) (sb:SB B R) (hB:B+30<90000) (ri:RI n R) {num at' tr:Nat} (he:R.es[num]? = some e) (hat:at'<(n.asks e.house).length) :
  Ok (zcT kE kR [qg n,.ref (ad .w),nT num,nT at',nT tr] M) fun t M'=>t = .non/\Wst n ad M R (z7 n (zD n 4) R num at' tr) M':=by
 have wn:=gn.wn
 have hi:=(Qx.mp he).1
 have ha:(n.asks e.house)[at']? = some (n.asks e.house)[at']:=Q0 hat
 have hm:=Qa ha
 have w:=wn.as e.house _ hm
 rw [zeN he ha]
 generalize (n.asks e.house)[at']=a at ha hm w
 have hs1:=zcn e.house (ri.hs _ _ he)
 have ha1:atI ((n.asks e.house).map qu) (at':Int)=some (qu a):=zp (f:=qu) ha
 obtain ⟨w1,f1⟩:=h.setE he { e with ph:=.waits at' tr,asked:=some R.es.length } rfl rfl rfl
 have ae:=h.at_e he
 have st:zaS (.ref (ad (.e num))) (.int 2) (.tup [.str "waits",nT at',nT tr]) M = .ok () (M.set (ad (.e num)) (.lst [nT e.house,clT e.caller,.tup [.str "waits",nT at',nT tr]])):=by
  unfold zaS
  simp only [ae]
  rfl
 have hl:(R.setE num { e with ph:=.waits at' tr,asked:=some R.es.length }).es.length=R.es.length:=length_set ..
 refine zx rfl ?_
 unfold zjs
 right
 rw [show startT 6 [qg n,.ref (ad .w),nT num,nT at',nT tr]=[some (.tup [.tup (n.hs.map hsT),.tup (n.ps.map puT)]),some (.ref (ad .w)),some (nT num),some (nT at'),some (nT tr),none] from rfl]
 simp_arith [h.at_w,h.at_a,y9 hi,ae,hs1,ha1]
 left
 right
 have ai:atI ((List.range R.es.length).map fun i=>FT.T.ref (ad (.e i))) (num:Int)=some (.ref (ad (.e num))):=y9 hi
 unfold za8
 simp_arith [h.at_w,h.at_a,ai,ae]
 left
 rw [show phT ({ e with ph:=.waits at' tr,asked:=some R.es.length }:Er).ph = .tup [.str "waits",nT at',nT tr] from rfl] at w1 f1
 have la:=zho w1
 rw [hl] at la
 have z1:∀ M,eqA (nT tr) (.int 1) M = .ok (.bl (((tr:Nat):Int)==1)) M:=fun _=>rfl
 have hf:(((tr:Nat):Int)==1)=true ↔ tr=1:=by rw [beq_iff_eq];omega
 have so:=zhL (kE:=kE) (kR:=kR) gn w1 (sb.setE num _) (by omega) hm tr R.es.length hf
 rw [show qg n = .tup [.tup (n.hs.map hsT),.tup (n.ps.map puT)] from rfl] at so
 right
 simp_arith [w1.at_w,la]
 refine Ok.bind so ?_
 rintro t2 M2 ⟨rfl,ad2,D2,w2,f2⟩
 try simp_arith
 left
 have hq:=zig (kE:=kE) (kR:=kR) wn w.to
 have bo:=ziJ (kE:=kE) (kR:=kR) gn w2 ((sb.setE num { e with ph:=.waits at' tr,asked:=some R.es.length }).share n a tr R.es.length) (by omega) w.lt (some (num,at',tr))
 rw [f2.ww] at bo
 rw [show qg n = .tup [.tup (n.hs.map hsT),.tup (n.ps.map puT)] from rfl] at hq bo
 rw [show qu a = .tup [.str a.to,.int a.tries,opS a.purse,.str a.word,.bl a.hears,.bl a.sure] from rfl]
 simp_arith [hq]
 refine Ok.bind bo ?_
 rintro t3 M3 ⟨rfl,ad3,D3,w3,f3⟩
 try simp_arith
 exact Ok.ret ⟨rfl,ad3,D3,w3,f1.trans (f2.trans f3)⟩
end
section
noncomputable def muE (σ:FT.Ev) (_:Mem):Nat:=match σ with
 | [_,_,some (.int i),_,some (.bl true),_,_,_,_]=>i.toNat+1
 | _=>0
theorem zjC (gn:GN n) (h:Wd n ad M R D) (sb:SB B R) (hB:B+30<90000) (ri:RI n R) (he:R.es[i]? = some e) (w:Str) :
  Ok (zdP kE kR [qg n,.ref (ad .w),nT i,.str w] M) fun t M'=>t = .non/\Wst n ad M R (zK n 4 R i w) M':=by
 have wn:=gn.wn
 refine zx rfl ?_
 unfold zjv
 right
 simp_arith
 left
 refine Ok.bind (Ok.while (R:=fun _ _=>False) (Q:=fun σ M'=>Wst n ad M R (zK n 4 R i w) M') (fun σ M'=>∃ o5 o6 o7 o8,(∃ f i1 e1 ad1 D1 R1,σ=[some (qg n),some (.ref (ad .w)),some (nT i1),some (.str w),some (.bl true),o5,o6,o7,o8]/\Wd n ad1 M' R1 D1/\Wf2 n ad M R ad1 M' R1/\zK n 4 R i w=zK n f R1 i1 w/\R1.es[i1]? = some e1/\e1.house<f/\RI n R1/\SB B R1)\/∃ o2,σ=[some (qg n),some (.ref (ad .w)),o2,some (.str w),some (.bl false),o5,o6,o7,o8]/\Wst n ad M R (zK n 4 R i w) M') muE ⟨none,none,none,none,.inl ⟨4,i,e,ad,D,R,rfl,h,.refl,rfl,he,by have:=ri.hs _ _ he;have:=wn.hl;omega,ri,sb⟩⟩ ?_) ?_
 ·rintro σ M1 ⟨o5,o6,o7,o8,⟨f,i1,e1,ad1,D1,R1,rfl,w1,f1,eb,he1,hf,ri1,sb1⟩ | ⟨o2,rfl,ws⟩⟩
  ·have cc:Ok (zdd kE kR [some (qg n),some (.ref (ad .w)),some (nT i1),some (.str w),some (.bl true),o5,o6,o7,o8] M1) fun b M2=>b=true/\M2=M1:=by
    unfold zdd
    simp_arith
    exact Ok.ret ⟨rfl,rfl⟩
   refine cc.mono ?_
   rintro b M2 ⟨rfl,rfl⟩
   refine .inl ⟨rfl,?_⟩
   have mu1:muE [some (qg n),some (.ref (ad .w)),some (nT i1),some (.str w),some (.bl true),o5,o6,o7,o8] M2=i1+1:=by
    show ((i1:Int)).toNat+1=_
    rw [QD]
   rw [mu1,← f1.ww]
   obtain ⟨f,rfl⟩:∃ f',f=f'+1:=⟨f-1,by omega⟩
   have hi1:=(Qx.mp he1).1
   have ae:=w1.at_e he1
   obtain ⟨w2,f2⟩:=w1.setE he1 { e1 with ph:=.ended w } rfl rfl rfl
   rw [show phT ({ e1 with ph:=.ended w }:Er).ph = .tup [.str "ended",.str w] from rfl] at w2 f2
   have s3:=zjU (t:=.tup [.str "ended",.str w]) ae
   have ai:atI ((List.range R1.es.length).map fun i=>FT.T.ref (ad1 (.e i))) (i1:Int)=some (.ref (ad1 (.e i1))):=y9 hi1
   have hl2:(R1.setE i1 { e1 with ph:=.ended w }).es.length=R1.es.length:=length_set ..
   have he2:(R1.setE i1 { e1 with ph:=.ended w }).es[i1]? = some { e1 with ph:=.ended w }:=zc4 he1 _
   have ri2:RI n (R1.setE i1 { e1 with ph:=.ended w }):=ri1.setE he1 rfl rfl True.intro
   have nd:=zmT w2 i1
   rw [show zcp (R1.setE i1 { e1 with ph:=.ended w }) i1=e1.lost from by unfold zcp;rw [he2];rfl] at nd
   have ae2:=w2.at_e he2
   rw [show phT ({ e1 with ph:=.ended w }:Er).ph = .tup [.str "ended",.str w] from rfl] at ae2
   have a2:=w2.at_a
   rw [hl2] at a2
   unfold ziM
   nofun
   simp_arith [za8,w1.at_w,w1.at_a,ai,s3]
   left
   generalize M2.set (ad1 (.e i1)) (.lst [nT e1.house,clT e1.caller,.tup [.str "ended",.str w]])=M3 at w2 f2 nd ae2 a2
   nofun
   simp_arith [w2.at_w,a2,ai,ae2]
   left
   cases q:e1.caller with
   | none=>
    have i0:∀ M,zaa (clT none) .non M = .ok (.bl false) M:=fun _=>rfl
    have ee:zK n (f+1) R1 i1 w=R1.setE i1 { e1 with ph:=.ended w }:=by unfold zK;rw [he1];dsimp only;rw [q]
    nofun
    simp_arith [i0]
    left
    simp_arith
    refine Ok.ret (.inl ⟨_,.inl rfl,⟨_,_,_,_,.inr ⟨_,by rw [f1.ww],?_⟩⟩,?_⟩)
    ·rw [eb,ee]
     exact ⟨_,_,w2,f1.trans f2⟩
    ·show (0:Nat)<_
     omega
   | some c=>
    have i0:∀ M,zaa (.tup [nT c.1,nT c.2.1,nT c.2.2]) .non M = .ok (.bl true) M:=fun _=>rfl
    rw [show clT (some c) = .tup [nT c.1,nT c.2.1,nT c.2.2] from rfl]
    cases ql:e1.lost with
    | true=>
     have ee:zK n (f+1) R1 i1 w=R1.setE i1 { e1 with ph:=.ended w }:=by unfold zK;rw [he1];dsimp only;rw [q];dsimp only;rw [Qy ql]
     rw [ql] at nd
     nofun
     simp_arith [i0,w2.at_w,nd]
     left
     simp_arith
     refine Ok.ret (.inl ⟨_,.inl rfl,⟨_,_,_,_,.inr ⟨_,by rw [f1.ww],?_⟩⟩,?_⟩)
     ·rw [eb,ee]
      exact ⟨_,_,w2,f1.trans f2⟩
     ·show (0:Nat)<_
      omega
    | false=>
     have ee:zK n (f+1) R1 i1 w=zay n (zK n f) (R1.setE i1 { e1 with ph:=.ended w }) c w:=by rw [zK,he1];dsimp only;rw [q];dsimp only;rw [Qz (by rw [ql];simp)]
     rw [ql] at nd
     obtain ⟨d1,ce,c1,c2,c3⟩:=ri2.cl i1 _ c he2 q
     have c2:ce.house<e1.house:=c2
     have ec:zay n (zK n f) (R1.setE i1 { e1 with ph:=.ended w }) c w=if (w==("well":Str))=true/\c.2.1+1<(n.asks ce.house).length then z7 n (zD n 4) (R1.setE i1 { e1 with ph:=.ended w }) c.1 (c.2.1+1) 1
       else if (w==("well":Str))=true\/((w==("spent":Str))=true/\((n.asks ce.house)[c.2.1]?).any (·.hears)=true) then zK n f (R1.setE i1 { e1 with ph:=.ended w }) c.1 w
       else (R1.setE i1 { e1 with ph:=.ended w }).setE c.1 { ce with ph:=.stands c.2.1 c.2.2,stood:=some (R1.setE i1 { e1 with ph:=.ended w }).came }:=by
      unfold zay
      rw [c1]
     rw [ee,ec] at eb
     clear ee ec
     have hc1:=(Qx.mp c1).1
     have ace:=w2.at_e c1
     have ac:atI ((List.range R1.es.length).map fun i=>FT.T.ref (ad1 (.e i))) (c.1:Int)=some (.ref (ad1 (.e c.1))):=y9 (by omega)
     have hs1:=zcn ce.house (ri2.hs _ _ c1)
     have ha:(n.asks ce.house)[c.2.1]? = some (n.asks ce.house)[c.2.1]:=Q0 c3
     have haa:atI ((n.asks ce.house).map qu) (c.2.1:Int)=some (.tup [.str (n.asks ce.house)[c.2.1].to,.int (n.asks ce.house)[c.2.1].tries,opS (n.asks ce.house)[c.2.1].purse,.str (n.asks ce.house)[c.2.1].word,.bl (n.asks ce.house)[c.2.1].hears,.bl (n.asks ce.house)[c.2.1].sure]):=zp (f:=qu) ha
     have a4:∀ (t0 t1 t2 t3 t4 t5:FT.T),atI [t0,t1,t2,t3,t4,t5] 4=some t4:=fun _ _ _ _ _ _=>rfl
     have sb2:SB B (R1.setE i1 { e1 with ph:=.ended w }):=sb1.setE _ _
     have tk:=fun (hat:c.2.1+1<(n.asks ce.house).length)=>zi6 (kE:=kE) (kR:=kR) gn w2 sb2 hB ri2 (tr:=1) c1 hat
     have s4:=zjU (t:=.tup [.str "stands",nT c.2.1,nT c.2.2]) ace
     generalize hR2:R1.setE i1 { e1 with ph:=.ended w }=R2 at *
     rw [show qg n = .tup [.tup (n.hs.map hsT),.tup (n.ps.map puT)] from rfl] at tk ⊢
     nofun
     simp_arith [i0,w2.at_w,nd]
     left
     refine Ok.ifB true (by simp_arith) ?_
     rw [Qy rfl]
     nofun
     simp_arith
     left
     nofun
     simp_arith [w2.at_w,a2,ac,ace,hs1]
     left
     by_cases hw:(w==("well":Str))=true
     ·by_cases hl3:c.2.1+1<(n.asks ce.house).length
      ·have d2:decide ((c.2.1:Int)+1<((n.asks ce.house).length:Int))=true:=Qv (by omega)
       rw [Qy ⟨hw,hl3⟩] at eb
       refine Ok.ifB true (by simp_arith [zdn,hw,Qh,d2]) ?_
       rw [Qy rfl]
       nofun
       simp_arith
       refine Ok.bind (tk hl3) ?_
       rintro t4 M4 ⟨rfl,ad4,D4,w4,f4⟩
       try simp_arith
       left
       simp_arith
       refine Ok.ret (.inl ⟨_,.inl rfl,⟨_,_,_,_,.inr ⟨_,by rw [f1.ww],?_⟩⟩,?_⟩)
       ·rw [eb]
        exact ⟨_,_,w4,f1.trans (f2.trans f4)⟩
       ·show (0:Nat)<_
        omega
      ·have d2:decide ((c.2.1:Int)+1<((n.asks ce.house).length:Int))=false:=Qw (by omega)
       rw [Qz fun z=>hl3 z.2,Qy (.inl hw)] at eb
       refine Ok.ifB false (by simp_arith [zdn,hw,Qh,d2]) ?_
       rw [Qz (by decide)]
       refine Ok.ifB false (by simp_arith [zeQ,hw]) ?_
       rw [Qz (by decide)]
       simp_arith
       refine Ok.ret (.inl ⟨_,.inl rfl,⟨_,_,_,_,.inl ⟨f,c.1,ce,ad1,D1,R2,by rw [f1.ww],w2,f1.trans f2,eb,c1,by omega,ri2,sb2⟩⟩,?_⟩)
       show ((c.1:Int)).toNat+1<_
       rw [QD]
       omega
     ·have hw':(w==("well":Str))=false:=by simpa using hw
      rw [Qz fun z=>hw z.1] at eb
      refine Ok.ifB false (by simp_arith [zdn,hw']) ?_
      rw [Qz (by decide)]
      by_cases hsp:(w==("spent":Str))=true/\(n.asks ce.house)[c.2.1].hears=true
      ·rw [Qy (.inr ⟨hsp.1,by rw [ha];exact hsp.2⟩)] at eb
       refine Ok.ifB false (by simp_arith [zeQ,zdn,hw',hsp.1,haa,a4,hsp.2]) ?_
       rw [Qz (by decide)]
       simp_arith
       refine Ok.ret (.inl ⟨_,.inl rfl,⟨_,_,_,_,.inl ⟨f,c.1,ce,ad1,D1,R2,by rw [f1.ww],w2,f1.trans f2,eb,c1,by omega,ri2,sb2⟩⟩,?_⟩)
       show ((c.1:Int)).toNat+1<_
       rw [QD]
       omega
      ·rw [Qz (by
        rintro (z | ⟨z,y⟩)
        ·exact hw z
        ·rw [ha] at y
         exact hsp ⟨z,y⟩)] at eb
       obtain ⟨w5,f5⟩:=w2.setE c1 { ce with ph:=.stands c.2.1 c.2.2,stood:=some R2.came } rfl rfl rfl
       rw [show phT ({ ce with ph:=.stands c.2.1 c.2.2,stood:=some R2.came }:Er).ph = .tup [.str "stands",nT c.2.1,nT c.2.2] from rfl] at w5 f5
       refine Ok.ifB true ?_ ?_
       ·cases z:(w==("spent":Str)) with
        | false=>simp_arith [zeQ,zdn,hw',z]
        | true=>
         have y:(n.asks ce.house)[c.2.1].hears=false:=by
          cases x:(n.asks ce.house)[c.2.1].hears with
          | false=>rfl
          | true=>exact absurd ⟨z,x⟩ hsp
         simp_arith [zeQ,zdn,hw',z,haa,a4,y]
       ·rw [Qy rfl]
        nofun
        simp_arith [za8,w2.at_w,a2,ac,s4]
        left
        simp_arith
        refine Ok.ret (.inl ⟨_,.inl rfl,⟨_,_,_,_,.inr ⟨_,by rw [f1.ww],?_⟩⟩,?_⟩)
        ·rw [eb]
         exact ⟨_,_,w5,f1.trans (f2.trans f5)⟩
        ·show (0:Nat)<_
         omega
  ·have cc:Ok (zdd kE kR [some (qg n),some (.ref (ad .w)),o2,some (.str w),some (.bl false),o5,o6,o7,o8] M1) fun b M2=>b=false/\M2=M1:=by
    unfold zdd
    simp_arith
    exact Ok.ret ⟨rfl,rfl⟩
   refine cc.mono ?_
   rintro b M2 ⟨rfl,rfl⟩
   exact .inr ⟨rfl,ws⟩
 ·rintro fl M1 (⟨σ,rfl,ws⟩ | ⟨t,_,z⟩)
  ·simp_arith
   exact Ok.ret ⟨rfl,ws⟩
  ·exact z.elim
end
theorem zmB (n:Net) (R:Run) (i:Nat):zaC n R i=(if (R.er i).ph.isW=true then [.ends i "bad",.ends i "spent",.ends i "well"] else [])++(if zU n R (R.er i)=true then [.lost i] else [])++(if (zJ n (R.er i) && yZ n R (R.er i))=true then [.again i] else [])++(if (R.er i).ph.isS=true then [.up i] else []):=by
 unfold zaC zap
 rw [List.filter_append,List.filter_append,List.filter_append]
 have h1:∀ c:Bool,((if c=true then [Evt.ends i "bad",.ends i "spent",.ends i "well"] else []).filter fun ev=>!ev.isA || yZ n R (R.er i))=if c=true then [.ends i "bad",.ends i "spent",.ends i "well"] else []:=fun c=>by cases c <;> rfl
 have h2:∀ c:Bool,((if c=true then [Evt.lost i] else []).filter fun ev=>!ev.isA || yZ n R (R.er i))=if c=true then [.lost i] else []:=fun c=>by cases c <;> rfl
 have h3:∀ c d:Bool,((if c=true then [Evt.again i] else []).filter fun ev=>!ev.isA || d)=if (c && d)=true then [.again i] else []:=fun c d=>by cases c <;> cases d <;> rfl
 have h4:∀ c:Bool,((if c=true then [Evt.up i] else []).filter fun ev=>!ev.isA || yZ n R (R.er i))=if c=true then [.up i] else []:=fun c=>by cases c <;> rfl
 rw [h1,h2,h3,h4]
noncomputable def cnV (n:Net) (R:Run) (a:Ask):Int:=match n.pof a with
 | none=>1
 | some k=>(R.told n k).2
section
theorem zmI (gn:GN n) (h:Wd n ad M R D) {a:Ask} (ha:a ∈ n.asks hh):Ok (zdl kE kR [qg n,.ref (ad .w),qu a] M) fun t M'=>t = .int (cnV n R a)/\M'=M:=by
 have wn:=gn.wn
 refine zx rfl ?_
 unfold zg4
 rw [show qg n = .tup [.tup (n.hs.map hsT),.tup (n.ps.map puT)] from rfl,show qu a = .tup [.str a.to,.int a.tries,opS a.purse,.str a.word,.bl a.hears,.bl a.sure] from rfl]
 have rg:zbT [.int (n.ps.length:Int)] M = .ok ((rgI n.ps.length).map .int) M:=zad (j:=(n.ps.length:Int)) (by have:=wn.pl;omega)
 right
 simp_arith [Qh,rg,QD]
 refine Ok.bind (Ok.loop (r:=FT.T.int) (R:=fun t M'=>t = .int (cnV n R a)/\M'=M) (fun i σ M'=>M'=M/\∃ o3,σ=[some (.tup [.tup (n.hs.map hsT),.tup (n.ps.map puT)]),some (.ref (ad .w)),some (.tup [.str a.to,.int a.tries,opS a.purse,.str a.word,.bl a.hears,.bl a.sure]),o3]/\∀ k,k<i->n.pof a ≠ some k) (rgI n.ps.length) 0 ⟨rfl,none,rfl,fun k hk=>absurd hk (by omega)⟩ ?_) ?_
 ·rintro i y σ M1 hy ⟨rfl,o3,rfl,hp⟩
  rw [Nat.zero_add] at hp ⊢
  obtain ⟨hi,rfl⟩:=zbf hy
  have hps:n.ps[i]? = some n.ps[i]:=Q0 hi
  have hpa:atI (n.ps.map puT) (i:Int)=some (.tup [.str n.ps[i].name,.str n.ps[i].earns,.int n.ps[i].per]):=zp (f:=puT) hps
  have en:=zgK gn ha hps
  have ln:yz (.ref (ad (.c i))) M1 = .ok (nT (qN (R.puts.getD i []) (n.per i)).length) M1:=by
   unfold yz yQ yo
   simp only [h.at_c hi]
   simp
  simp_arith
  unfold zgb
  by_cases d:n.pof a=some i
  ·have d':decide (n.pof a=some i)=true:=Qv d
   refine Ok.ifB true (by simp_arith [hpa,en,d']) ?_
   rw [Qy rfl]
   simp_arith [h.at_w,h.at_p,y9 hi,h.at_k hi,ln]
   refine Ok.ret (.inr (.inr ⟨_,rfl,?_,rfl⟩))
   obtain ⟨pe,_,_⟩:=zkO wn hi
   have e1:(n.ps.getD i ⟨"","",1⟩).per=(n.per i:Int):=by rw [pe,Q7,hps];rfl
   have e2:cnV n R a=(R.told n i).2:=by unfold cnV;rw [d]
   have e3:(R.told n i).2=((R.puts.getD i []).length:Int) / (n.ps.getD i ⟨"","",1⟩).per-(R.taken.getD i 0:Nat):=rfl
   rw [e2,e3,e1]
   unfold qN
   rw [Qh,length_range]
   rfl
  ·have d':decide (n.pof a=some i)=false:=Qw d
   refine Ok.ifB false (by simp_arith [hpa,en,d']) ?_
   rw [Qz (by decide)]
   simp_arith
   refine Ok.ret (.inl ⟨_,.inl rfl,rfl,_,rfl,fun k hk=>?_⟩)
   by_cases z:k=i
   ·rw [z];exact d
   ·exact hp k (by omega)
 ·rintro fl M1 (⟨σ,rfl,rfl,o3,rfl,hp⟩ | ⟨t,rfl,rfl,rfl⟩)
  ·try simp_arith
   left
   simp_arith
   refine Ok.ret ⟨?_,rfl⟩
   unfold cnV
   cases q:n.pof a with
   | none=>rfl
   | some k=>
    rw [Nat.zero_add,zaI] at hp
    exact absurd q (hp k ((wn.as hh a ha).plt q))
  ·rw [hX]
   simp_arith [zbO,zcd]
   exact Ok.ret ⟨rfl,rfl⟩
theorem Wd.kept (h:Wd n ad M R D) (k:Kp M.length M M'):Wd n ad M' R D:=⟨fun s hs=>by rw [k.2 _ (qA (h.ho s hs))];exact h.ho s hs,h.inj,h.dl,h.dk,h.pl,h.tl⟩
def Fd (M:Mem) (r:Nat) (xs:List Evt) (M':Mem):Prop:=M.length<=r/\M'[r]? = some (.lst (xs.map evT))/\Kp M.length M M'
theorem Fd.app {r:Nat} {xs:List Evt} (f:Fd M r xs M') (ev:Evt):Fd M r (xs++[ev]) (M'.set r (.lst ((xs++[ev]).map evT))):=⟨f.1,get_set f.2.1,f.2.2.trans (Kp.set _ _ f.1)⟩
theorem Fd.ap {r:Nat} {xs:List Evt} (f:Fd M r xs M') (hl:xs.length<=1000000) (ev:Evt):yO (.ref r) [evT ev] M' = .ok .non (M'.set r (.lst ((xs++[ev]).map evT))):=by
 rw [zO (t:=evT ev) f.2.1 (by rw [Qh,sizeLine_eq];omega)]
 simp
theorem znS (gn:GN n) (h:Wd n ad M R D) (sb:SB B R) (hB:B<90000) (ri:RI n R):zdI kE kR [qg n,.ref (ad .w)] M = .ok (.lst ((zd8 n R).map evT)) M:=by
 have wn:=gn.wn
 have key:Ok (zgI kE kR [qg n,.ref (ad .w)] M) fun t M'=>∃ r,t = .ref r/\Fd M r (zd8 n R) M':=by
  refine zx rfl ?_
  unfold zju
  right
  simp_arith
  left
  right
  have w1:=h.kept (Kp.app M [Cell.lst [.tup [.str "fresh"]]] (Q3 _))
  have rg:∀ M,zbT [.int (R.es.length:Int)] M = .ok ((rgI R.es.length).map .int) M:=fun M=>zad (j:=(R.es.length:Int)) (by have:=sb.es;omega)
  simp_arith [w1.at_w,zho w1,rg,QD]
  refine Ok.bind (Ok.for (r:=FT.T.int) (xs:=rgI R.es.length) (fun i σ M'=>∃ r o3 o4 o5 o6 o7,σ=[some (qg n),some (.ref (ad .w)),some (.ref r),o3,o4,o5,o6,o7]/\Fd M r (.fresh::(List.range i).flatMap (zaC n R)) M') ⟨M.length,none,none,none,none,none,rfl,Q3 _,yM,Kp.app _ _ (Q3 _)⟩ ?_) ?_
  ·rintro i y σ M1 hy ⟨r,o3,o4,o5,o6,o7,rfl,fd⟩
   obtain ⟨hi,rfl⟩:=zbf hy
   have he:R.es[i]? = some R.es[i]:=Q0 hi
   generalize R.es[i]=e at he
   have hxl:(Evt.fresh::(List.range i).flatMap (zaC n R)).length<=10*i+1:=by
    rw [Qp]
    have:=zfz (n:=n) R i
    omega
   have hnext:(Evt.fresh::(List.range i).flatMap (zaC n R))++zaC n R i=Evt.fresh::(List.range (i+1)).flatMap (zaC n R):=by rw [range_succ,List.flatMap_append];simp
   rw [zmB,z3 he] at hnext
   rw [← hnext]
   generalize Evt.fresh::(List.range i).flatMap (zaC n R)=xs at fd hxl
   clear hnext
   have hes:=sb.es
   have w2:=h.kept fd.2.2
   have ae:=w2.at_e he
   have lo:yo (.ref (ad (.e i))) M1=some [nT e.house,clT e.caller,phT e.ph]:=yP ae
   obtain ⟨p0,ps,ep,q1,q2,_,q4⟩:=phW e.ph M1
   simp_arith
   unfold ziL
   nofun
   simp_arith [w2.at_w,w2.at_a,y9 hi,zej,lo]
   left
   have hpz:∀ M,eqA p0 (.str "works") M = .ok (.bl e.ph.isW) M/\eqA p0 (.str "stands") M = .ok (.bl e.ph.isS) M/\neA p0 (.str "ended") M = .ok (.bl (!e.ph.isE)) M:=fun M=>by
    cases z:e.ph with
    | works=>rw [z] at ep;cases ep;exact ⟨rfl,rfl,rfl⟩
    | waits a t=>rw [z] at ep;cases ep;exact ⟨rfl,rfl,rfl⟩
    | stands a t=>rw [z] at ep;cases ep;exact ⟨rfl,rfl,rfl⟩
    | ended w=>rw [z] at ep;cases ep;exact ⟨rfl,rfl,rfl⟩
   have pz:atI (p0::ps) 0=some p0:=zrA
   -- the ends
   refine Ok.seqP (fun fl M'=>∃ r',fl = .nx [some (qg n),some (.ref (ad .w)),some (.ref r'),some (.int (i:Int)),some (nT e.house),some (clT e.caller),some (phT e.ph),o7]/\Fd M r' (xs++if e.ph.isW=true then [.ends i "bad",.ends i "spent",.ends i "well"] else []) M') ?_ ?_
   ·rw [ep]
    cases zw:e.ph.isW with
    | false=>
     refine Ok.ifB false (by simp_arith [pz,hpz,zw]) ?_
     rw [Qz (by decide)]
     simp_arith
     exact Ok.ret ⟨r,rfl,by simpa using fd⟩
    | true=>
     refine Ok.ifB true (by simp_arith [pz,hpz,zw]) ?_
     rw [Qy rfl]
     have cp:zy (qo 0) qK (yF (zb (eC (.str "ends")) (zb (yb 1) (zb (yb 0) ze)))) [FT.T.str "bad",.str "spent",.str "well"] [none,some (.int (i:Int))] M1 [] = .ok ([Evt.ends i "bad",.ends i "spent",.ends i "well"].map evT) M1:=
      Ok.mapc (r:=FT.T.str) (xs:=["bad","spent","well"]) (fun σ=>∃ o,σ=[o,some (.int (i:Int))]) (fun w=>.tup [.str "ends",nT i,.str w]) ⟨_,rfl⟩ (by simp) (by
       rintro w σ _ ⟨o,rfl⟩
       exact ⟨[some (.str w),some (.int (i:Int))],rfl,⟨_,rfl⟩,by simp_arith⟩)
     have ct:zeI (.ref r) (.lst [evT (.ends i "bad"),evT (.ends i "spent"),evT (.ends i "well")]) M1 = .ok ((xs++[Evt.ends i "bad",.ends i "spent",.ends i "well"]).map evT) M1:=by
      unfold zeI
      rw [yP fd.2.1]
      show (if (xs.map evT).length+_<=sizeLine then Out.ok _ M1 else .bad)=_
      rw [Qy (by rw [Qh,sizeLine_eq];simp;omega),Qq]
      rfl
     simp_arith [cp,ct]
     have hMl:=fd.2.2.1
     exact Ok.ret ⟨M1.length,rfl,hMl,yM,fd.2.2.trans (Kp.app _ _ hMl)⟩
   rintro fl M2 ⟨r2,rfl,f2⟩
   rw [qf]
   generalize hx2:(xs++if e.ph.isW=true then [Evt.ends i "bad",.ends i "spent",.ends i "well"] else [])=x2 at f2
   have hl2:x2.length<=10*i+4:=by
    rw [← hx2,Qn]
    split <;> simp <;> omega
   have w3:=h.kept f2.2.2
   -- the loss
   refine Ok.seqP (fun fl M'=>fl = .nx [some (qg n),some (.ref (ad .w)),some (.ref r2),some (.int (i:Int)),some (nT e.house),some (clT e.caller),some (phT e.ph),o7]/\Fd M r2 (x2++if zU n R e=true then [.lost i] else []) M') ?_ ?_
   ·rw [ep]
    have nd:=zmT w3 i
    rw [show zcp R i=e.lost from by unfold zcp;rw [he];rfl] at nd
    cases qc:e.caller with
    | none=>
     have i1:∀ M,zaa (clT none) .non M = .ok (.bl false) M:=fun _=>rfl
     have ml:zU n R e=false:=by unfold zU;rw [qc]
     rw [ml,Qz (by decide),append_nil]
     refine Ok.ifB false ?_ ?_
     ·cases zE:e.ph.isE with
      | true=>simp_arith [pz,hpz,zE]
      | false=>simp_arith [pz,hpz,zE,i1]
     ·rw [Qz (by decide)]
      simp_arith
      exact Ok.ret ⟨rfl,f2⟩
    | some c=>
     have i1:∀ M,zaa (.tup [nT c.1,nT c.2.1,nT c.2.2]) .non M = .ok (.bl true) M:=fun _=>rfl
     rw [show clT (some c) = .tup [nT c.1,nT c.2.1,nT c.2.2] from rfl]
     obtain ⟨hci,ce,c1,c2,c3⟩:=ri.cl i e c he qc
     have ha:(n.asks ce.house)[c.2.1]? = some (n.asks ce.house)[c.2.1]:=Q0 c3
     have ml:zU n R e=(!(e.lost || e.ph.isE) && !(n.asks ce.house)[c.2.1].sure):=by unfold zU;rw [qc];dsimp only;rw [z3 c1,zbz ha]
     rw [ml]
     cases zE:e.ph.isE with
     | true=>
      refine Ok.ifB false (by simp_arith [pz,hpz,zE]) ?_
      rw [Qz (by decide)]
      simp_arith
      refine Ok.ret ⟨rfl,?_⟩
      rw [Qz (by simp),append_nil]
      exact f2
     | false=>
      cases zL:e.lost with
      | true=>
       rw [zL] at nd
       refine Ok.ifB false (by simp_arith [pz,hpz,zE,i1,w3.at_w,nd]) ?_
       rw [Qz (by decide)]
       simp_arith
       refine Ok.ret ⟨rfl,?_⟩
       rw [Qz (by simp),append_nil]
       exact f2
      | false=>
       rw [zL] at nd
       refine Ok.ifB true (by simp_arith [pz,hpz,zE,i1,w3.at_w,nd]) ?_
       rw [Qy rfl]
       have hc1:=(Qx.mp c1).1
       have ac:atI ((List.range R.es.length).map fun i=>FT.T.ref (ad (.e i))) (c.1:Int)=some (.ref (ad (.e c.1))):=y9 hc1
       have ace:=w3.at_e c1
       have hs1:=zcn ce.house (ri.hs _ _ c1)
       have haa:atI ((n.asks ce.house).map qu) (c.2.1:Int)=some (.tup [.str (n.asks ce.house)[c.2.1].to,.int (n.asks ce.house)[c.2.1].tries,opS (n.asks ce.house)[c.2.1].purse,.str (n.asks ce.house)[c.2.1].word,.bl (n.asks ce.house)[c.2.1].hears,.bl (n.asks ce.house)[c.2.1].sure]):=zp (f:=qu) ha
       have a5:∀ (t0 t1 t2 t3 t4 t5:FT.T),atI [t0,t1,t2,t3,t4,t5] 5=some t5:=fun _ _ _ _ _ _=>rfl
       have f3:=f2.app (.lost i)
       have ap:=f2.ap (by omega) (.lost i)
       rw [show evT (.lost i) = .tup [.str "lost",.int (i:Int)] from rfl] at ap
       rw [show qg n = .tup [.tup (n.hs.map hsT),.tup (n.ps.map puT)] from rfl]
       cases zS:(n.asks ce.house)[c.2.1].sure with
       | true=>
        rw [zS] at haa
        simp_arith [w3.at_w,w3.at_a,ac,ace,hs1,haa,a5]
        exact Ok.ret ⟨rfl,by simpa using f2⟩
       | false=>
        rw [zS] at haa
        simp_arith [w3.at_w,w3.at_a,ac,ace,hs1,haa,a5,qE f2.2.1,ap]
        exact Ok.ret ⟨rfl,f3⟩
   rintro fl M3 ⟨rfl,f3⟩
   rw [qf]
   generalize hx3:(x2++if zU n R e=true then [Evt.lost i] else [])=x3 at f3
   have hl3:x3.length<=10*i+5:=by
    rw [← hx3,Qn]
    split <;> simp <;> omega
   have w4:=h.kept f3.2.2
   have goal:∀ M4,Fd M r2 (x3++(if (zJ n e && yZ n R e)=true then [.again i] else [])++if e.ph.isS=true then [.up i] else []) M4->Fd M r2 (xs++((if e.ph.isW=true then [.ends i "bad",.ends i "spent",.ends i "well"] else [])++(if zU n R e=true then [.lost i] else [])++(if (zJ n e && yZ n R e)=true then [.again i] else [])++if e.ph.isS=true then [.up i] else [])) M4:=fun M4 f=>by
    rw [← hx3,← hx2] at f
    simpa only [QH] using f
   cases zs:e.ph.isS with
   | false=>
    have tl:zJ n e=false:=by unfold zJ;rw [zs];rfl
    rw [zs,tl] at goal
    rw [ep]
    refine Ok.ifB false (by simp_arith [pz,hpz,zs]) ?_
    rw [Qz (by decide)]
    simp_arith
    refine Ok.ret ⟨_,rfl,r2,_,_,_,_,_,rfl,?_⟩
    have:=goal M3 (by simpa using f3)
    rw [tl]
    exact this
   | true=>
    rw [zs] at goal
    have hl:=zct zs (ri.ph _ _ he)
    have ha:(n.asks e.house)[e.ph.at1]? = some (n.asks e.house)[e.ph.at1]:=Q0 hl
    have hm:=Qa ha
    have hs1:=zcn e.house (ri.hs _ _ he)
    have tl:zJ n e=((n.asks e.house)[e.ph.at1].tries==0 || decide ((e.ph.at2:Int)<(n.asks e.house)[e.ph.at1].tries)):=by unfold zJ;rw [zs,zbz ha];rfl
    have cn:decide (0<cnV n R (n.asks e.house)[e.ph.at1])=yZ n R e:=by
     unfold cnV yZ
     rw [zbz ha]
     cases n.pof (n.asks e.house)[e.ph.at1] <;> rfl
    have haa:atI ((n.asks e.house).map qu) (e.ph.at1:Int)=some (qu (n.asks e.house)[e.ph.at1]):=zp (f:=qu) ha
    have co:=zmI (kE:=kE) (kR:=kR) gn w4 hm
    rw [tl] at goal ⊢
    generalize (n.asks e.house)[e.ph.at1]=a at haa co goal cn
    rw [show phT e.ph = .tup [.str "stands",nT e.ph.at1,nT e.ph.at2] from phS zs]
    have es:∀ M,eqA (.str "stands") (.str "stands") M = .ok (.bl true) M:=fun _=>rfl
    rw [show qu a = .tup [.str a.to,.int a.tries,opS a.purse,.str a.word,.bl a.hears,.bl a.sure] from rfl] at haa co
    rw [show qg n = .tup [.tup (n.hs.map hsT),.tup (n.ps.map puT)] from rfl] at co ⊢
    refine Ok.ifB true (by simp_arith [es]) ?_
    rw [Qy rfl]
    nofun
    simp_arith [hs1,haa]
    left
    have ap:=f3.ap (by omega) (.again i)
    rw [show evT (.again i) = .tup [.str "again",.int (i:Int)] from rfl] at ap
    -- the last one
    have fin:∀ x4 M4,Fd M r2 x4 M4->x4.length<=10*i+6->x4=x3++(if ((a.tries==0 || decide ((e.ph.at2:Int)<a.tries)) && yZ n R e)=true then [.again i] else [])->Ok (qB (zT yO (eUn qD (yb 2)) (zb (yF (zb (eC (.str "up")) (zb (yb 3) ze))) ze)) [some (.tup [.tup (n.hs.map hsT),.tup (n.ps.map puT)]),some (.ref (ad .w)),some (.ref r2),some (.int (i:Int)),some (nT e.house),some (clT e.caller),some (.tup [.str "stands",nT e.ph.at1,nT e.ph.at2]),some (.tup [.str a.to,.int a.tries,opS a.purse,.str a.word,.bl a.hears,.bl a.sure])] M4) fun fl M'=>∃ σ',fl = .nx σ'/\∃ r o3 o4 o5 o6 o7,σ'=[some (.tup [.tup (n.hs.map hsT),.tup (n.ps.map puT)]),some (.ref (ad .w)),some (.ref r),o3,o4,o5,o6,o7]/\Fd M r (xs++((if e.ph.isW=true then [.ends i "bad",.ends i "spent",.ends i "well"] else [])++(if zU n R e=true then [.lost i] else [])++(if ((a.tries==0 || decide ((e.ph.at2:Int)<a.tries)) && yZ n R e)=true then [.again i] else [])++if true=true then [.up i] else [])) M':=by
     rintro x4 M4 f4 hl4 rfl
     have ap:=f4.ap (by omega) (.up i)
     rw [show evT (.up i) = .tup [.str "up",.int (i:Int)] from rfl] at ap
     simp_arith [qE f4.2.1,ap]
     have f5:=f4.app (.up i)
     exact Ok.ret ⟨_,rfl,r2,_,_,_,_,_,rfl,goal _ (by rw [Qy rfl];exact f5)⟩
    nofun
    have z0:∀ M,eqA (.int a.tries) (.int 0) M = .ok (.bl (a.tries==0)) M:=fun _=>rfl
    cases zt:(a.tries==0 || decide ((e.ph.at2:Int)<a.tries)) with
    | false=>
     rw [zt] at fin
     rw [Bool.or_eq_false_iff] at zt
     simp_arith [zt.1,zt.2]
     left
     exact fin x3 M3 f3 (by omega) (by simp)
    | true=>
     rw [zt] at fin
     refine Ok.bind (P:=fun fl M'=>∃ x4,fl = .nx [some (.tup [.tup (n.hs.map hsT),.tup (n.ps.map puT)]),some (.ref (ad .w)),some (.ref r2),some (.int (i:Int)),some (nT e.house),some (clT e.caller),some (.tup [.str "stands",nT e.ph.at1,nT e.ph.at2]),some (.tup [.str a.to,.int a.tries,opS a.purse,.str a.word,.bl a.hears,.bl a.sure])]/\Fd M r2 x4 M'/\x4.length<=10*i+6/\x4=x3++(if (true && yZ n R e)=true then [.again i] else [])) (Ok.ifP (fun b M'=>b=yZ n R e/\M'=M3) ?_ ?_) ?_
     ·by_cases y:(a.tries==0)=true
      ·simp_arith [y]
       refine Ok.bind co ?_
       rintro t M4 ⟨rfl,rfl⟩
       simp_arith [cn]
       exact Ok.ret ⟨rfl,rfl⟩
      ·have y':(a.tries==0)=false:=by simpa using y
       rw [y',Bool.false_or] at zt
       simp_arith [y',zt]
       refine Ok.bind co ?_
       rintro t M4 ⟨rfl,rfl⟩
       simp_arith [cn]
       exact Ok.ret ⟨rfl,rfl⟩
     ·rintro b M4 ⟨rfl,rfl⟩
      cases zc:yZ n R e with
      | false=>
       rw [Qz (by decide)]
       simp_arith
       exact Ok.ret ⟨x3,rfl,f3,by omega,by simp⟩
      | true=>
       rw [Qy rfl]
       simp_arith [qE f3.2.1,ap]
       exact Ok.ret ⟨_,rfl,f3.app _,by rw [Qn];simp;omega,by simp⟩
     ·rintro fl M4 ⟨x4,rfl,f4,hl4,e4⟩
      rw [hX]
      exact fin x4 M4 f4 hl4 e4
  ·rintro fl M1 ⟨σ,rfl,r,o3,o4,o5,o6,o7,rfl,fd⟩
   rw [zaI] at fd
   try simp_arith
   left
   simp_arith
   exact Ok.ret ⟨r,rfl,fd⟩
 obtain ⟨t,M',e,r,rfl,h1,h2,h3⟩:=key
 unfold zdI zeG
 rw [e]
 dsimp only
 rw [h2]
 dsimp only
 rw [Qy]
 refine ⟨zm7 h3,h1,fun x hx=>?_⟩
 obtain ⟨ev,_,rfl⟩:=mem_map.mp hx
 exact zrc ev
end
variable {v:FT.T}
theorem ziY {k j:Key} (h:j ≠ k):((D.map fun kv=>if kv.1=k then (kv.1,v) else kv).find? fun kv=>decide (kv.1=j)).map (·.2)=(D.find? fun kv=>decide (kv.1=j)).map (·.2):=by
 induction D with
 | nil=>rfl
 | cons kv D ih=>
  rw [QE,find?_cons,find?_cons]
  by_cases e:kv.1=k
  ·rw [Qy e]
   have:¬ kv.1=j:=fun z=>h (z.symm.trans e)
   simp only [this,decide_false]
   exact ih
  ·rw [Qz e]
   by_cases z:kv.1=j
   ·simp only [z,decide_true]
   ·simp only [z,decide_false]
    exact ih
theorem zmA {k j:Key} :yW (D++[(k,v)]) j=match yW D j with | some x=>some x | none=>if j=k then some v else none:=by
 unfold yW
 rw [List.find?_append]
 cases q:D.find? fun kv=>decide (kv.1=j) with
 | some x=>rfl
 | none=>
  by_cases z:j=k
  ·subst z;simp
  ·have:¬ k=j:=fun x=>z x.symm
   simp [z,this]
theorem ziZ {k:Key} (h:(D.any fun kv=>decide (kv.1=k))=true):yW (D.map fun kv=>if kv.1=k then (kv.1,v) else kv) k=some v:=by
 unfold yW
 induction D with
 | nil=>cases h
 | cons kv D ih=>
  rw [QE,find?_cons]
  by_cases e:kv.1=k
  ·rw [Qy e]
   simp only [e,decide_true]
   rfl
  ·rw [Qz e]
   simp only [e,decide_false]
   refine ih ?_
   rw [any_cons] at h
   simpa [e] using h
theorem zmd (D:List (Key × FT.T)) (k j:Key) (v:FT.T):yW (za5 D k v) j=if j=k then some v else yW D j:=by
 unfold za5
 split
 ·rename_i h
  by_cases z:j=k
  ·rw [Qy z,z];exact ziZ h
  ·rw [Qz z];exact ziY z
 ·rename_i h
  rw [zmA]
  by_cases z:j=k
  ·rw [Qy z,Qy z,z]
   have:yW D k=none:=by
    unfold yW
    rw [show (D.find? fun kv=>decide (kv.1=k))=none from List.find?_eq_none.mpr fun x hx hz=>h (List.any_eq_true.mpr ⟨x,hx,hz⟩)]
    rfl
   rw [this]
  ·rw [Qz z,Qz z]
   cases yW D j <;> rfl
theorem zni (D:List (Key × FT.T)) (k:Key) (v:FT.T):(za5 D k v).length<=D.length+1:=by
 unfold za5
 split
 ·rw [Qh];omega
 ·simp
theorem znc {s:Nat} {i:Int} (h:M[s]? = some (.dic D)) (hl:D.length<=100000):zdr (.ref s) (.int i) t M = .ok () (M.set s (.dic (za5 D (.inl i) t))):=by
 show (match M[s]? with | some (.dic kvs)=>if kvs.length<sizeLine then Out.ok () (M.set s (.dic (za5 kvs (.inl i) t))) else .bad | _=>zaS (.ref s) (.int i) t M)=_
 rw [h]
 dsimp only
 rw [Qy (by rw [sizeLine_eq];omega)]
variable {ev:Evt}
section
theorem Wd.tick (h:Wd n ad M R D):Wd n ad M R.tick D:=⟨fun s hs=>by cases s <;> exact h.ho _ hs,fun s t hs ht e=>h.inj s t (by cases s <;> exact hs) (by cases t <;> exact ht) e,h.dl,QI h.dk,h.pl,h.tl⟩
theorem Wf2.tick (f:Wf2 n ad M R ad' M' R'):Wf2 n ad M R ad' M' R'.tick:=⟨f.le,f.kp,fun s hs=>f.nw s (by cases s <;> exact hs),f.ww⟩
theorem Wst.tick (w:Wst n ad M R R' M'):Wst n ad M R R'.tick M':=by
 obtain ⟨ad',D',h1,h2⟩:=w
 exact ⟨ad',D',h1.tick,h2.tick⟩
theorem Wd.lose (h:Wd n ad M R D) (he:R.es[i]? = some e):Wd n ad (M.set (ad .d) (.dic (za5 D (.inl (i:Int)) (.bl true)))) (R.setE i { e with lost:=true }).tick (za5 D (.inl (i:Int)) (.bl true))/\Wf2 n ad M R ad (M.set (ad .d) (.dic (za5 D (.inl (i:Int)) (.bl true)))) (R.setE i { e with lost:=true }).tick:=by
 have hl:(R.setE i { e with lost:=true }).tick.es.length=R.es.length:=length_set ..
 refine h.write (s:=.d) trivial hl rfl (fun t ht=>?_) (fun j=>?_) (Qj (zni ..) (Nat.succ_le_succ h.dk)) rfl rfl
 ·cases t with
  | d=>exact absurd rfl ht
  | a=>simp only [ctn];rw [hl]
  | e j=>
   simp only [ctn]
   by_cases z:j=i
   ·subst z
    rw [show (R.setE j { e with lost:=true }).tick.er j={ e with lost:=true } from zjA he,z3 he]
   ·rw [show (R.setE i { e with lost:=true }).tick.er j=R.er j from zmX z]
  | _=>rfl
 ·rw [zmd]
  show _=((((R.setE i { e with lost:=true }).es)[j]?).map (·.lost)).getD false
  by_cases z:j=i
  ·subst z
   rw [Qy rfl,zc4 he]
   rfl
  ·rw [Qz (fun y=>z (by have:=Sum.inl.inj y;omega)),zeb z,h.dl j]
   rfl
theorem Wd.pay (h:Wd n ad M R D) (p:Nat × Nat × Nat):Wd n ad (M.set (ad .q) (.lst ((R.pays++[p]).map zab))) { R with pays:=R.pays++[p] } D/\Wf2 n ad M R ad (M.set (ad .q) (.lst ((R.pays++[p]).map zab))) { R with pays:=R.pays++[p] }:=
 h.write (R':={ R with pays:=R.pays++[p] }) (D':=D) (s:=.q) trivial rfl rfl (fun t ht=>by cases t <;> first | rfl | exact absurd rfl ht) h.dl h.dk rfl rfl
theorem Wd.took (h:Wd n ad M R D) {k:Nat} (hk:k<n.ps.length) (v:Nat):Wd n ad (M.set (ad (.k k)) (.lst [.ref (ad (.g k)),.ref (ad (.c k)),nT v])) { R with taken:=R.taken.set k v } D/\Wf2 n ad M R ad (M.set (ad (.k k)) (.lst [.ref (ad (.g k)),.ref (ad (.c k)),nT v])) { R with taken:=R.taken.set k v }:=by
 have hk':k<R.taken.length:=by rw [h.tl];exact hk
 refine h.write (R':={ R with taken:=R.taken.set k v }) (D':=D) (s:=.k k) hk rfl ?_ (fun t ht=>?_) h.dl h.dk rfl (length_set ..)
 ·simp only [ctn]
  rw [Q7,Qc,Qy rfl,Qy hk']
  rfl
 ·cases t with
  | k j=>
   simp only [ctn]
   rw [Q7,Qc,Qz (fun z=>ht (by rw [z])),Q7]
  | _=>rfl
theorem zqt (gn:GN n) (h:Wd n ad M R D) (sb:SB B R) (hB:B+40<90000) (hcm:R.came<90000) (ri:RI n R) (hc:EvC n R ev) :
  Ok (zcz kE kR [qg n,.ref (ad .w),evT ev] M) fun t M'=>t = .non/\Wst n ad M R (zal n R ev) M':=by
 have wn:=gn.wn
 refine zx rfl ?_
 unfold zli
 cases ev with
 | fresh=>
  have q0:∀ M,eqA (.str "fresh") (.str "fresh") M = .ok (.bl true) M:=fun _=>rfl
  have q1:∀ M,eqA (.str "fresh") (.str "ends") M = .ok (.bl false) M:=fun _=>rfl
  have q2:∀ M,eqA (.str "fresh") (.str "lost") M = .ok (.bl false) M:=fun _=>rfl
  have q3:∀ M,inD (.str "fresh") (.lst [.str "again",.str "up"]) M = .ok (.bl false) M:=fun _=>rfl
  rw [show evT .fresh = .tup [.str "fresh"] from rfl]
  right
  simp_arith [q0]
  refine Ok.bind (show Ok (za3 kE kR [qg n,.ref (ad .w),.int 0,.non] M) (fun t M'=>t = .non/\Wst n ad M R (zD n 4 R 0 none) M') from ziJ gn h sb (by omega) wn.h1 none) ?_
  rintro t M1 ⟨rfl,ws⟩
  try simp_arith
  left
  simp_arith [q1,q2,q3]
  exact Ok.ret ⟨rfl,ws.tick⟩
 | ends i w=>
  obtain ⟨e,he,hw⟩:=hc
  have q0:∀ M,eqA (.str "ends") (.str "fresh") M = .ok (.bl false) M:=fun _=>rfl
  have q1:∀ M,eqA (.str "ends") (.str "ends") M = .ok (.bl true) M:=fun _=>rfl
  have q2:∀ M,eqA (.str "ends") (.str "lost") M = .ok (.bl false) M:=fun _=>rfl
  have q3:∀ M,inD (.str "ends") (.lst [.str "again",.str "up"]) M = .ok (.bl false) M:=fun _=>rfl
  rw [show evT (.ends i w) = .tup [.str "ends",nT i,.str w] from rfl]
  right
  simp_arith [q0]
  left
  right
  simp_arith [q1]
  refine Ok.bind (zjC gn h sb (by omega) ri he w) ?_
  rintro t M1 ⟨rfl,ws⟩
  try simp_arith
  left
  simp_arith [q2,q3]
  exact Ok.ret ⟨rfl,ws.tick⟩
 | lost i=>
  obtain ⟨e,c,he,hq,_⟩:=hc
  have q0:∀ M,eqA (.str "lost") (.str "fresh") M = .ok (.bl false) M:=fun _=>rfl
  have q1:∀ M,eqA (.str "lost") (.str "ends") M = .ok (.bl false) M:=fun _=>rfl
  have q2:∀ M,eqA (.str "lost") (.str "lost") M = .ok (.bl true) M:=fun _=>rfl
  have q3:∀ M,inD (.str "lost") (.lst [.str "again",.str "up"]) M = .ok (.bl false) M:=fun _=>rfl
  rw [show evT (.lost i) = .tup [.str "lost",nT i] from rfl]
  right
  simp_arith [q0]
  left
  right
  simp_arith [q1]
  left
  obtain ⟨w1,f1⟩:=h.lose he
  have he1:(R.setE i { e with lost:=true }).tick.es[i]? = some { e with lost:=true }:=zc4 he _
  have ri1:RI n (R.setE i { e with lost:=true }):=ri.setE he rfl rfl (by have:=ri.ph _ _ he;unfold zeA at this ⊢;exact this)
  obtain ⟨c0,ce,c1,c2,c3⟩:=ri1.cl i _ c he1 hq
  have ae:=w1.at_e he1
  rw [show ({ e with lost:=true }:Er).caller=some c from hq,show clT (some c) = .tup [nT c.1,nT c.2.1,nT c.2.2] from rfl] at ae
  have ace:=w1.at_e (i:=c.1) c1
  have s4:=zjU (t:=.tup [.str "stands",nT c.2.1,nT c.2.2]) ace
  have hl:(R.setE i { e with lost:=true }).tick.es.length=R.es.length:=length_set ..
  have hi:=(Qx.mp he).1
  have a1:=w1.at_a
  rw [hl] at a1
  have ai:atI ((List.range R.es.length).map fun i=>FT.T.ref (ad (.e i))) (i:Int)=some (.ref (ad (.e i))):=y9 hi
  have ac:atI ((List.range R.es.length).map fun i=>FT.T.ref (ad (.e i))) (c.1:Int)=some (.ref (ad (.e c.1))):=y9 (by omega)
  have sd:=znc (i:=(i:Int)) (t:=.bl true) h.at_d (by have:=h.dk;omega)
  obtain ⟨w5,f5⟩:=w1.setE (i:=c.1) c1 { ce with ph:=.stands c.2.1 c.2.2,stood:=some R.came } rfl rfl rfl
  rw [show phT ({ ce with ph:=.stands c.2.1 c.2.2,stood:=some R.came }:Er).ph = .tup [.str "stands",nT c.2.1,nT c.2.2] from rfl] at w5 f5
  have e0:zal n R (.lost i)=(R.setE i { e with lost:=true }).tick.setE c.1 { ce with ph:=.stands c.2.1 c.2.2,stood:=some R.came }:=by
   have el:∀ (o:Option (Nat × Nat × Nat)) (f:Nat × Nat × Nat->Run),o=some c->o.elim R f=f c:=fun o f h=>by rw [h];rfl
   show (zcP n R i).tick=_
   unfold zcP
   rw [z3 he,el _ _ hq]
   unfold zay
   rw [c1]
   rfl
  rw [e0]
  generalize (R.setE i { e with lost:=true }).tick=R1 at *
  right
  simp_arith [q2,za8,h.at_w,sd]
  generalize M.set (ad .d) (.dic (za5 D (.inl (i:Int)) (.bl true)))=M1 at *
  simp_arith [w1.at_w,a1,ai,ae,ac,s4]
  left
  simp_arith [q3]
  exact Ok.ret ⟨rfl,ad,_,w5,f1.trans f5⟩
 | up i=>
  obtain ⟨e,he,hs⟩:=hc
  have q0:∀ M,eqA (.str "up") (.str "fresh") M = .ok (.bl false) M:=fun _=>rfl
  have q1:∀ M,eqA (.str "up") (.str "ends") M = .ok (.bl false) M:=fun _=>rfl
  have q2:∀ M,eqA (.str "up") (.str "lost") M = .ok (.bl false) M:=fun _=>rfl
  have q3:∀ M,inD (.str "up") (.lst [.str "again",.str "up"]) M = .ok (.bl true) M:=fun _=>rfl
  have q4:∀ M,eqA (.str "up") (.str "up") M = .ok (.bl true) M:=fun _=>rfl
  rw [show evT (.up i) = .tup [.str "up",nT i] from rfl]
  right
  simp_arith [q0]
  left
  right
  simp_arith [q1]
  left
  right
  simp_arith [q2]
  left
  have hl:=zct hs (ri.ph _ _ he)
  have ha:(n.asks e.house)[e.ph.at1]? = some (n.asks e.house)[e.ph.at1]:=Q0 hl
  have haa:atI ((n.asks e.house).map qu) (e.ph.at1:Int)=some (qu (n.asks e.house)[e.ph.at1]):=zp (f:=qu) ha
  have hs1:=zcn e.house (ri.hs _ _ he)
  have hi:=(Qx.mp he).1
  have ae:=h.at_e he
  rw [show phT e.ph = .tup [.str "stands",nT e.ph.at1,nT e.ph.at2] from phS hs] at ae
  have lo:=yP ae
  have eo:=zjC (kE:=kE) (kR:=kR) gn h sb (by omega) ri he (n.asks e.house)[e.ph.at1].word
  have e0:zal n R (.up i)=(zK n 4 R i (n.asks e.house)[e.ph.at1].word).tick:=by
   show (upR n R i).tick=_
   unfold upR
   rw [z3 he,zbz ha]
  rw [e0]
  generalize (n.asks e.house)[e.ph.at1]=a at haa eo
  rw [show qu a = .tup [.str a.to,.int a.tries,opS a.purse,.str a.word,.bl a.hears,.bl a.sure] from rfl] at haa
  rw [show qg n = .tup [.tup (n.hs.map hsT),.tup (n.ps.map puT)] from rfl] at eo ⊢
  simp_arith [q3,zej,h.at_w,h.at_a,y9 hi,lo,hs1,haa,q4]
  refine Ok.bind eo ?_
  rintro t M1 ⟨rfl,ws⟩
  try simp_arith
  exact Ok.ret ⟨rfl,ws.tick⟩
 | again i=>
  obtain ⟨e,he,hs,_⟩:=hc
  have q0:∀ M,eqA (.str "again") (.str "fresh") M = .ok (.bl false) M:=fun _=>rfl
  have q1:∀ M,eqA (.str "again") (.str "ends") M = .ok (.bl false) M:=fun _=>rfl
  have q2:∀ M,eqA (.str "again") (.str "lost") M = .ok (.bl false) M:=fun _=>rfl
  have q3:∀ M,inD (.str "again") (.lst [.str "again",.str "up"]) M = .ok (.bl true) M:=fun _=>rfl
  have q4:∀ M,eqA (.str "again") (.str "up") M = .ok (.bl false) M:=fun _=>rfl
  rw [show evT (.again i) = .tup [.str "again",nT i] from rfl]
  right
  simp_arith [q0]
  left
  right
  simp_arith [q1]
  left
  right
  simp_arith [q2]
  left
  have hl:=zct hs (ri.ph _ _ he)
  have ha:(n.asks e.house)[e.ph.at1]? = some (n.asks e.house)[e.ph.at1]:=Q0 hl
  have hm:=Qa ha
  have haa:atI ((n.asks e.house).map qu) (e.ph.at1:Int)=some (qu (n.asks e.house)[e.ph.at1]):=zp (f:=qu) ha
  have hs1:=zcn e.house (ri.hs _ _ he)
  have hi:=(Qx.mp he).1
  have ae:=h.at_e he
  rw [show phT e.ph = .tup [.str "stands",nT e.ph.at1,nT e.ph.at2] from phS hs] at ae
  have lo:=yP ae
  have e0:zal n R (.again i)=(z7 n (zD n 4) (takeO R (n.pof (n.asks e.house)[e.ph.at1])) i e.ph.at1 (e.ph.at2+1)).tick:=by
   show (zde n R i).tick=_
   unfold zde
   rw [z3 he,zbz ha]
  have w:=wn.as e.house _ hm
  rw [e0]
  generalize (n.asks e.house)[e.ph.at1]=a at haa hm w
  rw [show qu a = .tup [.str a.to,.int a.tries,opS a.purse,.str a.word,.bl a.hears,.bl a.sure] from rfl] at haa
  have rg:∀ M,zbT [.int (n.ps.length:Int)] M = .ok ((rgI n.ps.length).map .int) M:=fun M=>zad (j:=(n.ps.length:Int)) (by have:=wn.pl;omega)
  rw [show qg n = .tup [.tup (n.hs.map hsT),.tup (n.ps.map puT)] from rfl]
  simp_arith [q3,zej,h.at_w,h.at_a,y9 hi,lo,hs1,haa,q4,Qh,rg,QD]
  refine Ok.bind (Ok.for (r:=FT.T.int) (xs:=rgI n.ps.length) (fun j σ M'=>∃ o3 o4 o5 o10,σ=[some (.tup [.tup (n.hs.map hsT),.tup (n.ps.map puT)]),some (.ref (ad .w)),some (.tup [.str "again",nT i]),o3,o4,o5,some (nT e.house),some (clT e.caller),some (.tup [.str "stands",nT e.ph.at1,nT e.ph.at2]),some (.tup [.str a.to,.int a.tries,opS a.purse,.str a.word,.bl a.hears,.bl a.sure]),o10]/\Wst n ad M R (if (∃ k,k<j/\n.pof a=some k) then takeO R (n.pof a) else R) M') ⟨none,none,none,none,rfl,by rw [Qz fun z=>by obtain ⟨k,hk,_⟩:=z;omega];exact ⟨ad,D,h,.refl⟩⟩ ?_) ?_
  ·rintro j y σ M1 hy ⟨o3,o4,o5,o10,rfl,ws⟩
   obtain ⟨hj,rfl⟩:=zbf hy
   have hps:n.ps[j]? = some n.ps[j]:=Q0 hj
   have hpa:atI (n.ps.map puT) (j:Int)=some (.tup [.str n.ps[j].name,.str n.ps[j].earns,.int n.ps[j].per]):=zp (f:=puT) hps
   have en:=zgK gn hm hps
   simp_arith
   unfold zjJ
   by_cases d:n.pof a=some j
   ·have d':decide (n.pof a=some j)=true:=Qv d
    rw [Qz (fun z=>by obtain ⟨k,hk,e⟩:=z;rw [d] at e;cases e;omega)] at ws
    rw [Qy ⟨j,Nat.lt_succ_self _,d⟩,d]
    obtain ⟨ad1,D1,w1,f1⟩:=ws
    rw [← f1.ww]
    refine Ok.ifB true (by simp_arith [hpa,en,d']) ?_
    rw [Qy rfl]
    obtain ⟨w2,f2⟩:=w1.pay (R.es.length,j,R.taken.getD j 0)
    obtain ⟨w3,f3⟩:=w2.took hj (R.taken.getD j 0+1)
    have ap:=zO (t:=.tup [nT R.es.length,nT j,nT (R.taken.getD j 0)]) w1.at_q (by rw [Qh,sizeLine_eq];have:=sb.py;omega)
    rw [show R.pays.map zab++[.tup [nT R.es.length,nT j,nT (R.taken.getD j 0)]]=(R.pays++[(R.es.length,j,R.taken.getD j 0)]).map zab from by simp [zab]] at ap
    have la:=zho w1
    nofun
    simp_arith [w1.at_w,qE w1.at_q,la,w1.at_p,y9 hj,w1.at_k hj,ap]
    left
    generalize M1.set (ad1 .q) (.lst ((R.pays++[(R.es.length,j,R.taken.getD j 0)]).map zab))=M2 at *
    have ak:=w2.at_k hj
    have s4:=zjU (t:=.int ((R.taken.getD j 0:Int)+1)) ak
    simp_arith [za8,w2.at_w,w2.at_p,y9 hj,ak,s4]
    exact Ok.ret ⟨_,rfl,_,_,_,_,rfl,ad1,D1,w3,f1.trans (f2.trans f3)⟩
   ·have d':decide (n.pof a=some j)=false:=Qw d
    refine Ok.ifB false (by simp_arith [hpa,en,d']) ?_
    rw [Qz (by decide)]
    simp_arith
    refine Ok.ret ⟨_,rfl,_,_,_,_,rfl,?_⟩
    have iff:(∃ k,k<j+1/\n.pof a=some k) ↔ (∃ k,k<j/\n.pof a=some k):=by
     refine ⟨fun ⟨k,h1,h2⟩=>⟨k,?_,h2⟩,fun ⟨k,h1,h2⟩=>⟨k,by omega,h2⟩⟩
     by_cases z:k=j
     ·rw [z] at h2;exact absurd h2 d
     ·omega
    by_cases y:∃ k,k<j/\n.pof a=some k
    ·rw [Qy y] at ws
     rw [Qy (iff.mpr y)]
     exact ws
    ·rw [Qz y] at ws
     rw [Qz fun z=>y (iff.mp z)]
     exact ws
  ·rintro fl M1 ⟨σ,rfl,o3,o4,o5,o10,rfl,ws⟩
   rw [zaI] at ws
   rw [show (if (∃ k,k<n.ps.length/\n.pof a=some k) then takeO R (n.pof a) else R)=takeO R (n.pof a) from by
    split
    ·rfl
    ·rename_i z
     cases q:n.pof a with
     | none=>rfl
     | some k=>exact absurd ⟨k,w.plt q,q⟩ z] at ws
   obtain ⟨ad1,D1,w1,f1⟩:=ws
   have te:=zfi R (n.pof a)
   have ri1:RI n (takeO R (n.pof a)):=⟨by rw [te.1];exact ri.hs,by rw [te.1];exact ri.cl,by rw [te.1];exact ri.ph,by rw [te.2.1];exact ri.pl⟩
   have to:=zi6 (kE:=kE) (kR:=kR) gn w1 (sb.takeO _) (by omega) ri1 (tr:=e.ph.at2+1) (by rw [te.1];exact he) hl
   rw [f1.ww,show qg n = .tup [.tup (n.hs.map hsT),.tup (n.ps.map puT)] from rfl,show nT (e.ph.at2+1) = .int ((e.ph.at2:Int)+1) from rfl] at to
   simp_arith
   refine Ok.bind to ?_
   rintro t M2 ⟨rfl,ad2,D2,w2,f2⟩
   try simp_arith
   exact Ok.ret ⟨rfl,ad2,D2,w2.tick,(f1.trans f2).tick⟩
end
section
theorem zlv:∀ (xs:List FT.T) (o:Option FT.T) (M:Mem) (acc:List FT.T),acc.length+xs.length<=100000->∃ M',zy (qo 0) qK (eTk (yx (zb (eTk (yx ze)) (zb (eTk (yx ze)) (zb (eC (.int 0)) ze))))) xs [o] M acc = .ok (acc++(List.range xs.length).map fun j=>.ref (M.length+3*j+2)) M'/\M'.length=M.length+3*xs.length/\(∀ i,i<M.length->M'[i]? = M[i]?)/\∀ j,j<xs.length->M'[M.length+3*j]? = some (.lst [])/\M'[M.length+3*j+1]? = some (.lst [])/\M'[M.length+3*j+2]? = some (.lst [.ref (M.length+3*j),.ref (M.length+3*j+1),.int 0])
 | [],o,M,acc,_=>⟨M,by simp [zy],by simp,fun _ _=>rfl,fun j hj=>absurd hj (Nat.not_lt_zero _)⟩
 | x::xs,o,M,acc,hl=>by
  rw [Qp] at hl
  obtain ⟨M',e,l,k,c⟩:=zlv xs (some x) (M++[Cell.lst []]++[Cell.lst []]++[Cell.lst [.ref M.length,.ref (M.length+1),.int 0]]) (acc++[.ref (M.length+2)]) (by rw [Qn,Qt];omega)
  have hl3:(M++[Cell.lst []]++[Cell.lst []]++[Cell.lst [.ref M.length,.ref (M.length+1),.int 0]]).length=M.length+3:=by simp
  rw [hl3] at l k c e
  have g0:(M++[Cell.lst []]++[Cell.lst []]++[Cell.lst [.ref M.length,.ref (M.length+1),.int 0]])=M++[Cell.lst [],.lst [],.lst [.ref M.length,.ref (M.length+1),.int 0]]:=by simp
  rw [g0] at k e
  refine ⟨M',?_,by rw [l,Qp];omega,fun i hi=>?_,fun j hj=>?_⟩
  ·unfold zy
   have l1:(M++[Cell.lst []]).length=M.length+1:=by simp
   have l2:(M++[Cell.lst []]++[Cell.lst []]).length=M.length+2:=by simp
   show (if acc.length<sizeLine then zy (qo 0) qK (eTk (yx (zb (eTk (yx ze)) (zb (eTk (yx ze)) (zb (eC (.int 0)) ze))))) xs [some x] (M++[Cell.lst []]++[Cell.lst []]++[Cell.lst [.ref M.length,.ref (M++[Cell.lst []]).length,.int 0]]) (acc++[.ref (M++[Cell.lst []]++[Cell.lst []]).length]) else .bad)=_
   rw [l1,l2,g0,Qy (by rw [sizeLine_eq];omega),e]
   congr 1
   rw [QH,Qp,List.range_succ_eq_map,QE,map_map]
   congr 1
   show FT.T.ref (M.length+2)::_=FT.T.ref (M.length+3*0+2)::_
   congr 1
   refine map_congr_left fun j _=>?_
   show FT.T.ref _=FT.T.ref _
   congr 1
   show M.length+3+3*j+2=M.length+3*(j+1)+2
   omega
  ·rw [k i (by omega),Q6 hi]
  ·cases j with
   | zero=>
    refine ⟨?_,?_,?_⟩ <;> (rw [k _ (by omega),Q8 (by omega)]) <;> simp
   | succ j=>
    rw [Qp] at hj
    obtain ⟨c1,c2,c3⟩:=c j (by omega)
    have e3:M.length+3+3*j=M.length+3*(j+1):=by omega
    rw [e3] at c1 c2 c3
    exact ⟨c1,c2,c3⟩
noncomputable def adN (b P:Nat):Slot->Nat
 | .a=>b
 | .d=>b+1
 | .p=>b+2+3*P
 | .q=>b+2+3*P+1
 | .w=>b+2+3*P+1+1
 | .e _=>0
 | .g j=>b+2+3*j
 | .c j=>b+2+3*j+1
 | .k j=>b+2+3*j+2
theorem zhy (wn:WN n) (M:Mem):Ok (zbI kE kR [qg n] M) fun t M'=>∃ ad,t = .ref (ad .w)/\Wd n ad M' (Run.new n) []/\(∀ s,s.ok n (Run.new n)->M.length<=ad s)/\Kp M.length M M':=by
 refine zx rfl ?_
 unfold zgZ
 obtain ⟨M1,e1,l1,k1,c1⟩:=zlv (n.ps.map puT) none (M++[.lst []]++[.dic []]) [] (by rw [Qh];have:=wn.pl;simp;omega)
 have l0:(M++[Cell.lst []]++[Cell.dic []]).length=M.length+2:=by simp
 rw [l0,Qh] at l1 c1 e1
 rw [l0] at k1
 rw [nil_append] at e1
 rw [show qg n = .tup [.tup (n.hs.map hsT),.tup (n.ps.map puT)] from rfl]
 simp_arith [zkg,e1]
 have la:(M++[Cell.lst []]).length=M.length+1:=by simp
 generalize hX:Cell.lst ((List.range n.ps.length).map fun j=>FT.T.ref (M.length+2+3*j+2))=Xp
 have lp:(M1++[Xp]).length=M.length+2+3*n.ps.length+1:=by rw [Qn,l1];rfl
 have lw:(M1++[Xp]++[Cell.lst []]).length=M.length+2+3*n.ps.length+1+1:=by rw [Qn,lp];rfl
 rw [la,lp,lw,l1]
 generalize hW:Cell.lst [FT.T.ref M.length,.ref (M.length+1),.ref (M.length+2+3*n.ps.length),.ref (M.length+2+3*n.ps.length+1)]=Xw
 have old:∀ i,i<M.length+2+3*n.ps.length->(M1++[Xp]++[Cell.lst []]++[Xw])[i]? = M1[i]?:=fun i hi=>by
  rw [QH,QH,Q6 (by omega)]
 have new:∀ k,(M1++[Xp]++[Cell.lst []]++[Xw])[M.length+2+3*n.ps.length+k]? = [Xp,.lst [],Xw][k]?:=fun k=>by
  rw [QH,QH,Q8 (by omega),show M.length+2+3*n.ps.length+k-M1.length=k by omega]
  rfl
 have t0:∀ j,(Run.new n).taken.getD j 0=0:=fun j=>by
  show (n.ps.map fun _=>0).getD j 0=0
  rw [Q7,Qb]
  cases n.ps[j]? <;> rfl
 have u0:∀ j,(Run.new n).puts.getD j []=[]:=fun j=>by
  show (n.ps.map fun _=>([]:List Nat)).getD j []=[]
  rw [Q7,Qb]
  cases n.ps[j]? <;> rfl
 refine Ok.ret ⟨adN M.length n.ps.length,rfl,⟨fun s hs=>?_,fun s t hs ht e=>?_,fun i=>?_,Q3 _,by simp [Run.new],by simp [Run.new]⟩,fun s hs=>?_,⟨?_,fun i hi=>?_⟩⟩
 ·cases s with
  | w=>exact (new 2).trans (by rw [← hW];rfl)
  | q=>exact new 1
  | p=>exact (new 0).trans (by rw [← hX];rfl)
  | a=>
   show (M1++[Xp]++[Cell.lst []]++[Xw])[M.length]? = some (.lst [])
   rw [old _ (by omega),k1 _ (by omega),QH,Q8 (Q3 _),Qu]
   rfl
  | d=>
   show (M1++[Xp]++[Cell.lst []]++[Xw])[M.length+1]? = some (.dic [])
   rw [old _ (by omega),k1 _ (by omega),QH,Q8 (by omega),show M.length+1-M.length=1 by omega]
   rfl
  | e i=>exact absurd (show i<0 from hs) (Nat.not_lt_zero _)
  | k j=>
   have hj:j<n.ps.length:=hs
   show (M1++[Xp]++[Cell.lst []]++[Xw])[M.length+2+3*j+2]? = _
   rw [old _ (by omega),(c1 j hj).2.2]
   simp only [ctn]
   rw [t0]
   rfl
  | g j=>
   have hj:j<n.ps.length:=hs
   show (M1++[Xp]++[Cell.lst []]++[Xw])[M.length+2+3*j]? = _
   rw [old _ (by omega),(c1 j hj).1]
   simp only [ctn]
   rw [u0]
   unfold qJ
   simp
  | c j=>
   have hj:j<n.ps.length:=hs
   show (M1++[Xp]++[Cell.lst []]++[Xw])[M.length+2+3*j+1]? = _
   rw [old _ (by omega),(c1 j hj).2.1]
   simp only [ctn]
   rw [u0]
   unfold qN
   simp
 ·cases s <;> cases t <;> simp only [adN,Slot.ok,Run.new,length_nil,Nat.not_lt_zero] at hs ht e <;> first | rfl | (congr 1;omega) | (exfalso;omega)
 ·unfold zcp
  rw [show (Run.new n).es=[] from rfl]
  rfl
 ·cases s <;> simp only [adN,Slot.ok,Run.new,length_nil,Nat.not_lt_zero] at hs ⊢ <;> omega
 ·simp;omega
 ·rw [old _ (by omega),k1 _ (by omega),QH,Q6 hi]
end
theorem VEv.snoc {n:Net}:∀ {evs:List Evt} {R:Run} {ev:Evt},VEv n R evs->Can n (evs.foldl (zal n) R) ev->VEv n R (evs++[ev])
 | [],_,_,_,c=>⟨c,True.intro⟩
 | _::_,_,_,v,c=>⟨v.1,VEv.snoc v.2 c⟩
theorem znR (R:Run):(zd8 n R).length<=10*R.es.length+1:=by
 unfold zd8
 rw [Qp]
 have:=zfz (n:=n) R R.es.length
 omega
variable {evs:List Evt} {x0:Nat}
section
theorem zfC (wn:WN n) {evs:List Evt} (v:VEv n (Run.new n) evs):∀ k,k<=evs.length->(zC n (evs.take k)).came=k
 | 0,_=>rfl
 | k+1,h=>by
  have hk:evs[k]? = some evs[k]:=Q0 (by omega)
  have g:=zbC wn v k (by omega)
  have ih:=zfC wn v k (by omega)
  have c:=v.at_ hk
  unfold zC at g ih ⊢
  rw [zdk hk]
  have:=(zlr wn g.ri g.wt g.sb c.c).ca
  show (doR n _ _).came+1=_
  rw [this,ih]
def EvI (n:Net) (x0:Nat) (S:List Nat) (M:Mem) (R:Run):Prop:=∃ ad D,ad .w=x0/\Wd n ad M R D/\∀ s,s.ok n R->ad s ∉ S
section
variable {S:List Nat}
theorem EvI.fr (h:EvI n x0 S M R) {T:List Nat} (f:Fr T M M') (hT:∀ x ∈ T,x ∈ S):EvI n x0 S M' R:=by
 obtain ⟨ad,D,e,w,av⟩:=h
 exact ⟨ad,D,e,⟨fun s hs=>f.get (w.ho s hs) (fun z=>av s hs (hT _ z)),w.inj,w.dl,w.dk,w.pl,w.tl⟩,av⟩
theorem EvI.kept (h:EvI n x0 S M R) (k:Kp M.length M M'):EvI n x0 S M' R:=by
 obtain ⟨ad,D,e,w,av⟩:=h
 exact ⟨ad,D,e,w.kept k,av⟩
theorem EvI.more (h:EvI n x0 S M R) (hx:M.length<=x):EvI n x0 (x::S) M R:=by
 obtain ⟨ad,D,e,w,av⟩:=h
 refine ⟨ad,D,e,w,fun s hs z=>?_⟩
 have:=qA (w.ho s hs)
 rcases QF.mp z with z | z
 ·omega
 ·exact av s hs z
theorem EvI.sub (h:EvI n x0 S M R) {T:List Nat} (hT:∀ x ∈ T,x ∈ S):EvI n x0 T M R:=by
 obtain ⟨ad,D,e,w,av⟩:=h
 exact ⟨ad,D,e,w,fun s hs z=>av s hs (hT _ z)⟩
theorem zrb (gn:GN n) (h:EvI n x0 S M R) (g:Good n R B) (hB:B<90000):zdI kE kR [qg n,.ref x0] M = .ok (.lst ((zd8 n R).map evT)) M:=by
 obtain ⟨ad,D,rfl,w,av⟩:=h
 exact znS gn w g.sb hB g.ri
theorem zqs (gn:GN n) (h:EvI n x0 S M R) (g:Good n R B) (hB:B+40<90000) (hcm:R.came<90000) (hS:∀ x ∈ S,x<M.length) (hc:Can n R ev) :
  Ok (zcz kE kR [qg n,.ref x0,evT ev] M) fun t M'=>t = .non/\EvI n x0 S M' (zal n R ev)/\M.length<=M'.length/\∀ x ∈ S,M'[x]? = M[x]?:=by
 obtain ⟨ad,D,rfl,w,av⟩:=h
 refine (zqt gn w g.sb hB hcm g.ri hc.c).mono ?_
 rintro t M' ⟨rfl,ad',D',w',f⟩
 refine ⟨rfl,⟨ad',D',f.ww,w',fun s hs z=>?_⟩,f.le,fun x hx=>f.kp x (hS x hx) fun s hs e=>av s hs (by rw [e];exact hx)⟩
 rcases f.nw s hs with ⟨h1,h2⟩ | h2
 ·exact av s h1 (by rw [← h2];exact z)
 ·have:=hS _ z
  omega
end
theorem zlR (n:Net) (evs:List Evt) (ev:Evt):zC n (evs++[ev])=zal n (zC n evs) ev:=by
 unfold zC
 rw [List.foldl_append]
 rfl
theorem zml (gn:GN n) {a p:Nat} (h:EvI n x0 [a,p] M (zC n evs)) (c:M[a]? = some (.lst (evs.map evT))) (po:PO p M) (hap:a ≠ p) (v:VEv n (Run.new n) evs) (hl:evs.length<=800) (o0 o2 o5 o7 o8 o9:Option FT.T) :
  Ok (zdB kE kR [o0,some (qg n),o2,some (.ref x0),some (.ref a),o5,some (.ref p),o7,o8,o9] M) fun fl M'=>∃ ev o8 o9,fl = .nx [o0,some (qg n),o2,some (.ref x0),some (.ref a),o5,some (.ref p),o7,o8,o9]/\EvI n x0 [a,p] M' (zC n (evs++[ev]))/\M'[a]? = some (.lst ((evs++[ev]).map evT))/\PO p M'/\VEv n (Run.new n) (evs++[ev]):=by
 have wn:=gn.wn
 have gd:=zbC wn v evs.length (Q3 _)
 have ca:=zfC wn v evs.length (Q3 _)
 rw [take_length] at gd ca
 have me:=zrb (kE:=kE) (kR:=kR) gn h gd (by omega)
 unfold zdB
 nofun
 simp_arith [me]
 left
 have ml:=znR (n:=n) (zC n evs)
 have hes:=gd.sb.es
 have mne:zd8 n (zC n evs) ≠ []:=fun z=>by cases z
 have mem:=fun ev (h:ev ∈ zd8 n (zC n evs))=>znQ h
 generalize zd8 n (zC n evs)=L at ml mne mem
 refine Ok.seqP (fun fl M'=>∃ L',L' ≠ []/\(∀ ev ∈ L',ev ∈ L)/\L'.length<=90000/\PO p M'/\Fr [p] M M'/\fl = .nx [o0,some (qg n),o2,some (.ref x0),some (.ref a),o5,some (.ref p),o7,some (.lst (L'.map evT)),o9]) ?_ ?_
 ·by_cases z:1<L.length
  ·have z1:decide ((1:Int)<(L.length:Int))=true:=Qv (by omega)
   simp_arith [Qh,z1]
   refine Ok.bind (qI po (by decide) (by decide)) ?_
   rintro t M4 ⟨d,rfl,d0,d1,p4,f4⟩
   by_cases y:0<d
   ·have y1:decide ((0:Int)<d)=true:=Qv y
    have e0:yo (.lst (L.map evT)) M4=some (L.map evT):=rfl
    have cu:zbE (L.map evT) (some 1) none=(L.drop 1).map evT:=zix evT L 1
    simp_arith [y1,e0,cu]
    exact Ok.ret ⟨L.drop 1,(fun q=>by have:=congrArg List.length q;rw [length_drop,length_nil] at this;omega),fun ev he=>List.mem_of_mem_drop he,by rw [length_drop];omega,p4,f4,rfl⟩
   ·have y1:decide ((0:Int)<d)=false:=Qw y
    simp_arith [y1]
    exact Ok.ret ⟨L,mne,fun ev he=>he,by omega,p4,f4,rfl⟩
  ·have z1:decide ((1:Int)<(L.length:Int))=false:=Qw (by omega)
   simp_arith [Qh,z1]
   exact Ok.ret ⟨L,mne,fun ev he=>he,by omega,po,Fr.refl _ _,rfl⟩
 rintro fl M4 ⟨L',hne,hsub,hll,p4,f4,rfl⟩
 have c4:=f4.get c (by simpa using hap)
 have h4:=h.fr f4 (by simp)
 rw [qf]
 have hlp:0<(L'.length:Int):=by have:=List.length_pos_iff.mpr hne;omega
 nofun
 simp_arith [Qh]
 refine Ok.bind (qI p4 hlp (zhw hlp (by omega))) ?_
 rintro t M5 ⟨d,rfl,d0,d1,p5,f5⟩
 have c5:=f5.get c4 (by simpa using hap)
 have h5:=h4.fr f5 (by simp)
 obtain ⟨i,rfl⟩:∃ i:Nat,d=i:=⟨d.toNat,by omega⟩
 have hi:i<L'.length:=by omega
 have ha:atI (L'.map evT) (i:Int)=some (evT L'[i]):=zp (Q0 hi)
 have ap:=zO (t:=evT L'[i]) c5 (by rw [Qh,sizeLine_eq];omega)
 have hin:=hsub L'[i] (getElem_mem hi)
 generalize L'[i]=ev at ha ap hin
 rw [show evs.map evT++[evT ev]=(evs++[ev]).map evT from by simp] at ap
 simp_arith [ha]
 left
 nofun
 simp_arith [qE c5,ap]
 left
 have h6:=h5.fr (Fr.set M5 a (.lst ((evs++[ev]).map evT))) (by simp)
 have c6:(M5.set a (.lst ((evs++[ev]).map evT)))[a]? = some (.lst ((evs++[ev]).map evT)):=get_set c5
 have p6:PO p (M5.set a (.lst ((evs++[ev]).map evT))):=p5.fr (Fr.set M5 a _) (by simpa using fun z=>hap z.symm)
 generalize M5.set a (.lst ((evs++[ev]).map evT))=M6 at c6 h6 p6 ⊢
 have cn:=mem ev hin
 have l6:=qA c6
 obtain ⟨q,hq⟩:=p6
 have dd:=zqs (kE:=kE) (kR:=kR) gn h6 gd (by omega) (by omega) (by
  intro x hx
  rcases QF.mp hx with rfl | hx
  ·exact l6
  ·rw [QG.mp hx];exact qA hq) cn
 simp_arith
 refine Ok.bind dd ?_
 rintro t M7 ⟨rfl,h7,hle,kp⟩
 try simp_arith
 refine Ok.ret ⟨ev,_,_,rfl,?_,by rw [kp a (by simp)];exact c6,⟨q,by rw [kp p (by simp)];exact hq⟩,v.snoc cn⟩
 rw [zlR]
 exact h7
theorem zln (gn:GN n) (ns:List Int) (hn:ns.length<=63) (M:Mem):Ok (zcQ kE kR [.lst (ns.map .int),qg n,.int 2] M) fun t M'=>∃ x0 a evs,t = .tup [.ref a,.ref x0]/\EvI n x0 [a] M' (zC n evs)/\M'[a]? = some (.lst (evs.map evT))/\VEv n (Run.new n) evs/\evs.length<=200:=by
 have wn:=gn.wn
 refine zx rfl ?_
 unfold zfZ
 right
 simp_arith
 refine Ok.bind (zhy wn M) ?_
 rintro t M1 ⟨ad0,rfl,w1,lo1,k1⟩
 try simp_arith
 left
 right
 simp_arith
 left
 right
 have I1:EvI n (ad0 .w) [M1.length] (M1++[.lst []]) (zC n []):=EvI.kept (M:=M1) (EvI.more ⟨ad0,[],rfl,w1,fun _ _ z=>by cases z⟩ (Q3 _)) (Kp.app _ _ (Q3 _))
 generalize ad0 .w=x0 at *
 have mm:∀ i:Int,0<=i->i<=63->∃ q:Nat,(if (if i<63 then i else 63) > 12 then (if i<63 then i else 63) else 12)=((q:Nat):Int)/\1<=q/\q<=63:=fun i h0 h1=>by
  refine ⟨(if (if i<63 then i else 63) > 12 then (if i<63 then i else 63) else 12).toNat,?_,?_,?_⟩ <;> (split <;> split <;> omega)
 obtain ⟨q,hq,q1,q2⟩:=mm (ns.length:Int) (by omega) (by omega)
 have rg:∀ M,zfq [.int 1,.int (q:Int)] M = .ok ((rgF 1 (q-1)).map .int) M:=fun M=>by
  rw [zne (by omega),show ((q:Int)-1).toNat=q-1 by omega]
 simp_arith [Qh,zgz,hq,rg]
 refine Ok.bind (Ok.for (r:=FT.T.int) (xs:=rgF 1 (q-1)) (fun k σ M=>∃ o5 o6 o7 o8 o9 evs,σ=[some (.lst (ns.map .int)),some (qg n),some (.int 2),some (.ref x0),some (.ref M1.length),o5,o6,o7,o8,o9]/\EvI n x0 [M1.length] M (zC n evs)/\M[M1.length]? = some (.lst (evs.map evT))/\VEv n (Run.new n) evs/\evs.length<=2*k) ⟨none,none,none,none,none,[],rfl,I1,yM,True.intro,Q3 _⟩ ?_) ?_
 ·rintro k x σ M2 hx ⟨o5,o6,o7,o8,o9,evs,rfl,I2,c2,v2,l2⟩
  obtain ⟨hk,rfl⟩:=zng hx
  generalize M1.length=a at *
  have a2:=qA c2
  obtain ⟨cc,hcc⟩:=zjG (kE:=kE) (kR:=kR) (ns:=ns) (n:=1+k) (by omega) M2
  rw [show (((1+k:Nat):Int))=1+(k:Int) from by omega] at hcc
  have c3:(M2++[(Po.new (cc+(1+(k:Int)))).cell])[a]? = some (.lst (evs.map evT)):=by rw [Q6 a2];exact c2
  have p3:PO M2.length (M2++[(Po.new (cc+(1+(k:Int)))).cell]):=PO.app
  have I3:EvI n x0 [a,M2.length] (M2++[(Po.new (cc+(1+(k:Int)))).cell]) (zC n evs):=((I2.more (Q3 _)).sub (by
   intro x hx
   rcases QF.mp hx with rfl | hx
   ·simp
   ·rw [QG.mp hx];simp)).kept (Kp.app _ _ (Q3 _))
  simp_arith
  unfold zfc
  nofun
  simp_arith [hcc,zib]
  left
  generalize M2++[(Po.new (cc+(1+(k:Int)))).cell]=M3 at c3 p3 I3 ⊢
  have hap:a ≠ M2.length:=by omega
  generalize M2.length=p at *
  simp_arith
  refine Ok.bind (qI p3 (by decide) (by decide)) ?_
  rintro t M4 ⟨d,rfl,d0,d1,p4,f4⟩
  have c4:=f4.get c3 (by simpa using hap)
  have I4:=I3.fr f4 (by simp)
  obtain ⟨m,rfl⟩:∃ m:Nat,d=m:=⟨d.toNat,by omega⟩
  have rg1:∀ M,zbT [.int (1+(m:Int))] M = .ok ((rgI (1+m)).map .int) M:=fun M=>by
   rw [zad (by omega),show (1+(m:Int)).toNat=1+m by omega]
  simp_arith [rg1]
  refine (Ok.for (r:=FT.T.int) (xs:=rgI (1+m)) (fun j σ M=>∃ o7 o8 o9 evs,σ=[some (.lst (ns.map .int)),some (qg n),some (.int 2),some (.ref x0),some (.ref a),some (.int (1+(k:Int))),some (.ref p),o7,o8,o9]/\EvI n x0 [a,p] M (zC n evs)/\M[a]? = some (.lst (evs.map evT))/\PO p M/\VEv n (Run.new n) evs/\evs.length<=2*k+j) ⟨o7,o8,o9,evs,rfl,I4,c4,p4,v2,l2⟩ ?_).mono ?_
  ·rintro j x σ M5 hx ⟨o7,o8,o9,evs,rfl,I5,c5,p5,v5,l5⟩
   obtain ⟨hj,rfl⟩:=zbf hx
   simp_arith
   refine (zml gn I5 c5 p5 hap v5 (by omega) _ _ _ _ _ _).mono ?_
   rintro fl M6 ⟨ev,o8,o9,rfl,I6,c6,p6,v6⟩
   exact ⟨_,rfl,_,_,_,_,rfl,I6,c6,p6,v6,by rw [Qn,Qt];omega⟩
  ·rintro fl M5 ⟨σ,rfl,o7,o8,o9,evs,rfl,I5,c5,p5,v5,l5⟩
   rw [zaI] at l5
   exact ⟨_,rfl,_,_,_,_,_,evs,rfl,I5.sub (by simp),c5,v5,by omega⟩
 ·rintro fl M2 ⟨σ,rfl,o5,o6,o7,o8,o9,evs,rfl,I2,c2,v2,l2⟩
  rw [znf] at l2
  try simp_arith
  left
  simp_arith
  exact Ok.ret ⟨x0,_,evs,rfl,I2,c2,v2,by omega⟩
end
inductive RT:Nat->FT.T->Prop
 | int (d:Nat) (i:Int):RT d (.int i)
 | str (d:Nat) (s:Str):RT d (.str s)
 | non (d:Nat):RT d .non
 | tup {d:Nat} {xs:List FT.T} (h:∀ x ∈ xs,RT d x):RT (d+1) (.tup xs)
 | lst {d:Nat} {xs:List FT.T} (h:∀ x ∈ xs,RT d x):RT (d+1) (.lst xs)
theorem zc8 {f:FT.T->FT.T->Option Bool}:∀ {xs:List FT.T},(∀ x ∈ xs,f x x=some true)->eqL f xs xs=some true
 | [],_=>rfl
 | x::xs,h=>by
  unfold eqL
  rw [h x (.head _),zc8 fun y hy=>h y (.tail _ hy)]
  rfl
variable {xs:List FT.T} {d:Nat}
theorem zqr (h:∀ x ∈ xs,eqD M d x x=some true):eqD M (d+1) (.lst xs) (.lst xs)=some true:=by
 rw [show eqD M (d+1) (.lst xs) (.lst xs)=(if xs.length=xs.length then eqL (eqD M d) xs xs else some false) from rfl,Qy rfl]
 exact zc8 h
theorem RT.eq (h:RT d t) (M:Mem):eqD M d t t=some true:=by
 induction h with
 | int d i=>
  rw [show eqD M d (.int i) (.int i)=some (i==i) by cases d <;> rfl,beq_self_eq_true]
 | str d s=>
  rw [show eqD M d (.str s) (.str s)=some (s==s) by cases d <;> rfl,beq_self_eq_true]
 | non d=>cases d <;> rfl
 | tup h ih=>exact zc8 ih
 | lst h ih=>exact zqr ih
variable {y:FT.T}
theorem zsv {a:Nat} (h1:M[a]? = some (.lst xs)) (h2:y = .lst xs\/∃ b,y = .ref b/\M[b]? = some (.lst xs)) (h:∀ x ∈ xs,RT 19 x):eqD M 20 (.ref a) y=some true:=by
 have hh:=zc8 (f:=eqD M 19) fun x hx=>(h x hx).eq M
 rcases h2 with rfl | ⟨b,rfl,h2⟩
 ·rw [show eqD M 20 (.ref a) (.lst xs)=(match yo (.ref a) M with | some zs=>(if zs.length=xs.length then eqL (eqD M 19) zs xs else some false) | none=>none) from by
   unfold eqD yo
   simp only [h1]
   rfl,yP h1]
  dsimp only
  rw [Qy rfl,hh]
 ·rw [show eqD M 20 (.ref a) (.ref b)=(match yo (.ref a) M,yo (.ref b) M with | some zs,some ys=>(if zs.length=ys.length then eqL (eqD M 19) zs ys else some false) | _,_=>none) from by
   unfold eqD yo
   simp only [h1,h2]
   rfl,yP h1,yP h2]
  dsimp only
  rw [Qy rfl,hh]
theorem zdi {x:FT.T} (h:eqD M 20 x y=some true):neA x y M = .ok (.bl false) M:=by unfold neA;rw [h];rfl
theorem zrx {x:FT.T} (h:eqD M 20 x y=some true):eqA x y M = .ok (.bl true) M:=by unfold eqA;rw [h]
theorem zot {a:Nat} (h:M[a]? = some (.lst (evs.map evT))):EvS (.ref a) evs M:=⟨[(a,evs.map evT)],zfv h,by intro g hg;rw [QG.mp hg];exact h,by intro g hg;rw [QG.mp hg];exact qA h⟩
theorem zos (evs:List Evt) (M:Mem):EvS (.tup (evs.map evT)) evs M:=⟨[],rfl,(by intro g hg;cases hg),by intro g hg;cases hg⟩
theorem zou (evs:List Evt) (M:Mem):EvS (.lst (evs.map evT)) evs M:=⟨[],rfl,(by intro g hg;cases hg),by intro g hg;cases hg⟩
theorem VEv.take {n:Net}:∀ {evs:List Evt} {R:Run} (k:Nat),VEv n R evs->VEv n R (evs.take k)
 | [],_,_,_=>by rw [List.take_nil];exact True.intro
 | _::_,_,0,_=>True.intro
 | _::_,_,k+1,v=>⟨v.1,VEv.take k v.2⟩
theorem zow {α:Type} (f:α->FT.T) (xs:List α) (h:i<=j) (hj:j<=xs.length):zbE (xs.map f) (some (i:Int)) (some (j:Int))=((xs.drop i).take (j-i)).map f:=by
 have e:∀ (m:Nat) (d:Nat),m<=xs.length->HT.sIx (xs.map f).length d (some (m:Int))=m:=fun m d hm=>by
  rw [HT.zgn,Qh,Nat.min_eq_left hm]
 unfold zbE
 rw [e i _ (by omega),e j _ hj,map_take,map_drop]
theorem zjB {f:FT.T->FT.T->Option Bool}:∀ {xs ys:List FT.T},xs.length=ys.length->(∀ (k:Nat) x y,xs[k]? = some x->ys[k]? = some y->f x y=some true)->eqL f xs ys=some true
 | [],[],_,_=>rfl
 | [],_::_,h,_=>by cases h
 | _::_,[],h,_=>by cases h
 | x::xs,y::ys,h,t=>by
  unfold eqL
  rw [t 0 x y rfl rfl,zjB (Nat.succ.inj h) fun k a b h1 h2=>t (k+1) a b h1 h2]
  rfl
theorem zlo {a b:Nat} {ys:List FT.T} (h1:M[a]? = some (.lst xs)) (h2:M[b]? = some (.lst ys)) (hl:xs.length=ys.length) (h:∀ (k:Nat) x y,xs[k]? = some x->ys[k]? = some y->eqD M d x y=some true):eqD M (d+1) (.ref a) (.ref b)=some true:=by
 rw [show eqD M (d+1) (.ref a) (.ref b)=(match yo (.ref a) M,yo (.ref b) M with | some zs,some ys=>(if zs.length=ys.length then eqL (eqD M d) zs ys else some false) | _,_=>none) from by
  unfold eqD yo
  simp only [h1,h2]
  rfl,yP h1,yP h2]
 dsimp only
 rw [Qy hl,zjB hl h]
theorem zqq {a:Nat} (h1:M[a]? = some (.lst xs)) (h:∀ x ∈ xs,eqD M d x x=some true):eqD M (d+1) (.ref a) (.lst xs)=some true:=by
 rw [show eqD M (d+1) (.ref a) (.lst xs)=(match yo (.ref a) M with | some zs=>(if zs.length=xs.length then eqL (eqD M d) zs xs else some false) | none=>none) from by
  unfold eqD yo
  simp only [h1]
  rfl,yP h1]
 dsimp only
 rw [Qy rfl,zc8 h]
theorem zrB (d:Nat) (c:List Nat):RT (d+1) (tuL c):=.tup fun x hx=>by
 obtain ⟨y,_,rfl⟩:=mem_map.mp hx
 exact .int _ _
theorem zqD (d:Nat) (p:Nat × Nat × Nat):RT (d+1) (zab p):=.tup fun x hx=>by
 simp only [QF,not_mem_nil,or_false] at hx
 rcases hx with rfl | rfl | rfl <;> exact .int _ _
section
variable {b r:Nat} {l:Lay}
theorem zi0 (h:RunAt kE kR (qg n) b r l M R) (wn:WN n) (hp:R.puts.length=n.ps.length) (sb:SB B R) (hB:B<=90000) {k:Nat} (hk:k<n.ps.length):qZ kE kR [.ref r,nT k] M = .ok (.ref M.length) (M++[.lst ((qN (R.puts.getD k []) (n.per k)).map tuL)]):=by
 have hpe:n.ps[k]? = some n.ps[k]:=Q0 hk
 have hu:R.puts[k]? = some (R.puts[k]'(by omega)):=Q0 _
 have hper:=wn.pr n.ps[k] (getElem_mem _)
 have hul:=sb.pu _ (Qa hu)
 have e0:R.puts.getD k []=R.puts[k]'(by omega):=by rw [Q7,hu];rfl
 have e1:(n.per k:Int)=n.ps[k].per:=by
  unfold Net.per
  rw [Q7,hpe]
  show ((n.ps[k].per.toNat:Nat):Int)=_
  omega
 rw [e0]
 obtain ⟨x,hx,hc⟩:=h.at_p hu
 generalize R.puts[k]'(by omega)=u at hul hc
 have hnt:=h.net
 unfold qg at hnt
 have h2:atI (n.ps.map puT) (k:Int)=some (.tup [.str n.ps[k].name,.str n.ps[k].earns,.int (n.per k:Int)]):=by
  rw [e1]
  exact zp (f:=puT) hpe
 have hm1:1<=n.per k:=by omega
 have hm2:n.per k<=1000000:=by omega
 generalize n.per k=m at h2 hm1 hm2
 have ln:yz (.ref x) M = .ok (.int ((u.length:Nat):Int)) M:=by
  unfold yz yQ yo
  simp only [hc]
  simp
 have dv:zeg (.int (u.length:Int)) (.int (m:Int)) M = .ok (.int ((u.length / m:Nat):Int)) M:=by
  rw [zeY (zkh 100 (by decide) (by omega) (by
   refine Nat.lt_of_le_of_lt (show (m:Int).natAbs<=10 ^ 7 from by simp only [Nat.reducePow];omega) (Nat.pow_lt_pow_right (by decide) (by decide)))),Int.fdiv_eq_ediv_of_nonneg _ (by omega)]
  rfl
 have cm:qR kE kR [.ref r,nT k] M = .ok (.int ((u.length / m:Nat):Int)) M:=by
  unfold qR zc6
  simp_arith [zo,h.putsF,h.pu,zp (f:=FT.T.ref) hx,ln,hnt,h2,dv]
 have hdl:u.length / m<=u.length:=Nat.div_le_self _ _
 have rg:zbT [.int ((u.length / m:Nat):Int)] M = .ok ((rgI (u.length / m)).map .int) M:=by
  generalize u.length / m=q at hdl
  exact zad (j:=(q:Int)) (by omega)
 have cp:zy (qo 0) qK (yf (yy zQ) (zb (eSl (eOp ixT (zo [kR] "puts" (yb 1)) (yb 2)) (zbh (eOp yR (yb 0) (yb 3))) (zbh (eOp yR (eOp zN (yb 0) (eC (.int 1))) (yb 3)))) ze)) ((rgI (u.length / m)).map .int) [none,some (.ref r),some (nT k),some (nT m)] M [] = .ok ((qN u m).map tuL) M:=by
  unfold qN
  rw [map_map,show (rgI (u.length / m)).map FT.T.int=(List.range (u.length / m)).map nT by unfold rgI;rw [map_map];rfl]
  refine Ok.mapc (r:=nT) (fun σ=>∃ o,σ=[o,some (.ref r),some (nT k),some (nT m)]) _ ⟨_,rfl⟩ (by rw [length_range];omega) ?_
  rintro j σ hj ⟨o,rfl⟩
  have hj:=mem_range.mp hj
  refine ⟨[some (nT j),some (.ref r),some (nT k),some (nT m)],rfl,⟨_,rfl⟩,?_⟩
  have m1:∀ M,yR (.int (j:Int)) (.int (m:Int)) M = .ok (.int ((j*m:Nat):Int)) M:=fun M=>by rw [zaY (by omega)];rfl
  have m2:∀ M,yR (.int ((j:Int)+1)) (.int (m:Int)) M = .ok (.int (((j+1)*m:Nat):Int)) M:=fun M=>by rw [zaY (by omega)];rfl
  have hle:(j+1)*m<=u.length:=(Nat.le_div_iff_mul_le (by omega)).mp hj
  have hs:(j+1)*m=j*m+m:=Nat.succ_mul j m
  have cu:=zow nT u (show j*m<=(j+1)*m by omega) hle
  rw [show (j+1)*m-j*m=m by omega] at cu
  have tl:∀ (as:List Nat) (M:Mem),zQ (.lst (as.map nT)) M = .ok (.tup (as.map nT)) M:=fun _ _=>rfl
  simp_arith [zo,h.putsF,h.pu,zp (f:=FT.T.ref) hx,m1,m2,yP hc,cu,tl]
  rfl
 unfold qZ zf2
 simp_arith [zo,hnt,h2,cm,rg,QD,cp]
noncomputable def coC (n:Net) (R:Run) (k:Nat):List FT.T:=(qN (R.puts.getD k []) (n.per k)).map tuL
theorem ziz (h:RunAt kE kR (qg n) b r l M R) (wn:WN n) (hp:R.puts.length=n.ps.length) {B:Nat} (sb:SB B R) (hB:B<=90000):∀ (ks:List Nat) (o:Option FT.T) (X:Mem) (acc:List FT.T),(∀ k ∈ ks,k<n.ps.length)->acc.length+ks.length<=100000->
  zy (qo 0) qK (yf (qZ kE kR) (zb (yb 1) (zb (yb 0) ze))) (ks.map nT) [o,some (.ref r)] (M++X) acc = .ok (acc++(List.range ks.length).map fun j=>.ref (M.length+X.length+j)) (M++X++ks.map fun k=>.lst (coC n R k))
 | [],o,X,acc,_,_=>by simp [zy]
 | k::ks,o,X,acc,hk,hl=>by
  rw [Qp] at hl
  have ih:=ziz h wn hp sb hB ks (some (nT k)) (X++[.lst (coC n R k)]) (acc++[.ref (M.length+X.length)]) (fun j hj=>hk j (.tail _ hj)) (by rw [Qn,Qt];omega)
  have co:=zi0 (h.app X) wn hp sb hB (hk k (.head _))
  rw [Qn,QH] at co
  rw [QE]
  unfold zy
  show ((qZ kE kR [.ref r,nT k] (M++X)).bind fun t M3=>if acc.length<sizeLine then zy (qo 0) qK (yf (qZ kE kR) (zb (yb 1) (zb (yb 0) ze))) (ks.map nT) [some (nT k),some (.ref r)] M3 (acc++[t]) else .bad)=_
  rw [co]
  show (if acc.length<sizeLine then zy (qo 0) qK (yf (qZ kE kR) (zb (yb 1) (zb (yb 0) ze))) (ks.map nT) [some (nT k),some (.ref r)] (M++(X++[.lst (coC n R k)])) (acc++[.ref (M.length+X.length)]) else .bad)=_
  rw [Qy (by rw [sizeLine_eq];omega),ih]
  congr 1
  ·rw [QH,Qp,List.range_succ_eq_map,QE,map_map]
   congr 1
   show FT.T.ref (M.length+X.length)::_=FT.T.ref (M.length+X.length+0)::_
   congr 1
   refine map_congr_left fun j _=>?_
   simp
   omega
  ·simp
theorem zk1 (wn:WN n) (ht:EvS t evs M) (v:VEv n (Run.new n) evs) (hl:evs.length<=2000):Ok (zc7 kE kR [qg n,t] M) fun u M'=>∃ A q c0,u = .tup [.ref A,.ref q]/\M.length<=A/\M.length<=q/\M'[A]? = some (.lst ((List.range n.ps.length).map fun k=>.ref (c0+k)))/\M.length<=c0/\A=c0+n.ps.length/\(∀ k,k<n.ps.length->M'[c0+k]? = some (.lst (coC n (zC n evs) k)))/\M'[q]? = some (.lst ((zC n evs).pays.map zab))/\Kp M.length M M':=by
 have g:=zbC wn v evs.length (Q3 _)
 rw [take_length] at g
 refine zx rfl ?_
 unfold zik
 right
 simp_arith
 refine Ok.bind (zoR wn ht v hl) ?_
 rintro u M1 ⟨rfl,k1,l1,h1⟩
 try simp_arith
 left
 have rg:zbT [.int (n.ps.length:Int)] M1 = .ok ((rgI n.ps.length).map .int) M1:=zad (j:=(n.ps.length:Int)) (by have:=wn.pl;omega)
 have cp:=ziz h1 wn g.ri.pl g.sb (by omega) (List.range n.ps.length) none [] [] (fun k hk=>mem_range.mp hk) (by have:=wn.pl;rw [length_range];simp;omega)
 rw [append_nil,nil_append,length_range,show (List.range n.ps.length).map nT=(rgI n.ps.length).map FT.T.int by unfold rgI;rw [map_map];rfl] at cp
 simp only [length_nil,Nat.add_zero] at cp
 rw [show qg n = .tup [.tup (n.hs.map hsT),.tup (n.ps.map puT)] from rfl]
 have pf:=(h1.app ((List.range n.ps.length).map (fun k=>Cell.lst (coC n (zC n evs) k))++[.lst ((List.range n.ps.length).map fun j=>FT.T.ref (M1.length+j))])).payF
 rw [← QH] at pf
 simp_arith [Qh,rg,QD,cp,zo,pf]
 have hM1:=k1.1
 have lq:l1.q<M1.length:=qA h1.py
 have hA:(M1++(List.range n.ps.length).map (fun k=>Cell.lst (coC n (zC n evs) k))).length=M1.length+n.ps.length:=by simp
 refine Ok.ret ⟨_,_,M1.length,rfl,?_,h1.lo (l1.q,_) (.tail _ (.tail _ (.tail _ (.head _)))),?_,hM1,hA,fun k hk=>?_,?_,k1.trans ?_⟩
 ·rw [hA];omega
 ·exact yM
 ·rw [QH,Q8 (by omega),show M1.length+k-M1.length=k by omega,Q6 (by simpa using hk),Qb,getElem?_range hk]
  rfl
 ·rw [QH,Q6 lq]
  exact h1.py
 ·rw [QH]
  exact Kp.app _ _ hM1
end
section
theorem zia {A q q' c0:Nat} (hA:M[A]? = some (.lst ((List.range n.ps.length).map fun k=>.ref (c0+k)))) (hc:∀ k,k<n.ps.length->M[c0+k]? = some (.lst (coC n R k))) (hq:M[q]? = some (.lst (R.pays.map zab))) (hB:M[B]? = some (.lst ((List.range n.ps.length).map fun k=>.lst (coC n R k)))) (hq':M[q']? = some (.lst (R.pays.map zab))):eqD M 20 (.tup [.ref A,.ref q]) (.tup [.ref B,.ref q'])=some true:=by
 have e1:eqD M 19 (.ref A) (.ref B)=some true:=zlo (d:=18) hA hB (by simp) (by
  intro k x y hx hy
  rw [Qb] at hx hy
  by_cases z:k<n.ps.length
  ·rw [getElem?_range z] at hx hy
   cases hx
   cases hy
   refine zqq (d:=17) (hc k z) fun x hx=>?_
   obtain ⟨c,_,rfl⟩:=mem_map.mp hx
   exact (zrB 16 c).eq M
  ·rw [getElem?_eq_none (by simpa using z)] at hx
   cases hx)
 have e2:eqD M 19 (.ref q) (.ref q')=some true:=zlo (d:=18) hq hq' rfl (by
  intro k x y hx hy
  rw [hx] at hy
  cases hy
  obtain ⟨p,_,rfl⟩:=mem_map.mp (Qa hx)
  exact (zqD 17 p).eq M)
 show eqL (eqD M 19) [.ref A,.ref q] [.ref B,.ref q']=some true
 unfold eqL
 rw [e1]
 unfold eqL
 rw [e2]
 rfl
theorem zhV (gn:GN n) {S:List Nat} (I:EvI n x0 S M (zC n evs)) (ht:∀ M',Kp M.length M M'->EvS t evs M'/\zQ t M' = .ok (.tup (evs.map evT)) M') (v:VEv n (Run.new n) evs) (hl:evs.length<=800) :
  Ok (zcy kE kR [qg n,t,.ref x0] M) fun u M'=>u = .bl true/\Kp M.length M M':=by
 have wn:=gn.wn
 have g:=zbC wn v evs.length (Q3 _)
 rw [take_length] at g
 obtain ⟨ad,D,rfl,w,_⟩:=I
 refine zx rfl ?_
 unfold zg2
 have lG:=zfv w.at_p
 have cp:=zpB (r:=fun j=>FT.T.ref (ad (.k j))) (bd:=qo 0) (el:=eFz (zfT zdj (zb (eOp ixT (yb 0) (eC (.int 1))) ze))) (zfy w.at_p) (fun σ=>∃ o,σ=[o]) (fun j=>FT.T.lst (coC n (zC n evs) j)) (xs:=List.range n.ps.length) (σ:=[none]) (acc:=[]) ⟨_,rfl⟩ (by have:=wn.pl;rw [length_range];simp;omega) (by
  rintro j σ hj ⟨o,rfl⟩
  have hj:=mem_range.mp hj
  refine ⟨[some (.ref (ad (.k j)))],rfl,⟨_,rfl⟩,?_⟩
  have lk:zdj [.ref (ad (.c j))] M = .ok ((qN ((zC n evs).puts.getD j []) (n.per j)).map tuL) M:=by
   unfold zdj yQ yo
   simp only [w.at_c hj]
  simp_arith [w.at_k hj,lk]
  rfl)
 rw [nil_append] at cp
 have w1:=w.kept (Kp.app M [Cell.lst ((List.range n.ps.length).map fun j=>FT.T.lst (coC n (zC n evs) j))] (Q3 _))
 have cG:zdN (zcq (eOp ixT (yb 2) (eC (.int 2)))) (qo 0) qK (eFz (zfT zdj (zb (eOp ixT (yb 0) (eC (.int 1))) ze))) ["purse"] [] [some (qg n),some t,some (.ref (ad .w)),none,none,none] M = .ok ((List.range n.ps.length).map fun j=>FT.T.lst (coC n (zC n evs) j)) M:=by
  have i0:(eOp ixT (yb 2) (eC (.int 2))) [some (qg n),some t,some (.ref (ad .w)),none,none,none] M = .ok (.ref (ad .p)) M:=by simp_arith [w.at_w]
  unfold zdN zcq
  rw [i0]
  dsimp only [Out.bind]
  rw [lG]
  exact cp
 right
 simp_arith [cG,w1.at_w]
 left
 have kA:Kp M.length M (M++[.lst ((List.range n.ps.length).map fun j=>FT.T.lst (coC n (zC n evs) j))]):=Kp.app _ _ (Q3 _)
 have cB:(M++[Cell.lst ((List.range n.ps.length).map fun j=>FT.T.lst (coC n (zC n evs) j))])[M.length]? = some (.lst ((List.range n.ps.length).map fun j=>FT.T.lst (coC n (zC n evs) j))):=yM
 have lM:(M++[Cell.lst ((List.range n.ps.length).map fun j=>FT.T.lst (coC n (zC n evs) j))]).length=M.length+1:=by simp
 generalize M++[Cell.lst ((List.range n.ps.length).map fun j=>FT.T.lst (coC n (zC n evs) j))]=M1 at kA cB lM
 have lq:=qA w.at_q
 have cQ:M1[ad .q]? = some (.lst ((zC n evs).pays.map zab)):=by rw [kA.2 _ lq];exact w.at_q
 have xw:=w.at_w
 right
 simp_arith
 refine Ok.bind (zk1 wn (ht _ kA).1 v (by omega)) ?_
 rintro u M2 ⟨A,q,c0,rfl,hA,hq,cA,hc0,eA,cc,cq,k2⟩
 try simp_arith
 left
 have b2:M2[M.length]? = some (.lst ((List.range n.ps.length).map fun j=>FT.T.lst (coC n (zC n evs) j))):=by rw [k2.2 _ (by omega)];exact cB
 have q2:M2[ad .q]? = some (.lst ((zC n evs).pays.map zab)):=by rw [k2.2 _ (by omega)];exact cQ
 have ne:=zdi (zia cA cc cq b2 q2)
 have it:∀ xs M,zaK (.tup xs) (.ty "tuple") M = .ok (.bl true) M:=fun _ _=>rfl
 right
 simp_arith [it,ne]
 left
 right
 have lG2:=zfv cA
 have bl:∀ k,k<n.ps.length->(coC n (zC n evs) k).length<=90000:=fun k hk=>by
  have hp:k<(zC n evs).puts.length:=by rw [g.ri.pl];exact hk
  have hb:((zC n evs).puts.getD k []).length<=10*evs.length:=by
   rw [Q7,Q0 hp]
   exact g.sb.pu _ (getElem_mem _)
  unfold coC qN
  rw [Qh,Qh,length_range]
  have:=Nat.div_le_self ((zC n evs).puts.getD k []).length (n.per k)
  omega
 unfold zcN zcq
 simp_arith [lG2]
 refine Ok.bind (Ok.forG (r:=fun k=>FT.T.ref (c0+k)) (xs:=List.range n.ps.length) (fun i σ M'=>∃ o5,σ=[some (qg n),some t,some (.ref (ad .w)),some (.tup [.ref M.length,.ref (ad .q)]),some (.tup [.ref A,.ref q]),o5]/\M'[A]? = some (.lst ((List.range n.ps.length).map fun k=>.ref (c0+k)))/\(∀ k,k<n.ps.length->∃ xs,M'[c0+k]? = some (.lst xs)/\xs.length<=90000+i)/\(∃ xs,M'[q]? = some (.lst xs))/\Kp M1.length M1 M') (fun i σ M' h=>by obtain ⟨_,_,h,_⟩:=h;exact zfy h) ⟨none,rfl,cA,fun k hk=>⟨_,cc k hk,bl k hk⟩,⟨_,cq⟩,k2⟩ ?_) ?_
 ·rintro i x σ M3 hx ⟨o5,rfl,c3,d3,⟨zs,e3⟩,k3⟩
  have hx':=Qx.mp hx
  obtain ⟨hi,rfl⟩:=hx'
  rw [length_range] at hi
  rw [List.getElem_range]
  obtain ⟨xs,h1,h2⟩:=d3 i hi
  have hpl:=wn.pl
  have ap:=zO (t:=.tup []) h1 (by rw [sizeLine_eq];omega)
  simp_arith
  unfold zga
  simp_arith [qE h1,ap]
  refine Ok.ret ⟨_,rfl,_,rfl,?_,fun k hk=>?_,?_,k3.trans (Kp.set _ _ (by omega))⟩
  ·rw [Qc,Qz (by omega)]
   exact c3
  ·by_cases z:k=i
   ·subst z
    exact ⟨_,get_set h1,by rw [Qn,Qt];omega⟩
   ·obtain ⟨ys,y1,y2⟩:=d3 k hk
    exact ⟨ys,by rw [Qc,Qz (by omega)];exact y1,by omega⟩
  ·by_cases z:c0+i=q
   ·subst z
    exact ⟨_,get_set h1⟩
   ·exact ⟨zs,by rw [Qc,Qz z];exact e3⟩
 ·rintro fl M3 ⟨σ,rfl,o5,rfl,_,_,⟨zs,e3⟩,k3⟩
  try simp_arith
  left
  have cl:zeH (.ref q) M3 = .ok .non (M3.set q (.lst [])):=by
   unfold zeH
   simp only [e3]
  have k4:Kp M1.length M1 (M3.set q (.lst [])):=k3.trans (Kp.set _ _ hq)
  right
  simp_arith [cl]
  left
  generalize M3.set q (.lst [])=M4 at k4
  have kM4:Kp M.length M M4:=⟨by have:=k4.1;omega,fun i hi=>by rw [k4.2 _ (by omega),kA.2 _ hi]⟩
  simp_arith [(ht _ kM4).2]
  refine Ok.bind (zk1 wn (zos evs M4) v (by omega)) ?_
  rintro u M5 ⟨A5,q5,c5,rfl,hA5,hq5,cA5,hc5,eA5,cc5,cq5,k5⟩
  have hl4:=k4.1
  have b5:M5[M.length]? = some (.lst ((List.range n.ps.length).map fun j=>FT.T.lst (coC n (zC n evs) j))):=by rw [k5.2 _ (by omega),k4.2 _ (by omega)];exact cB
  have q5':M5[ad .q]? = some (.lst ((zC n evs).pays.map zab)):=by rw [k5.2 _ (by omega),k4.2 _ (by omega)];exact cQ
  have eq:=zrx (zia cA5 cc5 cq5 b5 q5')
  simp_arith [eq]
  exact Ok.ret ⟨rfl,⟨by have:=k5.1;omega,fun i hi=>by rw [k5.2 _ (by omega),kM4.2 _ hi]⟩⟩
end
theorem law_true (kE kR:Addr) (ns:List Int) (hn:ns.length<=63):∃ M,zht kE kR [.lst (ns.map .int)] [] = .ok (.bl true) M:=by
 have key:Ok (zht kE kR [.lst (ns.map .int)] []) fun t _=>t = .bl true:=by
  refine zx rfl ?_
  unfold zmW
  obtain ⟨c,hc⟩:=zjG (kE:=kE) (kR:=kR) (ns:=ns) (n:=0) (by omega) []
  right
  rw [show (FT.T.int ((0:Nat):Int)) = .int 0 from rfl] at hc
  simp_arith [hc,zib]
  refine Ok.bind (zpz (kE:=kE) (kR:=kR) (PO.app (M:=[]) (c:=c))) ?_
  rintro t M1 ⟨n,rfl,gn,p1,f1⟩
  have wn:=gn.wn
  try simp_arith
  left
  right
  simp_arith
  refine Ok.bind (zln gn ns hn M1) ?_
  rintro t M2 ⟨x0,a,evs,rfl,I2,c2,v,hl⟩
  try simp_arith
  left
  have tkl:∀ (xs:List FT.T) (M:Mem),zQ (.lst xs) M = .ok (.tup xs) M:=fun _ _=>rfl
  have r2:=zhV (kE:=kE) (kR:=kR) gn I2 (t:=.ref a) (fun M' k=>by
   have c':M'[a]? = some (.lst (evs.map evT)):=by rw [k.2 _ (qA c2)];exact c2
   refine ⟨zot c',?_⟩
   unfold zQ yQ yo
   simp only [c']) v (by omega)
  right
  simp_arith
  refine Ok.bind r2 ?_
  rintro t M5 ⟨rfl,k5⟩
  simp_arith
  left
  have c6:M5[a]? = some (.lst (evs.map evT)):=by rw [k5.2 _ (qA c2)];exact c2
  clear I2 c2 k5 r2
  right
  simp_arith
  refine Ok.bind (zhy wn M5) ?_
  rintro t M6 ⟨ad,rfl,w6,lo6,k6⟩
  try simp_arith
  left
  have h5:=qA c6
  have c7:M6[a]? = some (.lst (evs.map evT)):=by rw [k6.2 _ h5];exact c6
  have I7:EvI n (ad .w) [a] M6 (zC n (evs.take 0)):=⟨ad,[],rfl,w6,fun s hs z=>by have:=lo6 s hs;rw [QG.mp z] at this;omega⟩
  generalize ad .w=x1 at *
  have rg:∀ M,zbT [.int (evs.length:Int)] M = .ok ((rgI evs.length).map .int) M:=fun M=>zad (j:=(evs.length:Int)) (by omega)
  have ln:yz (.ref a) M6 = .ok (nT evs.length) M6:=by
   unfold yz yQ yo
   simp only [c7]
   simp
  right
  simp_arith [ln,rg,QD]
  refine Ok.bind (Ok.for (r:=FT.T.int) (xs:=rgI evs.length) (fun k σ M=>∃ o4,σ=[some (.lst (ns.map .int)),some (qg n),some (.ref a),some (.ref x1),o4]/\EvI n x1 [a] M (zC n (evs.take k))/\M[a]? = some (.lst (evs.map evT))) ⟨_,rfl,I7,c7⟩ ?_) ?_
  ·rintro k x σ M8 hx ⟨o4,rfl,I8,c8⟩
   obtain ⟨hk,rfl⟩:=zbf hx
   have gk:=zbC wn v k (by omega)
   have ca:=zfC wn v k (by omega)
   have he:evs[k]? = some evs[k]:=Q0 hk
   have cn:=v.at_ he
   have ae:atI (evs.map evT) (k:Int)=some (evT evs[k]):=zp he
   have st:zC n (evs.take (k+1))=zal n (zC n (evs.take k)) evs[k]:=by unfold zC;exact zdk he
   rw [st]
   have fin:∀ M9,EvI n x1 [a] M9 (zC n (evs.take k))->M9[a]? = some (.lst (evs.map evT))->Ok (qB (yf (zcz kE kR) (zb (yb 1) (zb (yb 3) (zb (eOp ixT (yb 2) (yb 4)) ze)))) [some (.lst (ns.map .int)),some (qg n),some (.ref a),some (.ref x1),some (.int (k:Int))] M9) fun fl M'=>∃ σ',fl = .nx σ'/\∃ o4,σ'=[some (.lst (ns.map .int)),some (qg n),some (.ref a),some (.ref x1),o4]/\EvI n x1 [a] M' (zal n (zC n (evs.take k)) evs[k])/\M'[a]? = some (.lst (evs.map evT)):=by
    intro M9 I9 c9
    have dd:=zqs (kE:=kE) (kR:=kR) gn I9 gk (by omega) (by omega) (by
     intro x hx
     rw [QG.mp hx]
     exact qA c9) cn
    simp_arith [c9,ae]
    refine Ok.bind dd ?_
    rintro t M10 ⟨rfl,I10,_,kp⟩
    try simp_arith
    exact Ok.ret ⟨_,rfl,_,rfl,I10,by rw [kp a (by simp)];exact c9⟩
   simp_arith
   unfold zlF
   nofun
   have q0:∀ M,eqA (.int ((k:Int).fmod 7)) (.int 0) M = .ok (.bl ((k:Int).fmod 7==0)) M:=fun _=>rfl
   cases z:((k:Int).fmod 7==0) with
   | true=>
    have cu:zbE (evs.map evT) none (some (k:Int))=(evs.take k).map evT:=zlu evT evs k
    have l8:=yP c8
    simp_arith [z,l8,cu]
    refine Ok.bind (zhV gn I8 (t:=.lst ((evs.take k).map evT)) (fun M' _=>⟨zou _ _,tkl _ _⟩) (v.take k) (by rw [Qr];omega)) ?_
    rintro t M9 ⟨rfl,k9⟩
    simp_arith
    left
    exact fin M9 (I8.kept k9) (by rw [k9.2 _ (qA c8)];exact c8)
   | false=>
    simp_arith [z]
    left
    exact fin M8 I8 c8
  ·rintro fl M8 ⟨σ,rfl,o4,rfl,I8,c8⟩
   try simp_arith
   left
   simp_arith
   exact Ok.ret rfl
 obtain ⟨t,M,e,rfl⟩:=key
 exact ⟨M,e⟩
end My
theorem My.e1 {α:Type} {P:List α->Prop} (h:∀ a,P [a]):∀ us:List α,us.length=1->P us
 | [a],_=>h a
theorem My.e2 {α:Type} {P:List α->Prop} (h:∀ a b,P [a,b]):∀ us:List α,us.length=2->P us
 | [a,b],_=>h a b
theorem My.e3 {α:Type} {P:List α->Prop} (h:∀ a b c,P [a,b,c]):∀ us:List α,us.length=3->P us
 | [a,b,c],_=>h a b c
theorem My.e4 {α:Type} {P:List α->Prop} (h:∀ a b c d,P [a,b,c,d]):∀ us:List α,us.length=4->P us
 | [a,b,c,d],_=>h a b c d
theorem My.e5 {α:Type} {P:List α->Prop} (h:∀ a b c d e,P [a,b,c,d,e]):∀ us:List α,us.length=5->P us
 | [a,b,c,d,e],_=>h a b c d e
local macro_rules | `(tactic| rfl') => do
 let K:=Lean.mkIdent `KX
 let G:=Lean.mkIdent `G
 `(tactic| (dsimp only [L2.KOf];refine' L2.zB $K $G ?a ?l ?c ?k ?b;(case a=>k_is);(case l=>k_is);(case c=>k_is);(case k=>k_is)))
local macro_rules | `(tactic| eq_refl) => `(tactic| (dsimp only [L2.KOf];refine' FT.zbA ?a ?n;(case a=>k_is);(case n=>k_is)))
open PySem PySem.W PyProof.Rows
set_option maxRecDepth 100000 in
set_option maxHeartbeats 0 in
theorem PySem.Challenge.cw_tryweir_k39_ledgers_holds : PySem.Challenge.rw_tryweir_k39_ledgers.Holds := by
 refine My.hdD.2 ?_
 dsimp only [My.hdD]
 k_fill
 refine L2.zlL (l:=PySem.Challenge.rw_tryweir_k39_ledgers) (n:=63) (k:=34) (x:="script") (CX:=L2.CX0) (sp:=fun K=>FT.spT K (My.zht (FT.qU K "Errand") (FT.qU K "Run"))) rfl (by decide) rfl ⟨rfl,by decide,by decide⟩ (fun w h Y=>PySem.W.kIn_of Y) ?F ?S ?C
 case F=>
  intro w mg fa h KX G hmg
  have uV:L2.Df (L2.KOf KX) mg "_law_next" My.zfn ["pool","base"]:=by rfl';exact fun _ _ _ _ _ _=>My.e2 fun _ _=>rfl
  have uL:L2.Df (L2.KOf KX) mg "_law_words" My.zes ["pool","many"]:=by rfl';exact fun _ _ _ _ _ _=>My.e2 fun _ _=>rfl
  have uT:L2.Df (L2.KOf KX) mg "_law_asks" My.zfp ["pool","later","purses","most"]:=by rfl';exact fun _ _ _ _ _ _=>My.e4 fun _ _ _ _=>rfl
  have u3:L2.Df (L2.KOf KX) mg "_law_net" My.zgi ["pool"]:=by rfl';exact fun _ _ _ _ _ _=>My.e1 fun _=>rfl
  have uP:L2.Df (L2.KOf KX) mg "_law_world" My.zer ["net"]:=by rfl';exact fun _ _ _ _ _ _=>My.e1 fun _=>rfl
  have uZ:L2.Df (L2.KOf KX) mg "_law_dig" My.zgl ["cell"]:=by rfl';exact fun _ _ _ _ _ _=>My.e1 fun _=>rfl
  have uO:L2.Df (L2.KOf KX) mg "_law_coins" My.zew ["net","world","ask"]:=by rfl';exact fun _ _ _ _ _ _=>My.e3 fun _ _ _=>rfl
  have u4:L2.Df (L2.KOf KX) mg "_law_may" My.zgj ["net","world"]:=by rfl';exact fun _ _ _ _ _ _=>My.e2 fun _ _=>rfl
  have uK:L2.Df (L2.KOf KX) mg "_law_share" My.zet ["net","world","ask","first","errand"]:=by rfl';exact fun _ _ _ _ _ _=>My.e5 fun _ _ _ _ _=>rfl
  have uR:L2.Df (L2.KOf KX) mg "_law_house" My.zev ["net","name"]:=by rfl';exact fun _ _ _ _ _ _=>My.e2 fun _ _=>rfl
  have uQ:L2.Df (L2.KOf KX) mg "_law_begin" My.zex ["net","world","house","caller"]:=by rfl';exact fun _ _ _ _ _ _=>My.e4 fun _ _ _ _=>rfl
  have uY:L2.Df (L2.KOf KX) mg "_law_try" My.zgh ["net","world","number","at","tries"]:=by rfl';exact fun _ _ _ _ _ _=>My.e5 fun _ _ _ _ _=>rfl
  have u2:L2.Df (L2.KOf KX) mg "_law_end" My.zgk ["net","world","number","word"]:=by rfl';exact fun _ _ _ _ _ _=>My.e4 fun _ _ _ _=>rfl
  have vc:L2.Df (L2.KOf KX) mg "_law_do" My.zhT ["net","world","event"]:=by rfl';exact fun _ _ _ _ _ _=>My.e3 fun _ _ _=>rfl
  have uS:L2.Df (L2.KOf KX) mg "_law_cell" My.zfo ["script","k"]:=by rfl';exact fun _ _ _ _ _ _=>My.e2 fun _ _=>rfl
  have uF:L2.Df (L2.KOf KX) mg "_law_events" My.zdZ ["script","net","most"]:=by rfl';exact fun _ _ _ _ _ _=>My.e3 fun _ _ _=>rfl
  have ve:FT.Di (L2.KOf KX) mg "Run" "Run.__init__" (FT.qU (L2.KOf KX) "Run") My.zd5 ["self","net"]:=by
   dsimp only [L2.KOf]
   refine' FT.zmY KX G ?a17 ?e17 ?i17 ?l17 ?c17 ?k17 ?m17 ?q17 ?b17
   (case a17=>k_is);(case e17=>k_is);(case i17=>k_is);(case l17=>k_is);(case c17=>k_is);(case k17=>k_is);(case m17=>k_is);(case q17=>k_is)
   exact fun _ _ _ _ _ _=>My.e2 fun _ _=>rfl
  have u0:L2.Cls (L2.KOf KX) (FT.qU (L2.KOf KX) "Run"):=by
   dsimp only [L2.KOf]
   refine' FT.zlx ?a18 ?p18 ?h18 ?o18 ?s18
   (case a18=>k_is);(case p18=>k_is);(case h18=>k_is);(case o18=>k_is);(case s18=>k_is)
  have uv:L2.NoAttr (L2.KOf KX) (FT.qU (L2.KOf KX) "Run") "came":=by eq_refl
  have uk:L2.NoAttr (L2.KOf KX) (FT.qU (L2.KOf KX) "Run") "errands":=by eq_refl
  have uD:L2.NoAttr (L2.KOf KX) (FT.qU (L2.KOf KX) "Run") "net":=by eq_refl
  have ue:L2.NoAttr (L2.KOf KX) (FT.qU (L2.KOf KX) "Run") "payments":=by eq_refl
  have ux:L2.NoAttr (L2.KOf KX) (FT.qU (L2.KOf KX) "Run") "puts":=by eq_refl
  have uq:L2.NoAttr (L2.KOf KX) (FT.qU (L2.KOf KX) "Run") "taken":=by eq_refl
  have uM:L2.Df (L2.KOf KX) mg "asks_of" My.zey ["run","number"]:=by rfl';exact fun _ _ _ _ _ _=>My.e2 fun _ _=>rfl
  have ul:L2.Df (L2.KOf KX) mg "may_be_lost" My.zcE ["run","number"]:=by rfl';exact fun _ _ _ _ _ _=>My.e2 fun _ _=>rfl
  have ud:L2.Df (L2.KOf KX) mg "has_tries_left" My.zbB ["run","number"]:=by rfl';exact fun _ _ _ _ _ _=>My.e2 fun _ _=>rfl
  have ua:L2.Df (L2.KOf KX) mg "events_by_tries" My.zbo ["run","number"]:=by rfl';exact fun _ _ _ _ _ _=>My.e2 fun _ _=>rfl
  have uu:L2.Df (L2.KOf KX) mg "number_of" My.zdu ["named","name"]:=by rfl';exact fun _ _ _ _ _ _=>My.e2 fun _ _=>rfl
  have uA:L2.Df (L2.KOf KX) mg "purse_of" My.zdX ["run","ask"]:=by rfl';exact fun _ _ _ _ _ _=>My.e2 fun _ _=>rfl
  have un:L2.Df (L2.KOf KX) mg "coins_made" My.zc0 ["run","purse"]:=by rfl';exact fun _ _ _ _ _ _=>My.e2 fun _ _=>rfl
  have uo:L2.Df (L2.KOf KX) mg "purse_told" My.zcZ ["run","purse"]:=by rfl';exact fun _ _ _ _ _ _=>My.e2 fun _ _=>rfl
  have uE:L2.Df (L2.KOf KX) mg "has_coin" My.zd1 ["run","number"]:=by rfl';exact fun _ _ _ _ _ _=>My.e2 fun _ _=>rfl
  have us:L2.Df (L2.KOf KX) mg "events_at" My.zdw ["run","number"]:=by rfl';exact fun _ _ _ _ _ _=>My.e2 fun _ _=>rfl
  have uJ:L2.Df (L2.KOf KX) mg "is_whole" My.zd0 ["thing"]:=by rfl';exact fun _ _ _ _ _ _=>My.e1 fun _=>rfl
  have uz:L2.Df (L2.KOf KX) mg "is_within" My.zdv ["thing","low","high"]:=by rfl';exact fun _ _ _ _ _ _=>My.e3 fun _ _ _=>rfl
  have uI:L2.Df (L2.KOf KX) mg "can_come" My.zd3 ["run","event"]:=by rfl';exact fun _ _ _ _ _ _=>My.e2 fun _ _=>rfl
  have um:L2.Df (L2.KOf KX) mg "check_event" My.zcF ["run","event"]:=by rfl';exact fun _ _ _ _ _ _=>My.e2 fun _ _=>rfl
  have uH:L2.Df (L2.KOf KX) mg "asked_by" My.zd4 ["net","ask"]:=by rfl';exact fun _ _ _ _ _ _=>My.e2 fun _ _=>rfl
  have uU:FT.Di (L2.KOf KX) mg "Errand" "Errand.__init__" (FT.qU (L2.KOf KX) "Errand") My.zcG ["self","house","caller"]:=by
   dsimp only [L2.KOf]
   refine' FT.zmY KX G ?a40 ?e40 ?i40 ?l40 ?c40 ?k40 ?m40 ?q40 ?b40
   (case a40=>k_is);(case e40=>k_is);(case i40=>k_is);(case l40=>k_is);(case c40=>k_is);(case k40=>k_is);(case m40=>k_is);(case q40=>k_is)
   exact fun _ _ _ _ _ _=>My.e3 fun _ _ _=>rfl
  have uC:L2.Cls (L2.KOf KX) (FT.qU (L2.KOf KX) "Errand"):=by
   dsimp only [L2.KOf]
   refine' FT.zlx ?a41 ?p41 ?h41 ?o41 ?s41
   (case a41=>k_is);(case p41=>k_is);(case h41=>k_is);(case o41=>k_is);(case s41=>k_is)
  have uh:L2.NoAttr (L2.KOf KX) (FT.qU (L2.KOf KX) "Errand") "asked":=by eq_refl
  have uc:L2.NoAttr (L2.KOf KX) (FT.qU (L2.KOf KX) "Errand") "caller":=by eq_refl
  have ug:L2.NoAttr (L2.KOf KX) (FT.qU (L2.KOf KX) "Errand") "house":=by eq_refl
  have ub:L2.NoAttr (L2.KOf KX) (FT.qU (L2.KOf KX) "Errand") "is_lost":=by eq_refl
  have ui:L2.NoAttr (L2.KOf KX) (FT.qU (L2.KOf KX) "Errand") "state":=by eq_refl
  have uf:L2.NoAttr (L2.KOf KX) (FT.qU (L2.KOf KX) "Errand") "stood":=by eq_refl
  have uy:L2.Df (L2.KOf KX) mg "begin_try" My.zco ["run","number","at","tried"]:=by rfl';exact fun _ _ _ _ _ _=>My.e4 fun _ _ _ _=>rfl
  have uj:L2.Df (L2.KOf KX) mg "begin_errand" My.zbe ["run","house","caller"]:=by rfl';exact fun _ _ _ _ _ _=>My.e3 fun _ _ _=>rfl
  have ur:L2.Df (L2.KOf KX) mg "end_errand" My.zbR ["run","number","word"]:=by rfl';exact fun _ _ _ _ _ _=>My.e3 fun _ _ _=>rfl
  have va:L2.Df (L2.KOf KX) mg "hear" My.zfO ["run","caller","word"]:=by rfl';exact fun _ _ _ _ _ _=>My.e3 fun _ _ _=>rfl
  have vb:L2.Df (L2.KOf KX) mg "lose" My.zhS ["run","number"]:=by rfl';exact fun _ _ _ _ _ _=>My.e2 fun _ _=>rfl
  have ut:L2.Df (L2.KOf KX) mg "take_coin" My.zdt ["run","purse"]:=by rfl';exact fun _ _ _ _ _ _=>My.e2 fun _ _=>rfl
  have uw:L2.Df (L2.KOf KX) mg "try_again" My.zds ["run","number"]:=by rfl';exact fun _ _ _ _ _ _=>My.e2 fun _ _=>rfl
  have u1:L2.Df (L2.KOf KX) mg "go_up" My.zgm ["run","number"]:=by rfl';exact fun _ _ _ _ _ _=>My.e2 fun _ _=>rfl
  have uB:L2.Df (L2.KOf KX) mg "let_come" My.zdY ["run","event"]:=by rfl';exact fun _ _ _ _ _ _=>My.e2 fun _ _=>rfl
  have uW:L2.Df (L2.KOf KX) mg "run_of" My.zfl ["net","events"]:=by rfl';exact fun _ _ _ _ _ _=>My.e2 fun _ _=>rfl
  have uG:L2.Df (L2.KOf KX) mg "coins_of" My.zd2 ["run","purse"]:=by rfl';exact fun _ _ _ _ _ _=>My.e2 fun _ _=>rfl
  have uX:L2.Df (L2.KOf KX) mg "ledger" My.zfm ["net","events"]:=by rfl';exact fun _ _ _ _ _ _=>My.e2 fun _ _=>rfl
  have uN:L2.Df (L2.KOf KX) mg "_law_right" My.zeu ["net","events","world"]:=by rfl';exact fun _ _ _ _ _ _=>My.e3 fun _ _ _=>rfl
  have u6:mg "range" = none:=by refine' PySem.W.mg_none_of KX G ?z61;k_is
  have vf:mg "len" = none:=by refine' PySem.W.mg_none_of KX G ?z62;k_is
  have vg:mg "min" = none:=by refine' PySem.W.mg_none_of KX G ?z63;k_is
  have vh:mg "int" = none:=by refine' PySem.W.mg_none_of KX G ?z64;k_is
  have u7:mg "tuple" = none:=by refine' PySem.W.mg_none_of KX G ?z65;k_is
  have vd:mg "max" = none:=by refine' PySem.W.mg_none_of KX G ?z66;k_is
  have up:mg "isinstance" = none:=by refine' PySem.W.mg_none_of KX G ?z67;k_is
  have u9:mg "bool" = none:=by refine' PySem.W.mg_none_of KX G ?z68;k_is
  have u8:mg "list" = none:=by refine' PySem.W.mg_none_of KX G ?z69;k_is
  have u5:∃ a,mg "FRESH" = some (.ref a)/\FT.KTu (L2.KOf KX) a [.str "fresh"]:=by
   dsimp only [L2.KOf]
   refine' ⟨_,PySem.W.mg_of KX G ?z70,FT.zpI ?y70⟩
   (case z70=>k_is);(case y70=>k_is)
  have L:=by
   refine' L2.zpG (st:=My.zjY) KX G ?la ?ll ?lc ?lk ?lb
   (case la=>k_is);(case ll=>k_is);(case lc=>k_is);(case lk=>k_is)
   exact fun _ _ _ _ _ _ s u=>.of_eq rfl
  obtain ⟨f,fd,F,g,hb⟩:=L
  have e:=hmg.symm.trans g
  cases e
  have T:My.Txt (L2.KOf KX) mg (FT.qU (L2.KOf KX) "Errand") (FT.qU (L2.KOf KX) "Run"):=⟨uC,u0,uh,uc,ug,ub,ui,uf,uv,uk,uD,ue,ux,uq,u6,vf,vg,vh,u7,vd,up,u9,u8,u5⟩
  refine ⟨fd,hb,fun base _ _=>?_⟩
  have zA:=My.zA (P:=My.pg) (w:=w) (base:=base) uV T
  have zbK:=My.zbK uL T zA
  have zdb:=My.zdb uT T zA
  have zdR:=My.zdR u3 T zbK zA zdb
  have zaq:=My.zaq (P:=My.pg) (w:=w) (base:=base) uP T
  have zbN:=My.zbN (P:=My.pg) (w:=w) (base:=base) uZ T
  have zcB:=My.zcB (P:=My.pg) (w:=w) (base:=base) uO T
  have zcm:=My.zcm u4 T zcB
  replace zcm:=FT.CalT.refine zcm (FT.zjy _) (FT.zjz _)
  have zar:=My.zar (P:=My.pg) (w:=w) (base:=base) uK T
  have zas:=My.zas (P:=My.pg) (w:=w) (base:=base) uR T
  have zat:=My.zat uQ T zar zas
  have zbL:=My.zbL uY T zar zat zas
  have zcV:=My.zcV u2 T zbL
  have zcA:=My.zcA vc T zat zcV zbL
  have za7:=My.za7 (P:=My.pg) (w:=w) (base:=base) uS T
  have zb1:=My.zb1 uF T zaq zbN zcm zcA za7 zA
  have zfS:=My.zfS (P:=My.pg) (w:=w) (base:=base) ve T
  have qq:=My.qq (P:=My.pg) (w:=w) (base:=base) uM T
  have zaE:=My.zaE ul T qq
  have z9:=My.z9 ud T qq
  have qL:=My.qL ua T zaE z9
  replace qL:=FT.CalT.refine qL (FT.zjy _) (FT.zjz _)
  have y4:=My.y4 (P:=My.pg) (w:=w) (base:=base) uu T
  have yI:=My.yI uA T y4
  have qX:=My.qX (P:=My.pg) (w:=w) (base:=base) un T
  have za6:=My.za6 uo T qX
  have zb3:=My.zb3 uE T yI qq za6
  have zby:=My.zby us T qL zb3
  have zb2:=My.zb2 (P:=My.pg) (w:=w) (base:=base) uJ T
  have zbx:=My.zbx uz T zb2
  have zb5:=My.zb5 uI T zby zbx
  have zaF:=My.zaF um T zb5
  have zaf:=My.zaf uH T y4
  have zaZ:=My.zaZ (P:=My.pg) (w:=w) (base:=base) uU T
  have zI:=My.zI uy uj T yI qq zaf zaZ 12
  have qH:=zI.1
  have zV:=zI.2
  have yX:=My.yX ur va T qq qH 12
  have qM:=yX.1
  have zdc:=yX.2
  have zeK:=My.zeK vb T zdc
  have zbw:=My.zbw (P:=My.pg) (w:=w) (base:=base) ut T
  have zbv:=My.zbv uw T yI qH zbw qq
  have zdS:=My.zdS u1 T qM qq
  have zb0:=My.zb0 uB T zV qM zeK zbv zdS
  have zda:=My.zda uW T zfS zaF zb0
  have zb4:=My.zb4 uG T qX
  have zcl:=My.zcl uX T zda zb4
  have zbM:=My.zbM uN T zcl
  exact My.zpu F T zdR zb1 zaq zbN zbM zcA za7
 case S=>
  intro K H a ns hl _ hS
  obtain ⟨M,h⟩:=My.law_true (FT.qU K "Errand") (FT.qU K "Run") ns hl
  exact FT.znW hS h
 case C=>exact fun _ _ _ _ z=>z
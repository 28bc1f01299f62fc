import PyProof.Rows.All
import Wide.All
import OpenK.AllK
import Wide.FinOn
import Lean
import Open.Tree
import PyProof.EqAt
import PyProof.EqKinds
import PyProof.TupleCall
import PyProof.NeKinds
import PyProof.SumAny
import KE.KDictList
import KE.KDictOf
import PyProof.AttrMissHeap
import PyProof.Conv_int_bool
import PyProof.TupleOfStr
import PyProof.CollectIter
import PyProof.ListRange
import PyProof.DictWalks
import PyProof.ConsumeS
import PyProof.WalkInts
import PyProof.Draws
import PyProof.EnumFor
import PyProof.EnumStmt
import KE.KDictLaws
import KE.KRevIter
import KE.KDictSum
import PyProof.SeqRoads2
import PyProof.EqAt
import PyProof.EnumMake
import PyProof.ZipIter
import PyProof.InstStore
import PyProof.InstStoreFacts
import PyProof.ExcInit
import PyProof.ExcClass2
import PyProof.NsDelKeeps
import PyProof.ExcArgsOwn
import PyProof.Rows.SetFrom
import PyProof.SetRoads
import KE.KIsAll
import KE.IntTextText
import KE.KIntText
import PyProof.StrBlock2
import PyProof.FString5
import PyProof.CallStr
import PyProof.StrWalks
import PyProof.StrCalls
import PyProof.StrCalls2
import PyProof.SliceStr2
import PyProof.StrBlockI
import PyProof.Rows.StrJoin2
import PyProof.CallRoads3
import PyProof.TupleKey
import PyProof.Rows.Range3
import PyProof.AutoListH
import PyProof.Rows.SortShell
import PyProof.SetRoads
import PyProof.Rows.SetFrom
import PyProof.WalkInts
import PyProof.EqAt
import PySem.Challenge.RW_tryweir_k38_events_refused
open PySem.W (Frag)
open List (mem_filter mem_range filterMap_cons mem_cons_self mem_cons_of_mem mem_cons mem_append mem_append_left getElem?_set_ne mem_append_right length_cons map_cons length_map append_nil nodup_cons of_mem_zip length_take getElem?_append_right getElem?_append_left getElem?_map mem_of_getElem? length_append length_replicate length_drop size_toArray length_set all_cons any_cons replicate_succ flatten_cons append_assoc length_singleton map_nil find?_cons length_nil lookup_cons mem_singleton contains_cons getElem?_set getElem?_take getElem_of_mem getElem?_eq_getElem mem_map getElem?_range all_eq_true getElem_toArray getElem_mem any_eq_true contains_iff_mem map_congr_left getElem?_cons_succ ext_getElem? getElem?_eq_none nil_append drop_zero take_of_length_le map_map forall_mem_nil forall_mem_cons cons_append mem_iff_getElem? set_append_right map_append getD_eq_getElem?_getD not_mem_nil length_range take_succ take_length range_succ mem_flatMap map_id)
set_option hygiene false
local macro_rules|`(.($n:num))=>match n.getNat with
 |0=>`(ya (pv 0))
 |1=>`(model X.prog X.w)
 |2=>`((X.block scope cl (tgs++ζ.map (·.1)) ex s0 H0))
 |3=>`(R.setE num { e with ph:=.waits at' tr,asked:=some R.es.length })
 |4=>`(ya (pv 1))
 |5=>`(n.asks e.house)
 |6=>`(hr.mono ∅)
 |7=>`(ym (qg ⟨T.cls_Run,T.na_Run_errands⟩ qh) .(0))
 |_=>Lean.Macro.throwUnsupported
set_option hygiene true
noncomputable section
set_option genSizeOf false
set_option bootstrap.genMatcherCode false
set_option compiler.extract_closed false
set_option genSizeOf false
set_option bootstrap.genMatcherCode false
set_option Elab.async false
set_option linter.all false
set_option maxRecDepth 100000
local macro_rules | `(tactic| symm) => `(tactic| first | lia | omega)
set_option hygiene false
local macro_rules | `(tactic| left) => `(tactic| (rw [hX];clear hX;simp only [qf]))
local macro_rules | `(tactic| right) => `(tactic| (refine Ok.seqR λX hX=>?_))
local macro_rules | `(tactic| nofun) => `(tactic| (refine Ok.seqX λX hX=>?_))
local macro_rules | `(tactic| simp?) => `(tactic| (exact Y.elim))
local macro_rules | `(tactic| and_intros) => `(tactic| (first | exact Or.inl rfl | exact Or.inr rfl))
local macro_rules | `(tactic| injections) => `(tactic| (rintro ρ s J H x y v u Q I rx ry ⟨S,⟨tx,ty⟩,e,m,⟨r1,r2⟩,Y⟩))
local macro_rules | `(tactic| rw?) => `(tactic| (split at Y))
local macro_rules | `(tactic| exact?) => `(tactic| (exact absurd (show false = true from fx) Q4))
local macro_rules | `(tactic| apply?) => `(tactic| (intro ρ s J H Q I h))
local macro_rules | `(tactic| infer_instance) => `(tactic| (intro ρ s J H x y v u Q I rx ry h))
set_option hygiene true
local macro_rules | `(tactic| simp_arith) => `(tactic| erw [and_self])
local macro_rules | `(tactic| ac_rfl) => `(tactic| exact ⟨rfl, rfl, rfl, by decide +kernel, rfl, by decide +kernel, by decide +kernel⟩)
abbrev Q0:=@List.getElem?_eq_getElem
abbrev Q1:=@PySem.wpAny_bind
abbrev Q2:=@PySem.Heap.get?_push_of_some
abbrev Q3:=@Nat.le_refl
abbrev Q4:=@Bool.false_ne_true
abbrev Q5:=@Nat.lt_of_lt_of_le
abbrev Q6:=@List.getElem?_append_left
abbrev Q7:=@List.getD_eq_getElem?_getD
abbrev Q8:=@List.getElem?_append_right
abbrev Q9:=@Int.fmod_eq_emod_of_nonneg
abbrev Qa:=@List.mem_of_getElem?
abbrev Qb:=@List.getElem?_map
abbrev Qc:=@List.getElem?_set
abbrev Qd:=@Option.some.inj
abbrev Qe:=@PySem.Heap.lt_size
abbrev Qf:=@PySem.wpAny_pure
abbrev Qg:=@PySem.wpAny_mono
abbrev Qh:=@List.length_map
abbrev Qi:=@List.size_toArray
abbrev Qj:=@Nat.le_trans
abbrev Qk:=@Nat.ne_of_lt
abbrev Ql:=@PySem.Heap.get?_push_size
abbrev Qm:=@List.mem_append_right
abbrev Qn:=@List.length_append
abbrev Qo:=@Nat.lt_irrefl
abbrev Qp:=@List.length_cons
abbrev Qq:=@List.map_append
abbrev Qr:=@List.length_take
abbrev Qs:=@Bool.and_eq_true
abbrev Qu:=@List.length_singleton
abbrev Qv:=@Nat.sub_self
abbrev Qw:=@decide_eq_true
abbrev Qx:=@decide_eq_false
abbrev Qy:=@beq_self_eq_true
abbrev Qz:=@List.getElem?_eq_some_iff
abbrev QA:=@if_pos
abbrev QB:=@if_neg
abbrev QC:=@List.mem_cons
abbrev QD:=@PySem.F.plainAttrs_list
abbrev QE:=@PySem.F.type_list_append
abbrev QF:=@PySem.F.slot_list_append
abbrev QG:=@List.map_cons
abbrev QH:=@Int.toNat_natCast
abbrev QI:=@List.not_mem_nil
abbrev QJ:=@List.mem_singleton
abbrev QK:=@List.nodup_cons
abbrev QL:=@Nat.zero_add
abbrev QM:=@Nat.le_succ_of_le
local macro_rules | `(⋯) => `(by symm)
local macro_rules | `(∅) => `(by decide)
namespace My
open PySem
noncomputable def zu0:Stmt->Bool
 |.Assign [.Name x _] _ _=>!(x == "__name__")|_=>true
noncomputable abbrev pg:Program:=PySem.Challenge.rw_tryweir_k38_events_refused.prog
def vw:Program:={ pg with main:={ pg.main with body:=pg.main.body.filter zu0 } }
end My
section
open PySem PySem.W PyProof.Rows
set_option maxHeartbeats 0
namespace My
def tR(tb:String->Option Builtin)(p:Program)(w:World)(m:Nat)(a:Option Value):Nat->SharedT->Thread->Option SharedT
 |0,_,_=>none|n+1,s,t=>match through t with
  |true=>some s|false=>match stepOk m a t with
   |false=>none|true=>match stepT (denote tb) p w s t with
    |some (s',t')=>tR tb p w m a n s' t'|none=>none
theorem tR_of{tb p w m a}:∀{n s s' t},tR tb p w m a n s t=some s'->topRun tb p w m a n s.abs t=some s'.abs
 |0,_,_,_,h=>by cases h|n+1,s,s',t,h=>by
  unfold tR at h;unfold topRun;cases e:through t with
  |true=>rw[e]at h;cases h;rfl|false=>
   rw[e]at h;cases k:stepOk m a t with
   |false=>rw[k]at h;cases h|true=>rw[k]at h;cases q:stepT (denote tb) p w s t with|none=>rw[q]at h;cases h|some r=>obtain⟨s2,t2⟩:=r;rw[q]at h;rw[stepT_spec q];exact tR_of h
def tL:List Obj->Nat->BT->Option BT
 |[],_,t=>some t|o::l,n,t=>match ((t.ins n o).get n).isSome with
  |true=>tL l (n+1) (t.ins n o)|false=>none
theorem tL_of{life}:∀{l n t u},tL l n t=some u->absHeap u (n+l.length) life=⟨(absHeap t n life).objs++l.toArray,life⟩
 |[],n,t,u,h=>by cases h;simp[absHeap]|o::l,n,t,u,h=>by
  unfold tL at h;cases e:((t.ins n o).get n).isSome with
  |false=>rw[e]at h;cases h|true=>rw[e]at h;have k:=tL_of (life:=life) h;rw[absHeap_ins e]at k;rw[List.length_cons,show n+(l.length+1)=n+1+l.length by symm,k];simp[Heap.push]
noncomputable section
abbrev xT(s:Shared):Bool:=xlAt My.vw [] s && recOk (RowW.records (OpenRow.toRowW (OpenLaw.row PySem.Challenge.rw_tryweir_k38_events_refused))) s
abbrev oM:List Str:=[]
abbrev oL:=looseW vw oM
abbrev oT(w:World):Option (Shared × SharedT):=(fencedOpening treeTable pg w 40000).bind λs=>(tL s.heap.objs.toList 0 .nil).bind λt=>(tR treeTable pg w s.heap.objs.size (s.heap.nsMap mainGlobals "__annotations__") 40000 ⟨t,s.heap.objs.size,s.heap.life,s.gens,s.drawn,s.toks,s.os⟩ (topStub pg)).map λu=>(s,u)
abbrev oQ{α:Type}(w:World)(f:Shared->α)(a:α):Prop:=(oT w).map (λx=>f x.2.abs)=some a
end
theorem hq0(w:World):(oT w).map (λx=>(x.1.heap.isNs mainGlobals&&x.1.gens.size==0,staticsOk (importedModules pg.main.body) x.1.heap x.2.abs.heap&&namesBound pg x.2.abs.heap&&gensDone x.2.abs&&laidKept x.1.heap x.2.abs.heap))=some (true,true):=by kernel_rfl
theorem hq1(w:World):oQ w (λs=>seen ((recsOf vw).map (·.name)) (ownsOf vw) [] {heap:=s.heap,drawn:=s.drawn,toks:=s.toks,os:=s.os}) (expectedOf vw):=by kernel_rfl
theorem hq2(w:World):oQ w (λs=>(s.heap.bltView,s.heap.keysOk oL ((recsOf vw).map (·.name)) ((litsOf vw).map (·.1)) ((clssOf vw oL).map (·.name))&&s.heap.accountedOkI (importedModules pg.main.body)&&s.heap.isNs mainGlobals&&s.heap.isNs builtinsNs&&tablesOk vw s.heap&&xT s&&if true=true then s.gens.size==0 else !leftWithCleanup s.gens)) (bltViewBooted,true):=by kernel_rfl
theorem hq3(w:World):oQ w (λs=>(tabsOk vw s,pinSeenD vw (drecsOf vw) s)) (true,pinGoodD (drecsOf vw)):=by kernel_rfl
theorem hq4(w:World):oQ w (λs=>(plainSeenE vw oL s,plainSeenD vw oM s,wideSeen vw s,clsSeenW vw oM s)) (plainGoodE vw oL,plainGoodD vw oM,wideGood vw,clsGoodW vw oM):=by kernel_rfl
theorem oF{α:Type}{f:Shared->α}{a:α}(w:World)(k:oQ w f a):(openEnds treeTable pg w 40000).map (λs=>(openSeen vw oM (importedModules pg.main.body) xT true s,f s))=some (openGood vw oM,a):=by
 have h0:=hq0 w;have h1:=hq1 w;have h2:=hq2 w;have h3:=hq3 w;have h4:=hq4 w;unfold oQ at *;cases e:oT w with
 |none=>rw[e]at h0;cases h0|some x=>
  obtain⟨s,u⟩:=x;rw[e]at h0 h1 h2 h3 h4 k;have⟨g0,g1⟩:=Prod.mk.inj (Option.some.inj h0);have h1:=Option.some.inj h1;have⟨h2,h5⟩:=Prod.mk.inj (Option.some.inj h2);have⟨h3,h6⟩:=Prod.mk.inj (Option.some.inj h3);have⟨h4,h7⟩:=Prod.mk.inj (Option.some.inj h4);have⟨h7,h8⟩:=Prod.mk.inj h7;have⟨h8,h9⟩:=Prod.mk.inj h8;have k:=Option.some.inj k;obtain⟨s',a1,e⟩:=Option.bind_eq_some_iff.mp e;obtain⟨t,a2,e⟩:=Option.bind_eq_some_iff.mp e;obtain⟨u',a3,e⟩:=Option.map_eq_some_iff.mp e;cases e;have b:=tL_of (life:=s.heap.life) a2;rw[Nat.zero_add,Array.length_toList]at b;have b:absHeap t s.heap.objs.size s.heap.life=s.heap:=b.trans (by simp[absHeap,BT.list]);have r:=tR_of a3;unfold SharedT.abs at r;dsimp only at r;rw[b]at r;have o:openEnds treeTable pg w 40000=some u.abs:=by unfold openEnds;rw[a1];show topFrom treeTable pg w 40000 s=_;unfold topFrom;rw[g0];dsimp only;rw[show topRun treeTable pg w s.heap.objs.size (s.heap.nsMap mainGlobals "__annotations__") 40000 s (topStub pg)=some u.abs from r];dsimp only[Option.bind_some];rw[g1]
  rw[o];exact congrArg some (Prod.ext (Prod.ext h1 (Prod.ext h2 (Prod.ext h5 (Prod.ext h3 (Prod.ext h6 (Prod.ext h4 (Prod.ext h7 (Prod.ext h8 h9)))))))) k)
end My
local macro_rules | `(tactic| o_head $H) => `(tactic| refine holds_open (q := My.vw) (loose := My.oM) (Xt := My.xT) (XP := XL My.vw []) (Yf := Hook.obs $H) (Ya := Hook.val $H) (YP := Hook.says $H) (N := 40000) (λw => My.oF w (by kernel_rfl)) (Hook.of $H) (Hook.keeps $H) (λs e => xl_of s (Bool.and_eq_true_iff.mp e).1) XL.keeps (by rfl) (by rfl) (by rfl) (λs e => recFacts_of (Bool.and_eq_true_iff.mp e).2) (by rfl) (by first | assumption | decide +kernel) (by decide +kernel) ⟨rfl, rfl, rfl, rfl, rfl, by decide +kernel⟩ ?hw ?hc)
noncomputable def My.hdD:Σ' P:Prop,P->PySem.Challenge.rw_tryweir_k38_events_refused.Holds:=by
 refine⟨?P,λhc=>?_⟩
 rotate_left
 .w_on;o_law;k_head;(case hw=>w_witness2)
  exact hc
end
namespace L2
open PySem PySem.Spec PyProof.Rows
abbrev Key:=Sum Int Str
noncomputable def zeS:Key->Value->Bool
 |.inl k,v=>Value.isInt k v|.inr x,v=>Value.isStrOf x v
noncomputable def zuY(w:World):Key->Int
 |.inl k=>hashInt k|.inr x=>hashStr w x
theorem zU:∀{k:Key} {v:Value},zeS k v=true->(∃i t,k=Sum.inl i/\v=Value.int i t)\/(∃x t,k=Sum.inr x/\v=Value.str x t)
 |.inl i,v,h=>by obtain⟨t,e⟩:=Value.isInt_shape (k:=i) (v:=v) h;exact .inl ⟨i,t,rfl,e⟩
 |.inr x,v,h=>by obtain⟨t,e⟩:=Value.isStrOf_shape (x:=x) (v:=v) h;exact .inr ⟨x,t,rfl,e⟩
theorem zmT(i:Int)(t:Tok):zeS (.inl i) (.int i t)=true:=by simp[zeS,Value.isInt]
theorem zmS(x:Str)(t:Tok):zeS (.inr x) (.str x t)=true:=by simp[zeS,Value.isStrOf]
theorem zr5(a b:Int):decide ((Sum.inl a:Key)=Sum.inl b)=(a==b):=by
 by_cases e:a=b
 .subst e;simp
 .have h:¬(Sum.inl a:Key)=Sum.inl b:=λq=>e (Sum.inl.inj q);rw[Qx h];exact(beq_eq_false_iff_ne.mpr e).symm
theorem zr2(a b:Str):decide ((Sum.inr a:Key)=Sum.inr b)=decide (a=b):=by
 by_cases e:a=b
 .subst e;simp
 .have h:¬(Sum.inr a:Key)=Sum.inr b:=λq=>e (Sum.inr.inj q);rw[Qx h,Qx e]
def zr4(a:Int)(b:Str):decide ((Sum.inl a:Key)=Sum.inr b)=false:=Qx (λq=>nomatch q)
def zr3(a:Str)(b:Int):decide ((Sum.inr a:Key)=Sum.inl b)=false:=Qx (λq=>nomatch q)
def zR(prog:Program)(w:World):PySem.KeyKind prog w Key where
 is:=zeS
 hash:=zuY w
 inj:=λv a b ha hb=>by
  rcases zU ha with⟨i,t,rfl,rfl⟩ | ⟨x,t,rfl,rfl⟩
  .rcases zU hb with⟨j,u,rfl,e⟩ | ⟨y,u,rfl,e⟩
   .injection e with e1 _;rw[e1]
   .exact nomatch e
  .rcases zU hb with⟨j,u,rfl,e⟩ | ⟨y,u,rfl,e⟩
   .exact nomatch e
   .injection e with e1 _;rw[e1]
 byValue:=λk v h=>by rcases zU h with⟨i,t,rfl,rfl⟩ | ⟨x,t,rfl,rfl⟩<;>rfl
 pyHash:=λhv h=>by
  rcases zU hv with⟨i,t,rfl,rfl⟩ | ⟨x,t,rfl,rfl⟩
  .exact wpAny_pyHash_int h
  .exact wpAny_pyHash_str h
 eqBool:=λhu hv h=>by
  rcases zU hu with⟨i,t,rfl,rfl⟩ | ⟨x,t,rfl,rfl⟩
  .rcases zU hv with⟨j,u,rfl,rfl⟩ | ⟨y,u,rfl,rfl⟩
   .rw[zr5]at h;exact wpAny_eqBool_int h
   .rw[zr4]at h;exact SeqAt.EqAt.int_str i t y u _ _ _ _ h
  .rcases zU hv with⟨j,u,rfl,rfl⟩ | ⟨y,u,rfl,rfl⟩
   .rw[zr3]at h;exact SeqAt.EqAt.str_int x t j u _ _ _ _ h
   .rw[zr2]at h;exact wpAny_eqBool_str h
 «strs»:=λk x t v h=>by
  rcases zU h with⟨i,u,rfl,e⟩ | ⟨y,u,rfl,e⟩
  .exact nomatch e
  .injection e with e1 _;subst e1;cases v<;>rfl
def zkb(prog:Program)(w:World)(i:Int)(t:Tok):(zR prog w).is (.inl i) (.int i t)=true:=zmT i t
def zka(prog:Program)(w:World)(x:Str)(t:Tok):(zR prog w).is (.inr x) (.str x t)=true:=zmS x t
inductive V where
 |non | bl (b:Bool) | int (i:Int) | str (x:Str) | byt (b:Array UInt8) | flt (b:UInt64) | ref (a:Addr) | ty (n:String)
 deriving DecidableEq
noncomputable def RelV:V->Value->Prop
 |.non,u=>u=Value.none|.bl b,u=>u=Value.bool b|.int i,u=>∃t,u=Value.int i t|.str x,u=>∃t,u=Value.str x t|.byt b,u=>∃t,u=Value.bytes b t|.flt b,u=>∃t,u=Value.float b t|.ref a,u=>u=Value.ref a|.ty n,u=>u=Value.type n
abbrev Vals:List V->List Value->Prop:=Paired RelV
def Vals.length(r:Vals xs us):xs.length=us.length:=Paired.length r
theorem Vals.get:∀{xs:List V} {us:List Value} {i:Nat} {x:V},Vals xs us->xs[i]?=some x->∃u,us[i]?=some u/\RelV x u
 |_,_,_,_,.nil,e=>by simp at e|_,_,0,_,.cons r _,e=>by simp at e;subst e;exact⟨_,rfl,r⟩|_,_,i+1,x,.cons _ t,e=>by obtain⟨u,h1,h2⟩:=Vals.get (i:=i) (x:=x) t (by simpa using e);exact⟨u,by simpa using h1,h2⟩
theorem Vals.set(r:RelV x u):∀{xs:List V} {us:List Value} (i:Nat),Vals xs us->Vals (xs.set i x) (us.set i u)
 |_,_,_,.nil=>.nil|_,_,0,.cons _ t=>.cons r t|_,_,i+1,.cons q t=>.cons q (Vals.set r i t)
theorem Vals.append:∀{xs ys:List V} {us ws:List Value},Vals xs us->Vals ys ws->Vals (xs++ys) (us++ws)
 |_,_,_,_,.nil,s=>s|_,_,_,_,.cons r t,s=>.cons r (Vals.append t s)
theorem Vals.take:∀{xs:List V} {us:List Value} (n:Nat),Vals xs us->Vals (xs.take n) (us.take n)
 |_,_,0,_=>.nil|_,_,_+1,.nil=>.nil|_,_,n+1,.cons r t=>.cons r (Vals.take n t)
theorem Vals.drop:∀{xs:List V} {us:List Value} (n:Nat),Vals xs us->Vals (xs.drop n) (us.drop n)
 |_,_,0,r=>r|_,_,_+1,.nil=>.nil|_,_,n+1,.cons _ t=>Vals.drop n t
def RelO:Option V->Option Value->Prop
 |some v,some u=>RelV v u|none,none=>True|_,_=>False
def KV:List (κ × V)->List (κ × Value)->Prop:=Paired λ(p:κ × V) (q:κ × Value)=>p.1=q.1/\RelV p.2 q.2
noncomputable def kV:Key->V
 |.inl i=>.int i|.inr x=>.str x
inductive HO where
 |lst (xs:List V)
 |tup (xs:List V)
 |dK (kvs:List (Key × V)) | dT (kvs:List (List Key × V)) | dJ (Jq:Addr->List Key->Prop) (kvs:List (List Key × V))
 |set (S:Int->Bool) (n:Nat)
 |ins (C dx:Addr) (fs:List (Str × V))
 |own (x:Addr)
 |xd (fs:List (Str × V))
 |met (f x:Addr)
 |rng (lo hi:Int)
 |frz (o:Obj) (u:HO)
 |tbl (ps:Array Value)
 |ext (φ:Heap->Prop)
abbrev Hp:=Addr->Option HO
noncomputable def upd(H:Hp)(a:Addr)(o:HO):Hp:=λb=>if b=a then some o else H b
theorem qA:upd H a o a=some o:=by unfold upd;rw[QA rfl]
theorem yk(h:b ≠ a):upd H a o b=H b:=by unfold upd;rw[QB h]
theorem zdP{H:Hp}(h:H a=some o)(h':H b=some u)(d:o ≠ u):a ≠ b:=by intro e;subst e;rw[h]at h';exact d (Qd h')
theorem zF{H:Hp}(h:H a=some o)(h':H b=none):a ≠ b:=by intro e;subst e;rw[h]at h';cases h'
def NoDict(h:Heap)(a:Addr):Prop:=∀o,h.get? a=some o->o.dict=none
theorem NoDict.new{h:Heap}:NoDict (h.push { cls:=.type "tuple",data:=.seq its n }) h.objs.size:=λo e=>by rw[Ql _ rfl]at e;cases e;rfl
section
variable (P:Program)(w:World)
def ObjOk(H:Hp)(h:Heap)(a:Addr):HO->Prop
 |.lst xs=>xs.length<=sizeLine/\∃(its:List Value) (n:Nat),Vals xs its/\h.get? a=some { cls:=.type "list",data:=.seq its.toArray n }|.tup xs=>xs.length<=sizeLine/\∃its:List Value,Vals xs its/\IsTup h a its.toArray/\NoDict h a|.dK kvs=>kvs.length<=sizeLine/\(a==sysModules)=false/\∃vs,KV kvs vs/\h.DictOf (zR P w) a vs|.dT kvs=>kvs.length<=sizeLine/\(a==sysModules)=false/\∃xs:List (List Key × Addr × Value),
   Paired (λ(p:List Key × V) (q:List Key × Addr × Value)=>p.1=q.1/\H q.2.1=some (.tup (p.1.map kV))/\RelV p.2 q.2.2) kvs xs /\
   ∃o es ep,h.get? a=some o/\o.ExactDict/\o.data = .dict es ep/\es.toList=xs.map (entryOfKey (tupleKind (zR P w)))/\(xs.map (·.1)).Nodup
 |.dJ Jq kvs=>kvs.length<=sizeLine/\(a==sysModules)=false/\∃xs:List (List Key × Addr × Value),
   Paired (λ(p:List Key × V) (q:List Key × Addr × Value)=>p.1=q.1/\(H q.2.1=some (.tup (p.1.map kV))\/Jq q.2.1 p.1)/\RelV p.2 q.2.2) kvs xs /\
   ∃o es ep,h.get? a=some o/\o.ExactDict/\o.data = .dict es ep/\es.toList=xs.map (entryOfKey (tupleKind (zR P w)))/\(xs.map (·.1)).Nodup
 |.set S n=>h.SetOf (intKind P w) a S n|.ins C dx fs=>H dx=some (.own a)/\fs.length<=1000/\dx ≠ a/\h.get? a=some (PySem.W.instObj C dx) /\
   ∃mA,h.Ns1 dx mA/\(∀f,RelO (fs.lookup f) (mA f))/\PySem.Within mA (fs.map (·.1))
 |.own _=>∃o,h.get? a=some o|.xd fs=>∃mA,h.Ns1 a mA/\∀f,RelO (fs.lookup f) (mA f)|.rng lo hi=>∃t u v,h.get? a=some { cls:=.type "range",data:=.fields #[.int lo t,.int hi u,.int 1 v] }|.frz o u=>h.get? a=some o/\ObjOk H h a u|.tbl ps=>h.get? a=some { cls:=.none,data:=.fields ps }|.met f x=>h.get? a=some (PySem.W.methodObj (.ref f) (.ref x))|.ext φ=>φ h/\(∃o,h.get? a=some o)/\∀h1 h2:Heap,φ h1->(∀o,h1.get? a=some o->h2.get? a=some o)->φ h2
def HOk(H:Hp)(h:Heap):Prop:=∀a o,H a=some o->ObjOk P w H h a o
end
section
variable     {a:Addr} 
theorem ObjOk.lt(x:ObjOk P w H h a o):a<h.objs.size:=by cases o with|lst xs=>obtain⟨_,_,_,_,e⟩:=x;exact Qe e|tup xs=>obtain⟨_,_,_,p,_⟩:=x;exact p.lt|dK kvs=>obtain⟨_,_,_,_,o,_,_,e,_⟩:=x;exact Qe e|dT kvs=>obtain⟨_,_,_,_,o,_,_,e,_⟩:=x;exact Qe e|dJ Jq kvs=>obtain⟨_,_,_,_,o,_,_,e,_⟩:=x;exact Qe e|set S n=>obtain⟨o,_,_,_,e,_⟩:=x;exact Qe e|ins C dx fs=>obtain⟨_,_,_,e,_⟩:=x;exact Qe e|own y=>obtain⟨_,e⟩:=x;exact Qe e|xd fs=>obtain⟨_,⟨_,_,_,e,_⟩,_⟩:=x;exact Qe e|rng lo hi=>obtain⟨_,_,_,e⟩:=x;exact Qe e|frz ob u=>obtain⟨e,_⟩:=x;exact Qe e|tbl ps=>exact Qe (show h.get? a=some _ from x)|met f y=>exact Qe (show h.get? a=some _ from x)|ext φ=>obtain⟨_,⟨_,e⟩,_⟩:=x;exact Qe e
theorem Paired.mapP:∀{l₁:List α} {l₂:List β},Paired F l₁ l₂->(∀a b,F a b->G a b)->Paired G l₁ l₂
 |_,_,.nil,_=>.nil|_,_,.cons r t,f=>.cons (f _ _ r) (Paired.mapP t f)
theorem ObjOk.stay(x:ObjOk P w H h a o)(k:∀b u,(b=a\/H b=some (.own a))->h.get? b=some u->h'.get? b=some u)
  (ho:∀b,H b=some (.own a)->H' b=some (.own a)) (ht:∀b xs,H b=some (.tup xs)->H' b=some (.tup xs)):ObjOk P w H' h' a o:=by
 induction o with
 |lst xs=>obtain⟨z,its,n,r,e⟩:=x;exact⟨z,its,n,r,k _ _ (.inl rfl) e⟩|tup xs=>obtain⟨z,its,r,⟨ob,e,c⟩,nd⟩:=x;exact⟨z,its,r,⟨ob,k _ _ (.inl rfl) e,c⟩,λo q=>nd o (by rw[k _ _ (.inl rfl) e]at q;rw[e];exact q)⟩|dK kvs=>obtain⟨z,y,vs,r,ob,es,ep,e,c⟩:=x;exact⟨z,y,vs,r,ob,es,ep,k _ _ (.inl rfl) e,c⟩|dT kvs=>obtain⟨z,y,xs,r,ob,es,ep,e,c⟩:=x;exact⟨z,y,xs,Paired.mapP r λp q z=>⟨z.1,ht _ _ z.2.1,z.2.2⟩,ob,es,ep,k _ _ (.inl rfl) e,c⟩
 |dJ Jq kvs=>obtain⟨z,y,xs,r,ob,es,ep,e,c⟩:=x;exact⟨z,y,xs,Paired.mapP r λp q z=>⟨z.1,z.2.1.imp (ht _ _) λy=>y,z.2.2⟩,ob,es,ep,k _ _ (.inl rfl) e,c⟩
 |set S n=>obtain⟨ob,es,ep,t,e,c⟩:=x;exact⟨ob,es,ep,t,k _ _ (.inl rfl) e,c⟩|ins C dx fs=>obtain⟨d,z,ne,e,mA,⟨od,es,ep,e2,c⟩,r⟩:=x;exact⟨ho _ d,z,ne,k _ _ (.inl rfl) e,mA,⟨od,es,ep,k _ _ (.inr d) e2,c⟩,r⟩
 |own y=>obtain⟨ob,e⟩:=x;exact⟨ob,k _ _ (.inl rfl) e⟩|xd fs=>obtain⟨mA,⟨od,es,ep,e,c⟩,r⟩:=x;exact⟨mA,⟨od,es,ep,k _ _ (.inl rfl) e,c⟩,r⟩|rng lo hi=>obtain⟨t,u,v,e⟩:=x;exact⟨t,u,v,k _ _ (.inl rfl) e⟩|frz ob u ih=>obtain⟨e,q⟩:=x;exact⟨k _ _ (.inl rfl) e,ih q⟩|tbl ps=>have e:h.get? a=some { cls:=.none,data:=.fields ps }:=x;show h'.get? a=some { cls:=.none,data:=.fields ps };exact k a _ (.inl rfl) e
 |met f y=>have e:h.get? a=some (PySem.W.methodObj (.ref f) (.ref y)):=x;show h'.get? a=some (PySem.W.methodObj (.ref f) (.ref y));exact k a _ (.inl rfl) e
 |ext φ=>obtain⟨p,⟨o,e⟩,st⟩:=x;exact⟨st _ _ p λo q=>k _ _ (.inl rfl) q,⟨o,k _ _ (.inl rfl) e⟩,st⟩
def HOk.lt(x:HOk P w H h)(e:H a=some o):a<h.objs.size:=(x a o e).lt
theorem HOk.fresh(x:HOk P w H h)(e:h.objs.size<=a):H a=none:=by cases q:H a with|none=>rfl|some u=>exact absurd (Q5 (x.lt q) e) (Qo _)
theorem HOk.kept(x:HOk P w H h)(k:∀b u,h.get? b=some u->h'.get? b=some u):HOk P w H h':=λa o e=>(x a o e).stay (λb u _ q=>k b u q) (λ_ q=>q) λ_ _ q=>q
theorem HOk.laid(x:HOk P w H h)(k:∀b u,h.get? b=some u->h'.get? b=some u)(hp:h.objs.size<=a)(new:ObjOk P w (upd H a o) h' a o):HOk P w (upd H a o) h':=λb u e=>by
 have hn:=x.fresh hp
 by_cases hb:b=a
 .subst hb;rw[qA]at e;cases e;exact new
 .rw[yk hb]at e;exact(x b u e).stay (λc v _ q=>k c v q) (λc q=>by rw[yk (zF q hn)];exact q) λc xs q=>by rw[yk (zF q hn)];exact q
end
def Rd(H:Hp)(a:Addr)(u:HO):Prop:=H a=some u\/∃o,H a=some (.frz o u)
theorem Rd.ok(r:Rd H a u)(x:HOk P w H h):ObjOk P w H h a u:=by
 rcases r with r | ⟨o,r⟩
 .exact x a u r
 .obtain⟨_,q⟩:=x a _ r;exact q
noncomputable def Mut:Option HO->Prop
 |some (.lst _)=>True|some (.dK _)=>True|some (.dT _)=>True|some (.dJ _ _)=>True|some (.set _ _)=>True|some (.ins _ _ _)=>True|some (.ext _)=>True|_=>False
section
theorem HOk.write(ok:HOk P w H h)(mu:Mut (H x))(he:e=x\/H e=some (.own x))(k:∀b u,b ≠ e->h.get? b=some u->h'.get? b=some u)(heo:∃u,h'.get? e=some u)
  (new:ObjOk P w (upd H x o') h' x o'):HOk P w (upd H x o') h':=λb u q=>by
 have nown:∀c y,H c=some (.own y)->c ≠ x:=λc y r z=>by subst z;rw[r]at mu;exact mu
 have ntup:∀c xs,H c=some (.tup xs)->c ≠ x:=λc xs r z=>by subst z;rw[r]at mu;exact mu
 by_cases hb:b=x
 .subst hb;rw[qA]at q;cases q;exact new
 .rw[yk hb]at q
  by_cases hbe:b=e
  .have q':H b=some (.own x):=by
    rcases he with z | z
    .exact absurd (hbe.trans z) hb
    .rw[hbe];exact z
   rw[q]at q';cases q'
   obtain⟨v,hv⟩:=heo;exact⟨v,by rw[hbe];exact hv⟩
  .refine(ok b u q).stay (λc v hc r=>k c v ?_ r) (λc r=>by rw[yk (nown c b r)];exact r) λc xs r=>by rw[yk (ntup c xs r)];exact r
   rcases hc with rfl | hc
   .exact hbe
   .rintro rfl;rcases he with z | z
    .exact nown c b hc z
    .rw[hc]at z;cases z;exact hb rfl
end
structure Un (fs ex:List Addr) (H H':Hp) (h h':Heap):Prop where
 keep:∀b o,h.get? b=some o->H b=none->b ∉ fs->b ∉ ex->h'.get? b=some o
 slot:∀b o,h.get? b=some o->H b=none->b ∈ fs->b ∉ ex->∃sl,h'.get? b=some { o with slots:=sl }
 free:∀b o,h.get? b=some o->H b=none->b ∉ ex->H' b=none
 there:∀b o,h.get? b=some o->b ∉ ex->∃o',h'.get? b=some o'
 tups:∀b xs,H b=some (.tup xs)->H' b=some (.tup xs)
 frzs:∀b o u,H b=some (.frz o u)->H' b=some (.frz o u)
 tbls:∀b ps,H b=some (.tbl ps)->∃more,H' b=some (.tbl (ps++more))
section
variable   {h h1 h2 h':Heap} {a x e:Addr} 
theorem Un.any(u:Un fs ex H H1 h h1){b:Addr}{ob:Obj}(q:h.get? b=some ob)(n:H b=none)(hx:b ∉ ex):∃sl,h1.get? b=some { ob with slots:=sl }:=by
 by_cases hb:b ∈ fs
 .exact u.slot b ob q n hb hx
 .exact⟨ob.slots,u.keep b ob q n hb hx⟩
theorem Un.kept(k:∀b u,h.get? b=some u->h'.get? b=some u):Un fs ex H H h h':=
 ⟨λb ob q _ _ _=>k b ob q,λb ob q _ _ _=>⟨ob.slots,k b ob q⟩,λ_ _ _ n _=>n,λb ob q _=>⟨ob,k b ob q⟩,λ_ _ q=>q,λ_ _ _ q=>q,λ_ ps q=>⟨#[],by rw[q];simp⟩⟩
def Un.refl:Un fs ex H H h h:=Un.kept λ_ _ q=>q
theorem Un.laid(k:∀b u,h.get? b=some u->h'.get? b=some u)(hp:h.objs.size<=a)(hn:H a=none):Un fs ex H (upd H a o) h h' where
 keep:=λb u q _ _ _=>k b u q
 slot:=λb u q _ _ _=>⟨u.slots,k b u q⟩
 free:=λb u q n _=>by rw[yk (Qk (Q5 (Qe q) hp))];exact n
 there:=λb u q _=>⟨u,k b u q⟩
 tups:=λb xs q=>by rw[yk (zF q hn)];exact q
 frzs:=λb u xs q=>by rw[yk (zF q hn)];exact q
 tbls:=λb ps q=>⟨#[],by rw[yk (zF q hn),q];simp⟩
theorem Un.write(mu:Mut (H x))(he:e=x\/H e=some (.own x))(k:∀b u,b ≠ e->h.get? b=some u->h'.get? b=some u)(heo:∃u,h'.get? e=some u):Un fs ex H (upd H x o) h h':=by
 have hx:∀b,H b=none->b ≠ x:=λb n z=>by subst z;rw[n]at mu;exact mu
 have hb:∀b,H b=none->b ≠ e:=λb n z=>by
  subst z;rcases he with r | r
  .exact hx b n r
  .rw[n]at r;cases r
 have hm:∀b u,H b=some u->¬Mut (some u)->b ≠ x:=λb u q nm z=>by subst z;rw[q]at mu;exact nm mu
 refine⟨λb u q n _ _=>k b u (hb b n) q,λb u q n _ _=>⟨u.slots,k b u (hb b n) q⟩,λb u q n _=>by rw[yk (hx b n)];exact n,λb u q _=>?_,
  λb xs q=>by rw[yk (hm b _ q λz=>z)];exact q,λb u xs q=>by rw[yk (hm b _ q λz=>z)];exact q,λb ps q=>⟨#[],by rw[yk (hm b _ q λz=>z),q];simp⟩⟩
 by_cases hbe:b=e
 .subst hbe;exact heo
 .exact⟨u,k b u hbe q⟩
end
noncomputable def trk(h:Heap)(H:Hp):List Addr:=(List.range h.objs.size).filter λa=>(H a).isSome
def zdS(h:Heap)(H:Hp):Heap:=PySem.W.hideAll h (trk h H)
def zm1(h:Heap)(H:Hp):(zdS h H).objs.size=h.objs.size:=PySem.W.hideAll_size _ _
theorem zop(e:h.get? b=some o)(n:H b=none):(zdS h H).get? b=some o:=
 PySem.W.hideAll_get _ e λhm=>by have q:(H b).isSome=true:=(mem_filter.mp hm).2;rw[n]at q;simp at q
theorem zpQ(e:(zdS h H).get? b=some o):h.get? b=some o/\H b=none:=by
 have e':h.get? b=some o:=PySem.W.of_hideAll (trk h H) e;refine⟨e',?_⟩;cases q:H b with
 |none=>rfl|some x=>have hm:b ∈ trk h H:=mem_filter.mpr ⟨mem_range.mpr (Qe e'),by simp[q]⟩;have z:(zdS h H).get? b=none:=PySem.W.hideAll_none (trk h H) hm;rw[z]at e;cases e
noncomputable def zqN(g h:Heap)(L:Addr):List (Addr × Obj):=(List.range h.objs.size).filterMap λa=>if a=L\/(g.get? a).isSome=true then none else(h.get? a).map λo=>(a,o)
def rest(g h:Heap)(L d:Addr):List (Addr × Obj):=(zqN g h L).filter λp=>decide (p.1 ≠ d)
structure Mod (K:Frag) (mg:Str->Option Value) (base:Heap):Prop where
 kin:K.In base
 glob:base.Ns mainGlobals mg
 blt:∃mb,base.Ns builtinsNs mb/\∀x:Str,x ≠ "__name__"->mb x=bootBuiltins x
 nolimit:base.NoLimit
structure Cx where
 prog:Program
 w:World
 K:Frag
 mg:Str->Option Value
 base:Heap
 A:Around
 N:List Str
 s₀:Shared
 H₀:Hp
 env:Env
 outer:List Env
 stack:List Env
 ex:List Addr
 fn:Str->Bool
 calm:Bool
 pn:List (Addr × Obj)
 xe:Value->Shared->Prop
noncomputable def frs(l:List Env):List Addr:=l.filterMap (·.frame)
abbrev Cx.fs(X:Cx):List Addr:=frs X.outer
def Vis(sc:Scope)(x:Str):Prop:=sc.names.lookup x=some .local\/sc.names.lookup x=some .cell\/sc.names.lookup x=some .free
def Loc(sc:Scope)(x:Str):Prop:=sc.names.lookup x=some .local\/sc.names.lookup x=some .cell
def Look(env:Env)(h:Heap)(m:Str->Option Value)(x:Str)(u:Value):Prop:=
 (env.kindOf x=some .local/\m x=some u)\/((env.kindOf x=some .cell\/env.kindOf x=some .free)/\∃c,env.cells.lookup x=some c/\h.IsCell c (some u))
structure Cx.Ok (X:Cx):Prop where
 mod:Mod X.K X.mg X.base
 kind:X.env.scope.kind = .function
 glob:X.env.globals=mainGlobals
 blt:X.env.builtins=builtinsNs
 above:X.s₀.heap.objs.size<=X.env.locals
 inj:∀x y c,X.env.cells.lookup x=some c->X.env.cells.lookup y=some c->x=y
 has:∀x,(X.env.kindOf x=some .cell\/X.env.kindOf x=some .free)->∃c,X.env.cells.lookup x=some c
 cab:∀x c,X.fn x=true->X.env.cells.lookup x=some c->X.s₀.heap.objs.size<=c
 hd:X.calm=true->X.A.handled=none
 frames:X.A.frames=some X.stack
 stk:X.stack=X.outer\/(X.stack=X.env::X.outer/\X.env.frame=some X.env.locals)
 exf:∀b ∈ X.ex,b ≠ X.env.locals/\∀x c,X.env.cells.lookup x=some c->c ≠ b
 bs:∀b o,X.base.get? b=some o->X.s₀.heap.get? b=some o/\X.H₀ b=none
 bsz:X.base.objs.size<=X.s₀.heap.objs.size
 noex:∀b o,X.base.get? b=some o->b ∉ X.ex
 exfs:∀b ∈ X.ex,b ∉ X.fs
 funs:X.s₀.heap.FunFrames X.base X.outer
 frf:∀b ∈ X.fs,X.H₀ b=none
structure Inv (X:Cx) (ρ:List (Addr × Obj)) (J:List (Option V)) (H:Hp) (s:Shared):Prop where
 ok:X.Ok
 os:s.os=X.s₀.os
 bare:AllBare s.gens
 base:Un X.fs X.ex X.H₀ H X.s₀.heap s.heap
 loc:∃m,s.heap.Ns X.env.locals m/\∀(i:Nat) (x:Str) (v:V),X.N[i]?=some x->J[i]?=some (some v)->Vis X.env.scope x->∃u,RelV v u/\Look X.env s.heap m x u
 cell:∀x c,X.env.cells.lookup x=some c->∃v,s.heap.IsCell c v
 free:H X.env.locals=none
 freeC:∀x c,X.env.cells.lookup x=some c->H c=none
 pin:∀p ∈ X.pn++ρ,s.heap.get? p.1=some p.2/\H p.1=none/\p.1 ≠ X.env.locals/\p.1 ∉ X.fs/\∀v,p.2.data ≠ .cell v
 hok:HOk X.prog X.w H s.heap
 len:J.length=X.N.length
section
variable {X:Cx}     
theorem Cx.Ok.nofr(ok:X.Ok){b:Addr}{o:Obj}(e:X.base.get? b=some o):b ∉ X.fs:=λhb=>by have:=(ok.funs.mem hb).1;rw[e]at this;cases this
theorem Inv.bs(I:Inv X ρ J H s):∀b o,X.base.get? b=some o->s.heap.get? b=some o/\H b=none:=λb o e=>⟨I.base.keep b o (I.ok.bs b o e).1 (I.ok.bs b o e).2 (I.ok.nofr e) (I.ok.noex b o e),I.base.free b o (I.ok.bs b o e).1 (I.ok.bs b o e).2 (I.ok.noex b o e)⟩
def Inv.bk(I:Inv X ρ J H s):∀b o,X.base.get? b=some o->s.heap.get? b=some o:=λb o e=>(I.bs b o e).1
def Inv.mod(I:Inv X ρ J H s):Mod X.K X.mg X.base:=I.ok.mod
def Inv.kIn(I:Inv X ρ J H s):X.K.In s.heap:=I.ok.mod.kin.keeps I.bk
def Inv.lt(I:Inv X ρ J H s):X.env.locals<s.heap.objs.size:=let ⟨_,hn,_⟩:=I.loc;hn.lt
def Inv.sz(I:Inv X ρ J H s):X.s₀.heap.objs.size<=s.heap.objs.size:=Qj I.ok.above (Nat.le_of_lt I.lt)
theorem Inv.nofs(I:Inv X ρ J H s){a:Addr}(h:s.heap.objs.size<=a):a ∉ X.fs:=λhb=>by obtain⟨_,o,ho,_⟩:=I.ok.funs.mem hb;exact absurd (Q5 (Qe ho) (Qj I.sz h)) (Qo _)
theorem Inv.cne(I:Inv X ρ J H s):∀x c,X.env.cells.lookup x=some c->c ≠ X.env.locals:=λx c e z=>by obtain⟨v,o,ho,hd⟩:=I.cell x c e;obtain⟨m,⟨o',es,ep,ho',hd',_⟩,_⟩:=I.loc;rw[z,ho']at ho;cases ho;rw[hd']at hd;cases hd
theorem Inv.funs(I:Inv X ρ J H s):s.heap.FunFrames X.base X.outer:=by
 have all:∀(l:List Env),(∀b ∈ frs l,b ∈ X.fs)->X.s₀.heap.FunFrames X.base l->s.heap.FunFrames X.base l:=by
  intro l
  induction l with
  |nil=>intro _ _;trivial|cons env r ih=>intro hs hl;obtain⟨hk,⟨L,o,hf,hn,ho,hd⟩,hr⟩:=hl;have hL:L ∈ X.fs:=hs L (by unfold frs;rw[filterMap_cons,hf];exact mem_cons_self);obtain⟨sl,e⟩:=I.base.slot L o ho (I.ok.frf L hL) hL λz=>I.ok.exfs L z hL;exact⟨hk,⟨L,_,hf,hn,e,hd⟩,ih (λb hb=>hs b (by unfold frs;rw[filterMap_cons,hf];exact mem_cons_of_mem _ hb)) hr⟩
 exact all X.outer (λ_ hb=>hb) I.ok.funs
theorem Inv.stack(I:Inv X ρ J H s):s.heap.FunFrames X.base X.stack:=by
 rcases I.ok.stk with e | ⟨e,hf⟩
 .rw[e];exact I.funs
 .rw[e];obtain⟨m,hn,_⟩:=I.loc;refine .cons (by rw[I.ok.kind];decide) hf hn ?_ I.funs;exact Heap.get?_none_of_le (Qj I.ok.bsz I.ok.above)
theorem Inv.stkSub(I:Inv X ρ J H s):∀b ∈ frs X.stack,b ∈ X.env.locals::X.fs:=λb hb=>by
 rcases I.ok.stk with e | ⟨e,hf⟩
 .rw[e]at hb;exact mem_cons_of_mem _ hb
 .rw[e]at hb;unfold frs at hb;rw[filterMap_cons,hf]at hb;exact hb
theorem Inv.stkFree(I:Inv X ρ J H s):∀b ∈ frs X.stack,H b=none:=λb hb=>by
 rcases QC.mp (I.stkSub b hb)with e | hb
 .rw[e];exact I.free
 .obtain⟨_,o,ho,_⟩:=I.ok.funs.mem hb;exact I.base.free b o ho (I.ok.frf b hb) λz=>I.ok.exfs b z hb
theorem Inv.step{ch:List Addr}(I:Inv X ρ J H s)
  (hch:∀b ∈ ch,(b ∈ X.ex\/X.s₀.heap.objs.size<=b)/\b ≠ X.env.locals/\(∀x c,X.env.cells.lookup x=some c->c ≠ b)/\∀p ∈ X.pn++ρ,p.1 ≠ b)
  (keep:∀b o,b ≠ X.env.locals->b ∉ X.fs->b ∉ ch->s.heap.get? b=some o->H b=none->h'.get? b=some o)
  (slot:∀b o,b ≠ X.env.locals->b ∈ X.fs->b ∉ ch->s.heap.get? b=some o->H b=none->∃sl,h'.get? b=some { o with slots:=sl }) (free:∀b o,b ∉ ch->s.heap.get? b=some o->H b=none->H' b=none)
  (there:∀b o,b ∉ ch->s.heap.get? b=some o->∃o',h'.get? b=some o')
  (tups:∀b xs,H b=some (.tup xs)->H' b=some (.tup xs)) (frzs:∀b o u,H b=some (.frz o u)->H' b=some (.frz o u)) (tbls:∀b ps,H b=some (.tbl ps)->∃more,H' b=some (.tbl (ps++more)))
  (ns:∀m,s.heap.Ns X.env.locals m->h'.Ns X.env.locals m) (hok:HOk X.prog X.w H' h') (hg:AllBare g') :
  Inv X ρ J H' { s with heap:=h',gens:=g',drawn:=d',toks:=t' }:=by
 have neL:∀b o,X.s₀.heap.get? b=some o->b ≠ X.env.locals:=λb o e=>Qk (Q5 (Qe e) I.ok.above);have neC:∀b o,X.s₀.heap.get? b=some o->b ∉ X.ex->b ∉ ch:=λb o e hx hb=>by
  rcases (hch b hb).1 with z | z
  .exact hx z
  .exact absurd (Q5 (Qe e) z) (Qo _)
 have cellK:∀x c,X.env.cells.lookup x=some c->∀v,s.heap.IsCell c v->h'.IsCell c v:=λx c e v h9=>by
  obtain⟨o,ho,hd⟩:=h9;have nch:c ∉ ch:=λz=>(hch c z).2.2.1 x c e rfl
  by_cases hc:c ∈ X.fs
  .obtain⟨sl,q⟩:=slot c o (I.cne x c e) hc nch ho (I.freeC x c e);exact⟨_,q,hd⟩
  .exact⟨o,keep c o (I.cne x c e) hc nch ho (I.freeC x c e),hd⟩
 refine⟨I.ok,I.os,hg,⟨λb o e n hb hx=>?_,λb o e n hb hx=>?_,λb o e n hx=>?_,λb o e hx=>?_,λb xs e=>tups b xs (I.base.tups b xs e),λb o xs e=>frzs b o xs (I.base.frzs b o xs e),λb ps e=>?_⟩,?_,λx c e=>?_,?_,λx c e=>?_,λp hp=>?_,hok,I.len⟩
 .exact keep b o (neL b o e) hb (neC b o e hx) (I.base.keep b o e n hb hx) (I.base.free b o e n hx)
 .obtain⟨sl,e1⟩:=I.base.slot b o e n hb hx;obtain⟨sl',e2⟩:=slot b _ (neL b o e) hb (neC b o e hx) e1 (I.base.free b o e n hx);exact⟨sl',e2⟩
 .obtain⟨o',e1⟩:=I.base.there b o e hx;exact free b o' (neC b o e hx) e1 (I.base.free b o e n hx)
 .obtain⟨o',e1⟩:=I.base.there b o e hx;exact there b o' (neC b o e hx) e1
 .obtain⟨m1,e1⟩:=I.base.tbls b ps e;obtain⟨m2,e2⟩:=tbls b _ e1;exact⟨m1++m2,by rw[e2,Array.append_assoc]⟩
 .obtain⟨m,hn,hl⟩:=I.loc;refine⟨m,ns m hn,λi x v e1 e2 e3=>?_⟩;obtain⟨u,r,l⟩:=hl i x v e1 e2 e3;refine⟨u,r,?_⟩;rcases l with l | ⟨k,c,e,z⟩
  .exact .inl l
  .exact .inr ⟨k,c,e,cellK x c e _ z⟩
 .obtain⟨v,z⟩:=I.cell x c e;exact⟨v,cellK x c e v z⟩
 .obtain⟨m,⟨o,_,_,ho,_⟩,_⟩:=I.loc;exact free _ o (λz=>(hch _ z).2.1 rfl) ho I.free
 .obtain⟨v,o,ho,hd⟩:=I.cell x c e;exact free c o (λz=>(hch c z).2.2.1 x c e rfl) ho (I.freeC x c e)
 .obtain⟨e,n,ne,nf,d⟩:=I.pin p hp;have nch:p.1 ∉ ch:=λz=>(hch p.1 z).2.2.2 p hp rfl;exact⟨keep p.1 p.2 ne nf nch e n,free p.1 p.2 nch e n,ne,nf,d⟩
theorem Inv.un(I:Inv X ρ J H s)(u:Un X.fs [] H H' s.heap h')(hok:HOk X.prog X.w H' h'):Inv X ρ J H' { s with heap:=h',toks:=t' }:=by
 obtain⟨m,⟨o,es,ep,ho,r⟩,_⟩:=id I.loc;obtain⟨sl,hL⟩:=u.any ho I.free (by simp);exact I.step (g':=s.gens) (d':=s.drawn) (ch:=[]) (λ_ z=>nomatch z) (λb o _ hb _ e n=>u.keep b o e n hb (by simp)) (λb o _ hb _ e n=>u.slot b o e n hb (by simp)) (λb o _ e n=>u.free b o e n (by simp)) (λb o _ e=>u.there b o e (by simp)) u.tups u.frzs u.tbls (λm' hm=>by
  obtain⟨o',es',ep',ho',r'⟩:=hm;rw[ho]at ho';cases ho'
  exact⟨_,es',ep',hL,r'⟩) hok I.bare
theorem Inv.call(I:Inv X ρ J H s)(u:Un (frs X.stack) ch H H' s.heap h')(hok:HOk X.prog X.w H' h')(hg:AllBare g')
  (hch:∀b ∈ ch,(b ∈ X.ex\/X.s₀.heap.objs.size<=b)/\b ≠ X.env.locals/\(∀x c,X.env.cells.lookup x=some c->c ≠ b)/\∀p ∈ X.pn++ρ,p.1 ≠ b) :
  Inv X ρ J H' { s with heap:=h',gens:=g',drawn:=d',toks:=t' }:=by
 obtain⟨m,⟨o,es,ep,ho,r⟩,_⟩:=id I.loc;obtain⟨sl,hL⟩:=u.any ho I.free λz=>(hch _ z).2.1 rfl;exact I.step (ch:=ch) hch (λb o hL hb hc e n=>u.keep b o e n (λz=>(QC.mp (I.stkSub b z)).elim hL hb) hc) (λb o _ _ hc e n=>u.any e n hc) (λb o hc e n=>u.free b o e n hc) (λb o hc e=>u.there b o e hc) u.tups u.frzs u.tbls (λm' hm=>by
  obtain⟨o',es',ep',ho',r'⟩:=hm;rw[ho]at ho';cases ho'
  exact⟨_,es',ep',hL,r'⟩) hok hg
theorem Inv.turned(I:Inv X ρ J H s)(k:∀b o,b ≠ it->s.heap.get? b=some o->h'.get? b=some o)(hn:H it=none)(hL:it ≠ X.env.locals)
  (h1:it ∈ X.ex\/X.s₀.heap.objs.size<=it) (h2:∀x c,X.env.cells.lookup x=some c->c ≠ it) (h3:∀p ∈ X.pn++ρ,p.1 ≠ it):Inv X ρ J H { s with heap:=h',toks:=t' }:=by
 have nit:∀b u,H b=some u->b ≠ it:=λb u e z=>by rw[z,hn]at e;cases e
 refine I.step (g':=s.gens) (d':=s.drawn) (ch:=[it]) (λb hb=>?_) (λb o _ _ hc e _=>k b o (λz=>hc (by simp[z])) e) (λb o _ _ hc e _=>⟨o.slots,k b o (λz=>hc (by simp[z])) e⟩) (λ_ _ _ _ n=>n)
  (λb o hc e=>⟨o,k b o (λz=>hc (by simp[z])) e⟩) (λ_ _ e=>e) (λ_ _ _ e=>e) (λb ps e=>⟨#[],by rw[e];simp⟩) (λm hm=>?_) (λb u e=>?_) I.bare
 .have e:b=it:=by simpa using hb
  subst e;exact⟨h1,hL,h2,h3⟩
 .obtain⟨o,es,ep,ho,r⟩:=hm;exact⟨o,es,ep,k _ o (Ne.symm hL) ho,r⟩
 .refine(I.hok b u e).stay (λc v hc q=>k c v ?_ q) (λ_ q=>q) λ_ _ q=>q;rcases hc with z | z
  .rw[z];exact nit b u e
  .exact nit c _ z
def Inv.tok(I:Inv X ρ J H s)(t:Nat):Inv X ρ J H { s with toks:=t }:=I.un (h':=s.heap) (t':=t) Un.refl I.hok
def Inv.kept(I:Inv X ρ J H s)(k:∀b u,s.heap.get? b=some u->h'.get? b=some u):Inv X ρ J H { s with heap:=h',toks:=t' }:=I.un (Un.kept k) (I.hok.kept k)
theorem Inv.laid{a:Addr}(I:Inv X ρ J H s)(k:∀b u,s.heap.get? b=some u->h'.get? b=some u)(hp:s.heap.objs.size<=a)(new:ObjOk X.prog X.w (upd H a o) h' a o):
  Inv X ρ J (upd H a o) { s with heap:=h',toks:=t' }:=I.un (Un.laid k hp (I.hok.fresh hp)) (I.hok.laid k hp new)
theorem Inv.write(I:Inv X ρ J H s)(mu:Mut (H x))(he:e=x\/H e=some (.own x))(k:∀b u,b ≠ e->s.heap.get? b=some u->h'.get? b=some u)(heo:∃u,h'.get? e=some u)
  (new:ObjOk X.prog X.w (upd H x o) h' x o):Inv X ρ J (upd H x o) { s with heap:=h',toks:=t' }:=I.un (Un.write mu he k heo) (I.hok.write mu he k heo new)
theorem Inv.pins_of(I:Inv X ρ J H s)(h:∀p ∈ pins',s.heap.get? p.1=some p.2/\H p.1=none/\p.1 ≠ X.env.locals/\p.1 ∉ X.fs/\∀v,p.2.data ≠ .cell v):Inv X pins' J H s:=
 ⟨I.ok,I.os,I.bare,I.base,I.loc,I.cell,I.free,I.freeC,λp hp=>(mem_append.mp hp).elim (λz=>I.pin p (mem_append_left _ z)) (h p),I.hok,I.len⟩
theorem zfC{N:List Str}(hN:N.Nodup){i j:Nat}{x:Str}(a:N[i]?=some x)(b:N[j]?=some x):i=j:=by obtain⟨h1,e1⟩:=Qz.mp a;obtain⟨h2,e2⟩:=Qz.mp b;exact(List.getElem_inj hN).mp (e1.trans e2.symm)
theorem zhA(I:Inv X ρ J H s)(hN:X.N.Nodup)(hi:X.N[i]?=some x)(hx:Loc X.env.scope x)(r:RelV v u)
  (h:∀s',Inv X ρ (J.set i (some v)) H s'->(∃a,Heap.SameBut a s.heap s'.heap/\(a=X.env.locals\/X.env.cells.lookup x=some a))->Q () s') (hf:X.fn x=true\/X.env.scope.names.lookup x=some .local:=by first | exact .inl rfl | exact .inr rfl | assumption):wpAny M A (storeName X.env x u) Q E s:=by
 obtain⟨m,hn,hl⟩:=id I.loc;have hcls:(X.env.scope.kind == .class || (X.env.scope.kind == .module && X.env.locals != X.env.globals))=false:=by rw[I.ok.kind];rfl
 have hiJ:i<J.length:=by rw[I.len];exact(Qz.mp hi).1
 have cne:=I.cne;have tracked:∀{a:Addr} {h':Heap},(∃o,s.heap.get? a=some o/\H a=none)->Heap.SameBut a s.heap h'->HOk X.prog X.w H h':=λ{a h'} ha hs b ob e=>by
  obtain⟨_,_,hfree⟩:=ha;refine(I.hok b ob e).stay (λc w' hc q=>(hs.2 c ?_).trans q) (λ_ q=>q) λ_ _ q=>q;rintro rfl;rcases hc with rfl | hc
  .rw[hfree]at e;cases e
  .rw[hfree]at hc;cases hc
 rcases hx with hk | hk
 .refine wpAny_storeName_local hk hn (λh' hn' hs=>?_) hcls;obtain⟨oL,_,_,hoL,_⟩:=id hn;refine h _ ⟨I.ok,I.os,I.bare,⟨λb o e n hb hx=>?_,λb o e n hb hx=>?_,I.base.free,λb o e hx=>?_,I.base.tups,I.base.frzs,I.base.tbls⟩,⟨_,hn',λj y v' e1 e2 e3=>?_⟩,λy c e=>?_,I.free,I.freeC,λp hp=>?_,tracked ⟨oL,hoL,I.free⟩ hs,by simpa using I.len⟩ ⟨_,hs,.inl rfl⟩
  .exact(hs.2 b (Qk (Q5 (Qe e) I.ok.above))).trans (I.base.keep b o e n hb hx)
  .obtain⟨sl,e1⟩:=I.base.slot b o e n hb hx;exact⟨sl,(hs.2 b (Qk (Q5 (Qe e) I.ok.above))).trans e1⟩
  .obtain⟨o',e1⟩:=I.base.there b o e hx;exact⟨o',(hs.2 b (Qk (Q5 (Qe e) I.ok.above))).trans e1⟩
  .by_cases hj:j=i
   .subst hj;rw[hi]at e1;cases e1
    rw[List.getElem?_set_self hiJ]at e2;cases e2;exact⟨u,r,.inl ⟨hk,by simp⟩⟩
   .rw[getElem?_set_ne (Ne.symm hj)]at e2;obtain⟨u',r',q⟩:=hl j y v' e1 e2 e3;refine⟨u',r',?_⟩;rcases q with⟨k,e⟩ | ⟨k,c,e,z⟩
    .refine .inl ⟨k,?_⟩;have:y ≠ x:=λe=>hj (zfC hN e1 (e ▸ hi));simp[this,e]
    .exact .inr ⟨k,c,e,z.sameBut hs (cne y c e)⟩
  .obtain⟨w',z⟩:=I.cell y c e;exact⟨w',z.sameBut hs (cne y c e)⟩
  .obtain⟨e,n,ne,nf,d⟩:=I.pin p hp;exact⟨(hs.2 p.1 ne).trans e,n,ne,nf,d⟩
 .have hfn:X.fn x=true:=by
   rcases hf with z | z
   .exact z
   .rw[z]at hk;cases hk
  obtain⟨c,hc⟩:=I.ok.has x (.inl hk);obtain⟨w',z⟩:=I.cell x c hc;refine wpAny_storeName_cell I.ok.kind hk hc z (λh' hc' hs=>?_);obtain⟨oc,hoc,hocd⟩:=id z;refine h { s with heap:=h' } ⟨I.ok,I.os,I.bare,⟨λb o e n hb hx=>?_,λb o e n hb hx=>?_,I.base.free,λb o e hx=>?_,I.base.tups,I.base.frzs,I.base.tbls⟩,⟨m,hn.sameBut hs (Ne.symm (cne x c hc)),λj y v' e1 e2 e3=>?_⟩,λy c' e=>?_,I.free,I.freeC,λp hp=>?_,tracked ⟨oc,hoc,I.freeC x c hc⟩ hs,by simpa using I.len⟩ ⟨c,hs,.inr hc⟩
  .exact(hs.2 b (Qk (Q5 (Qe e) (I.ok.cab x c hfn hc)))).trans (I.base.keep b o e n hb hx)
  .obtain⟨sl,e1⟩:=I.base.slot b o e n hb hx;exact⟨sl,(hs.2 b (Qk (Q5 (Qe e) (I.ok.cab x c hfn hc)))).trans e1⟩
  .obtain⟨o',e1⟩:=I.base.there b o e hx;exact⟨o',(hs.2 b (Qk (Q5 (Qe e) (I.ok.cab x c hfn hc)))).trans e1⟩
  .by_cases hj:j=i
   .subst hj;rw[hi]at e1;cases e1
    rw[List.getElem?_set_self hiJ]at e2;cases e2;exact⟨u,r,.inr ⟨.inl hk,c,hc,hc'⟩⟩
   .rw[getElem?_set_ne (Ne.symm hj)]at e2;obtain⟨u',r',q⟩:=hl j y v' e1 e2 e3;refine⟨u',r',?_⟩;rcases q with q | ⟨k,c',e,z'⟩
    .exact .inl q
    .refine .inr ⟨k,c',e,z'.sameBut hs ?_⟩;rintro rfl;exact hj (zfC hN e1 (I.ok.inj _ _ _ e hc ▸ hi))
  .by_cases hcc:c'=c
   .subst hcc;exact⟨_,hc'⟩
   .obtain⟨w2,z2⟩:=I.cell y c' e;exact⟨w2,z2.sameBut hs hcc⟩
  .obtain⟨e,n,ne,nf,d⟩:=I.pin p hp;refine⟨(hs.2 p.1 ?_).trans e,n,ne,nf,d⟩;intro q;rw[q,hoc]at e;have q':oc=p.2:=Qd e;exact d w' (by rw[←q'];exact hocd)
theorem zdL(I:Inv X ρ J H s)(hN:X.N.Nodup)(hi:X.N[i]?=some x)(hx:Loc X.env.scope x)(r:RelV v u)
  (h:∀s',Inv X ρ (J.set i (some v)) H s'->Q () s') (hf:X.fn x=true\/X.env.scope.names.lookup x=some .local:=by first | exact .inl rfl | exact .inr rfl | assumption):wpAny M A (storeName X.env x u) Q E s:=
 zhA I hN hi hx r (λs' I' _=>h s' I') hf
theorem Inv.call'(I:Inv X ρ J H s)(ho:s'.os=s.os)(u:Un (frs X.stack) ch H H' s.heap s'.heap)(hok:HOk X.prog X.w H' s'.heap)(hg:AllBare s'.gens)
  (hch:∀b ∈ ch,(b ∈ X.ex\/X.s₀.heap.objs.size<=b)/\b ≠ X.env.locals/\(∀x c,X.env.cells.lookup x=some c->c ≠ b)/\∀p ∈ X.pn++ρ,p.1 ≠ b):Inv X ρ J H' s':=by
 obtain⟨h',g',d',t',o'⟩:=s';have e:o'=s.os:=ho;subst e;exact I.call (g':=g') (t':=t') (d':=d') u hok hg hch
end
abbrev XK:=Value->Option Addr->Hp->Prop
abbrev St:=List (Option V)
abbrev VK:=V->Hp->Prop
abbrev TE:=St->Hp->VK->Prop
abbrev TT:=St->Hp->(Bool->Hp->Prop)->Prop
abbrev TA:=St->Hp->(List V->Hp->Prop)->Prop
structure Ends where
 nx:St->Hp->Prop
 rt:VK
 bk:St->Hp->Prop:=λ_ _=>False
 ct:St->Hp->Prop:=λ_ _=>False
abbrev TS:=Ends->St->Hp->Prop
def EP(X:Cx)(ρ:List (Addr × Obj))(J:St)(Q:VK)(u:Value)(s':Shared):Prop:=∃v H',Inv X ρ J H' s'/\RelV v u/\Q v H'
def TP(X:Cx)(ρ:List (Addr × Obj))(J:St)(Q:Bool->Hp->Prop)(b:Bool)(s':Shared):Prop:=∃H',Inv X ρ J H' s'/\Q b H'
def AP(X:Cx)(ρ:List (Addr × Obj))(J:St)(Q:List V->Hp->Prop)(us:List Value)(s':Shared):Prop:=∃vs H',Inv X ρ J H' s'/\Vals vs us/\Q vs H'
def SP(X:Cx)(ρ:List (Addr × Obj))(D:Ends)(f:Flow)(s':Shared):Prop:=
 match f with
 |.next=>∃J' H',Inv X ρ J' H' s'/\D.nx J' H'|.brk=>∃J' H',Inv X ρ J' H' s'/\D.bk J' H'|.cont=>∃J' H',Inv X ρ J' H' s'/\D.ct J' H'|.ret u=>∃v J' H',Inv X ρ J' H' s'/\RelV v u/\D.rt v H'
def PE(X:Cx)(e:Expr)(t:TE):Prop:=
 ∀(ρ:List (Addr × Obj)) (s:Shared) (J:St) (H:Hp) (Q:VK),Inv X ρ J H s->t J H Q->wpAny .(1) X.A (eval e X.env) (EP X ρ J Q) X.xe s
def PT(X:Cx)(e:Expr)(t:TT):Prop:=
 ∀(ρ:List (Addr × Obj)) (s:Shared) (J:St) (H:Hp) (Q:Bool->Hp->Prop),Inv X ρ J H s->t J H Q->wpAny .(1) X.A (isTrue e X.env (eval e X.env)) (TP X ρ J Q) X.xe s
def PW(X:Cx)(e:Expr)(t:TT):Prop:=
 ∀(whole:Sem Value) (ρ:List (Addr × Obj)) (s:Shared) (J:St) (H:Hp) (Q:Bool->Hp->Prop),Inv X ρ J H s->t J H Q->wpAny .(1) X.A (isTrue e X.env whole) (TP X ρ J Q) X.xe s
def PW.pt(h:PW X e t):PT X e t:=h _
def PA(X:Cx)(es:List Expr)(t:TA):Prop:=
 ∀(pos:Pos) (ρ:List (Addr × Obj)) (s:Shared) (J:St) (H:Hp) (Q:List V->Hp->Prop),Inv X ρ J H s->t J H Q->wpAny .(1) X.A (spliced (backTo pos (starEach es X.env))) (AP X ρ J Q) X.xe s
def PS(X:Cx)(st:Stmt)(t:TS):Prop:=
 ∀(ρ:List (Addr × Obj)) (s:Shared) (J:St) (H:Hp) (D:Ends),Inv X ρ J H s->t D J H->wpAny .(1) X.A (exec st X.env) (SP X ρ D) X.xe s
def PSs(X:Cx)(st:List Stmt)(t:TS):Prop:=
 ∀(ρ:List (Addr × Obj)) (s:Shared) (J:St) (H:Hp) (D:Ends),Inv X ρ J H s->t D J H->wpAny .(1) X.A (execs st X.env) (SP X ρ D) X.xe s
def thn{Q':α->Shared->Prop}(h:wpAny M A t Q E s)(hQ:∀a s,Q a s->Q' a s):wpAny M A t Q' E s:=Qg h hQ λ_ _ x=>x
section
variable {X:Cx}
theorem bin(ha:PE X a ta)(hb:PE X b tb){ρ:List (Addr × Obj)}{s:Shared}{J:St}{H:Hp}{R:V->V->Hp->Prop}(I:Inv X ρ J H s)(h:ta J H λx H1=>tb J H1 λy H2=>R x y H2)
  {α:Type} {Q:α->Shared->Prop} {f:Value->Value->Sem α}
  (hf:∀v u s2 x y H2,Inv X ρ J H2 s2->RelV x v->RelV y u->R x y H2->wpAny .(1) X.A (f v u) Q X.xe s2) :
  wpAny .(1) X.A (eval a X.env) (λv s₁=>wpAny .(1) X.A (eval b X.env) (λu s₂=>wpAny .(1) X.A (f v u) Q X.xe s₂) X.xe s₁) X.xe s:=by
 refine thn (ha ρ s J H _ I h) λv s1 h9=>?_;obtain⟨x,H1,I1,r1,q1⟩:=h9;refine thn (hb ρ s1 J H1 _ I1 q1) λu s2 h9=>?_;obtain⟨y,H2,I2,r2,q2⟩:=h9;exact hf v u s2 x y H2 I2 r1 r2 q2
noncomputable def zlD(i:Nat):TE:=λJ H Q=>∃v,J[i]?=some (some v)/\Q v H
noncomputable def tC(v:V):TE:=λ_ H Q=>Q v H
theorem zi5{pos:Pos}(hN:X.N[i]?=some x)(hv:Vis X.env.scope x)(hd:(x==("__debug__":Str))=false:=by decide)(hcd:(x==("__classdict__":Str))=false:=by decide):PE X (.Name x pos) (zlD i):=by
 apply?;obtain⟨v,e,h⟩:=h;obtain⟨m,hn,hl⟩:=I.loc;obtain⟨u,r,l⟩:=hl i x v hN e hv;have Y:EP X ρ J Q u s:=⟨v,H,I,r,h⟩;rcases l with⟨hk,hm⟩ | ⟨hk,c,hc,hcell⟩
 .exact wpAny_Name (wpAny_loadName_local I.ok.kind hk hn hm Y) hd
 .rcases hk with hk | hk
  .exact wpAny_Name (wpAny_loadName_cell I.ok.kind hk hc hcell Y) hd
  .exact wpAny_Name (wpAny_loadName_free I.ok.kind hk hc hcell Y hcd) hd
def zmE:PE X (.Constant (.int i) j pos) (tC (.int i)):=λ_ _ _ H _ I h=>wpAny_Constant_int ⟨.int i,H,I.tok _,⟨_,rfl⟩,h⟩
def ztB:PE X (.Constant (.bool b) j pos) (tC (.bl b)):=λ_ _ _ H _ I h=>Constant_bool ⟨.bl b,H,I,rfl,h⟩
def zrx:PE X (.Constant .none j pos) (tC .non):=λ_ _ _ H _ I h=>Constant_none ⟨.non,H,I,rfl,h⟩
def zrt:PE X (.Constant (.str x) j pos) (tC (.str x)):=λ_ _ _ H _ I h=>Calls.Constant_str ⟨.str x,H,I.tok _,⟨_,rfl⟩,h⟩
def Gl(X:Cx)(x:Str):Prop:=X.env.kindOf x=some .globalImplicit
theorem zbG{J:St}(I:Inv X ρ J H s)(hg:Gl X x)(hm:X.mg x=some u)(h:Q u s)
  (hd:(x==("__debug__":Str))=false:=by decide):wpAny .(1) X.A (eval (.Name x pos) X.env) Q E s:=
 Calls.Name_function_global I.ok.kind hg (Calls.loadGlobal_global (by rw[I.ok.glob];exact I.mod.glob.keeps I.bk) hm h) hd
theorem zep{E:Value->Shared->Prop}{J:St}{pos:Pos}(I:Inv X ρ J H s)(hg:Gl X x)(hm:X.mg x=none)(hv:bootBuiltins x=some u)(h:Q u s)
  (hn:x ≠ "__name__":=by decide) (hd:(x==("__debug__":Str))=false:=by decide):wpAny .(1) X.A (eval (.Name x pos) X.env) Q E s:=by
 obtain⟨mb,h1,h2⟩:=I.mod.blt;exact Calls.Name_function_global I.ok.kind hg (Calls.loadGlobal_builtin (by rw[I.ok.glob];exact I.mod.glob.keeps I.bk) hm (by rw[I.ok.blt];exact h1.keeps I.bk) ((h2 x hn).trans hv) h) hd
theorem zeO(hg:Gl X x)(hm:X.mg x=some u)(r:RelV v u)(hd:(x==("__debug__":Str))=false:=by decide):PE X (.Name x pos) (tC v):=
 λ_ _ _ H _ I h=>zbG I hg hm ⟨v,H,I,r,h⟩ hd
theorem zkM{pos:Pos}(hg:Gl X x)(hm:X.mg x=none)(hv:bootBuiltins x=some u)(r:RelV v u)(hn:x ≠ "__name__":=by decide)(hd:(x==("__debug__":Str))=false:=by decide):PE X (.Name x pos) (tC v):=
 λ_ _ _ H _ I h=>zep I hg hm hv ⟨v,H,I,r,h⟩ hn hd
def PC(X:Cx)(op:CmpOp)(a b:Expr)(t:TE):Prop:=
 ∀(ρ:List (Addr × Obj)) (s:Shared) (J:St) (H:Hp) (Q:VK),Inv X ρ J H s->t J H Q->
  wpAny .(1) X.A (eval a X.env) (λv s₁=>wpAny .(1) X.A (eval b X.env) (λu s₂=>wpAny .(1) X.A (compareOp op v u) (EP X ρ J Q) X.xe s₂) X.xe s₁) X.xe s
theorem zob(b:Expr){op:CmpOp}(h:op ≠ .In)(h2:op ≠ .NotIn):behindInMarks op b=false:=by
 have e1:(op==CmpOp.In)=false:=by cases op<;>first | rfl | exact absurd rfl h
 have e2:(op==CmpOp.NotIn)=false:=by cases op<;>first | rfl | exact absurd rfl h2
 cases b<;>simp[behindInMarks,e1,e2]
noncomputable def tB(t:TE):TT:=λJ H Q=>t J H λx H1=>∃c,x = .bl c/\Q c H1
theorem zvM(h:PC X op a b t)(h1:behindInMarks op b=false:=by first | exact zob _ ∅ ∅ | rfl):PT X (.Compare a [op] [b] pos) (tB t):=by intro ρ s J H Q I hw;refine wpAny_isTrue_Compare1 (thn (h ρ s J H _ I hw) λv s1 h1=>thn h1 λu s2 h2=>thn h2 λc s3 h9=>?_) h1;obtain⟨x,H1,I1,r1,q1⟩:=h9;obtain⟨d,rfl,q⟩:=q1;cases r1;exact wpAny_truthy_bool ⟨H1,I1,q⟩
theorem zri(h:PE X e t)(he:∀whole,isTrue e X.env whole=(do let v ←whole;standAt e.pos;holding [v] (truthy v)):=by intro _;rfl):PT X e (tB t):=by intro ρ s J H Q I hw;refine isTrue_plain (thn (h ρ s J H _ I hw) λv s1 h9=>?_) (he _);obtain⟨x,H1,I1,r1,q1⟩:=h9;obtain⟨d,rfl,q⟩:=q1;cases r1;exact wpAny_truthy_bool ⟨H1,I1,q⟩
variable  {rest:List Expr}
noncomputable def zuA(t u:TT):TT:=λJ H Q=>t J H λc H1=>if c=true then u J H1 Q else Q false H1
noncomputable def tOr(t u:TT):TT:=λJ H Q=>t J H λc H1=>if c=true then Q true H1 else u J H1 Q
noncomputable def zuu(t:TT):TT:=λJ H Q=>t J H λc H1=>Q (!c) H1
theorem zpq(ha:PT X a tA):PW X (.BoolOp .And [a] pos) tA:=by intro wh ρ s J H Q I h;refine isTrue_and (thn (ha ρ s J H Q I h) λc s1 e=>?_);cases c with|true=>exact isTrue_and_nil e|false=>exact e
theorem zrg(ha:PT X a tA):PW X (.BoolOp .Or [a] pos) tA:=by intro wh ρ s J H Q I h;refine isTrue_or (thn (ha ρ s J H Q I h) λc s1 e=>?_);cases c with|false=>exact isTrue_or_nil e|true=>exact e
theorem zrh(ha:PT X a tA)(hb:PW X (.BoolOp .And (b::rest) pos) tB'):PW X (.BoolOp .And (a::b::rest) pos) (zuA tA tB'):=by intro wh ρ s J H Q I h;refine isTrue_and (thn (ha ρ s J H _ I h) λc s1 h9=>?_);obtain⟨H1,I1,q1⟩:=h9;cases c with|true=>exact hb wh ρ s1 J H1 Q I1 q1|false=>exact⟨H1,I1,q1⟩
theorem ztv(ha:PT X a tA)(hb:PW X (.BoolOp .Or (b::rest) pos) tB'):PW X (.BoolOp .Or (a::b::rest) pos) (tOr tA tB'):=by intro wh ρ s J H Q I h;refine isTrue_or (thn (ha ρ s J H _ I h) λc s1 h9=>?_);obtain⟨H1,I1,q1⟩:=h9;cases c with|true=>exact⟨H1,I1,q1⟩|false=>exact hb wh ρ s1 J H1 Q I1 q1
theorem zrj(ha:PT X a tA):PT X (.UnaryOp .Not a pos) (zuu tA):=by apply?;exact isTrue_not (ha ρ s J H (λc H1=>Q (!c) H1) I h)
noncomputable def zth(ta tb:TE):TE:=λJ H Q=>ta J H λx H1=>∃c,x = .bl c/\if c=true then tb J H1 Q else Q (.bl false) H1
noncomputable def zus(ta tb:TE):TE:=λJ H Q=>ta J H λx H1=>∃c,x = .bl c/\if c=true then Q (.bl true) H1 else tb J H1 Q
noncomputable def ztb(ta:TE):TE:=λJ H Q=>ta J H λx H1=>∃c,x = .bl c/\Q (.bl (!c)) H1
def zrv(h:PE X a t):PE X (.BoolOp op [a] pos) t:=λρ s J H Q I hw=>BoolOp_one (h ρ s J H Q I hw)
theorem zrB(ha:PE X a ta)(hb:PE X (.BoolOp .And (b::rest) pos) tb):PE X (.BoolOp .And (a::b::rest) pos) (zth ta tb):=by apply?;refine BoolOp_and (thn (ha ρ s J H _ I h) λv s1 h9=>?_);obtain⟨x,H1,I1,r1,q1⟩:=h9;obtain⟨c,rfl,q1⟩:=q1;cases r1;refine wpAny_truthy_bool ?_;cases c with|true=>exact hb ρ s1 J H1 Q I1 q1|false=>exact⟨.bl false,H1,I1,rfl,q1⟩
theorem ztz(ha:PE X a ta)(hb:PE X (.BoolOp .Or (b::rest) pos) tb):PE X (.BoolOp .Or (a::b::rest) pos) (zus ta tb):=by apply?;refine BoolOp_or (thn (ha ρ s J H _ I h) λv s1 h9=>?_);obtain⟨x,H1,I1,r1,q1⟩:=h9;obtain⟨c,rfl,q1⟩:=q1;cases r1;refine wpAny_truthy_bool ?_;cases c with|false=>exact hb ρ s1 J H1 Q I1 q1|true=>exact⟨.bl true,H1,I1,rfl,q1⟩
theorem zrw(ha:PE X a ta):PE X (.UnaryOp .Not a pos) (ztb ta):=by apply?;refine UnaryOp_ (thn (ha ρ s J H _ I h) λv s1 h9=>?_);obtain⟨x,H1,I1,r1,q1⟩:=h9;obtain⟨c,rfl,q1⟩:=q1;cases r1;exact not_of (wpAny_truthy_bool ⟨.bl (!c),H1,I1,rfl,q1⟩)
noncomputable def tIf(t:TT)(ta tb:TE):TE:=λJ H Q=>t J H λc H1=>if c=true then ta J H1 Q else tb J H1 Q
theorem zn3(hc:PT X c tA)(ha:PE X a ta)(hb:PE X b tb):PE X (.IfExp c a b pos) (tIf tA ta tb):=by apply?;refine wpAny_IfExp (thn (hc ρ s J H _ I h) λd s1 h9=>?_);obtain⟨H1,I1,q1⟩:=h9;cases d with|true=>exact ha ρ s1 J H1 Q I1 q1|false=>exact hb ρ s1 J H1 Q I1 q1
end
def SqL(K:Frag)(H:Hp)(a:Addr)(xs:List V):Prop:=
 Rd H a (.lst xs) \/
  ∃(o:Obj) (its:Array Value) (n:Nat),K.lookup a=some o/\o.cls = .type "list"/\o.dict=none/\o.data = .seq its n/\its.size<=sizeLine/\Vals xs its.toList
def KTp(K:Frag)(a:Addr)(xs:List V):Prop:=
  ∃(o:Obj) (its:Array Value) (n:Nat),K.lookup a=some o/\o.cls = .type "tuple"/\o.dict=none/\o.data = .seq its n/\its.size<=sizeLine/\Vals xs its.toList
def SqT(K:Frag)(H:Hp)(a:Addr)(xs:List V):Prop:=H a=some (.tup xs)\/KTp K a xs
noncomputable def zvd:Value->Option V
 |.none=>some .non|.bool b=>some (.bl b)|.int i _=>some (.int i)|.str x _=>some (.str x)|.bytes b _=>some (.byt b)|.float b _=>some (.flt b)|.ref a=>some (.ref a)|.type n=>some (.ty n)|_=>none
theorem RelV.abs(r:RelV x u):zvd u=some x:=by cases x with|non=>cases r;rfl|bl _=>cases r;rfl|int _=>obtain⟨t,rfl⟩:=r;rfl|str _=>obtain⟨t,rfl⟩:=r;rfl|byt _=>obtain⟨t,rfl⟩:=r;rfl|flt _=>obtain⟨t,rfl⟩:=r;rfl|ref _=>cases r;rfl|ty _=>cases r;rfl
def RelV.inj(r:RelV x u)(q:RelV y u):x=y:=Qd (r.abs.symm.trans q.abs)
theorem Vals.inj:∀{xs ys:List V} {us:List Value},Vals xs us->Vals ys us->xs=ys
 |_,_,_,.nil,.nil=>rfl|_,_,_,.cons r t,.cons r' t'=>by rw[r.inj r',Vals.inj t t']
section
variable   {J:St}    
theorem Inv.list(I:Inv X ρ J H s)(h:SqL X.K H a xs):∃its:List Value,Vals xs its/\PlainL s.heap a its.toArray/\xs.length<=sizeLine:=by
 rcases h with h | ⟨o,its,n,hk,hc,hd,hs,hz,r⟩
 .obtain⟨z,its,n,r,e⟩:=h.ok I.hok;exact⟨its,r,⟨_,n,e,rfl,rfl,rfl⟩,z⟩
 .refine⟨its.toList,r,⟨o,n,I.kIn a o hk,hc,hd,by simpa using hs⟩,?_⟩;have e:=r.length;simp only[Array.length_toList]at e;symm
theorem Inv.tuple(I:Inv X ρ J H s)(h:SqT X.K H a xs):∃its:List Value,Vals xs its/\IsTup s.heap a its.toArray/\xs.length<=sizeLine:=by
 rcases h with h | ⟨o,its,n,hk,hc,_,hs,hz,r⟩
 .obtain⟨z,its,r,p,_⟩:=I.hok a _ h;exact⟨its,r,p,z⟩
 .refine⟨its.toList,r,⟨o,I.kIn a o hk,hc,n,by simpa using hs⟩,?_⟩;have e:=r.length;simp only[Array.length_toList]at e;symm
theorem Inv.list_inj(I:Inv X ρ J H s)(h:SqL X.K H a xs)(h':SqL X.K H a ys):xs=ys:=by
 obtain⟨its,r,⟨o,n,e,_,_,d⟩,_⟩:=I.list h;obtain⟨its',r',⟨o',n',e',_,_,d'⟩,_⟩:=I.list h';rw[e]at e';cases e'
 rw[d]at d';injection d' with d1 _;have:its=its':=by simpa using congrArg Array.toList d1
 subst this;exact r.inj r'
theorem Inv.tuple_inj(I:Inv X ρ J H s)(h:SqT X.K H a xs)(h':SqT X.K H a ys):xs=ys:=by
 obtain⟨its,r,⟨o,e,_,n,d⟩,_⟩:=I.tuple h;obtain⟨its',r',⟨o',e',_,n',d'⟩,_⟩:=I.tuple h';rw[e]at e';cases e'
 rw[d]at d';injection d' with d1 _;have:its=its':=by simpa using congrArg Array.toList d1
 subst this;exact r.inj r'
end
noncomputable abbrev Cx.wish(X:Cx)(E:Value->Shared->Prop):Cx:={ X with xe:=E }
abbrev Cx.nox(X:Cx):Cx:=X.wish λ_ _=>False
theorem Cx.Ok.wish{X:Cx}(ok:X.Ok)(E:Value->Shared->Prop):(X.wish E).Ok:=
 ⟨ok.mod,ok.kind,ok.glob,ok.blt,ok.above,ok.inj,ok.has,ok.cab,ok.hd,ok.frames,ok.stk,ok.exf,ok.bs,ok.bsz,ok.noex,ok.exfs,ok.funs,ok.frf⟩
theorem Cx.Ok.unwish{X:Cx}(ok:(X.wish E).Ok):X.Ok:=
 ⟨ok.mod,ok.kind,ok.glob,ok.blt,ok.above,ok.inj,ok.has,ok.cab,ok.hd,ok.frames,ok.stk,ok.exf,ok.bs,ok.bsz,ok.noex,ok.exfs,ok.funs,ok.frf⟩
section
variable   {J:St}   
def Inv.wish(I:Inv X ρ J H s)(E:Value->Shared->Prop):Inv (X.wish E) ρ J H s:=⟨I.ok.wish E,I.os,I.bare,I.base,I.loc,I.cell,I.free,I.freeC,I.pin,I.hok,I.len⟩
def Inv.unwish(I:Inv (X.wish E) ρ J H s):Inv X ρ J H s:=⟨I.ok.unwish,I.os,I.bare,I.base,I.loc,I.cell,I.free,I.freeC,I.pin,I.hok,I.len⟩
theorem SP.unwish(h:SP (X.wish E) ρ D f s'):SP X ρ D f s':=by cases f with|next=>obtain⟨J',H',I,q⟩:=h;exact⟨J',H',I.unwish,q⟩|brk=>obtain⟨J',H',I,q⟩:=h;exact⟨J',H',I.unwish,q⟩|cont=>obtain⟨J',H',I,q⟩:=h;exact⟨J',H',I.unwish,q⟩|ret u=>obtain⟨v,J',H',I,r,q⟩:=h;exact⟨v,J',H',I.unwish,r,q⟩
theorem PSs.nox{st:List Stmt}(h:PSs X.nox st t):PSs X st t:=λρ s J H D I hw=>Qg (h ρ s J H D (I.wish _) hw) (λ_ _ q=>q.unwish) λ_ _ z=>False.elim z
end
section
variable  {st:Stmt} {rest:List Stmt}    
noncomputable def ztc:TS:=λD J H=>D.nx J H
noncomputable def zuq(t u:TS):TS:=λD J H=>t { D with nx:=u D } J H
def zpw:PSs X [] ztc:=λ_ _ J H _ I h=>wpAny_execs_nil ⟨J,H,I,h⟩
theorem zn1(h1:PS X st t)(h2:PSs X rest u):PSs X (st::rest) (zuq t u):=by
 intro ρ s J H D I h;refine wpAny_execs_cons (thn (h1 ρ s J H { D with nx:=u D } I h) λf s1 q=>?_);cases f with
 |next=>obtain⟨J',H',I',q⟩:=q;exact h2 ρ s1 J' H' D I' q
 |ret v=>exact q|brk=>exact q|cont=>exact q
theorem zkJ(h1:PS X st t):PSs X [st] t:=by intro ρ s J H D I h;refine wpAny_execs_cons (thn (h1 ρ s J H D I h) λf s1 q=>?_);cases f with|next=>exact wpAny_execs_nil q|ret v=>exact q|brk=>exact q|cont=>exact q
theorem Inv.quiet{J:St}(I:Inv X ρ J H s):interactive X.env=false:=by simp[interactive,I.ok.kind]
noncomputable def zte(te:TE):TS:=λD J H=>te J H λ_ H1=>D.nx J H1
theorem zpy(he:PE X e te)(hs:swapsWith e none pos.line X.env=pure false:=by rfl):PS X (.Expr e pos) (zte te):=by intro ρ s J H D I h;exact wpAny_Expr_any (thn (he ρ s J H _ I h) λv s1 ⟨x,H1,I1,r1,q1⟩=>⟨J,H1,I1,q1⟩) I.quiet hs
noncomputable def zur(te:TE):TS:=λD J H=>te J H D.rt
theorem zrm(he:PE X e te):PS X (.Return (some e) pos) (zur te):=by intro ρ s J H D I h;exact wpAny_Return_some (thn (he ρ s J H _ I h) λv s1 ⟨x,H1,I1,r1,q1⟩=>⟨x,J,H1,I1,r1,q1⟩)
noncomputable def zqY(c:TT)(t u:TS):TS:=λD J H=>c J H λb H1=>if b=true then t D J H1 else u D J H1
theorem ztw(hc:PT X c tc)(ha:PSs X a t)(hb:PSs X b u):PS X (.If c a b pos) (zqY tc t u):=by intro ρ s J H D I h;refine wpAny_If (thn (hc ρ s J H _ I h) λd s1 h9=>?_);obtain⟨H1,I1,q1⟩:=h9;cases d with|true=>exact ha ρ s1 J H1 D I1 q1|false=>exact hb ρ s1 J H1 D I1 q1
end
abbrev TG:=V->St->Hp->(St->Hp->Prop)->Prop
abbrev TGs:=List V->St->Hp->(St->Hp->Prop)->Prop
def PG(X:Cx)(target:Expr)(t:TG):Prop:=
 ∀(ρ:List (Addr × Obj)) (s:Shared) (J:St) (H:Hp) (v:V) (u:Value) (Q:St->Hp->Prop),Inv X ρ J H s->RelV v u->t v J H Q->
  wpAny .(1) X.A (assign target X.env u) (λ_ s'=>∃J' H',Inv X ρ J' H' s'/\Q J' H') X.xe s
def PGs(X:Cx)(ts:List Expr)(t:TGs):Prop:=
 ∀(ρ:List (Addr × Obj)) (s:Shared) (J:St) (H:Hp) (vs:List V) (us:List Value) (Q:St->Hp->Prop),Inv X ρ J H s->Vals vs us->t vs J H Q->
  wpAny .(1) X.A (assignInOrder ((assignEach ts X.env).map (·.2)) us) (λ_ s'=>∃J' H',Inv X ρ J' H' s'/\Q J' H') X.xe s
abbrev zhu:=V->V->V->Hp->(Hp->Prop)->Prop
def zdw(X:Cx)(t:zhu):Prop:=
 ∀(ρ:List (Addr × Obj)) (s:Shared) (J:St) (H:Hp) (o i v:V) (ov iv u:Value) (Q:Hp->Prop),Inv X ρ J H s->RelV o ov->RelV i iv->RelV v u->t o i v H Q->
  wpAny .(1) X.A (setItem ov iv u) (λ_ s'=>∃H',Inv X ρ J H' s'/\Q H') X.xe s
abbrev TIp:=V->V->Hp->VK->Prop
def PIp(X:Cx)(op:Operator)(t:TIp):Prop:=
 ∀(ρ:List (Addr × Obj)) (s:Shared) (J:St) (H:Hp) (x y:V) (v u:Value) (Q:VK),Inv X ρ J H s->RelV x v->RelV y u->t x y H Q->
  wpAny .(1) X.A (inplaceOp op v u) (EP X ρ J Q) X.xe s
section
variable  {pos:Pos}
noncomputable def ziv(i:Nat):TG:=λv J H Q=>Q (J.set i (some v)) H
theorem yr(hN:X.N.Nodup)(hi:X.N[i]?=some x)(hx:Loc X.env.scope x)(hf:X.fn x=true\/X.env.scope.names.lookup x=some .local:=by first | exact .inl rfl | exact .inr rfl | assumption):PG X (.Name x pos) (ziv i):=by intro ρ s J H v u Q I r h;exact wpAny_assign_Name (zdL I hN hi hx r (λs' I'=>⟨_,H,I',h⟩) hf)
noncomputable def zu4:TGs:=λvs J H Q=>vs=[]/\Q J H
noncomputable def zlY(t:TG)(u:TGs):TGs:=λvs J H Q=>∃v r,vs=v::r/\t v J H λJ' H'=>u r J' H' Q
theorem zpD:PGs X [] zu4:=by intro ρ s J H vs us Q I r h;obtain⟨e,h⟩:=h;subst e;cases r;exact assignInOrder_nil ⟨J,H,I,h⟩
theorem yK(h1:PG X e t)(h2:PGs X es u)
  (hs:(assignEach (e::es) X.env).map (·.2)=assign e X.env::(assignEach es X.env).map (·.2):=by rfl):PGs X (e::es) (zlY t u):=by
 intro ρ s J H vs us Q I r h;obtain⟨v,vr,e1,h⟩:=h;subst e1;cases r with
 |cons r rr=>rw[hs];refine assignInOrder_cons (thn (h1 ρ s J H _ _ _ I r h) λ_ s1 h9=>?_);obtain⟨J1,H1,I1,q1⟩:=h9;exact h2 ρ s1 J1 H1 _ _ Q I1 rr q1
noncomputable def zoy(K:Frag)(n:Nat)(t:TGs):TG:=λv J H Q=>∃a xs,v = .ref a/\SqT K H a xs/\xs.length=n/\t xs J H Q
theorem zgo{k:Nat}(hc:X.calm=true)(h:PGs X es t)
  (hn:(assignEach es X.env).length=n:=by rfl) (hst:(assignEach es X.env).findIdx? (·.1)=none:=by rfl):PG X (.Tuple es k pos) (zoy X.K n t):=by
 intro ρ s J H v u Q I r hw;obtain⟨a,xs,e1,hq,hl,hw⟩:=hw;subst e1;cases r;obtain⟨its,rv,ht,hz⟩:=I.tuple hq;refine assign_Tuple_tuple (I.ok.hd hc) ht (by simp[hn,←hl,rv.length]) hst λh' hx=>?_;have I1:Inv X ρ J H { s with heap:=h' }:=I.kept (t':=s.toks) λb o e=>hx b o (Qk (Qe e)) e;exact h ρ _ J H xs _ Q I1 (by simpa using rv) hw
noncomputable def zu3(to ti:TE)(t:zhu):TG:=λv J H Q=>to J H λo H1=>ti J H1 λi H2=>t o i v H2 λH3=>Q J H3
theorem zrr(ho:PE X o to)(hi:PE X i ti)(hs:zdw X t)
  (ha:∀v,assign (.Subscript o i pos) X.env v=(do
   let ov ←holding [v] (eval o X.env)
   let iv ←holding [v,ov] (eval i X.env)
   standAt pos
   holding [v,ov,iv] (setItem ov iv v)
   release [v,ov,iv] []):=by intro _;rfl):PG X (.Subscript o i pos) (zu3 to ti t):=by
 intro ρ s J H v u Q I r h;rw[ha];refine Q1 (wpAny_holding (thn (ho ρ s J H _ I h) λov s1 h9=>?_));obtain⟨x,H1,I1,r1,q1⟩:=h9;refine Q1 (wpAny_holding (thn (hi ρ s1 J H1 _ I1 q1) λiv s2 h9=>?_));obtain⟨y,H2,I2,r2,q2⟩:=h9;refine Q1 (wpAny_standAt (Q1 (wpAny_holding (thn (hs ρ s2 J H2 x y v ov iv u _ I2 r1 r2 r q2) λ_ s3 h9=>?_))));obtain⟨H3,I3,q3⟩:=h9;exact wpAny_release ⟨J,H3,I3,q3⟩
noncomputable def zq0(te:TE)(g:TG):TS:=λD J H=>te J H λx H1=>g x J H1 D.nx
theorem zrp(he:PE X e te)(hg:PG X tg g)(hs:swapsWithSole [tg] e pos.line X.env=pure false:=by rfl)(hw:swappedStores [tg] e X.env=pure none:=by rfl)
  (h1:(assignEach [tg] X.env).map (·.2)=[assign tg X.env]:=by rfl):PS X (.Assign [tg] e pos) (zq0 te g):=by
 intro ρ s J H D I h;refine wpAny_Assign_stores (thn (he ρ s J H _ I h) λv s1 h9=>?_) hs hw;obtain⟨x,H1,I1,r1,q1⟩:=h9;rw[h1];exact thn (hg ρ s1 J H1 x v _ I1 r1 q1) λ_ s2 q=>q
theorem zrl(hN:X.N.Nodup)(hi:X.N[i]?=some x)(hx:Loc X.env.scope x)(he:PE X e te)(hs:swapsWith e (some (.Name x pos')) pos.line X.env=pure false:=by rfl)(hf:X.fn x=true\/X.env.scope.names.lookup x=some .local:=by first | exact .inl rfl | exact .inr rfl | assumption):
  PS X (.Assign [.Name x pos'] e pos) (zq0 te (ziv i)):=by
 intro ρ s J H D I h;refine wpAny_Assign_Name (thn (he ρ s J H _ I h) λv s1 h9=>?_) hs;obtain⟨y,H1,I1,r1,q1⟩:=h9;exact zdL I1 hN hi hx r1 (λs2 I2=>⟨_,H1,I2,q1⟩) hf
noncomputable def ztg(to ti te:TE)(tget:V->V->Hp->VK->Prop)(tip:TIp)(tset:zhu):TS:=λD J H=>to J H λo H1=>ti J H1 λi H2=>tget o i H2 λx H3=>te J H3 λy H4=>tip x y H4 λz H5=>tset o i z H5 λH6=>D.nx J H6
def zjZ(X:Cx)(t:V->V->Hp->VK->Prop):Prop:=
 ∀(ρ:List (Addr × Obj)) (s:Shared) (J:St) (H:Hp) (o i:V) (ov iv:Value) (Q:VK),Inv X ρ J H s->RelV o ov->RelV i iv->t o i H Q->
  wpAny .(1) X.A (getItem ov iv) (EP X ρ J Q) X.xe s
theorem zpz(ho:PE X o to)(hi:PE X i ti)(hg:zjZ X tget)(he:PE X e te)(hp:PIp X op tip)(hs:zdw X tset)
  (ha:∀ov iv new,augStore i ov iv new=(do holding [new,ov,iv] (setItem ov iv new);release [new,ov,iv] [];pure .next):=by intros;rfl):PS X (.AugAssign (.Subscript o i tpos) op e pos) (ztg to ti te tget tip tset):=by
 intro ρ s J H D I h;refine wpAny_AugAssign_SubscriptAny (thn (ho ρ s J H _ I h) λov s1 h9=>?_) ha;obtain⟨x1,H1,I1,r1,q1⟩:=h9;refine thn (hi ρ s1 J H1 _ I1 q1) λiv s2 h9=>?_;obtain⟨x2,H2,I2,r2,q2⟩:=h9;refine thn (hg ρ s2 J H2 x1 x2 ov iv _ I2 r1 r2 q2) λold s3 h9=>?_;obtain⟨x3,H3,I3,r3,q3⟩:=h9;refine thn (he ρ s3 J H3 _ I3 q3) λv s4 h9=>?_;obtain⟨x4,H4,I4,r4,q4⟩:=h9;refine thn (hp ρ s4 J H4 x3 x4 old v _ I4 r3 r4 q4) λnew s5 h9=>?_;obtain⟨x5,H5,I5,r5,q5⟩:=h9;exact thn (hs ρ s5 J H5 x1 x2 x5 ov iv new _ I5 r1 r2 r5 q5) λ_ s6 ⟨H6,I6,q6⟩=>⟨J,H6,I6,q6⟩
noncomputable def ipI(f:Int->Int->Int):TIp:=λx y H Q=>∃i j,x = .int i/\y = .int j/\Q (.int (f i j)) H
theorem zr9:PIp X .Add (ipI λi j=>i+j):=by
 intro ρ s J H x y v u Q I r1 r2 h;obtain⟨i,j,e1,e2,q⟩:=h;subst e1;subst e2
 obtain⟨t,rfl⟩:=r1;obtain⟨t',rfl⟩:=r2;exact iadd_int ⟨.int _,H,I.tok _,⟨_,rfl⟩,q⟩
end
section
noncomputable def zqX(c:TT)(tb:TS):TS:=λD J H=>∃W:Nat->St->Hp->Prop,(∃m,W m J H)/\∀m J H,W m J H->
 c J H λb H1=>if b=true then ∃N:St->Hp->Prop,(∀J' H',N J' H'->∃m',m'<m/\W m' J' H')/\tb { D with nx:=N,ct:=N,bk:=D.nx } J H1 else D.nx J H1
theorem zn2(hp:PassesOwn .(1) X.A X.env X.xe)(hc:PT X c tc)(hb:PSs X body tb):PS X (.While c body [] pos) (zqX tc tb):=by
 intro ρ s J H D I h;obtain⟨W,⟨m0,w0⟩,turn⟩:=h;refine wpAny_While (codeAny_whileLoop (λn s'=>∃J' H',Inv X ρ J' H' s'/\W n J' H') ?_ m0 ⟨J,H,I,w0⟩);rintro n s1 ⟨J1,H1,I1,w1⟩;refine wpAny_passesOwn hp (thn (hc ρ s1 J1 H1 _ I1 (turn n J1 H1 w1)) λb s2 h9=>?_);obtain⟨H2,I2,q2⟩:=h9;cases b with
 |true=>
  obtain⟨N,hN,q2⟩:=q2;rw[QA rfl];refine wpAny_passesOwn hp (thn (hb ρ s2 J1 H2 _ I2 q2) λf s3 q3=>?_);cases f with
  |next=>obtain⟨J3,H3,I3,n3⟩:=q3;obtain⟨m',hm,w3⟩:=hN J3 H3 n3;exact⟨m',hm,J3,H3,I3,w3⟩
  |cont=>obtain⟨J3,H3,I3,n3⟩:=q3;obtain⟨m',hm,w3⟩:=hN J3 H3 n3;exact⟨m',hm,J3,H3,I3,w3⟩
  |brk=>exact q3|ret v=>exact q3
 |false=>rw[QB Q4];exact wpAny_execs_nil ⟨J1,H2,I2,q2⟩
end
structure It where
 go:Nat->Hp->Prop
 yld:Nat->Hp->V->Hp->Prop
 stop:Nat->Hp->Prop
def zf2(X:Cx)(ρ:List (Addr × Obj))(H:Hp)(b:Addr):Prop:=
 H b=none/\b ≠ X.env.locals/\b ∉ X.fs/\(b ∈ X.ex\/X.s₀.heap.objs.size<=b)/\(∀x c,X.env.cells.lookup x=some c->c ≠ b)/\∀p ∈ X.pn++ρ,p.1 ≠ b
theorem Inv.fpOk{J:St}{b:Addr}(I:Inv X ρ J H s)(hb:s.heap.objs.size<=b)(hn:H' b=none):zf2 X ρ H' b:=by
 refine⟨hn,Nat.ne_of_gt (Q5 I.lt hb),I.nofs hb,.inr (Qj I.sz hb),λx c e z=>?_,λp hp z=>?_⟩
 .obtain⟨v,q⟩:=I.cell x c e;exact absurd (Q5 q.lt (by rw[z];exact hb)) (Qo _)
 .exact absurd (Q5 (Qe (I.pin p hp).1) (by rw[z];exact hb)) (Qo _)
structure Turn (P:Program) (w:World) (K:Frag) (tg:Expr) (Jq:It) (fp:List Addr) (it:Addr) (tn:Nat->Heap->Prop):Prop where
 mem:it ∈ fp
 obj:∀i h,tn i h->∀b ∈ fp,∃o,h.get? b=some o/\∀v,o.data ≠ .cell v
 keep:∀i h h',tn i h->(∀b ∈ fp,∀o,h.get? b=some o->h'.get? b=some o)->tn i h'
 item:∀(X:Cx),X.prog=P->X.w=w->X.K=K->X.calm=true->∀(i:Nat) (ρ:List (Addr × Obj)) (s:Shared) (J:St) (H:Hp) (E:Value->Shared->Prop),Inv X ρ J H s->(∀b ∈ fp,zf2 X ρ H b)->tn i s.heap->Jq.go i H->
  wpAny (model P w) X.A (pyNext (.ref it)) (λr s1=>∃u,r=some u /\
   wpAny (model P w) X.A (letOwnedTupleGo tg (.ref it) u) (λ_ s2=>∃x H',Inv X ρ J H' s2/\RelV x u/\Jq.yld i H x H'/\tn (i+1) s2.heap/\∀b ∈ fp,H' b=none) E s1) E s
 done:∀(X:Cx),X.prog=P->X.w=w->X.K=K->X.calm=true->∀(i:Nat) (ρ:List (Addr × Obj)) (s:Shared) (J:St) (H:Hp) (E:Value->Shared->Prop),Inv X ρ J H s->(∀b ∈ fp,zf2 X ρ H b)->tn i s.heap->Jq.stop i H->
  wpAny (model P w) X.A (pyNext (.ref it)) (λr s1=>r=none/\Inv X ρ J H s1) E s
 self:∀(A:Around) (i:Nat) (s:Shared) (Q:Value->Shared->Prop) (E:Value->Shared->Prop),tn i s.heap->Q (.ref it) s->wpAny (model P w) A (pyIter (.ref it)) Q E s
abbrev TI:=St->Hp->(It->Hp->Prop)->Prop
def PIE(X:Cx)(ρ:List (Addr × Obj))(J:St)(tg:Expr)(R:It->Hp->Prop)(itv:Value)(s2:Shared):Prop:=
 ∃(it:Addr) (fp:List Addr) (tn:Nat->Heap->Prop) (Jq:It) (H':Hp),itv = .ref it/\Inv X ρ J H' s2/\Turn X.prog X.w X.K tg Jq fp it tn/\tn 0 s2.heap/\(∀b ∈ fp,zf2 X ρ H' b)/\R Jq H'
def PI(X:Cx)(tg iter:Expr)(wi:TI):Prop:=
 ∀(ρ:List (Addr × Obj)) (s:Shared) (J:St) (H:Hp) (R:It->Hp->Prop),Inv X ρ J H s->wi J H R->
  wpAny .(1) X.A (eval iter X.env) (λv s1=>wpAny .(1) X.A (pyIter v) (PIE X ρ J tg R) X.xe s1) X.xe s
theorem zlV(ho:s.heap.get? it=some o)(hc:o.cls = .type n)(hd:o.data = .fields vs)
  (hn:["enumerate","zip","dict_itemiterator","dict_reverseitemiterator","odict_iterator","itertools.zip_longest","itertools.pairwise"].contains n=false) (hQ:Q () s):wpAny M A (letOwnedTupleGo tg (.ref it) u) Q E s:=by
 unfold letOwnedTupleGo;cases tg<;>first
  |exact Qf hQ
  | (cases u<;>first
    |exact Qf hQ
    | (refine Q1 (wpAny_load ho ?_)
       rw[hc,hd];show wpAny M A (if(["enumerate","zip","dict_itemiterator","dict_reverseitemiterator","odict_iterator","itertools.zip_longest","itertools.pairwise"].contains n && vs[0]? == some (rawInt _))=true then _ else _) Q E s;rw[QB (by intro h;rw[hn,Bool.false_and]at h;cases h)];exact Qf hQ))
noncomputable def Itl(K:Frag)(a:Addr):It:=
 ⟨λi H=>∃xs x,SqL K H a xs/\xs[i]?=some x,λi H x H'=>H'=H/\∀xs,SqL K H a xs->xs[i]?=some x,λi H=>∃xs,SqL K H a xs/\xs.length<=i⟩
noncomputable def Itt(K:Frag)(a:Addr):It:=
 ⟨λi H=>∃xs x,SqT K H a xs/\xs[i]?=some x,λi H x H'=>H'=H/\∀xs,SqT K H a xs->xs[i]?=some x,λi H=>∃xs,SqT K H a xs/\xs.length<=i⟩
noncomputable def Itr(lo:Int)(n:Nat):It:=⟨λi _=>i<n,λi H x H'=>H'=H/\x = .int (lo+i),λi _=>n<=i⟩
theorem zmi{K:Frag}(a it:Addr):Turn P w K tg (Itl K a) [it] it (λi h=>h.IsListIter it a i) where
 mem:=by simp
 obj:=λi h st b hb=>by
  have e:b=it:=by simpa using hb
  subst e;obtain⟨o,e,c,d⟩:=st;exact⟨o,e,λv z=>by rw[d]at z;cases z⟩
 keep:=λi h h' st k=>st.at λo e=>k it (by simp) o e
 item:=by intro X hP hw hK hc i ρ s J H E I hf st hg;subst hP hw hK;obtain⟨xs,x,hq,hx⟩:=hg;obtain⟨its,rv,p,hz⟩:=I.list hq;obtain⟨u,hu,ru⟩:=rv.get hx;obtain⟨f0,f1,f2,f3,f4,f5⟩:=hf it (by simp);refine wpAny_pyNext_list_item st p.isList (x:=u) (by simpa using hu) λh' st' sb=>?_;have I1:Inv X ρ J H { s with heap:=h' }:=I.turned (t':=s.toks) (λb o hb e=>(sb.2 b hb).trans e) f0 f1 f3 f4 f5;obtain⟨o,e,c,d⟩:=id st';exact⟨u,rfl,zlV (s:={ s with heap:=h' }) e c d ∅ ⟨x,H,I1,ru,⟨rfl,λys hy=>by rw[I.list_inj hy hq];exact hx⟩,st',λb hb=>(hf b hb).1⟩⟩
 done:=by intro X hP hw hK hc i ρ s J H E I hf st hg;subst hP hw hK;obtain⟨xs,hq,hx⟩:=hg;obtain⟨its,rv,p,hz⟩:=I.list hq;obtain⟨f0,f1,f2,f3,f4,f5⟩:=hf it (by simp);have hl:=rv.length;exact wpAny_pyNext_list_end (I.ok.hd hc) st p.isList (by simp;symm) λh' eb=>⟨rfl,I.turned (t':=s.toks) (λb o hb e=>eb b o hb e) f0 f1 f3 f4 f5⟩
 self:=λ_ _ _ _ _ st h=>wpAny_pyIter_listiter st h
theorem zlz{K:Frag}(a it:Addr):Turn P w K tg (Itt K a) [it] it (λi h=>h.IsTupleIter it a i) where
 mem:=by simp
 obj:=λi h st b hb=>by
  have e:b=it:=by simpa using hb
  subst e;obtain⟨o,e,c,d⟩:=st;exact⟨o,e,λv z=>by rw[d]at z;cases z⟩
 keep:=λi h h' st k=>st.at λo e=>k it (by simp) o e
 item:=by intro X hP hw hK hc i ρ s J H E I hf st hg;subst hP hw hK;obtain⟨xs,x,hq,hx⟩:=hg;obtain⟨its,rv,p,hz⟩:=I.tuple hq;obtain⟨u,hu,ru⟩:=rv.get hx;obtain⟨f0,f1,f2,f3,f4,f5⟩:=hf it (by simp);refine wpAny_pyNext_tuple_item st (show s.heap.IsTuple a its.toArray from p) (x:=u) (by simpa using hu) λh' st' sb=>?_;have I1:Inv X ρ J H { s with heap:=h' }:=I.turned (t':=s.toks) (λb o hb e=>(sb.2 b hb).trans e) f0 f1 f3 f4 f5;obtain⟨o,e,c,d⟩:=id st';exact⟨u,rfl,zlV (s:={ s with heap:=h' }) e c d ∅ ⟨x,H,I1,ru,⟨rfl,λys hy=>by rw[I.tuple_inj hy hq];exact hx⟩,st',λb hb=>(hf b hb).1⟩⟩
 done:=by intro X hP hw hK hc i ρ s J H E I hf st hg;subst hP hw hK;obtain⟨xs,hq,hx⟩:=hg;obtain⟨its,rv,p,hz⟩:=I.tuple hq;obtain⟨f0,f1,f2,f3,f4,f5⟩:=hf it (by simp);have hl:=rv.length;exact wpAny_pyNext_tuple_end (I.ok.hd hc) st (show s.heap.IsTuple a its.toArray from p) (by simp;symm) λh' eb=>⟨rfl,I.turned (t':=s.toks) (λb o hb e=>eb b o hb e) f0 f1 f3 f4 f5⟩
 self:=λ_ _ _ _ _ st h=>wpAny_pyIter_tupleiter st h
theorem zlA{K:Frag}(it:Addr)(lo:Int)(n:Nat):Turn P w K tg (Itr lo n) [it] it (λi h=>IsRangeIter h it (lo+(i:Nat)*1) ((n:Int)-(i:Nat)) 1) where
 mem:=by simp
 obj:=λi h st b hb=>by
  have e:b=it:=by simpa using hb
  subst e;exact⟨_,st,λv z=>by have z':Data.fields _=Data.cell v:=z;cases z'⟩
 keep:=λi h h' st k=>k it (by simp) _ st
 item:=by intro X hP hw hK hc i ρ s J H E I hf st hg;subst hP hw hK;obtain⟨f0,f1,f2,f3,f4,f5⟩:=hf it (by simp);have W:=Walks.range (prog:=X.prog) (w:=X.w) (I.ok.hd hc) it lo 1 n;refine W.item i s _ _ hg st λv h' tk hv st' kk=>?_;obtain⟨t,rfl⟩:=hv;have I1:Inv X ρ J H { s with heap:=h',toks:=tk }:=I.turned (λb o hb e=>kk b o (by simpa using hb) e) f0 f1 f3 f4 f5;refine⟨_,rfl,zlV (s:={ s with heap:=h',toks:=tk }) (n:="range_iterator") st' rfl rfl ∅ ⟨.int (lo+i),H,I1,⟨t,?_⟩,⟨rfl,rfl⟩,st',λb hb=>(hf b hb).1⟩⟩;rw[Int.mul_one]
 done:=by intro X hP hw hK hc i ρ s J H E I hf st hg;subst hP hw hK;obtain⟨f0,f1,f2,f3,f4,f5⟩:=hf it (by simp);exact wpAny_pyNext_range_end (I.ok.hd hc) st (by have:n<=i:=hg;symm) λh' eb=>⟨rfl,I.turned (t':=s.toks) (λb o hb e=>eb b o hb e) f0 f1 f3 f4 f5⟩
 self:=λ_ _ _ _ _ st h=>wpAny_pyIter_rangeiter st h
section
variable  {tg:Expr}
def zoZ(K:Frag)(tl:TE):TI:=λJ H R=>tl J H λx H1=>∃a,x = .ref a/\(∃xs,SqL K H1 a xs)/\R (Itl K a) H1
def zu2(K:Frag)(tl:TE):TI:=λJ H R=>tl J H λx H1=>∃a,x = .ref a/\(∃xs,SqT K H1 a xs)/\R (Itt K a) H1
theorem zg3(hl:PE X l tl):PI X tg l (zoZ X.K tl):=by
 intro ρ s J H R I h;refine thn (hl ρ s J H _ I h) λv s1 h9=>?_;obtain⟨x,H1,I1,r1,q1⟩:=h9;obtain⟨a,e,⟨xs,hq⟩,q⟩:=q1;subst e;cases r1;obtain⟨its,rv,p,hz⟩:=I1.list hq;refine wpAny_pyIter_list p.isList ?_;refine⟨s1.heap.objs.size,[s1.heap.objs.size],_,_,H1,rfl,I1.kept (t':=s1.toks) λb o e=>Q2 _ e,zmi a _,⟨_,Ql _ rfl,rfl,rfl⟩,λb hb=>?_,q⟩;have e:b=s1.heap.objs.size:=by simpa using hb
 subst e;exact I1.fpOk (Q3 _) (I1.hok.fresh (Q3 _))
theorem zmz(hl:PE X l tl):PI X tg l (zu2 X.K tl):=by
 intro ρ s J H R I h;refine thn (hl ρ s J H _ I h) λv s1 h9=>?_;obtain⟨x,H1,I1,r1,q1⟩:=h9;obtain⟨a,e,⟨xs,hq⟩,q⟩:=q1;subst e;cases r1;obtain⟨its,rv,p,hz⟩:=I1.tuple hq;refine wpAny_pyIter_tuple (show s1.heap.IsTuple a its.toArray from p) ?_;refine⟨s1.heap.objs.size,[s1.heap.objs.size],_,_,H1,rfl,I1.kept (t':=s1.toks) λb o e=>Q2 _ e,zlz a _,⟨_,Ql _ rfl,rfl,rfl⟩,λb hb=>?_,q⟩;have e:b=s1.heap.objs.size:=by simpa using hb
 subst e;exact I1.fpOk (Q3 _) (I1.hok.fresh (Q3 _))
theorem zi2{J:St}{lo:Int}(I:Inv X ρ J H s)(h1:-(2 ^ 62)<=lo)(h2:lo<2 ^ 62)(h3:-(2 ^ 62)<=hi)(h4:hi<2 ^ 62)
  (q:R (Itr lo (hi-lo).toNat) H):wpAny .(1) X.A (pyIter (.ref s.heap.objs.size)) (PIE X ρ J tg R) E { s with heap:=s.heap.push { cls:=.type "range",data:=.fields #[.int lo t,.int hi u,.int 1 v] },toks:=tk }:=by
 refine wpAny_pyIter_range (IsRange.new ..) (small_one h1 h2 h3 h4) ?_;have I1:Inv X ρ J H { s with heap:=s.heap.push { cls:=.type "range",data:=.fields #[.int lo t,.int hi u,.int 1 v] },toks:=tk }:=I.kept λb o e=>Q2 _ e;refine⟨(s.heap.push { cls:=.type "range",data:=.fields #[.int lo t,.int hi u,.int 1 v] }).objs.size,[(s.heap.push { cls:=.type "range",data:=.fields #[.int lo t,.int hi u,.int 1 v] }).objs.size],_,_,H,rfl,
  I1.kept (t':=tk) λb o e=>Q2 _ e,zlA _ lo (hi-lo).toNat,?_,λb hb=>?_,q⟩
 .have e1:lo+((0:Nat):Int)*1=lo:=by simp
  have e2:(((hi-lo).toNat:Nat):Int)-((0:Nat):Int)=Builtin.Range.rangeSize lo hi 1:=by rw[rangeSize_one];split<;>symm
  show IsRangeIter _ _ (lo+((0:Nat):Int)*1) ((((hi-lo).toNat:Nat):Int)-((0:Nat):Int)) 1;rw[e1,e2];exact Ql _ rfl
 .have e:b=(s.heap.push { cls:=.type "range",data:=.fields #[.int lo t,.int hi u,.int 1 v] }).objs.size:=by simpa using hb
  subst e;exact I1.fpOk (Q3 _) (I1.hok.fresh (Q3 _))
def ztR(ta:TA):TI:=λJ H R=>ta J H λvs H1=>∃j:Int,vs=[.int j]/\-(2 ^ 62)<=j/\j<2 ^ 62/\R (Itr 0 j.toNat) H1
def ztQ(ta:TA):TI:=λJ H R=>ta J H λvs H1=>∃i j:Int,vs=[.int i,.int j]/\(-(2 ^ 62)<=i/\i<2 ^ 62/\-(2 ^ 62)<=j/\j<2 ^ 62)/\R (Itr i (j-i).toNat) H1
theorem zmB(hg:Gl X "range")(hm:X.mg "range" = none)(ha:PA X [a] ta)(hs:starEach [a] X.env=[(false,eval a X.env)]:=by rfl):PI X tg (.Call (.Name "range" p) [a] [] pos) (ztR ta):=by
 intro ρ s J H R I h;refine Call_ (zep I hg hm boot_range (PyProof.Rows.callWith_type1 (thn (ha pos ρ s J H _ I h) λus s1 h9=>?_) hs rfl));obtain⟨vs,H1,I1,r1,q1⟩:=h9;obtain⟨j,e,q1,q2,q⟩:=q1;subst e;cases r1 with
 |cons r rr=>cases rr;obtain⟨t,rfl⟩:=r;exact call_range_1 (zi2 I1 ⋯ ⋯ q1 q2 (by simpa using q))
theorem zmA{p pos:Pos}(hg:Gl X "range")(hm:X.mg "range" = none)(ha:PA X [a,b] ta)(hs:starEach [a,b] X.env=[(false,eval a X.env),(false,eval b X.env)]:=by rfl)(hs2:starEach [b] X.env=[(false,eval b X.env)]:=by rfl) :
  PI X tg (.Call (.Name "range" p) [a,b] [] pos) (ztQ ta):=by
 intro ρ s J H R I h;refine Call_ (zep I hg hm boot_range (PyProof.Rows.callWith_type1 (thn (ha pos ρ s J H _ I h) λus s1 h9=>?_) (by rw[hs,hs2]) (by rw[hs2];rfl)));obtain⟨vs,H1,I1,r1,q1⟩:=h9;obtain⟨i,j,e,⟨q1,q2,q3,q4⟩,q⟩:=q1;subst e;cases r1 with
 |cons r rr=>
  cases rr with
  |cons r' rr=>cases rr;obtain⟨t,rfl⟩:=r;obtain⟨t',rfl⟩:=r';exact call_range_2 (zi2 I1 q1 q2 q3 q4 q)
noncomputable def zux(wi:TI)(g:TG)(tb:TS):TS:=λD J H=>wi J H λJq H1=>∃W:Nat->Nat->St->Hp->Prop,(∃m,W 0 m J H1)/\∀i m J H,W i m J H->
 (Jq.stop i H/\D.nx J H)\/(Jq.go i H/\∃N:St->Hp->Prop,(∀J' H',N J' H'->∃m',m'<m/\W (i+1) m' J' H')/\∀x H',Jq.yld i H x H'->g x J H' λJ2 H2=>tb { D with nx:=N,ct:=N,bk:=D.nx } J2 H2)
noncomputable def zek(fp:List Addr)(h:Heap):List (Addr × Obj):=fp.filterMap λb=>(h.get? b).map λo=>(b,o)
theorem zcB(hb:b ∈ fp)(e:h.get? b=some o):(b,o) ∈ zek fp h:=List.mem_filterMap.mpr ⟨b,hb,by rw[e];rfl⟩
theorem zmI(hp:p ∈ zek fp h):p.1 ∈ fp/\h.get? p.1=some p.2:=by
 obtain⟨b,hb,e⟩:=List.mem_filterMap.mp hp;cases q:h.get? b with
 |none=>rw[q]at e;cases e|some o=>rw[q]at e;have e':(b,o)=p:=Qd e;subst e';exact⟨hb,q⟩
theorem Inv.pinned{J:St}(I:Inv X ρ J H s)(hf:∀b ∈ fp,zf2 X ρ H b)(ho:∀b ∈ fp,∃o,s.heap.get? b=some o/\∀v,o.data ≠ .cell v):Inv X (ρ++zek fp s.heap) J H s:=
 I.pins_of λp hp=>(mem_append.mp hp).elim (λz=>I.pin p (Qm _ z)) λz=>by
  obtain⟨hb,e⟩:=zmI z;obtain⟨f0,f1,f2,_⟩:=hf p.1 hb;obtain⟨o,e',d⟩:=ho p.1 hb;rw[e]at e';cases e'
  exact⟨e,f0,f1,f2,d⟩
def Inv.unpinned{J:St}(I:Inv X (ρ++pl) J H s):Inv X ρ J H s:=I.pins_of λp hp=>I.pin p (Qm _ (mem_append_left _ hp))
theorem zrn(hp:PassesOwn .(1) X.A X.env X.xe)(hc:X.calm=true)(hi:PI X tg iter wi)(hg:PG X tg g)(hb:PSs X body tb)
  (hs:∀x,foldedSetIterable iter X.env x=pure x:=by intro _;rfl):PS X (.For tg iter body [] pos) (zux wi g tb):=by
 intro ρ s J H D I h;refine wpAny_For (thn (hi ρ s J H _ I h) λv s1 h1=>thn h1 λitv s2 h2=>?_) hs;obtain⟨it,fp,tn,Jq,H2,e,I2,T,st2,f2,W,⟨m0,w0⟩,turn⟩:=h2;subst e
 have stat:∀{H':Hp},(∀b ∈ fp,H' b=none)->∀b ∈ fp,zf2 X ρ H' b:=λhn b hb=>⟨hn b hb,(f2 b hb).2⟩;refine codeAny_forLoop_any (λn s'=>∃i J' H',Inv X ρ J' H' s'/\tn i s'.heap/\(∀b ∈ fp,H' b=none)/\W i n J' H') ?_ m0 ⟨0,J,H2,I2,st2,λb hb=>(f2 b hb).1,w0⟩;rintro n s3 ⟨i,J3,H3,I3,st3,fr3,w3⟩;rcases turn i n J3 H3 w3 with⟨stop,qn⟩ | ⟨go,N,hN,step⟩
 .refine wpAny_passesOwn hp (thn (T.done X rfl rfl rfl hc i ρ s3 J3 H3 X.xe I3 (stat fr3) st3 stop) λr s4 ⟨hr,I4⟩=>?_);subst hr;exact wpAny_execs_nil ⟨J3,H3,I4,qn⟩
 .refine wpAny_passesOwn hp (thn (T.item X rfl rfl rfl hc i ρ s3 J3 H3 X.xe I3 (stat fr3) st3 go) λr s4 ⟨u,hr,h4⟩=>?_);subst hr;refine wpAny_passesOwn hp (thn h4 λ_ s5 h9=>?_);obtain⟨x,H5,I5,r5,y5,st5,fr5⟩:=h9;have I5':=I5.pinned (stat fr5) (T.obj _ _ st5);refine wpAny_passesOwn hp (thn (hg _ s5 J3 H5 x u _ I5' r5 (step x H5 y5)) λ_ s6 h9=>?_);obtain⟨J6,H6,I6,q6⟩:=h9;refine wpAny_passesOwn hp (thn (hb _ s6 J6 H6 _ I6 q6) λf s7 q7=>?_);have again:∀{J7:St} {H7:Hp},Inv X (ρ++zek fp s5.heap) J7 H7 s7->N J7 H7->∃m,m<n/\∃i J' H',Inv X ρ J' H' s7/\tn i s7.heap/\(∀b ∈ fp,H' b=none)/\W i m J' H':=λ{J7 H7} I7 n7=>by obtain⟨m',hm,w7⟩:=hN J7 H7 n7;refine⟨m',hm,i+1,J7,H7,I7.unpinned,T.keep _ _ _ st5 λb hb o e=>(I7.pin (b,o) (Qm _ (Qm _ (zcB hb e)))).1,λb hb=>?_,w7⟩;obtain⟨o,e,d⟩:=T.obj _ _ st5 b hb;exact(I7.pin (b,o) (Qm _ (Qm _ (zcB hb e)))).2.1
  cases f with|next=>obtain⟨J7,H7,I7,n7⟩:=q7;exact again I7 n7|cont=>obtain⟨J7,H7,I7,n7⟩:=q7;exact again I7 n7|brk=>obtain⟨J7,H7,I7,q7⟩:=q7;exact⟨J7,H7,I7.unpinned,q7⟩|ret v=>obtain⟨x7,J7,H7,I7,r7,q7⟩:=q7;exact⟨x7,J7,H7,I7.unpinned,r7,q7⟩
end
abbrev R2:=V->V->Hp->VK->Prop
def OpR(X:Cx)(f:Value->Value->Sem Value)(r:R2):Prop:=
 ∀(ρ:List (Addr × Obj)) (s:Shared) (J:St) (H:Hp) (x y:V) (v u:Value) (Q:VK),Inv X ρ J H s->RelV x v->RelV y u->r x y H Q->
  wpAny .(1) X.A (f v u) (EP X ρ J Q) X.xe s
def UnR(X:Cx)(f:Value->Sem Value)(r:V->Hp->VK->Prop):Prop:=
 ∀(ρ:List (Addr × Obj)) (s:Shared) (J:St) (H:Hp) (x:V) (v:Value) (Q:VK),Inv X ρ J H s->RelV x v->r x H Q->
  wpAny .(1) X.A (f v) (EP X ρ J Q) X.xe s
def yV(X:Cx)(f:Value)(r:List V->Hp->VK->Prop):Prop:=
 ∀(ρ:List (Addr × Obj)) (s:Shared) (J:St) (H:Hp) (xs:List V) (us:List Value) (Q:VK),Inv X ρ J H s->Vals xs us->r xs H Q->
  wpAny .(1) X.A (call f us) (EP X ρ J Q) X.xe s
noncomputable section
def tOp(r:R2)(ta tb:TE):TE:=λJ H Q=>ta J H λx H1=>tb J H1 λy H2=>r x y H2 Q
def tUn(r:V->Hp->VK->Prop)(ta:TE):TE:=λJ H Q=>ta J H λx H1=>r x H1 Q
def rI(C:Int->Int->Prop)(g:Int->Int->V):R2:=λx y H Q=>∃i j,x = .int i/\y = .int j/\C i j/\Q (g i j) H
def rI0(g:Int->Int->V):R2:=λx y H Q=>∃i j,x = .int i/\y = .int j/\Q (g i j) H
def rU(g:Int->V):V->Hp->VK->Prop:=λx H Q=>∃i,x = .int i/\Q (g i) H
end
section
theorem zoM(ha:PE X a ta)(hb:PE X b tb){ρ:List (Addr × Obj)}{s:Shared}{J:St}{H:Hp}{R:V->V->Hp->Prop}(I:Inv X ρ J H s)
  (h:ta J H λx H1=>tb J H1 λy H2=>R x y H2) {Q:Value->Shared->Prop} {f:Value->Value->Sem Value}
  (hf:∀v u s2 x y H2,Inv X ρ J H2 s2->RelV x v->RelV y u->R x y H2->wpAny .(1) X.A (f v u) Q X.xe s2) :
  wpAny .(1) X.A (eval a X.env) (λv s₁=>wpAny .(1) X.A (eval b X.env) (λu s₂=>wpAny .(1) X.A (f v u) Q X.xe s₂) X.xe s₁) X.xe s:=by
 refine thn (ha ρ s J H _ I h) λv s1 h9=>?_;obtain⟨x,H1,I1,r1,q1⟩:=h9;refine thn (hb ρ s1 J H1 _ I1 q1) λu s2 h9=>?_;obtain⟨y,H2,I2,r2,q2⟩:=h9;exact hf v u s2 x y H2 I2 r1 r2 q2
theorem zoU(ho:OpR X (binaryOp op) r)(ha:PE X a ta)(hb:PE X b tb):PE X (.BinOp a op b pos) (tOp r ta tb):=by apply?;exact wpAny_BinOp (zoM ha hb I h λv u s2 x y H2 I2 rx ry q=>ho ρ s2 J H2 x y v u Q I2 rx ry q)
theorem zty(ho:UnR X (unaryOp op) r)(ha:PE X a ta):PE X (.UnaryOp op a pos) (tUn r ta):=by apply?;exact UnaryOp_ (thn (ha ρ s J H _ I h) λv s1 ⟨x,H1,I1,r1,q1⟩=>ho ρ s1 J H1 x v Q I1 r1 q1)
theorem opI{g:Int->Int->Int}
  (rule:∀(i j:Int) (t u:Tok) (s:Shared) (Q:Value->Shared->Prop) (E:Value->Shared->Prop),C i j->Q (.int (g i j) s.toks) { s with toks:=s.toks+1 }->wpAny .(1) X.A (f (.int i t) (.int j u)) Q E s) :
  OpR X f (rI C λi j=>.int (g i j)):=by
 infer_instance
 obtain⟨i,j,rfl,rfl,hc,q⟩:=h;obtain⟨t,rfl⟩:=rx;obtain⟨t',rfl⟩:=ry;exact rule i j t t' s _ _ hc ⟨.int (g i j),H,I.tok _,⟨_,rfl⟩,q⟩
theorem zrJ{g:Int->Int->Int}
  (rule:∀(i j:Int) (t u:Tok) (s:Shared) (Q:Value->Shared->Prop) (E:Value->Shared->Prop),Q (.int (g i j) s.toks) { s with toks:=s.toks+1 }->wpAny .(1) X.A (f (.int i t) (.int j u)) Q E s) :
  OpR X f (rI0 λi j=>.int (g i j)):=by
 infer_instance
 obtain⟨i,j,rfl,rfl,q⟩:=h;obtain⟨t,rfl⟩:=rx;obtain⟨t',rfl⟩:=ry;exact rule i j t t' s _ _ ⟨.int (g i j),H,I.tok _,⟨_,rfl⟩,q⟩
theorem zn8{g:Int->Int->Bool}
  (rule:∀(i j:Int) (t u:Tok) (s:Shared) (Q:Value->Shared->Prop) (E:Value->Shared->Prop),Q (.bool (g i j)) s->wpAny .(1) X.A (f (.int i t) (.int j u)) Q E s) :
  OpR X f (rI0 λi j=>.bl (g i j)):=by
 infer_instance
 obtain⟨i,j,rfl,rfl,q⟩:=h;obtain⟨t,rfl⟩:=rx;obtain⟨t',rfl⟩:=ry;exact rule i j t t' s _ _ ⟨.bl (g i j),H,I,rfl,q⟩
def zvf(i j:Int):Prop:=0<=j/\j<=1000000/\i.natAbs<2 ^ 64
def CMul(i j:Int):Prop:=(-(2 ^ 64)<i/\i<2 ^ 64)\/(-(2 ^ 64)<j/\j<2 ^ 64)
theorem CMul.ok(h:CMul i j):IntMulOk i j:=by
 rcases h with⟨h1,h2⟩ | ⟨h1,h2⟩
 .exact .of_left (intBits_le_64 h1 h2)
 .exact .of_right (intBits_le_64 h1 h2)
def zrI:OpR X (binaryOp .Add) (rI0 λi j=>.int (i+j)):=zrJ λ_ _ _ _ _ _ _ q=>add_int q
def zrC:OpR X (binaryOp .Sub) (rI0 λi j=>.int (i-j)):=zrJ λ_ _ _ _ _ _ _ q=>sub_int q
def zpP:OpR X (binaryOp .Mod) (rI (λ_ j=>j ≠ 0) λi j=>.int (i.fmod j)):=opI λ_ _ _ _ _ _ _ hc q=>mod_int' hc q
def zrD:OpR X (binaryOp .Pow) (rI zvf λi j=>.int (i ^ j.toNat)):=opI λ_ _ _ _ _ _ _ hc q=>pow_int_small hc.1 hc.2.1 hc.2.2 q
theorem unI{g:Int->Int}
  (rule:∀(i:Int) (t:Tok) (s:Shared) (Q:Value->Shared->Prop) (E:Value->Shared->Prop),Q (.int (g i) s.toks) { s with toks:=s.toks+1 }->wpAny .(1) X.A (f (.int i t)) Q E s) :
  UnR X f (rU λi=>.int (g i)):=by
 intro ρ s J H x v Q I rx h;obtain⟨i,rfl,q⟩:=h;obtain⟨t,rfl⟩:=rx;exact rule i t s _ _ ⟨.int (g i),H,I.tok _,⟨_,rfl⟩,q⟩
def zqU:UnR X (unaryOp .USub) (rU λi=>.int (-i)):=unI λ_ _ _ _ _ q=>neg_int q
end
section
theorem znf{J:St}(I:Inv X ρ J H s)(q:Q (.bl k) H)(e:k=k'):EP X ρ J Q (.bool k') s:=by subst e;exact⟨.bl k,H,I,rfl,q⟩
def ztC:OpR X (compareOp .Lt) (rI0 λi j=>.bl (decide (i<j))):=zn8 λ_ _ _ _ _ _ _ q=>lt_int q
def ztD:OpR X (compareOp .LtE) (rI0 λi j=>.bl (decide (i<=j))):=zn8 λ_ _ _ _ _ _ _ q=>le_int q
def ztE:OpR X (compareOp .Gt) (rI0 λi j=>.bl (decide (j<i))):=zn8 λ_ _ _ _ _ _ _ q=>gt_int q
theorem zrE:OpR X (compareOp .Is) (λx y H Q=>y = .non/\Q (.bl (decide (x = .non))) H):=by
 infer_instance
 obtain⟨rfl,q⟩:=h;cases ry;refine is_none_gen (znf I q ?_);cases x<;>first
  |(cases rx;rfl)
  |(obtain⟨t,rfl⟩:=rx;rfl)
theorem zpJ:OpR X (compareOp .IsNot) (λx y H Q=>y = .non/\Q (.bl (!decide (x = .non))) H):=by
 infer_instance
 obtain⟨rfl,q⟩:=h;cases ry;refine isnot_none_gen (znf I q ?_);cases x<;>first
  |(cases rx;rfl)
  |(obtain⟨t,rfl⟩:=rx;rfl)
theorem zm(b:Expr){op:CmpOp}(h:op ≠ .In:=by decide)(h2:op ≠ .NotIn:=by decide):behindInMarks op b=false:=by
 have e1:(op==CmpOp.In)=false:=by cases op<;>first | rfl | exact absurd rfl h
 have e2:(op==CmpOp.NotIn)=false:=by cases op<;>first | rfl | exact absurd rfl h2
 cases b<;>simp[behindInMarks,e1,e2]
theorem zpG(ho:OpR X (compareOp op) r)(ha:PE X a ta)(hb:PE X b tb)(hm:behindInMarks op b=false):PE X (.Compare a [op] [b] pos) (tOp r ta tb):=by apply?;exact wpAny_Compare1 (zoM ha hb I h λv u s2 x y H2 I2 rx ry q=>ho ρ s2 J H2 x y v u Q I2 rx ry q) hm
noncomputable def zs9(t:TE):TT:=λJ H Q=>t J H λx H'=>∃k,x = .bl k/\Q k H'
theorem zpv(ho:OpR X (compareOp op) r)(ha:PE X a ta)(hb:PE X b tb)(hm:behindInMarks op b=false):PT X (.Compare a [op] [b] pos) (zs9 (tOp r ta tb)):=by
 apply?;refine wpAny_isTrue_Compare1 (thn (ha ρ s J H _ I h) λv s1 ⟨x,H1,I1,r1,q1⟩=>thn (hb ρ s1 J H1 _ I1 q1) λu s2 ⟨y,H2,I2,r2,q2⟩=>thn (ho ρ s2 J H2 x y v u _ I2 r1 r2 q2) λc s3 h9=>?_) hm;obtain⟨z,H3,I3,r3,k,e,q3⟩:=h9
 subst e;cases r3;exact wpAny_truthy_bool ⟨H3,I3,q3⟩
noncomputable def zmk(r r':R2)(ta tb tc:TE):TE:=λJ H Q=>ta J H λx H1=>tb J H1 λy H2=>r x y H2 λz H3=>∃k,z = .bl k /\
 (if k=true then tc J H3 λw' H4=>r' y w' H4 Q else Q (.bl false) H3)
theorem zn6(ho:OpR X (compareOp op) r)(ho':OpR X (compareOp op') r')(ha:PE X a ta)(hb:PE X b tb)(hc:PE X c tc)
  (hm:lastMarks [op,op'] [b,c]=false:=by with_unfolding_all rfl):PE X (.Compare a [op,op'] [b,c] pos) (zmk r r' ta tb tc):=by
 apply?;refine Compare_chain (thn (ha ρ s J H _ I h) λv s1 ⟨x,H1,I1,r1,q1⟩=>chain_link (thn (hb ρ s1 J H1 _ I1 q1) λu s2 ⟨y,H2,I2,r2,q2⟩=>thn (ho ρ s2 J H2 x y v u _ I2 r1 r2 q2) λd s3 h9=>?_)) hm;obtain⟨z,H3,I3,r3,k,e,q3⟩:=h9
 subst e;cases r3;refine wpAny_truthy_bool ?_;cases k with|false=>exact ite_ff ⟨.bl false,H3,I3,rfl,q3⟩|true=>exact ite_tt (chain_last (thn (hc ρ s3 J H3 _ I3 q3) λw' s4 ⟨z',H4,I4,r4,q4⟩=>ho' ρ s4 J H4 y z' u w' Q I4 r2 r4 q4))
theorem zco:(sizeLine:Nat)<2 ^ 63:=by rw[sizeLine_eq];decide
theorem zlM:OpR X (binaryOp .Add) (λx y H Q=>∃i j,x = .str i/\y = .str j/\i.length+j.length<=sizeLine/\Q (.str (i++j)) H):=by
 infer_instance
 obtain⟨i,j,rfl,rfl,hz,q⟩:=h;obtain⟨t,rfl⟩:=rx;obtain⟨t',rfl⟩:=ry;exact add_str (λt' tk=>⟨.str (i++j),H,I.tok _,⟨_,rfl⟩,q⟩) hz
theorem vals1(r:Vals [x] us):∃u,us=[u]/\RelV x u:=by cases r with|cons r1 r2=>cases r2;exact⟨_,rfl,r1⟩
theorem vals2(r:Vals [x,y] us):∃u w',us=[u,w']/\RelV x u/\RelV y w':=by
 cases r with
 |cons r1 r2=>cases r2 with|cons r3 r4=>cases r4;exact⟨_,_,rfl,r1,r3⟩
theorem znw(hc:X.calm=true):yV X (.builtin "max") (λxs H Q=>∃i j,xs=[.int i,.int j]/\Q (.int (if j > i then j else i)) H):=by
 intro ρ s J H xs us Q I r h;obtain⟨i,j,rfl,q⟩:=h;obtain⟨u,w',rfl,⟨t,rfl⟩,⟨t',rfl⟩⟩:=vals2 r;refine max_two_ints (I.ok.hd hc) λh' tk k=>⟨_,H,I.kept k,?_,q⟩
 by_cases hj:j > i
 .rw[QA hj,QA hj];exact⟨_,rfl⟩
 .rw[QB hj,QB hj];exact⟨_,rfl⟩
theorem znv(hc:X.calm=true):yV X (.builtin "min") (λxs H Q=>∃i j,xs=[.int i,.int j]/\Q (.int (if j<i then j else i)) H):=by
 intro ρ s J H xs us Q I r h;obtain⟨i,j,rfl,q⟩:=h;obtain⟨u,w',rfl,⟨t,rfl⟩,⟨t',rfl⟩⟩:=vals2 r;refine min_two_ints (I.ok.hd hc) λh' tk k=>⟨_,H,I.kept k,?_,q⟩
 by_cases hj:j<i
 .rw[QA hj,QA hj];exact⟨_,rfl⟩
 .rw[QB hj,QB hj];exact⟨_,rfl⟩
end
structure ObjM (h:Heap) (x dx C:Addr) (mA:Str->Option Value):Prop where
 obj:h.get? x=some (PySem.W.instObj C dx)
 ns:h.Ns1 dx mA
 ne:dx ≠ x
theorem zmO{h:Heap}(n:h.Ns1 dx mA):∃od,h.get? dx=some od/\∀name,PySem.W.lookIn name od=some (mA name):=by
 obtain⟨o,es,ep,ho,hd,hk,_,hm⟩:=n;refine⟨o,ho,λname=>?_⟩;have e:=hm name;unfold nsFind findBy at e;rw[←Array.find?_toList]at e;unfold PySem.W.lookIn;rw[hd];dsimp only;split
 .rename_i y q;rw[q]at e;exact congrArg some e
 .rename_i q;rw[q]at e;have a:es.toList.any (·.refKey)=false:=by rw[List.any_eq_false];intro y hy;obtain⟨z,t,hkey⟩:=hk y (Array.mem_toList_iff.mp hy);simp[DictEntry.refKey,hkey]
  have a':¬es.toList.any (·.refKey)=true:=by rw[a];exact Q4
  rw[QB a'];exact congrArg some e
theorem ObjM.look(I:ObjM h x dx C mA):∃od,PySem.W.InstAt h x (PySem.W.instObj C dx) C (some od)/\∀name,PySem.W.lookIn name od=some (mA name):=
 let ⟨od,ho,hl⟩:=zmO I.ns
 ⟨od,⟨I.obj,rfl,rfl,ho⟩,hl⟩
section
variable     {s:Shared} {K:Frag}    
theorem get_map(X:K.In s.heap)(I:ObjM s.heap x dx C mA)(hg:PySem.W.plainGet K C name=true)(hh:PySem.W.hasDictIn K C=true)
  (ha:PySem.W.findIn K (.ref C) name=some none) (hv:mA name=some v) (hv':PySem.W.handedIn v=true) (h:Q v { s with toks:=s.toks+1 }) :
  wpAny (model prog w) A (getAttr (.ref x) name expr) Q E s:=by
 obtain⟨od,Jq,hl⟩:=I.look;exact PySem.W.get_value X Jq (PySem.W.plainGet_of hg).1 (PySem.W.findObj_own hh ha rfl (by rw[hl,hv])) hv' h
theorem zpi(X:K.In s.heap)(I:ObjM s.heap x dx C mA)
  (hs:PySem.W.findIn K (.ref C) "__setattr__" = some (some (.builtin "object.__setattr__"))) (hp:PySem.W.plainOver K C=true) (ht:PySem.W.takerIn K C name=some none) (hh:PySem.W.hasDictIn K C=true)
  (hw:PySem.Within mA ns) (hsz:ns.length<=sizeLine)
  (h:∀h',ObjM h' x dx C (λy=>if y=name then some v else mA y)->Heap.SameBut dx s.heap h'->Q () { s with heap:=h',toks:=s.toks+2 }) :
  wpAny (model prog w) A (setAttr (.ref x) name v) Q E s:=by
 obtain⟨od,Jq,hl⟩:=I.look;refine PySem.W.set_plain X Jq hs (PySem.W.osa_open (s:={ s with toks:=s.toks+1 }) (r:=none) X Jq hp ht λb=>?_);obtain⟨cd,hc,hd'⟩:=PySem.W.any_some hh;have hx:s.heap.get? x=some ⟨.ref C,some dx,.plain,#[]⟩:=I.obj;refine Q1 (Qf (Q1 (Q1 (wpAny_loadPart hx (Q1 (PySem.W.Looks.here (s:={ s with toks:=s.toks+1 }) (PySem.W.looks_clsIn X hc) ?_))))));rw[hd'];refine Qf (a:=some dx) (Q1 (Qf (Q1 ?_)));refine wpAny_nsSet1 (s:={ s with toks:=s.toks+1 }) I.ns λh' hn2 hs2=>?_;obtain⟨oD,esD,epD,hoD,hdD,hcD⟩:=hn2.count (PySem.Within.cons name v hw);refine Q1 (wpAny_lookBehind hoD (by rw[hdD];exact pastItsLine_dict (Qj hcD (by rw[Qp];symm))) ?_);exact Qf (h _ ⟨(hs2.2 _ (Ne.symm I.ne)).trans I.obj,hn2,I.ne⟩ hs2)
theorem zoe(X:K.In s.heap)(hm:PySem.W.makesIn K C=true)
  (hi:PySem.W.findIn K (.ref C) "__init__" = some (some (.ref f))) (hf:PySem.W.typeIn K (.ref f)=some (.type "function"))
  (h:codeAny (model prog w) (A.under (.builtin "type.__call__" ⟨.ref C::vs,kw⟩)) (.call (.ref f) ⟨.ref (s.heap.objs.size+1)::vs,kw⟩) (PySem.W.InitBack (s.heap.objs.size+1) R)
   { s with heap:=(s.heap.push PySem.W.emptyDict).push (PySem.W.instObj C s.heap.objs.size) }) :
  codeAny (model prog w) A (.call (.ref C) ⟨vs,kw⟩) R s:=by
 obtain⟨hh,g,d,t,os⟩:=s;exact PySem.W.make_core (PySem.W.makes_of X hm) (PySem.W.looks_findIn X hi) (λself=>PySem.W.bind_fn X self hf) (.inl rfl) h
end
noncomputable def z9(f:Str)(v:V):List (Str × V)->List (Str × V)
 |[]=>[(f,v)]|(g,x)::r=>if g=f then(g,v)::r else(g,x)::z9 f v r
theorem zfi(f g:Str)(v:V):∀fs:List (Str × V),(z9 f v fs).lookup g=if g=f then some v else fs.lookup g
 |[]=>by
  show List.lookup g [(f,v)]=_
  by_cases h:g=f
  .have hb:(g==f)=true:=beq_iff_eq.mpr h;simp only[List.lookup,hb,QA h]
  .have hb:(g==f)=false:=beq_eq_false_iff_ne.mpr h;simp only[List.lookup,hb,QB h]
 |(k,x)::r=>by
  have ih:=zfi f g v r;rw[show z9 f v ((k,x)::r)=(if k=f then(k,v)::r else(k,x)::z9 f v r)from rfl]
  by_cases hk:k=f
  .rw[QA hk]
   by_cases h:g=k
   .have hb:(g==k)=true:=beq_iff_eq.mpr h;simp only[List.lookup,hb,QA (h.trans hk)]
   .have hb:(g==k)=false:=beq_eq_false_iff_ne.mpr h;simp only[List.lookup,hb,QB (λe:g=f=>h (e.trans hk.symm))]
  .rw[QB hk]
   by_cases h:g=k
   .have hb:(g==k)=true:=beq_iff_eq.mpr h;simp only[List.lookup,hb,QB (λe:g=f=>hk (h.symm.trans e))]
   .have hb:(g==k)=false:=beq_eq_false_iff_ne.mpr h;simp only[List.lookup,hb];exact ih
theorem zeq(f:Str)(v:V):∀fs:List (Str × V),f ∈ (z9 f v fs).map (·.1)/\∀g,g ∈ fs.map (·.1)->g ∈ (z9 f v fs).map (·.1)
 |[]=>⟨by simp[z9],λg h=>by simp at h⟩|(k,x)::r=>by
  obtain⟨i1,i2⟩:=zeq f v r;rw[show z9 f v ((k,x)::r)=(if k=f then(k,v)::r else(k,x)::z9 f v r)from rfl]
  by_cases hk:k=f
  .rw[QA hk];subst hk;exact⟨by simp,λg h=>by simpa using h⟩
  .rw[QB hk];refine⟨?_,λg h=>?_⟩
   .rw[QG];exact mem_cons_of_mem _ i1
   .rw[QG]at h ⊢;rcases QC.mp h with e | e
    .exact QC.mpr (.inl e)
    .exact mem_cons_of_mem _ (i2 g e)
theorem zfj(f:Str)(v:V):∀fs:List (Str × V),(z9 f v fs).length<=fs.length+1
 |[]=>by simp[z9]|(k,x)::r=>by
  have ih:=zfj f v r;rw[show z9 f v ((k,x)::r)=(if k=f then(k,v)::r else(k,x)::z9 f v r)from rfl]
  by_cases hk:k=f
  .rw[QA hk,Qp,Qp];symm
  .rw[QB hk,Qp,Qp];symm
theorem RelO.some_of(r:RelO (some v) o):∃u,o=some u/\RelV v u:=by cases o with|none=>exact(show False from r).elim|some u=>exact⟨u,rfl,r⟩
theorem zm2(r:RelV v u):PySem.W.handedIn u=true:=by cases v with|non=>cases (show u=Value.none from r);rfl|bl b=>cases (show u=Value.bool b from r);rfl|int i=>obtain⟨t,e⟩:=(show ∃t,u=Value.int i t from r);cases e;rfl|str x=>obtain⟨t,e⟩:=(show ∃t,u=Value.str x t from r);cases e;rfl|byt b=>obtain⟨t,e⟩:=(show ∃t,u=Value.bytes b t from r);cases e;rfl|flt b=>obtain⟨t,e⟩:=(show ∃t,u=Value.float b t from r);cases e;rfl|ref a=>cases (show u=Value.ref a from r);rfl|ty n=>cases (show u=Value.type n from r);rfl
section
theorem zk0(hok:HOk P w H h)(e:H a=some (.ins C dx fs)):∃mA,ObjM h a dx C mA/\(∀f,RelO (fs.lookup f) (mA f))/\PySem.Within mA (fs.map (·.1))/\fs.length<=1000/\H dx=some (.own a):=by obtain⟨d,z,ne,ob,mA,n,r,q⟩:=(show ObjOk P w H h a (.ins C dx fs)from hok a _ e);exact⟨mA,⟨ob,n,ne⟩,r,q,z,d⟩
end
structure Cls (K:Frag) (C:Addr):Prop where
 pg:PySem.W.plainGet K C Str.empty=true
 hd:PySem.W.hasDictIn K C=true
 po:PySem.W.plainOver K C=true
 sa:PySem.W.findIn K (.ref C) "__setattr__" = some (some (.builtin "object.__setattr__"))
def Cls.get{K:Frag}(c:Cls K C)(f:Str):PySem.W.plainGet K C f=true:=c.pg
def NoAttr(K:Frag)(C:Addr)(f:Str):Prop:=PySem.W.findIn K (.ref C) f=some none
theorem NoAttr.taker{K:Frag}(n:NoAttr K C f):PySem.W.takerIn K C f=some none:=by unfold PySem.W.takerIn;rw[show PySem.W.findIn K (.ref C) f=some none from n];rfl
section
variable   {J:St}        
theorem zgw(I:Inv X ρ J H s)(e:H a=some (.ins C dx fs))(c:Cls X.K C)(n:NoAttr X.K C f)(l:fs.lookup f=some v)
  (h:∀u s',Inv X ρ J H s'->RelV v u->Q u s'):wpAny .(1) A (getAttr (.ref a) f b) Q E s:=by
 obtain⟨mA,O,r,_,_,_⟩:=zk0 I.hok e;obtain⟨u,hu,ru⟩:=RelO.some_of (v:=v) (o:=mA f) (by rw[←l];exact r f);exact get_map I.kIn O (c.get f) c.hd n hu (zm2 ru) (h u _ (I.tok _) ru)
theorem zf4(I:Inv X ρ J H s)(e:H a=some (.ins C dx fs))(c:Cls X.K C)(n:NoAttr X.K C f)(hl:fs.length<1000)(ry:RelV y u)
  (h:∀s',Inv X ρ J (upd H a (.ins C dx (z9 f y fs))) s'->Q () s'):wpAny .(1) A (setAttr (.ref a) f u) Q E s:=by
 obtain⟨mA,O,r,wi,_,ho⟩:=zk0 I.hok e;have hz:(fs.map (·.1)).length<=sizeLine:=by rw[Qh,sizeLine_eq];symm
 refine zpi I.kIn O c.sa c.po n.taker c.hd wi hz λh' O' sb=>h _ ?_;have hd:∃o,h'.get? dx=some o:=let ⟨o,_,_,e',_⟩:=O'.ns;⟨o,e'⟩
 refine I.write (x:=a) (e:=dx) (by rw[e];exact True.intro) (.inr ho) (λb q hb z=>(sb.2 b hb).trans z) hd ?_;refine⟨by rw[yk O.ne];exact ho,?_,O.ne,O'.obj,_,O'.ns,λg=>?_,λg hg=>?_⟩
 .have:=zfj f y fs;symm
 .show RelO ((z9 f y fs).lookup g) (if g=f then some u else mA g);rw[zfi]
  by_cases q:g=f
  .rw[QA q,QA q];exact ry
  .rw[QB q,QB q];exact r g
 .by_cases q:g=f
  .rw[q];exact(zeq f y fs).1
  .refine(zeq f y fs).2 g (wi g λz=>hg ?_);show(if g=f then some u else mA g)=none;rw[QB q];exact z
theorem Inv.made(I:Inv X ρ J H s):Inv X ρ J (upd (upd H s.heap.objs.size (.own (s.heap.objs.size+1))) (s.heap.objs.size+1) (.ins C s.heap.objs.size []))
  { s with heap:=(s.heap.push PySem.W.emptyDict).push (PySem.W.instObj C s.heap.objs.size) }:=by
 have e1:(s.heap.push PySem.W.emptyDict).get? s.heap.objs.size=some PySem.W.emptyDict:=Ql s.heap rfl;have e2:((s.heap.push PySem.W.emptyDict).push (PySem.W.instObj C s.heap.objs.size)).get? (s.heap.objs.size+1)=some (PySem.W.instObj C s.heap.objs.size):=by
  have:=Ql (s.heap.push PySem.W.emptyDict) (o:=PySem.W.instObj C s.heap.objs.size) rfl
  rwa [Heap.size_push]at this
 have e3:(s.heap.push PySem.W.emptyDict).Ns s.heap.objs.size (λ_=>none):=⟨PySem.W.emptyDict,#[],_,e1,rfl,(λe he=>absurd he (by simp)),λ_=>rfl⟩;have I1:=I.laid (a:=s.heap.objs.size) (o:=.own (s.heap.objs.size+1)) (h':=s.heap.push PySem.W.emptyDict) (t':=s.toks) (λb u q=>Q2 _ q) (Q3 _) ⟨_,e1⟩;refine I1.laid (a:=s.heap.objs.size+1) (o:=.ins C s.heap.objs.size []) (t':=s.toks) (λb u q=>Q2 _ q) (Nat.le_of_eq (Heap.size_push _ _)) ?_;have ne:s.heap.objs.size ≠ s.heap.objs.size+1:=Qk (Nat.lt_succ_self _);refine⟨by rw[yk ne,qA],Nat.zero_le _,ne,e2,λ_=>none,(Heap.Ns1.of_empty e3).at λo q=>Q2 _ q,λ_=>True.intro,λy hy=>absurd rfl hy⟩
theorem zlp(hb:attributeBase e f env (eval e env)=eval e env)
  (h:wpAny (model prog w) A (eval e env) (λo s₁=>wpAny (model prog w) A (getAttr o f true) Q E s₁) E s):wpAny (model prog w) A (eval (.Attribute e f pos) env) Q E s:=
 Attribute_any_ h (by rw[arm_eval_Attribute,hb])
end
def zuy(K:Frag)(ta:TE)(f:Str):TE:=λJ H Q=>ta J H λx H1=>∃a C dx fs v,x = .ref a/\H1 a=some (.ins C dx fs)/\Cls K C/\NoAttr K C f/\fs.lookup f=some v/\Q v H1
def zuD(K:Frag)(ta tv:TE)(f:Str):TS:=λD J H=>tv J H λy H1=>ta J H1 λx H2=>∃a C dx fs,x = .ref a/\H2 a=some (.ins C dx fs)/\Cls K C/\NoAttr K C f/\fs.length<1000 /\
 D.nx J (upd H2 a (.ins C dx (z9 f y fs)))
def zs1(X:Cx)(op:Operator)(rd:V->V->Hp->VK->Prop):Prop:=
 ∀(ρ:List (Addr × Obj)) (s:Shared) (J:St) (H:Hp) (x y:V) (u v:Value) (Q:VK),Inv X ρ J H s->RelV x u->RelV y v->rd x y H Q->wpAny .(1) X.A (inplaceOp op u v) (EP X ρ J Q) X.xe s
def zpk(K:Frag)(ta tv:TE)(rd:V->V->Hp->VK->Prop)(f:Str):TS:=λD J H=>ta J H λx H1=>∃a C dx fs v,x = .ref a/\H1 a=some (.ins C dx fs)/\Cls K C/\NoAttr K C f/\fs.lookup f=some v /\
 tv J H1 λy H2=>rd v y H2 λz H3=>∃dx' fs',H3 a=some (.ins C dx' fs')/\fs'.length<1000/\D.nx J (upd H3 a (.ins C dx' (z9 f z fs')))
section
theorem zrz(he:PE X e ta)(hb:attributeBase e f X.env (eval e X.env)=eval e X.env):PE X (.Attribute e f pos) (zuy X.K ta f):=by apply?;refine zlp hb (thn (he ρ s J H _ I h) λu s1 h9=>?_);obtain⟨x,H1,I1,rx,a,C,dx,fs,v,ex,ea,c,n,l,q⟩:=h9;subst ex;obtain rfl:u=Value.ref a:=rx;exact zgw I1 ea c n l λu' s2 I2 ru=>⟨v,H1,I2,ru,q⟩
theorem zro(ha:PE X o ta)(hv:PE X value tv)(hs:swapsWith value (some (.Attribute o f pos')) pos.line X.env=pure false):PS X (.Assign [.Attribute o f pos'] value pos) (zuD X.K ta tv f):=by intro ρ s J H D I h;refine plainObj_wpAny_Assign_Attribute (thn (hv ρ s J H _ I h) λu s1 ⟨y,H1,I1,ry,q⟩=>thn (ha ρ s1 J H1 _ I1 q) λov s2 h9=>?_) hs;obtain⟨x,H2,I2,rx,a,C,dx,fs,ex,ea,c,n,l,q2⟩:=h9;subst ex;obtain rfl:ov=Value.ref a:=rx;exact zf4 I2 ea c n l ry λs3 I3=>⟨J,_,I3,q2⟩
theorem zmx(ha:PE X o ta)(hv:PE X value tv)(hop:zs1 X op rd):PS X (.AugAssign (.Attribute o f tpos) op value pos) (zpk X.K ta tv rd f):=by intro ρ s J H D I h;refine wpAny_AugAssign_AttributeAny (thn (ha ρ s J H _ I h) λov s1 h9=>?_);obtain⟨x,H1,I1,rx,a,C,dx,fs,v,ex,ea,c,n,l,q⟩:=h9;subst ex;obtain rfl:ov=Value.ref a:=rx;refine zgw I1 ea c n l λu s2 I2 ru=>thn (hv ρ s2 J H1 _ I2 q) λw3 s3 ⟨y,H2,I3,ry,q3⟩=>thn (hop ρ s3 J H2 v y u w3 _ I3 ru ry q3) λw4 s4 h9=>?_;obtain⟨z,H3,I4,rz,dx',fs',ea',l',q4⟩:=h9;exact zf4 I4 ea' c n l' rz λs5 I5=>⟨J,_,I5,q4⟩
noncomputable def zuI:V->V->Hp->VK->Prop:=λx y H Q=>∃i j,x = .int i/\y = .int j/\Q (.int (i+j)) H
theorem zsc:zs1 X .Add zuI:=by rintro ρ s J H x y u v Q I rx ry ⟨i,j,rfl,rfl,q⟩;obtain⟨t,rfl⟩:=(show ∃t,u=Value.int i t from rx);obtain⟨t',rfl⟩:=(show ∃t',v=Value.int j t' from ry);exact PyProof.Rows.iadd_int ⟨.int (i+j),H,I.tok _,⟨_,rfl⟩,q⟩
end
structure Room (k:Nat) (A:Around):Prop where
 hd:A.handled=none
 dp:A.depth+3*k+5<recursionLimit
 un:A.units+16*k+200<cLine
theorem Room.mono(r:Room k A)(h:j<=k):Room j A:=⟨r.hd,by have:=r.dp;symm,by have:=r.un;symm⟩
theorem Room.deeper(r:Room (k+1) A)(env:Env):Room k (A.deeper env):=
 ⟨r.hd,by have:=r.dp;show A.depth+1+3*k+5<_;symm,by have:=r.un;show A.units+3+16*k+200<_;symm⟩
theorem zlQ{A:Around}:(A.under (.builtin "type.__call__" ⟨.ref C::us,kw⟩)).depth=A.depth+1:=by first | rfl | simp[Around.under,Code.weight,Code.isCreation,Code.isGuard,Code.isCaller,Code.frames,Code.isFrame,guardIds]
theorem zlP{A:Around}:(A.under (.builtin "type.__call__" ⟨.ref C::us,kw⟩)).units=A.units+1:=by first | rfl | simp[Around.under,Code.cUnits,Code.frames,Code.isFrame]
theorem Room.make(r:Room (k+1) A)(C:Addr)(us:List Value)(kw:List (Str × Value)):Room k (A.under (.builtin "type.__call__" ⟨.ref C::us,kw⟩)):=
 ⟨r.hd,by have:=r.dp;rw[zlQ];symm,by have:=r.un;rw[zlP];symm⟩
theorem Room.depth(r:Room k A):A.depth<recursionLimit:=by have:=r.dp;symm
theorem Room.units(r:Room k A):A.units+64<cLine:=by have:=r.un;symm
noncomputable def zuv:TA:=λ_ H Q=>Q [] H
noncomputable def ztf(ta:TE)(tr:TA):TA:=λJ H Q=>ta J H λx H1=>tr J H1 λxs H2=>Q (x::xs) H2
section
def zgp:PA X [] zuv:=λ_ _ _ _ H Q I h=>Calls.spliced_nil ⟨[],H,I,.nil,h⟩
theorem zb1(ha:PE X e te)(hr:PA X es t)(hs:starEach (e::es) X.env=(false,eval e X.env)::starEach es X.env:=by rfl):PA X (e::es) (ztf te t):=by intro pos ρ s J H Q I h;rw[hs];show wpAny _ _ (spliced ((false,eval e X.env)::backTo pos (starEach es X.env))) _ _ s;refine Calls.spliced_cons (thn (ha ρ s J H _ I h) λu s1 h9=>?_);obtain⟨x,H1,I1,r1,q1⟩:=h9;exact thn (hr pos ρ s1 J H1 _ I1 q1) λus s2 ⟨xs,H2,I2,r2,q2⟩=>⟨x::xs,H2,I2,.cons r1 r2,q2⟩
def zup(t:TA):TE:=λJ H Q=>t J H λxs H1=>xs.length<=sizeLine/\∀p,H1 p=none->Q (.ref p) (upd H1 p (.tup xs))
def zuw(t:TA):TE:=λJ H Q=>t J H λxs H1=>xs.length<=sizeLine/\∀p,H1 p=none->Q (.ref p) (upd H1 p (.lst xs))
theorem zmD(h:PA X es t):PE X (.Tuple es x1 pos) (zup t):=by intro ρ s J H Q I hq;refine wpAny_Tuple_spliced (thn (h pos ρ s J H _ I hq) λus s1 ⟨xs,H1,I1,r,z,q⟩=>⟨by rw[←r.length];exact z,?_⟩);have hf:H1 s1.heap.objs.size=none:=I1.hok.fresh (Q3 _);refine⟨.ref s1.heap.objs.size,upd H1 s1.heap.objs.size (.tup xs),I1.laid (t':=s1.toks) (λb u e=>Q2 _ e) (Q3 _) ?_,rfl,q _ hf⟩;exact⟨z,us,r,⟨_,Ql _ rfl,rfl,_,rfl⟩,NoDict.new⟩
theorem zry(h:PA X es t):PE X (.List es pos) (zuw t):=by intro ρ s J H Q I hq;refine wpAny_List_spliced (thn (h pos ρ s J H _ I hq) λus s1 ⟨xs,H1,I1,r,z,q⟩=>⟨by rw[←r.length];exact z,?_⟩);have hf:H1 s1.heap.objs.size=none:=I1.hok.fresh (Q3 _);refine⟨.ref s1.heap.objs.size,upd H1 s1.heap.objs.size (.lst xs),I1.laid (t':=s1.toks) (λb u e=>Q2 _ e) (Q3 _) ?_,rfl,q _ hf⟩;exact⟨z,us,0,r,Ql _ rfl⟩
end
abbrev Sp:=List V->Hp->VK->XK->Prop
abbrev CXT:=List Env->Hp->Shared->XK->Value->Shared->Prop
structure Env0 (P:Program) (w:World) (K:Frag) (mg:Str->Option Value) (base:Heap) (A:Around) (outer:List Env) (s:Shared) (H:Hp):Prop where
 frames:A.frames=some outer
 mod:Mod K mg base
 bs:∀b o,base.get? b=some o->s.heap.get? b=some o/\H b=none
 bsz:base.objs.size<=s.heap.objs.size
 funs:s.heap.FunFrames base outer
 frf:∀b ∈ frs outer,H b=none
 hok:HOk P w H s.heap
 bare:AllBare s.gens
def CE(outer:List Env)(P:Program)(w:World)(H:Hp)(s:Shared)(Q:VK)(u:Value)(s':Shared):Prop:=
 ∃v H',s'.os=s.os/\AllBare s'.gens/\Un (frs outer) [] H H' s.heap s'.heap/\HOk P w H' s'.heap/\RelV v u/\Q v H'
def CR(CX:CXT)(outer:List Env)(P:Program)(w:World)(H:Hp)(s:Shared)(Q:VK)(E:XK)(r:Result)(s':Shared):Prop:=
 match r with
 |.ok (.ret u)=>CE outer P w H s Q u s'|.ok _=>False|.error e=>CX outer H s E e s'
structure FnOk (P:Program) (w:World) (K:Frag) (mg:Str->Option Value) (base:Heap) (CX:CXT) (k:Nat) (f:Addr) (fd:FuncData) (ps:List Str) (sp:Sp):Prop where
 len:∀vs H Q E,sp vs H Q E->vs.length=ps.length
 run:∀(A:Around) (outer:List Env) (s:Shared) (H:Hp) (args:Args) (us:List Value) (vs:List V) (Q:VK) (E:XK),Room k A->Env0 P w K mg base A outer s H->BindsTo s fd args (ps.zip us)->Vals vs us->sp vs H Q E->
  codeAny (model P w) A (.call (.ref f) args) (CR CX outer P w H s Q E) s
theorem Env0.make{K:Frag}(e:Env0 P w K mg base A outer s H)(C:Addr)(us:List Value)(kw:List (Str × Value)):
  Env0 P w K mg base (A.under (.builtin "type.__call__" ⟨.ref C::us,kw⟩)) outer s H:=⟨by first | exact e.frames | (simpa[Around.under,Code.envs,Code.isFrame,pushEnvs]using e.frames),e.mod,e.bs,e.bsz,e.funs,e.frf,e.hok,e.bare⟩
section
variable   {J:St}  
theorem Inv.env0(I:Inv X ρ J H s):Env0 X.prog X.w X.K X.mg X.base X.A X.stack s H:=
 ⟨I.ok.frames,I.ok.mod,I.bs,Qj I.ok.bsz I.sz,I.stack,I.stkFree,I.hok,I.bare⟩
theorem Inv.after(I:Inv X ρ J H s)(h:CE X.stack X.prog X.w H s Q u s'):EP X ρ J Q u s':=by obtain⟨v,H',os,bare,un,hok,r,q⟩:=h;obtain⟨hh,g,d,t,os'⟩:=s';obtain rfl:os'=s.os:=os;exact⟨v,H',I.call (h':=hh) (g':=g) (d':=d) (t':=t) (ch:=[]) un hok bare (λb z=>absurd z (by simp)),r,q⟩
end
noncomputable def zoQ(sp:Sp)(dvs:List V)(E:XK)(t:TA):TE:=λJ H Q=>t J H λvs H1=>sp (vs++dvs) H1 Q E
def ztd(C:Addr)(sp:Sp)(dvs:List V)(E:XK)(t:TA):TE:=λJ H Q=>t J H λvs H1=>∀x dx,H1 x=none->H1 dx=none->dx ≠ x->
 sp (.ref x::(vs++dvs)) (upd (upd H1 dx (.own x)) x (.ins C dx [])) (λv H2=>v = .non/\Q (.ref x) H2) E
def Binds(K:Frag)(fd:FuncData)(ps:List Str)(ds:List Value):Prop:=
 ∀(s:Shared) (us:List Value),K.In s.heap->(us++ds).length=ps.length->BindsTo s fd ⟨us,[]⟩ (ps.zip (us++ds))
theorem Binds.all{K:Frag}(h:∀us:List Value,us.length=ps.length->bindArgs fd ⟨us,[]⟩=pure (ps.zip us)):Binds K fd ps []:=λs us _ hl=>by rw[append_nil]at hl ⊢;exact .of_eq (h us hl)
def Passes(CX:CXT)(X:Cx)(E:XK):Prop:=∀(ρ:List (Addr × Obj)) (J:St) (H:Hp) (s:Shared) (e:Value) (s':Shared),Inv X ρ J H s->CX X.stack H s E e s'->X.xe e s'
section
variable    {f C:Addr}        {p pos apos:Pos}    
theorem zq8{J:St}(F:FnOk X.prog X.w X.K X.mg X.base CX k f fd ps sp)(hr:Room k X.A)(hb:Binds X.K fd ps ds)(hd:Vals dvs ds)(hx:Passes CX X E)
  (I:Inv X ρ J H s) (r:Vals vs us) (h:sp (vs++dvs) H Q E):wpAny .(1) X.A (call (.ref f) us) (EP X ρ J Q) X.xe s:=by
 have r2:Vals (vs++dvs) (us++ds):=r.append hd;have hl:(us++ds).length=ps.length:=by rw[←r2.length];exact F.len _ _ _ _ h
 refine wpAny_call (codeAny_mono (F.run X.A X.stack s H ⟨us,[]⟩ (us++ds) (vs++dvs) Q E hr I.env0 (hb s us I.kIn hl) r2 h) λr s' hq=>?_);cases r with
 |error e=>exact hx ρ J H s e s' I hq|ok fl=>cases fl with|ret u=>exact I.after hq|next=>exact False.elim hq|brk=>exact False.elim hq|cont=>exact False.elim hq
theorem zkL(F:FnOk X.prog X.w X.K X.mg X.base CX k f fd ps sp)(hr:Room k X.A)(hg:Gl X x)(hm:X.mg x=some (.ref f))(hk:PySem.W.keepIn X.K (.ref f)=true)(hb:Binds X.K fd ps ds)(hd:Vals dvs ds)(hx:Passes CX X E)
  (ha:PA X (e::es) t) (hdb:(x==("__debug__":Str))=false:=by decide) (he:starEach (e::es) X.env=(false,eval e X.env)::starEach es X.env:=by rfl) (hpl:(backTo pos (starEach es X.env)).any (·.1)=false:=by rfl) :
  PE X (.Call (.Name x p) (e::es) [] pos) (zoQ sp dvs E t):=by
 apply?;refine wpAny_Call_Name_kw (zbG I hg hm ?_ hdb);refine PySem.W.callWith_K (h₀:=X.base) I.ok.mod.kin hk (thn (ha pos ρ s J H _ I h) λus s1 ⟨vs,H1,I1,r,q⟩=>⟨I1.kIn,?_⟩) he hpl;exact zq8 F hr hb hd hx I1 r q
structure Mk (K:Frag) (C f:Addr):Prop where
 makes:PySem.W.makesIn K C=true
 init:PySem.W.findIn K (.ref C) "__init__" = some (some (.ref f))
 fn:PySem.W.isFn K (.ref f)=true
 kp:PySem.W.keepIn K (.ref C)=true
theorem znU{J:St}(M:Mk X.K C f)(F:FnOk X.prog X.w X.K X.mg X.base CX k f fd ps sp)(hr:Room (k+1) X.A)(hb:Binds X.K fd ps ds)(hd:Vals dvs ds)
  (hx:Passes CX X E) (I:Inv X ρ J H s) (r:Vals vs us)
  (h:∀x dx,H x=none->H dx=none->dx ≠ x->sp (.ref x::(vs++dvs)) (upd (upd H dx (.own x)) x (.ins C dx [])) (λv H2=>v = .non/\Q (.ref x) H2) E) :
  wpAny .(1) X.A (call (.ref C) us) (EP X ρ J Q) X.xe s:=by
 have hq:=h (s.heap.objs.size+1) s.heap.objs.size (I.hok.fresh (Nat.le_succ _)) (I.hok.fresh (Q3 _)) (Qk (Nat.lt_succ_self _));have I2:=Inv.made (C:=C) I;have r2:Vals (V.ref (s.heap.objs.size+1)::(vs++dvs)) (Value.ref (s.heap.objs.size+1)::(us++ds)):=.cons rfl (r.append hd);have hl:(Value.ref (s.heap.objs.size+1)::us++ds).length=ps.length:=by have e:=r2.length;rw[F.len _ _ _ _ hq]at e;exact e.symm
 refine wpAny_call (zoe (f:=f) I.kIn M.makes M.init (beq_iff_eq.mp M.fn) (codeAny_mono (F.run _ X.stack _ _ ⟨Value.ref (s.heap.objs.size+1)::us,[]⟩ (Value.ref (s.heap.objs.size+1)::(us++ds)) _ _ E (hr.make C us [])
  (I2.env0.make C us []) (hb _ (Value.ref (s.heap.objs.size+1)::us) I2.kIn hl) r2 hq) λr s' hq'=>?_))
 cases r with
 |error e=>exact hx ρ J _ _ e s' I2 hq'|ok fl=>
  cases fl with
  |ret u=>obtain⟨v,H',I3,rv,ev,q3⟩:=I2.after hq';subst ev;exact⟨rv,⟨V.ref (s.heap.objs.size+1),H',I3,rfl,q3⟩⟩
  |next=>exact False.elim hq'|brk=>exact False.elim hq'|cont=>exact False.elim hq'
theorem zpE(M:Mk X.K C f)(F:FnOk X.prog X.w X.K X.mg X.base CX k f fd ps sp)(hr:Room (k+1) X.A)(hg:Gl X x)(hm:X.mg x=some (.ref C))(hb:Binds X.K fd ps ds)(hd:Vals dvs ds)(hx:Passes CX X E)
  (ha:PA X (e::es) t) (hdb:(x==("__debug__":Str))=false:=by decide) (he:starEach (e::es) X.env=(false,eval e X.env)::starEach es X.env:=by rfl) (hpl:(backTo pos (starEach es X.env)).any (·.1)=false:=by rfl) :
  PE X (.Call (.Name x p) (e::es) [] pos) (ztd C sp dvs E t):=by
 apply?;refine wpAny_Call_Name_kw (zbG I hg hm ?_ hdb);refine PySem.W.callWith_K (h₀:=X.base) I.ok.mod.kin M.kp (thn (ha pos ρ s J H _ I h) λus s1 ⟨vs,H1,I1,r,q⟩=>⟨I1.kIn,?_⟩) he hpl;exact znU M F hr hb hd hx I1 r q
end
structure FnScope (N P:List Str) (sc:Scope):Prop where
 kind:sc.kind = .function
 co:sc.isCoroutine=false
 gen:sc.isGenerator=false
 nd:N.Nodup
 pre:N.take P.length=P
 par:∀x ∈ P,sc.names.lookup x=some .local\/sc.names.lookup x=some .cell
 nofree:∀y ∈ sc.names,y.2 ≠ .free
theorem zia{kindOf:Str->Option NameKind}:∀{binds:List (Str × Value)} {m:Str->Option Value},(∀v,(x,v) ∉ binds)->bindL kindOf binds m x=m x
 |[],_,_=>rfl|(n,v)::r,m,h=>by
  unfold bindL;rw[zia λw hw=>h w (mem_cons_of_mem _ hw)];split
  .have:x ≠ n:=by rintro rfl;exact h v mem_cons_self
   simp[this]
  .rfl
theorem zic{kindOf:Str->Option NameKind}:∀{binds:List (Str × Value)} {m:Str->Option Value},(∀v,(x,v) ∉ binds)->bindC kindOf binds m x=m x
 |[],_,_=>rfl|(n,v)::r,m,h=>by
  unfold bindC;rw[zic λw hw=>h w (mem_cons_of_mem _ hw)];split
  .rfl
  .have:x ≠ n:=by rintro rfl;exact h v mem_cons_self
   simp[this]
theorem zib{kindOf:Str->Option NameKind}:∀{P:List Str} {vs:List Value} {i:Nat} {m:Str->Option Value},P.Nodup->P[i]?=some x->vs[i]?=some v->kindOf x=some .local->
  bindL kindOf (P.zip vs) m x=some v
 |[],_,_,_,_,h,_,_=>by simp at h|_::_,[],_,_,_,_,h,_=>by simp at h|p::P,w::vs,0,m,nd,h1,h2,hk=>by
  simp at h1 h2;subst h1;subst h2
  show bindL kindOf ((p,w)::P.zip vs) m p=_;unfold bindL;rw[zia λv hv=>(QK.mp nd).1 (of_mem_zip hv).1,QA hk];simp
 |p::P,w::vs,i+1,m,nd,h1,h2,hk=>by show bindL kindOf ((p,w)::P.zip vs) m x=_;unfold bindL;exact zib (i:=i) (QK.mp nd).2 (by simpa using h1) (by simpa using h2) hk
theorem zid{kindOf:Str->Option NameKind}:∀{P:List Str} {vs:List Value} {i:Nat} {m:Str->Option Value},P.Nodup->P[i]?=some x->vs[i]?=some v->kindOf x ≠ some .local->
  bindC kindOf (P.zip vs) m x=some v
 |[],_,_,_,_,h,_,_=>by simp at h|_::_,[],_,_,_,_,h,_=>by simp at h|p::P,w::vs,0,m,nd,h1,h2,hk=>by
  simp at h1 h2;subst h1;subst h2
  show bindC kindOf ((p,w)::P.zip vs) m p=_;unfold bindC;rw[zic λv hv=>(QK.mp nd).1 (of_mem_zip hv).1,QB hk];simp
 |p::P,w::vs,i+1,m,nd,h1,h2,hk=>by show bindC kindOf ((p,w)::P.zip vs) m x=_;unfold bindC;exact zid (i:=i) (QK.mp nd).2 (by simpa using h1) (by simpa using h2) hk
noncomputable def start(N:List Str)(vs:List V):St:=vs.map some++List.replicate (N.length-vs.length) none
noncomputable def zbD(CX:CXT)(P:Program)(w:World)(K:Frag)(mg:Str->Option Value)(base:Heap)(N:List Str)(qual:Str)(scope:Scope)(f:Addr)(cd:Value)(A:Around)(outer:List Env)(s:Shared)(H:Hp)(E:XK):Cx where
 prog:=P
 w:=w
 K:=K
 mg:=mg
 base:=base
 A:=A.deeper (envOfC qual scope s.heap.objs.size f cd)
 N:=N
 s₀:=s
 H₀:=H
 env:=envOfC qual scope s.heap.objs.size f cd
 outer:=outer
 stack:=envOfC qual scope s.heap.objs.size f cd::outer
 ex:=[]
 calm:=true
 fn:=λ_=>true
 pn:=[]
 xe:=λe s'=>wpAny (model P w) (A.deeper (envOfC qual scope s.heap.objs.size f cd)) (leaving (envOfC qual scope s.heap.objs.size f cd) e) (λ_ s''=>CX outer H s E e s'') (λe' s''=>CX outer H s E e' s'') s'
theorem zjM{sc:Scope}(h:sc.names.lookup x=some .cell):∃c,(cellsFrom n sc.names []).lookup x=some c:=by have q:=PySem.W.cellsFrom_some sc.names n [] (.inl h);exact Option.isSome_iff_exists.mp q
theorem zmZ{K:Frag} 
  (S:FnScope N ps scope) (hd:A.handled=none) (e0:Env0 P w K mg base A outer s H) (hl:vs.length=ps.length) (r:Vals vs us)
  (x:InCallC s s.heap.objs.size (bindL (envOfC qual scope s.heap.objs.size f cd).kindOf (ps.zip us) λ_=>none) (cellsFrom (s.heap.objs.size+1) scope.names []) (bindC (envOfC qual scope s.heap.objs.size f cd).kindOf (ps.zip us) λ_=>none) s1) :
  Inv (zbD CX P w K mg base N qual scope f cd A outer s H E) [] (start N vs) H s1:=by
 have hpl:ps.length<=N.length:=by have:=congrArg List.length S.pre;rw[Qr]at this;symm
 obtain⟨h1,tk,rfl,hk⟩:=x.done;have noA:∀b:Addr,b ∉ (zbD CX P w K mg base N qual scope f cd A outer s H E).ex:=λb z=>absurd (show b ∈ ([]:List Addr)from z) (by simp);refine⟨⟨e0.mod,S.kind,rfl,rfl,Q3 _,λy z c h1 h2=>?_,λy hy=>?_,λy c _ h=>?_,λ_=>hd,Around.frames_deeper e0.frames,.inr ⟨rfl,rfl⟩,λb z=>absurd z (noA b),e0.bs,e0.bsz,λb _ _=>noA b,λb z=>absurd z (noA b),e0.funs,e0.frf⟩,
  rfl,e0.bare,Un.kept hk,⟨_,x.toInCall.ns,λi y v h1 h2 h3=>?_⟩,λy c h=>⟨_,x.cell y c h⟩,e0.hok.fresh (Q3 _),λy c h=>?_,λp hp=>absurd (show p ∈ ([]:List (Addr × Obj))from hp) (by simp),e0.hok.kept hk,?_⟩
 .exact name_of_addr x.apart (PySem.mem_of_lookup h1) (PySem.mem_of_lookup h2)
 .have hy:scope.names.lookup y=some .cell\/scope.names.lookup y=some .free:=hy;rcases hy with hy | hy
  .exact zjM hy
  .exact absurd rfl (S.nofree _ (PySem.mem_of_lookup hy))
 .exact Nat.le_of_lt (x.above y c (PySem.mem_of_lookup h))
 .have hi:i<vs.length:=by
   unfold start at h2
   by_cases hi:i<vs.length
   .exact hi
   .rw[Q8 (by simpa using hi)]at h2;rw[List.getElem?_replicate]at h2;split at h2<;>cases h2
  have ha:vs[i]?=some v:=by unfold start at h2;rw[Q6 (by simpa using hi),Qb]at h2;cases e:vs[i]? with|none=>rw[e]at h2;cases h2|some a=>rw[e]at h2;cases h2;rfl
  obtain⟨u,hu,rv⟩:=r.get ha;have hp:ps[i]?=some y:=by rw[←S.pre,List.getElem?_take_of_lt ⋯];exact h1
  have ndP:ps.Nodup:=by rw[←S.pre];exact S.nd.sublist (List.take_sublist _ _)
  refine⟨u,rv,?_⟩;rcases S.par y (Qa hp)with k | k
  .exact .inl ⟨k,zib ndP hp hu k⟩
  .obtain⟨c,e⟩:=zjM (n:=s.heap.objs.size+1) k;refine .inr ⟨.inl k,c,e,?_⟩;have q:=x.cell y c e;rw[zid ndP hp hu (by show scope.names.lookup y ≠ _;rw[k];decide)]at q;exact q
 .exact e0.hok.fresh (Nat.le_of_lt (x.above y c (PySem.mem_of_lookup h)))
 .unfold start;show _=N.length;rw[Qn,Qh,length_replicate];symm
theorem zo1{K:Frag}{kV:Value} 
     (lk:K.lookup f=some ⟨oc,od,.func (PySem.W.fnOf name qual params body scope dV kV doc pm an cdv ct),osl⟩) (hcd:PySem.W.codeIn K cdv qual=true) (S:FnScope N ps scope)
  (len:∀vs H Q E,sp vs H Q E->vs.length=ps.length)
  (hbody:∀(A:Around) (outer:List Env) (s:Shared) (H:Hp) (vs:List V) (Q:VK) (E:XK),Room k (A.deeper (envOfC qual scope s.heap.objs.size f cdv))->sp vs H Q E->
   ∃t,PSs (zbD CX P w K mg base N qual scope f cdv A outer s H E) body t/\t { nx:=λ_ H'=>Q .non H',rt:=Q } (start N vs) H) :
  FnOk P w K mg base CX (k+1) f (PySem.W.fnOf name qual params body scope dV kV doc pm an cdv ct) ps sp:=by
 refine⟨len,λA outer s H args us vs Q E hr e0 hb r hsp=>?_⟩;have hl:=len _ _ _ _ hsp;have KX:K.In s.heap:=e0.mod.kin.keeps λb o e=>(e0.bs b o e).1;have lim:s.heap.NoLimit:=e0.mod.nolimit.keeps λb o e=>(e0.bs b o e).1;have hkind:∀y ∈ ps.zip us,scope.names.lookup y.1=some .local\/(scope.names.lookup y.1=some .cell/\((cellsFrom (s.heap.objs.size+1) scope.names []).lookup y.1).isSome=true):=λ⟨n,v⟩ hy=>by
  rcases S.par n (of_mem_zip hy).1 with q | q
  .exact .inl q
  .exact .inr ⟨q,PySem.W.cellsFrom_some _ _ _ (.inl q)⟩
 refine codeAny_call_function hr.depth (KX _ _ lk) rfl S.co S.gen rfl (PySem.W.codeRec_of KX hcd) (hb _ _ _ _ ?_);refine wpAny_newFunctionEnv_cells S.kind hkind λenv he s1 x=>?_;subst he;refine⟨lim.keeps x.toInCall.keep,codeAny_func ?_⟩;obtain⟨t,ht,hq⟩:=hbody A outer s H vs Q E (hr.deeper _) hsp;have I:Inv (zbD CX P w K mg base N qual scope f cdv A outer s H E) [] (start N vs) H s1:=zmZ S hr.hd e0 hl r x;refine Qg (ht [] s1 (start N vs) H _ I hq) (λfl s' hs=>?_) λe s' hs=>hs;have Y:∀{J':St} {H':Hp} {v:V} {u:Value},Inv (zbD CX P w K mg base N qual scope f cdv A outer s H E) [] J' H' s'->RelV v u->Q v H'->CE outer P w H s Q u s':=
  λ{J' H' v u} Jq rv q=>⟨v,H',Jq.os,Jq.bare,Jq.base,Jq.hok,rv,q⟩
 cases fl with
 |ret u=>obtain⟨v,J',H',Jq,rv,q⟩:=hs;exact Y Jq rv q
 |next=>obtain⟨J',H',Jq,q⟩:=hs;exact Y (v:=V.non) (u:=Value.none) Jq rfl q
 |brk=>obtain⟨_,_,_,q⟩:=hs;exact False.elim q
 |cont=>obtain⟨_,_,_,q⟩:=hs;exact False.elim q
section
variable   {p pos:Pos}    {id T:String} 
noncomputable def tCB(r:List V->Hp->VK->Prop)(t:TA):TE:=λJ H Q=>t J H λvs H1=>r vs H1 Q
theorem zfB(hc:yV X (.builtin id) r)(hg:Gl X x)(hm:X.mg x=none)(hv:bootBuiltins x=some (.builtin id))(ha:PA X (e::es) t)(hn:x ≠ "__name__":=by decide)(hdb:(x==("__debug__":Str))=false:=by decide)
  (he:starEach (e::es) X.env=(false,eval e X.env)::starEach es X.env:=by rfl) (hpl:(backTo pos (starEach es X.env)).any (·.1)=false:=by rfl):PE X (.Call (.Name x p) (e::es) [] pos) (tCB r t):=by
 apply?;refine wpAny_Call_Name_kw (zep I hg hm hv ?_ hn hdb);exact PyProof.Rows.callWith_builtin1 (thn (ha pos ρ s J H _ I h) λus s1 ⟨vs,H1,I1,r1,q1⟩=>hc ρ s1 J H1 vs us Q I1 r1 q1) he hpl
theorem zmF(hc:yV X (.type T) r)(hg:Gl X x)(hm:X.mg x=none)(hv:bootBuiltins x=some (.type T))(ha:PA X (e::es) t)(hn:x ≠ "__name__":=by decide)(hdb:(x==("__debug__":Str))=false:=by decide)
  (he:starEach (e::es) X.env=(false,eval e X.env)::starEach es X.env:=by rfl) (hpl:(backTo pos (starEach es X.env)).any (·.1)=false:=by rfl):PE X (.Call (.Name x p) (e::es) [] pos) (tCB r t):=by
 apply?;refine wpAny_Call_Name_kw (zep I hg hm hv ?_ hn hdb);exact PyProof.Rows.callWith_type1 (thn (ha pos ρ s J H _ I h) λus s1 ⟨vs,H1,I1,r1,q1⟩=>hc ρ s1 J H1 vs us Q I1 r1 q1) he hpl
end
end L2
namespace HT
open PySem PyProof.Rows
section
noncomputable def sIx(n d:Nat):Option Int->Nat
 |none=>d|some v=>if v<0 then(v+(n:Int)).toNat else min v.toNat n
def zi1(n d:Nat):sIx n d none=d:=rfl
theorem zkG(n d k:Nat):sIx n d (some (k:Int))=min k n:=by show(if(k:Int)<0 then((k:Int)+(n:Int)).toNat else min (k:Int).toNat n)=min k n;rw[QB ⋯,QH]
end
end HT
namespace L2
open PySem PySem.Spec PyProof.Rows
abbrev TO:=St->Hp->(Option Int->Hp->Prop)->Prop
def PO(X:Cx)(e:Option Expr)(t:TO):Prop:=
 ∀(ρ:List (Addr × Obj)) (s:Shared) (J:St) (H:Hp) (Q:Option Int->Hp->Prop),Inv X ρ J H s->t J H Q->
  wpAny .(1) X.A (evalPart e X.env) (λu s'=>∃o H',Inv X ρ J H' s'/\IsPart u o/\Q o H') X.xe s
noncomputable def zpe:TO:=λ_ H Q=>Q none H
noncomputable def zta(t:TE):TO:=λJ H Q=>t J H λx H1=>∃i,x = .int i/\Q (some i) H1
section
variable    {lo hi:Option Expr}  
theorem zpC:PO X none zpe:=by apply?;rw[evalPart_none];exact Qf ⟨none,H,I,.none,h⟩
theorem zpB(h:PE X e te):PO X (some e) (zta te):=by intro ρ s J H Q I hw;rw[evalPart_some];refine thn (h ρ s J H _ I hw) λu s1 h9=>?_;obtain⟨x,H1,I1,r1,q1⟩:=h9;obtain⟨i,rfl,q⟩:=q1;obtain⟨t,rfl⟩:=r1;exact⟨some i,H1,I1,.int i t,q⟩
def SlR(X:Cx)(r:V->Option Int->Option Int->Hp->VK->Prop):Prop:=
 ∀(ρ:List (Addr × Obj)) (s:Shared) (J:St) (H:Hp) (x:V) (v vl vu:Value) (lo hi:Option Int) (sl:Addr) (Q:VK),Inv X ρ J H s->RelV x v->s.heap.IsSliceOf sl vl vu .none->IsPart vl lo->IsPart vu hi->r x lo hi H Q->
  ∃T id,typeLookup (.type T) "__getitem__" = pure (some (.builtin id))/\s.TypeIs v T/\wpAny .(1) X.A (getItem v (.ref sl)) (EP X ρ J Q) X.xe s
noncomputable def tSl(r:V->Option Int->Option Int->Hp->VK->Prop)(te:TE)(tl th:TO):TE:=λJ H Q=>te J H λx H1=>tl J H1 λl H2=>th J H2 λu H3=>r x l u H3 Q
theorem zi6(hr:SlR X r)(he:PE X e te)(hl:PO X lo tl)(hu:PO X hi th):PE X (.Subscript e (.Slice lo hi none p2) pos) (tSl r te tl th):=by apply?;refine Subscript_ (thn (he ρ s J H _ I h) λv s1 h9=>?_);obtain⟨x,H1,I1,r1,q1⟩:=h9;refine wpAny_Slice (thn (hl ρ s1 J H1 _ I1 q1) λvl s2 ⟨l,H2,I2,pl,q2⟩=>thn (hu ρ s2 J H2 _ I2 q2) λvu s3 h9=>?_);obtain⟨u,H3,I3,pu,q3⟩:=h9;rw[evalPart_none];refine Qf ?_;have I4:Inv X ρ J H3 { s3 with heap:=s3.heap.push { cls:=.type "slice",data:=.fields #[vl,vu,.none] } }:=I3.kept (t':=s3.toks) λb ob q=>Q2 _ q;obtain⟨T,id,hT,ht,hg⟩:=hr ρ { s3 with heap:=s3.heap.push { cls:=.type "slice",data:=.fields #[vl,vu,.none] } } J H3 x v vl vu l u s3.heap.objs.size Q I4 r1 (Heap.IsSliceOf.new ..) pl pu q3;show wpAny .(1) X.A (subscriptTail e (.Slice lo hi none p2) v (.ref s3.heap.objs.size)) (EP X ρ J Q) X.xe { s3 with heap:=s3.heap.push { cls:=.type "slice",data:=.fields #[vl,vu,.none] } };exact tail_any (ops:=[.ref s3.heap.objs.size,v]) ht hT hg (by with_unfolding_all rfl)
def cutV(xs:List V)(lo hi:Option Int):List V:=(xs.drop (HT.sIx xs.length 0 lo)).take (HT.sIx xs.length xs.length hi-HT.sIx xs.length 0 lo)
theorem zkg(xs:List V)(lo hi:Option Int):(cutV xs lo hi).length<=xs.length:=by unfold cutV;rw[Qr,length_drop];symm
end
noncomputable def ixN(n:Nat)(i:Int):Option Nat:=if 0<=i then(if i<n then some i.toNat else none)else if -(n:Int)<=i then some (i+n).toNat else none
def atI{α:Type}(xs:List α)(i:Int):Option α:=(ixN xs.length i).bind λj=>xs[j]?
theorem zkZ(h:ixN n i=some j):seqIndex? i n=some j/\j<n/\-(n:Int)<=i/\i<n:=by
 unfold ixN at h
 by_cases h0:0<=i
 .rw[QA h0]at h
  by_cases h1:i<n
  .rw[QA h1]at h;have e:i.toNat=j:=Qd h;exact⟨by rw[seqIndex_of h0 h1,e],⋯,⋯,h1⟩
  .rw[QB h1]at h;cases h
 .rw[QB h0]at h
  by_cases h1:-(n:Int)<=i
  .rw[QA h1]at h;have e:(i+n).toNat=j:=Qd h;exact⟨by rw[seqIndex_neg ⋯ h1,e],⋯,h1,⋯⟩
  .rw[QB h1]at h;cases h
theorem ze4{v:α}(h:atI xs i=some v):∃j,seqIndex? i xs.length=some j/\xs[j]?=some v/\j<xs.length/\-(xs.length:Int)<=i/\i<xs.length:=by
 unfold atI at h;cases e:ixN xs.length i with
 |none=>rw[e]at h;cases h|some j=>rw[e]at h;obtain⟨h1,h2,h3,h4⟩:=zkZ e;exact⟨j,h1,h,h2,h3,h4⟩
theorem zaB{j:Nat}{v:α}(h:xs[j]?=some v):atI xs (j:Int)=some v:=by
 have hj:j<xs.length:=(Qz.mp h).1;have e:ixN xs.length (j:Int)=some j:=by unfold ixN;rw[QA ⋯,QA ⋯];simp
 unfold atI;rw[e];exact h
def zhv(b:Expr):Prop:=∀o i,subscripted b false o i=operate [o,i] (getItem o i)
def IxR(X:Cx)(r:R2):Prop:=
 ∀(value slice:Expr) (ρ:List (Addr × Obj)) (s:Shared) (J:St) (H:Hp) (x y:V) (v u:Value) (Q:VK),Inv X ρ J H s->RelV x v->RelV y u->r x y H Q->
  subscripted slice false v u=operate [v,u] (getItem v u)->wpAny .(1) X.A (subscriptTail value slice v u) (EP X ρ J Q) X.xe s
def MtR(X:Cx)(id:String)(r:V->List V->Hp->VK->Prop):Prop:=
 ∀(ρ:List (Addr × Obj)) (s:Shared) (J:St) (H:Hp) (x:V) (xs:List V) (v:Value) (us:List Value) (Q:VK),Inv X ρ J H s->RelV x v->Vals xs us->r x xs H Q->
  wpAny .(1) X.A (call (.builtin id) (v::us)) (EP X ρ J Q) X.xe s
section
theorem IxR.or(h:IxR X r)(h':IxR X r'):IxR X (λx y H Q=>r x y H Q\/r' x y H Q):=by
 intro value slice ρ s J H x y v u Q I rx ry q hs;rcases q with q | q
 .exact h value slice ρ s J H x y v u Q I rx ry q hs
 .exact h' value slice ρ s J H x y v u Q I rx ry q hs
theorem ztA(hr:IxR X r)(ha:PE X a ta)(hb:PE X b tb)(hs:zhv b):PE X (.Subscript a b pos) (tOp r ta tb):=by apply?;exact Subscript_ (zoM ha hb I h λv u s2 x y H2 I2 rx ry q=>hr a b ρ s2 J H2 x y v u Q I2 rx ry q (hs _ _))
def znZ(K:Frag):R2:=λx y H Q=>∃p xs i v,x = .ref p/\y = .int i/\SqL K H p xs/\atI xs i=some v/\Q v H
def zrc(K:Frag):R2:=λx y H Q=>∃p xs i v,x = .ref p/\y = .int i/\SqT K H p xs/\atI xs i=some v/\Q v H
def zrd:R2:=λx y H Q=>∃z i c,x = .str z/\y = .int i/\z.length<=sizeLine/\atI z.cps.toList i=some c/\Q (.str ⟨#[c]⟩) H
theorem zp6:IxR X (znZ X.K):=by
 intro value slice ρ s J H x y v u Q I rx ry h hs;obtain⟨p,xs,i,z,rfl,rfl,hq,he,q⟩:=h;cases rx;obtain⟨t,rfl⟩:=ry;obtain⟨its,r,pl,hz⟩:=I.list hq;obtain⟨j,h1,h2,h3,h4,h5⟩:=ze4 he;obtain⟨w,ew,rw'⟩:=r.get h2;have hl:=r.length;have hn:=zco;have Y:EP X ρ J Q w s:=⟨z,H,I,rw',q⟩
 by_cases h0:0<=i
 .have hj:i.toNat=j:=by rw[seqIndex_of h0 h5]at h1;exact Qd h1
  exact item_listR pl.isList h0 ⋯ (by rw[hj];simpa using ew) Y hs
 .have hj:(i+(its.toArray.size:Int)).toNat=j:=by rw[seqIndex_neg ⋯ h4]at h1;rw[Qi,←hl];exact Qd h1
  exact subscriptTail_builtinR (x:=w) pl.isList.typeIs slot_list_getitem.lookup
   (wpAny_getItem_list_neg (Q:=λr s'=>r=w/\EP X ρ J Q r s') pl.isList ⋯ (by rw[Qi]<;>symm) ⋯ (by rw[hj];simpa using ew) ⟨rfl,Y⟩) hs
theorem zr6:IxR X (zrc X.K):=by
 intro value slice ρ s J H x y v u Q I rx ry h hs;obtain⟨p,xs,i,z,rfl,rfl,hq,he,q⟩:=h;cases rx;obtain⟨t,rfl⟩:=ry;obtain⟨its,r,pl,hz⟩:=I.tuple hq;obtain⟨j,h1,h2,h3,h4,h5⟩:=ze4 he;obtain⟨w,ew,rw'⟩:=r.get h2;have hl:=r.length;have hn:=zco;have Y:EP X ρ J Q w s:=⟨z,H,I,rw',q⟩;exact subscriptTail_builtinR (x:=w) pl.typeIs slot_tuple_getitem.lookup
  (getItem_tuple (j:=j) (Q:=λr s'=>r=w/\EP X ρ J Q r s') pl ⋯ ⋯ (by rw[Qi,←hl];exact h1) (by simpa using ew) ⟨rfl,Y⟩) hs
theorem zmV:IxR X zrd:=by
 intro value slice ρ s J H x y v u Q I rx ry h hs;obtain⟨z,i,c,rfl,rfl,hz,he,q⟩:=h;obtain⟨t,rfl⟩:=rx;obtain⟨t',rfl⟩:=ry;obtain⟨j,h1,h2,h3,h4,h5⟩:=ze4 he;have hl:z.cps.toList.length=z.length:=by simp[Str.length]
 rw[hl]at h1 h4 h5;have hn:=zco;exact tail_any (typeIs_str s z t) slot_str_getitem.lookup (getItem_str (c:=c) (by have e1:decide (i < -(2 ^ 63:Int))=false:=Qx ⋯;have e2:decide (i ≥ 2 ^ 63)=false:=Qx ⋯;rw[e1,e2,Bool.or_false]) (by rw[h1];simpa using h2) ⟨.str ⟨#[c]⟩,H,I.tok _,⟨_,rfl⟩,q⟩) hs
def rIx(K:Frag):R2:=λx y H Q=>znZ K x y H Q\/zrc K x y H Q\/zrd x y H Q
def zr7:IxR X (rIx X.K):=zp6.or (zr6.or zmV)
theorem zlO(its:List Value)(n j:Nat)(u:Value):Obj.mapSeq (·.setIfInBounds j u) { cls:=.type "list",data:=.seq its.toArray n }={ cls:=.type "list",data:=.seq (its.set j u).toArray n }:=by simp[Obj.mapSeq]
theorem Inv.lst{J:St}{H:Hp}{s:Shared}{p:Addr}{xs:List V}(I:Inv X ρ J H s)(h:H p=some (.lst xs)):
  ∃(its:List Value) (n:Nat),Vals xs its/\s.heap.get? p=some { cls:=.type "list",data:=.seq its.toArray n }/\xs.length<=sizeLine:=by
 obtain⟨z,its,n,r,e⟩:=I.hok p _ h;exact⟨its,n,r,e,z⟩
theorem Inv.lstUpd{J:St}{its:List Value}(I:Inv X ρ J H s)(h:H p=some (.lst xs))
  (ho:s.heap.get? p=some { cls:=.type "list",data:=.seq its.toArray n }) (hf:f { cls:=.type "list",data:=.seq its.toArray n }={ cls:=.type "list",data:=.seq its'.toArray n' }) (r:Vals ys its') (hz:ys.length<=sizeLine) (t:Nat) :
  Inv X ρ J (upd H p (.lst ys)) { s with heap:=s.heap.update p f,toks:=t }:=by
 have e:(s.heap.update p f).get? p=some { cls:=.type "list",data:=.seq its'.toArray n' }:=by rw[Heap.get?_update_self f ho (by rw[hf]<;>rfl),hf]
 refine I.write (x:=p) (e:=p) (by rw[h];trivial) (.inl rfl) (λb u hb q=>(Heap.get?_update_other _ _ (Ne.symm hb)).trans q) ⟨_,e⟩ ?_;exact⟨hz,its',n',r,e⟩
def ztr:V->V->V->Hp->(Hp->Prop)->Prop:=λo i v H Q=>∃p xs k j,o = .ref p/\i = .int k/\H p=some (.lst xs)/\ixN xs.length k=some j/\Q (upd H p (.lst (xs.set j v)))
theorem set_list:zdw X ztr:=by
 intro ρ s J H o i v ov iv u Q I ro ri rv h;obtain⟨p,xs,k,j,rfl,rfl,hp,hj,q⟩:=h;cases ro;obtain⟨t,rfl⟩:=ri;obtain⟨its,n,r,ho,hz⟩:=I.lst hp;obtain⟨h1,h2,h3,h4⟩:=zkZ hj;have hl:=r.length;have hn:=zco;have I':Inv X ρ J (upd H p (.lst (xs.set j v))) { s with heap:=s.heap.update p (Obj.mapSeq (·.setIfInBounds j u)) }:=
  I.lstUpd hp ho (zlO its n j u) (r.set rv j) (by rw[length_set];exact hz) s.toks
 by_cases h0:0<=k
 .have hk:k.toNat=j:=by rw[seqIndex_of h0 h4]at h1;exact Qd h1
  exact PySem.W.ki_setAt ho h0 ⋯ (by rw[Qi,←hl];exact h4) (by rw[hk];exact⟨_,I',q⟩)
 .have hk:(k+(its.toArray.size:Int)).toNat=j:=by rw[seqIndex_neg ⋯ h3]at h1;rw[Qi,←hl];exact Qd h1
  exact PySem.W.ki_setBack ho ⋯ (by rw[Qi,←hl];exact h3) ⋯ (by rw[hk];exact⟨_,I',q⟩)
theorem ziP(lo hi:Option Int)(n:Nat):(sliceBounds lo hi none n).1=((HT.sIx n 0 lo:Nat):Int)/\(sliceBounds lo hi none n).2.1=((HT.sIx n n hi:Nat):Int)/\(sliceBounds lo hi none n).2.2=1:=by
 refine⟨?_,?_,rfl⟩
 .cases lo with
  |none=>simp[sliceBounds,HT.sIx]|some i=>
   simp only[sliceBounds,HT.sIx,Option.getD_none,show(1:Int) > 0 by decide,if_true]
   by_cases h:i<0
   .simp only[h,if_true]<;>symm
   .simp only[h,if_false]<;>symm
 .cases hi with
  |none=>simp[sliceBounds,HT.sIx]|some i=>
   simp only[sliceBounds,HT.sIx,Option.getD_none,show(1:Int) > 0 by decide,if_true]
   by_cases h:i<0
   .simp only[h,if_true]<;>symm
   .simp only[h,if_false]<;>symm
theorem zii(its:List Value)(lo hi:Option Int):slicePick its.toArray lo hi none=((its.drop (HT.sIx its.length 0 lo)).take (HT.sIx its.length its.length hi-HT.sIx its.length 0 lo)).toArray:=by obtain⟨h1,h2,h3⟩:=ziP lo hi its.toArray.size;unfold slicePick;rw[h1,h2,h3];simp only[sliceRange_one,pick_run,Qi]<;>rfl
def zuG(K:Frag):V->Option Int->Option Int->Hp->VK->Prop:=λx lo hi H Q=>∃a xs,x = .ref a/\SqL K H a xs/\∀p,H p=none->Q (.ref p) (upd H p (.lst (cutV xs lo hi)))
theorem zph:SlR X (zuG X.K):=by intro ρ s J H x v vl vu lo hi sl Q I rx hs pl pu h;obtain⟨a,xs,rfl,hx,q⟩:=h;cases rx;obtain⟨its,r,ht,hz⟩:=I.list hx;have hlen:=r.length;refine⟨"list",_,slot_list_getitem.lookup,ht.isList.typeIs,?_⟩;refine wpAny_getItem_list_slice ht.isList hs pl pu .none (by simp) ?_ (by rw[Qi]<;>symm);rw[zii,←hlen];refine⟨.ref s.heap.objs.size,_,I.laid (t':=s.toks) (o:=.lst (cutV xs lo hi)) (λb ob q=>Q2 _ q) (Q3 _) ?_,rfl,q _ (I.hok.fresh (Q3 _))⟩;exact⟨Qj (zkg xs lo hi) hz,_,0,(r.drop (HT.sIx xs.length 0 lo)).take (HT.sIx xs.length xs.length hi-HT.sIx xs.length 0 lo),Ql _ rfl⟩
noncomputable def zaJ:V->Bool
 |.non=>true|.bl _=>true|.int _=>true|.str _=>true|_=>false
noncomputable def eqV:V->V->Bool
 |.non,.non=>true|.bl a,.bl b=>a==b|.bl a,.int b=>(if a then 1 else 0)==b|.int a,.bl b=>a==(if b then 1 else 0)|.int a,.int b=>a==b|.str a,.str b=>a==b|_,_=>false
theorem zjE(ry:RelV y u)(rx:RelV x v)(fy:zaJ y=true)(fx:zaJ x=true):SeqAt.EqAt A s u v (eqV y x):=by
 cases y with
 |non=>cases ry;cases x with|non=>cases rx;exact SeqAt.EqAt.same _|bl b=>cases rx;exact SeqAt.EqAt.none_bool b|int b=>obtain⟨t,rfl⟩:=rx;exact SeqAt.EqAt.none_int b t|str b=>obtain⟨t,rfl⟩:=rx;exact SeqAt.EqAt.none_str b t|_=>exact?
 |bl a=>cases ry;cases x with|non=>cases rx;exact SeqAt.EqAt.bool_none a|bl b=>cases rx;exact SeqAt.EqAt.bool_bool a b|int b=>obtain⟨t,rfl⟩:=rx;exact SeqAt.EqAt.bool_int a b t|str b=>obtain⟨t,rfl⟩:=rx;exact SeqAt.EqAt.bool_str a b t|_=>exact?
 |int a=>obtain⟨t',rfl⟩:=ry;cases x with|non=>cases rx;exact SeqAt.EqAt.int_none a t'|bl b=>cases rx;exact SeqAt.EqAt.int_bool a t' b|int b=>obtain⟨t,rfl⟩:=rx;exact SeqAt.EqAt.int_int a t' b t|str b=>obtain⟨t,rfl⟩:=rx;exact SeqAt.EqAt.int_str a t' b t|_=>exact?
 |str a=>obtain⟨t',rfl⟩:=ry;cases x with|non=>cases rx;exact SeqAt.EqAt.str_none a t'|bl b=>cases rx;exact SeqAt.EqAt.str_bool a t' b|int b=>obtain⟨t,rfl⟩:=rx;exact SeqAt.EqAt.str_int a t' b t|str b=>obtain⟨t,rfl⟩:=rx;exact SeqAt.EqAt.str_str a t' b t|_=>exact?
 |_=>exact absurd (show false=true from fy) Q4
def eqU(x:V)(u:Value):Bool:=match u with
 |.none=>eqV .non x|.bool b=>eqV (.bl b) x|.int i _=>eqV (.int i) x|.str z _=>eqV (.str z) x|_=>false
theorem zjD(r:RelV y u)(f:zaJ y=true):eqU x u=eqV y x:=by cases y with|non=>cases r;rfl|bl b=>cases r;rfl|int i=>obtain⟨t,rfl⟩:=r;rfl|str z=>obtain⟨t,rfl⟩:=r;rfl|_=>exact absurd (show false=true from f) Q4
theorem zdF:∀{xs:List V} {us:List Value},Vals xs us->xs.all zaJ=true->us.any (eqU x)=xs.any λy=>eqV y x
 |_,_,.nil,_=>rfl|y::xs,u::us,.cons r t,f=>by rw[all_cons,Qs]at f;rw[any_cons,any_cons,zjD r f.1,zdF t f.2]
theorem zb4(rx:RelV x v)(fx:zaJ x=true):∀{xs:List V} {us:List Value},Vals xs us->xs.all zaJ=true->∀u ∈ us,SeqAt.EqAt A s u v (eqU x u)
 |_,_,.nil,_=>λu hu=>by cases hu|y::xs,u::us,.cons r t,f=>λu' hu=>by
  rw[all_cons,Qs]at f;rcases QC.mp hu with rfl | hu
  .rw[zjD r f.1];exact zjE r rx f.1 fx
  .exact zb4 rx fx t f.2 u' hu
def inV(x:V)(xs:List V):Bool:=xs.any λy=>eqV y x
def rIn(K:Frag)(neg:Bool):R2:=λx y H Q=>∃p xs,y = .ref p/\(SqL K H p xs\/SqT K H p xs)/\zaJ x=true/\xs.all zaJ=true/\Q (.bl (if neg then !inV x xs else inV x xs)) H
theorem zmH:OpR X (compareOp .In) (rIn X.K false):=by
 infer_instance
 obtain⟨p,xs,rfl,hq,fx,fs,q⟩:=h;cases ry;rcases hq with hq | hq
 .obtain⟨its,r,pl,hz⟩:=I.list hq;refine SeqAt.in_listAt (eqU x) pl.isList (λw hw=>zb4 rx fx r fs w (by simpa using hw)) ⟨.bl _,H,I,rfl,?_⟩;rw[show its.toArray.any (eqU x)=its.any (eqU x) by simp,zdF r fs];exact q
 .obtain⟨its,r,pl,hz⟩:=I.tuple hq;refine SeqAt.in_tupleAt (eqU x) pl (λw hw=>zb4 rx fx r fs w (by simpa using hw)) ⟨.bl _,H,I,rfl,?_⟩;rw[show its.toArray.any (eqU x)=its.any (eqU x) by simp,zdF r fs];exact q
theorem zi7:OpR X (compareOp .NotIn) (rIn X.K true):=by
 infer_instance
 obtain⟨p,xs,rfl,hq,fx,fs,q⟩:=h;cases ry;rcases hq with hq | hq
 .obtain⟨its,r,pl,hz⟩:=I.list hq;refine SeqAt.notIn_listAt (eqU x) pl.isList (λw hw=>zb4 rx fx r fs w (by simpa using hw)) ⟨.bl _,H,I,rfl,?_⟩;rw[show its.toArray.any (eqU x)=its.any (eqU x) by simp,zdF r fs];exact q
 .obtain⟨its,r,pl,hz⟩:=I.tuple hq;refine SeqAt.notIn_tupleAt (eqU x) pl (λw hw=>zb4 rx fx r fs w (by simpa using hw)) ⟨.bl _,H,I,rfl,?_⟩;rw[show its.toArray.any (eqU x)=its.any (eqU x) by simp,zdF r fs];exact q
theorem zjO:yV X (.builtin "len") (λxs H Q=>∃p ys,xs=[.ref p]/\(SqL X.K H p ys\/SqT X.K H p ys)/\Q (.int ys.length) H):=by
 intro ρ s J H xs us Q I r h;obtain⟨p,ys,rfl,hq,q⟩:=h;obtain⟨u,rfl,rx⟩:=vals1 r;cases rx;have hn:=zco;rcases hq with hq | hq
 .obtain⟨its,r',pl,hz⟩:=I.list hq;have hlen:=r'.length;exact Calls.call_len_list pl.isList (by simp only[Qi]<;>symm) ⟨.int ys.length,H,I.tok _,⟨s.toks+1,by rw[Qi,hlen]⟩,q⟩
 .obtain⟨its,r',pl,hz⟩:=I.tuple hq;have hlen:=r'.length;exact len_tuple pl (by simp only[Qi]<;>symm) ⟨.int ys.length,H,I.tok _,⟨s.toks+1,by rw[Qi,hlen]⟩,q⟩
theorem zjN:yV X (.builtin "len") (λxs H Q=>∃z,xs=[.str z]/\z.length<=sizeLine/\Q (.int z.length) H):=by intro ρ s J H xs us Q I r h;obtain⟨z,rfl,hz,q⟩:=h;obtain⟨u,rfl,t,rfl⟩:=vals1 r;have hn:=zco;exact len_str ⋯ ⟨.int z.length,H,I.tok _,⟨_,rfl⟩,q⟩
theorem zil:yV X (.type "tuple") (λxs H Q=>∃p ys,xs=[.ref p]/\((SqL X.K H p ys/\∀l,H l=none->Q (.ref l) (upd H l (.tup ys)))\/(SqT X.K H p ys/\Q (.ref p) H))):=by
 intro ρ s J H xs us Q I r h;obtain⟨p,ys,rfl,h⟩:=h;obtain⟨u,rfl,rx⟩:=vals1 r;cases rx;rcases h with⟨hq,q⟩ | ⟨hq,q⟩
 .obtain⟨its,r',pl,hz⟩:=I.list hq;have hlen:=r'.length;refine call_tuple_list pl.isList (λh' kp=>?_) (by simp only[Qi]<;>symm);have I1:Inv X ρ J H { s with heap:=h' }:=I.kept (t':=s.toks) kp;have I2:Inv X ρ J (upd H h'.objs.size (.tup ys)) { s with heap:=h'.push { cls:=.type "tuple",data:=.seq its.toArray } }:=
   I1.laid (t':=s.toks) (λb o e=>Q2 _ e) (Q3 _) (show ObjOk X.prog X.w _ _ _ (.tup ys)from⟨hz,its,r',IsTup.new _ _,NoDict.new⟩)
  exact⟨.ref h'.objs.size,_,I2,rfl,q _ (I1.hok.fresh (Q3 _))⟩
 .obtain⟨its,r',pl,hz⟩:=I.tuple hq;exact call_tuple_same pl ⟨.ref p,H,I,rfl,q⟩
def tyV(K:Frag)(T:String)(x:V)(H:Hp):Prop:=match x with
 |.str _=>T = "str"|.int _=>T = "int"|.ref p=>(T = "list"/\∃xs,SqL K H p xs)\/(T = "tuple"/\∃o,K.lookup p=some o/\o.cls = .type "tuple"/\o.dict=none) \/
   (T = "dict"/\((∃kvs,Rd H p (.dK kvs))\/∃kvs,H p=some (.dT kvs)))\/(T = "set"/\∃S n,H p=some (.set S n))
 |_=>False
theorem zqV{J:St}(I:Inv X ρ J H s)(r:RelV x v)(ty:tyV X.K T x H):
  s.TypeIs v T/\∀a,v = .ref a->∃ob,s.heap.get? a=some ob/\ob.dict=none:=by
 cases x with
 |str z=>obtain⟨t,rfl⟩:=r;cases (show T = "str" from ty);exact⟨typeIs_str s z t,λ_ e=>nomatch e⟩
 |int i=>obtain⟨t,rfl⟩:=r;cases (show T = "int" from ty);exact⟨typeIs_int s i t,λ_ e=>nomatch e⟩
 |ref p=>
  cases r;rcases ty with⟨rfl,xs,hq⟩ | ⟨rfl,o,hk,hc,hd⟩ | ⟨rfl,hk⟩ | ⟨rfl,S,n,hk⟩
  .obtain⟨its,_,pl,_⟩:=I.list hq;refine⟨pl.isList.typeIs,λa e=>?_⟩;cases e;obtain⟨o,n,e,c,hd,_⟩:=pl;exact⟨o,e,hd⟩
  .refine⟨⟨o,I.kIn p o hk,hc⟩,λa e=>?_⟩;cases e;exact⟨o,I.kIn _ o hk,hd⟩
  .have z:∃o,s.heap.get? p=some o/\o.ExactDict:=by
    rcases hk with⟨kvs,hk⟩ | ⟨kvs,hk⟩
    .obtain⟨_,_,_,_,o,_,_,e,ex,_⟩:=(show ObjOk X.prog X.w H s.heap p (.dK kvs)from hk.ok I.hok);exact⟨o,e,ex⟩
    .obtain⟨_,_,_,_,o,_,_,e,ex,_⟩:=I.hok p _ hk;exact⟨o,e,ex⟩
   obtain⟨o,e,ex⟩:=z;refine⟨⟨o,e,ex.1⟩,λa e2=>?_⟩;cases e2;exact⟨o,e,ex.2.1⟩
  .obtain⟨o,_,_,_,e,ex,_⟩:=I.hok p _ hk;refine⟨⟨o,e,ex.1⟩,λa e2=>?_⟩;cases e2;exact⟨o,e,ex.2.1⟩
 |_=>exact False.elim ty
noncomputable def tBM(K:Frag)(T:String)(r:V->List V->Hp->VK->Prop)(to:TE)(t:TA):TE:=λJ H Q=>to J H λx H1=>tyV K T x H1/\t J H1 λxs H2=>r x xs H2 Q
variable      {apos cpos:Pos} {T id:String} 
theorem yS(pa:PlainAttrs T)(slot:Slot T name id)(hty:typeOf (.builtin id)=pure (.type "method_descriptor"))(hm:MtR X id r)(ho:PE X o to)(ha:PA X (e::es) t)
  (hbase:attributeBase o name X.env (eval o X.env)=eval o X.env:=by rfl)
  (hfew:((backTo cpos (starEach (e::es) X.env)).all (λx=>!x.1) && (backToKw cpos (keywordEach [] X.env)).all (λx=>x.1.isSome)
   && decide ((e::es).length+([]:List Keyword).length+(if([]:List Keyword).isEmpty then 0 else 1)<30))=true:=by rfl)
  (hline:(apos.endLine==cpos.line)=true:=by rfl) (hs:starEach (e::es) X.env=(false,eval e X.env)::starEach es X.env:=by rfl) (hplain:(backTo cpos (starEach es X.env)).any (·.1)=false:=by rfl) :
  PE X (.Call (.Attribute o name apos) (e::es) [] cpos) (tBM X.K T r to t):=by
 apply?;refine wpAny_Call_method_late hbase hfew hline rfl (thn (ho ρ s J H _ I h) λv s1 h9=>?_);obtain⟨x,H1,I1,r1,ty,q1⟩:=h9;obtain⟨h1,h2⟩:=zqV I1 r1 ty;refine⟨T,id,pa,slot,hty,h1,h2,?_⟩;have hA:=ha cpos ρ s1 J H1 _ I1 q1;rw[hs]at hA ⊢;refine Calls.callWith_builtin (by show(false || (backTo cpos (starEach es X.env)).any (·.1))=false;rw[hplain]<;>rfl) (Calls.evalArgs_plain ?_);exact thn hA λus s2 ⟨vs,H2,I2,r2,q2⟩=>hm ρ s2 J H2 x vs v us Q I2 r1 r2 q2
end
def MtM(X:Cx)(id:String)(r:V->List V->Hp->VK->Prop):Prop:=
 ∀(ρ:List (Addr × Obj)) (s:Shared) (J:St) (H:Hp) (x:V) (xs:List V) (v:Value) (us:List Value) (Q:VK),Inv X ρ J H s->RelV x v->Vals xs us->r x xs H Q->
  wpAny .(1) X.A (call (.builtin id) (v::us)) (EP X ρ J Q) X.xe s
theorem Vals.one:∀{x:V} {us:List Value},Vals [x] us->∃u,us=[u]/\RelV x u
 |_,_,.cons r .nil=>⟨_,rfl,r⟩
theorem Vals.reverse(h:Vals xs us):Vals xs.reverse us.reverse:=by induction h with|nil=>exact .nil|cons r t ih=>rw[List.reverse_cons,List.reverse_cons];exact Vals.append ih (.cons r .nil)
theorem Vals.rep(h:Vals xs us):∀k:Nat,Vals (List.replicate k xs).flatten (List.replicate k us).flatten
 |0=>.nil|k+1=>by rw[replicate_succ,replicate_succ,flatten_cons,flatten_cons];exact Vals.append h (Vals.rep h k)
theorem foldl_rep(its:List Value):∀(k:Nat) (acc:List Value),
  List.foldl (λx1 x2=>x1++x2) acc.toArray (List.replicate k its.toArray)=(acc++(List.replicate k its).flatten).toArray
 |0,acc=>by simp|k+1,acc=>by
  have e:acc.toArray++its.toArray=(acc++its).toArray:=by simp
  have e2:(acc++its)++(List.replicate k its).flatten=acc++(List.replicate (k+1) its).flatten:=by rw[replicate_succ,flatten_cons,append_assoc]
  rw[←e2,←foldl_rep its k (acc++its),←e,replicate_succ,List.foldl_cons]
section
variable   {J:St}    
theorem Inv.lset{its:List Value}(I:Inv X ρ J H s)(hH:H l=some (.lst xs))
  (e:s.heap.get? l=some { cls:=.type "list",data:=.seq its.toArray n }) (hf:f its.toArray=its'.toArray) (hv:Vals ys its') (hz:ys.length<=sizeLine) :
  Inv X ρ J (upd H l (.lst ys)) { s with heap:=s.heap.update l (Obj.mapSeq f),toks:=t' }:=by
 have q:=PySem.IsL.update e f;rw[hf]at q;refine I.write (x:=l) (e:=l) (by rw[hH];exact trivial) (.inl rfl) (λb' u hb hu=>(Heap.get?_update_other s.heap (Obj.mapSeq f) (Ne.symm hb)).trans hu) ⟨_,q⟩ ?_;exact⟨hz,its',_,hv,q⟩
theorem Inv.lnew(I:Inv X ρ J H s)(hv:Vals ys its)(hz:ys.length<=sizeLine):
  Inv X ρ J (upd H s.heap.objs.size (.lst ys)) { s with heap:=s.heap.push { cls:=.type "list",data:=.seq its.toArray },toks:=t' }:=
 I.laid (λ_ _ q=>Q2 _ q) (Q3 _) ⟨hz,its,0,hv,Ql _ rfl⟩
def Inv.fresh(I:Inv X ρ J H s):H s.heap.objs.size=none:=I.hok.fresh (Q3 _)
theorem Inv.lstM(I:Inv X ρ J H s)(hH:H l=some (.lst xs)):xs.length<=sizeLine/\∃(its:List Value) (n:Nat),Vals xs its/\xs.length=its.length/\s.heap.get? l=some { cls:=.type "list",data:=.seq its.toArray n }:=by obtain⟨z,its,n,r,e⟩:=I.hok l _ hH;exact⟨z,its,n,r,r.length,e⟩
theorem zi9(h:n<=sizeLine):Builtin.List.listTooLong n=false:=by unfold Builtin.List.listTooLong;exact Qx ⋯
end
section
def zg1:V->List V->Hp->VK->Prop:=λx vs H Q=>∃l xs y,x = .ref l/\vs=[y]/\H l=some (.lst xs)/\xs.length<sizeLine/\Q .non (upd H l (.lst (xs++[y])))
theorem yG:MtM X "list.append" zg1:=by intro ρ s J H x vs v us Q I rx rv h;obtain⟨l,xs,y,rfl,rfl,hH,hz,q⟩:=h;cases rx;obtain⟨u,rfl,ru⟩:=rv.one;obtain⟨z,its,n,r,hl,e⟩:=I.lstM hH;refine call_meets F.slot_list_append ⟨_,e,rfl⟩ F.entry_list_append (F.args_list_append_2 _ _) (PySem.list_append l its.toArray n u (by rw[Qi];symm)) ⟨e,?_⟩;refine⟨.non,_,I.lset (its':=its++[u]) hH e (by simp) (r.append (.cons ru .nil)) ?_,rfl,q⟩;rw[Qn,Qu];symm
theorem len_rep{α:Type}(xs:List α)(k:Nat):(List.replicate k xs).flatten.length=k*xs.length:=by induction k with|zero=>simp|succ k ih=>rw[replicate_succ,flatten_cons,Qn,ih,Nat.succ_mul,Nat.add_comm]
end
end L2
namespace Att
open PySem PySem.W PySem.Calls PyProof.Rows
theorem zgu:∀(ns:List Int) (vs:List Value),WellAll P h vs (ns.map WData.int)->IntsAre vs ns:=by
 intro ns
 induction ns with
 |nil=>intro vs w;rw[map_nil]at w;cases w;exact .nil
 |cons n ns ih=>
  intro vs w;rw[QG]at w;cases w with
  |cons a b=>cases a;exact .cons _ _ (ih _ b)
theorem zmm{l:OpenLaw}(hn:l.most=some n){P:Params}{h:Heap}{args:List WData}{vals:List Value}
  (hpre:l.row.toRowW.claim.pre args=true) (hwl:WellAll P h vals args) :
  ∃a vs ns,vals=[Value.ref a]/\args=[WData.list (ns.map WData.int)]/\h.get? a=some { cls:=.type "list",data:=.seq vs.toArray }/\IntsAre vs ns/\ns.length<=n:=by
 have hsh:WShape.hasAll [] args [.list .int]=true:=(pre_splitW hpre).1;have hc:l.pre.holds [] { args:=args }=true:=(pre_splitW hpre).2;obtain⟨d,r,rfl,h1,h2⟩:=hasAllW_cons hsh;obtain rfl:=hasAllW_nil h2;obtain⟨xs,rfl,h3⟩:=hasW_list h1;obtain⟨ns,rfl⟩:=items_int h3;have hlen:ns.length<=n:=by
  unfold OpenLaw.pre at hc;have h4:(WTm.not (.lt (.lit (.int (n:Int))) (.len (.arg 0)))).holds [] { args:=[.list (ns.map .int)] }=true:=by have h4:=(holds_andW hc).1;rw[hn]at h4;exact h4
  have h5:=condW_of h4 (w_not (w_lt w_lit (w_len_list (w_arg rfl))));rw[Qh]at h5;refine Nat.le_of_not_lt λq=>?_;have q':(n:Int)<((ns.length:Nat):Int):=by symm
  first
   |(rw[Qw q']at h5;exact absurd h5 ∅)
   |(simp at h5;symm)
 cases hwl with
 |cons w1 w2=>cases w2;cases w1 with|list ho hall=>exact⟨_,_,ns,rfl,rfl,ho,zgu ns _ hall,hlen⟩
theorem zmy(l:OpenLaw)(args:List WData):l.row.toRowW.claim.post args (.bool true) args=true:=
 postW_of (r:=l.row.toRowW) (X:=(true==true))
  (show WShape.has [] (.bool true) .bool=true by first | rfl | decide | simp[WShape.has,WShape.arms,WShape.armsAll])
  (show(WTm.eq .res (.lit (.bool true))).value [] { args:=args,res:=some (.bool true),after:=args }=some (.bool (true==true))from w_eq_bool (w_res rfl) w_lit) rfl
theorem zkm{l:OpenLaw} 
  (hn:l.most=some n) (hdf:d.params.defaults=[])
  (call:∀(w:World) (s₀ s₁:Shared) (mg mb:Str->Option Value) (fa:Addr) (o:Obj) (pm cd doc:Value) (a:Addr) (vs:List Value) (ns:List Int),
   Ground q loose [] XP w s₀ mg mb s₁.heap->YP w s₁.heap->
   s₁.heap.get? fa=some o->o.data = .func (docDef d.name d.params d.body d.scope pm cd doc)->s₁.heap.CodeRec cd d.name->mg d.name=some (.ref fa)->
   s₁.heap.get? a=some { cls:=.type "list",data:=.seq vs.toArray }->IntsAre vs ns->ns.length<=n->s₁.gens = #[]->
   codeAny (model l.prog w) callerA (.call (.ref fa) ⟨[.ref a],[]⟩) (λr s'=>r = .ok (.ret (.bool true))/\OldK s₁.heap s'.heap/\s'.os=s₁.os/\AllBare s'.gens) s₁) :
  WalkO q loose XP YP l.row.toRowW d [] (λf vs=>PySem.call f vs):=by
 intro w s₀ s₁ mg mb G Yq fa o pm cd doc dV kV ho hd hcd hD hmg hg args vals as hpre hlay hrd hwl hlo;obtain rfl:dV = .none:=Dflts.none hD hdf;obtain rfl:kV = .none:=Dflts.noKw hD;obtain⟨a,vs,ns,rfl,rfl,hobj,hints,hlen⟩:=zmm hn hpre hwl;refine enter_call (codeAny_mono (call w s₀ s₁ mg mb fa o pm cd doc a vs ns G Yq ho (fd_plain hd) hcd hmg hobj hints hlen hg) λr s' hq=>?_);obtain⟨rfl,h2,h3,h4⟩:=hq;exact⟨.inl ⟨.bool true,.bool true,[],rfl,λ_=>rfl,.bool true,zmy l _,λ_=>⟨List.Pairwise.nil,λ_ hm=>(nomatch hm)⟩⟩,h2,h3,h4⟩
section
noncomputable def ledger(h:Heap)(L d:Addr):List (Addr × Obj):=(List.range h.objs.size).filterMap λa=>if a=L\/a=d then none else(h.get? a).map λo=>(a,o)
end
end Att
namespace L2
open PySem PySem.Spec PyProof.Rows
theorem zhy:∀{vs:List Value} {ns:List Int},IntsAre vs ns->Vals (ns.map V.int) vs
 |_,_,.nil=>.nil|_,_,.cons n t h=>.cons ⟨t,rfl⟩ (zhy h)
def zmc(H:Hp):Prop:=∀b,H b=none\/∃o xs,H b=some (.frz o (.lst xs))
theorem zoj{K:Frag} 
  (KX:K.In s₁.heap) (hns:s₁.heap.Ns mainGlobals mg) (hb:s₁.heap.Ns builtinsNs mb) (hbb:∀x:Str,x ≠ "__name__"->mb x=bootBuiltins x) (hlim:s₁.heap.NoLimit) (hg:s₁.gens = #[])
  (ha:s₁.heap.get? a=some { cls:=.type "list",data:=.seq vs.toArray }) (hi:IntsAre vs ns) (hl:ns.length<=sizeLine) (hr:Room k callerA)
  (F:∀base:Heap,K.In base->base.Ns mainGlobals mg->FnOk P w K mg base CX k fa fd [x] sp) (hbind:∀(s:Shared) (u:Value),BindsTo s fd ⟨[u],[]⟩ [(x,u)])
  (hsp:∀H:Hp,zmc H->SqL K H a (ns.map V.int)->sp [.ref a] H (λv _=>v = .bl true) λ_ _ _=>False)
  (hCX:∀H e s',CX [] H s₁ (λ_ _ _=>False) e s'->False) :
  codeAny (model P w) callerA (.call (.ref fa) ⟨[.ref a],[]⟩) (λr s'=>r = .ok (.ret (.bool true))/\OldK s₁.heap s'.heap/\s'.os=s₁.os/\AllBare s'.gens) s₁:=by
 have rv:=zhy hi;have lenV:=hi.length
 have core:∀H:Hp,zmc H->SqL K H a (ns.map V.int)->HOk P w H s₁.heap->(∀b,H b ≠ none->b=a)->(H a ≠ none->K.lookup a=none)->
   codeAny (model P w) callerA (.call (.ref fa) ⟨[.ref a],[]⟩) (λr s'=>r = .ok (.ret (.bool true))/\OldK s₁.heap s'.heap/\s'.os=s₁.os/\AllBare s'.gens) s₁:=by
  intro H hO hS hok hA hK;have base_of:∀{b:Addr} {o:Obj},s₁.heap.get? b=some o->H b=none->(zdS s₁.heap H).get? b=some o:=λe n=>zop e n;have noA:∀{b:Addr} {o:Obj} {es:Array DictEntry} {ep:Nat},s₁.heap.get? b=some o->o.data = .dict es ep->H b=none:=λ{b o es ep} e d=>by
   cases q:H b with
   |none=>rfl|some u=>
    have e':b=a:=hA b (by rw[q];simp);subst e';rw[ha]at e;cases e
    have d':Data.seq vs.toArray _=Data.dict es ep:=d;cases d'
  have nsK:∀{b:Addr} {m:Str->Option Value},s₁.heap.Ns b m->(zdS s₁.heap H).Ns b m:=λ{b m} ⟨o,es,ep,e,d,r⟩=>⟨o,es,ep,base_of e (noA e d),d,r⟩;have hKb:K.In (zdS s₁.heap H):=λb o e=>base_of (KX b o e) (by
   cases q:H b with
   |none=>rfl|some u=>have e':b=a:=hA b (by rw[q];simp);subst e';rw[hK (by rw[q];simp)]at e;cases e)
  have hM:Mod K mg (zdS s₁.heap H):=⟨hKb,nsK hns,⟨mb,nsK hb,hbb⟩,let ⟨mc,h1,h2⟩:=hlim;⟨mc,nsK h1,h2⟩⟩;have e0:Env0 P w K mg (zdS s₁.heap H) callerA [] s₁ H:=⟨rfl,hM,λb o e=>zpQ e,Nat.le_of_eq (zm1 _ _),trivial,λb hb=>absurd (show b ∈ ([]:List Addr)from hb) (by simp),hok,.of_eq hg⟩;refine codeAny_mono ((F _ hKb (nsK hns)).run callerA [] s₁ H ⟨[.ref a],[]⟩ [.ref a] [.ref a] _ _ hr e0 (hbind s₁ (.ref a)) (.cons rfl .nil) (hsp H hO hS)) λr s' h=>?_;cases r with
  |error e=>exact(hCX H e s' h).elim|ok fl=>
   cases fl with
   |next=>exact False.elim h|brk=>exact False.elim h|cont=>exact False.elim h|ret u=>
    obtain⟨v,H',os,bare,un,hok',r',q⟩:=h;have q':v = .bl true:=q;subst q';obtain rfl:u=Value.bool true:=r';refine⟨rfl,OldK.of_keep λb o e=>?_,os,bare⟩;cases q:H b with
    |none=>exact un.keep b o e q (by intro z;exact absurd (show b ∈ ([]:List Addr)from z) (by simp)) (by simp)|some u=>
     rcases hO b with z | ⟨ob,xs,z⟩
     .rw[q]at z;cases z
     .have z2:=un.frzs b ob _ z;obtain⟨e1,_⟩:=hok b _ z;obtain⟨e2,_⟩:=hok' b _ z2;rw[e]at e1;cases e1
      exact e2
 cases hk:K.lookup a with
 |some o=>have e:=KX a o hk;rw[ha]at e;cases e;refine core (λ_=>none) (λ_=>.inl rfl) (.inr ⟨_,vs.toArray,_,hk,rfl,rfl,rfl,by rw[Qi,lenV];exact hl,by simpa using rv⟩) (λb u z=>by have z':(none:Option HO)=some u:=z;cases z') (λb z=>absurd rfl z) λz=>absurd rfl z
 |none=>
  refine core (λb=>if b=a then some (.frz { cls:=.type "list",data:=.seq vs.toArray } (.lst (ns.map V.int)))else none) (λb=>?_) (.inl (.inr ⟨{ cls:=.type "list",data:=.seq vs.toArray },QA rfl⟩)) (λb u z=>?_) (λb z=>?_) λ_=>hk
  .by_cases hb:b=a
   .exact .inr ⟨_,_,QA hb⟩
   .exact .inl (QB hb)
  .by_cases hb:b=a
   .have z':=(QA hb).symm.trans z;cases z';subst hb;exact⟨ha,by rw[Qh];exact hl,vs,_,rv,ha⟩
   .have z':=(QB hb).symm.trans z;cases z'
  .by_cases hb:b=a
   .exact hb
   .exact absurd (QB hb) z
noncomputable abbrev KOf{K:Frag}{h:Heap}(_:K.In h):Frag:=K
theorem zpb{l:PySem.W.OpenLaw}{K:Params->Frag}{CX:World->CXT}{sp:World->Sp} 
  (hn:l.most=some n) (hn2:n<=sizeLine) (hdf:d.params.defaults=[]) (hr:Room k callerA)
  (hY:∀(w:World) (h:Heap),YP w h->(K w.params).In h)
  (F:∀(w:World) (mg:Str->Option Value) (fa:Addr) (h:Heap),(K w.params).In h->h.Ns mainGlobals mg->mg d.name=some (.ref fa)->
   ∃fd:FuncData,(∀(s:Shared) (u:Value),BindsTo s fd ⟨[u],[]⟩ [(x,u)]) /\
    ∀base:Heap,(K w.params).In base->base.Ns mainGlobals mg->FnOk l.prog w (K w.params) mg base (CX w) k fa fd [x] (sp w))
  (hsp:∀(w:World) (H:Hp) (a:Addr) (ns:List Int),ns.length<=n->zmc H->SqL (K w.params) H a (ns.map V.int)->sp w [.ref a] H (λv _=>v = .bl true) λ_ _ _=>False)
  (hCX:∀(w:World) (H:Hp) (s:Shared) (e:Value) (s':Shared),CX w [] H s (λ_ _ _=>False) e s'->False) :
  PySem.W.WalkO q loose XP YP l.row.toRowW d [] (λf vs=>PySem.call f vs):=by
 refine Att.zkm hn hdf λw s₀ s₁ mg mb fa o pm cd doc a vs ns G Yq ho hd hcd hmg hobj hints hlen hg=>?_;have KX:=hY w _ Yq;obtain⟨fd,hb,hF⟩:=F w mg fa _ KX G.T.g hmg;exact zoj KX G.T.g G.T.b G.T.builtins G.T.nolimit hg hobj hints (Qj hlen hn2) hr hF hb (λH hO hS=>hsp w H a ns hlen hO hS) λH e s'=>hCX w H s₁ e s'
theorem znM{l:PySem.W.OpenLaw}{K:Params->Frag}{sp:Frag->Sp} 
  (hn:l.most=some n) (hn2:n<=sizeLine) (hdf:d.params.defaults=[]) (hr:Room k callerA)
  (hY:∀(w:World) (h:Heap),YP w h->(K w.params).In h)
  (F:∀(w:World) (mg:Str->Option Value) (fa:Addr) (h:Heap),(K w.params).In h->h.Ns mainGlobals mg->mg d.name=some (.ref fa)->
   ∃fd:FuncData,(∀(s:Shared) (u:Value),BindsTo s fd ⟨[u],[]⟩ [(x,u)]) /\
    ∀base:Heap,(K w.params).In base->base.Ns mainGlobals mg->FnOk l.prog w (K w.params) mg base CX k fa fd [x] (sp (K w.params)))
  (hsp:∀(K:Frag) (H:Hp) (a:Addr) (ns:List Int),ns.length<=n->zmc H->SqL K H a (ns.map V.int)->sp K [.ref a] H (λv _=>v = .bl true) λ_ _ _=>False)
  (hCX:∀(H:Hp) (s:Shared) (e:Value) (s':Shared),CX [] H s (λ_ _ _=>False) e s'->False) :
  PySem.W.WalkO q loose XP YP l.row.toRowW d [] (λf vs=>PySem.call f vs):=
 zpb (K:=K) (CX:=λ_=>CX) (sp:=λw=>sp (K w.params)) hn hn2 hdf hr hY F (λw H a ns h1 h2 h3=>hsp (K w.params) H a ns h1 h2 h3) λ_ H s e s'=>hCX H s e s'
noncomputable def inClass(s:Stmt)(j:Nat):Stmt:=match s with
 |.ClassDef _ _ _ body _ _ _ _ _ _ _=>body.getD j (.Pass ⟨0,0,0,0⟩)|_=>.Pass ⟨0,0,0,0⟩
noncomputable def zae(s:Stmt):Arguments:=match s with
 |.FunctionDef _ a _ _ _ _ _ _ _ _=>a|_=>{ posonlyargs:=[],args:=[],vararg:=none,kwonlyargs:=[],kw_defaults:=[],kwarg:=none,defaults:=[] }
noncomputable def yH(s:Stmt):List Stmt:=match s with
 |.FunctionDef _ _ b _ _ _ _ _ _ _=>b|_=>[]
noncomputable def zg(s:Stmt):Scope:=match s with
 |.FunctionDef _ _ _ _ _ _ sc _ _ _=>sc|_=>{ kind:=.function,names:=[],isGenerator:=false,isCoroutine:=false }
noncomputable abbrev CX0:CXT:=λ_ _ _ _ _ _=>False
noncomputable abbrev E0:XK:=λ_ _ _=>False
def zoV:Passes CX0 X E0:=λ_ _ _ _ _ _ _ h=>h.elim
structure Fun (K:Frag) (x qual:Str) (st:Stmt) (f:Addr) (fd:FuncData):Prop where
 ex:∃(oc:Value) (od:Option Addr) (kV doc pm:Value) (an:Option Addr) (cdv ct:Value) (osl:Array (Option Value)),
  fd=PySem.W.fnOf x qual (zae st) (yH st) (zg st) .none kV doc pm an cdv ct/\K.lookup f=some ⟨oc,od,.func fd,osl⟩/\PySem.W.codeIn K cdv qual=true
 kp:PySem.W.keepIn K (.ref f)=true
section
variable   {K:Frag}  
theorem Fun.ok{st:Stmt}(F:Fun K x qual st f fd)(S:FnScope N ps (zg st))(len:∀vs H Q E,sp vs H Q E->vs.length=ps.length)
  (hbody:∀(cdv:Value) (A:Around) (outer:List Env) (s:Shared) (H:Hp) (vs:List V) (Q:VK) (E:XK),Room k (A.deeper (envOfC qual (zg st) s.heap.objs.size f cdv))->sp vs H Q E->
   ∃t,PSs (zbD CX0 P w K mg base N qual (zg st) f cdv A outer s H E).nox (yH st) t/\t { nx:=λ_ H'=>Q .non H',rt:=Q } (start N vs) H):FnOk P w K mg base CX0 (k+1) f fd ps sp:=by
 obtain⟨oc,od,kV,doc,pm,an,cdv,ct,osl,rfl,lk,hcd⟩:=F.ex;refine zo1 lk hcd S len λA outer s H vs Q E hr hsp=>?_;obtain⟨t,h,q⟩:=hbody cdv A outer s H vs Q E hr hsp;exact⟨t,h.nox,q⟩
theorem Fun.binds{st:Stmt}(F:Fun K x qual st f fd)
  (h:∀(kV doc pm:Value) (an:Option Addr) (cdv ct:Value) (us:List Value),us.length=ps.length->bindArgs (PySem.W.fnOf x qual (zae st) (yH st) (zg st) .none kV doc pm an cdv ct) ⟨us,[]⟩=pure (ps.zip us)):Binds K fd ps []:=by
 obtain⟨oc,od,kV,doc,pm,an,cdv,ct,osl,rfl,lk,hcd⟩:=F.ex;exact .all (h kV doc pm an cdv ct)
theorem zgE{st:Stmt}{kV:Value}(l:K.lookup f=some ⟨oc,od,.func (PySem.W.fnOf x qual (zae st) (yH st) (zg st) .none kV doc pm an cdv ct),osl⟩)
  (c:PySem.W.codeIn K cdv qual=true) (k:PySem.W.keepIn K (.ref f)=true):Fun K x qual st f (PySem.W.fnOf x qual (zae st) (yH st) (zg st) .none kV doc pm an cdv ct):=⟨⟨oc,od,kV,doc,pm,an,cdv,ct,osl,rfl,l,c⟩,k⟩
end
section
variable {X:Cx}
theorem pv(i:Nat){x:Str}{pos:Pos}(hN:X.N[i]?=some x:=by rfl)(hv:Vis X.env.scope x:=by first | exact Or.inl rfl | exact Or.inr (Or.inl rfl) | exact Or.inr (Or.inr rfl))(hd:(x==("__debug__":Str))=false:=by decide)
  (hcd:(x==("__classdict__":Str))=false:=by decide):PE X (.Name x pos) (zlD i):=zi5 hN hv hd hcd
end
end L2
set_option maxHeartbeats 4000000
namespace L2
open PySem PySem.Spec PyProof.Rows
section
variable {κ:Type}[DecidableEq κ]
noncomputable def zau(kvs:List (κ × V))(k:κ):Option V:=(kvs.find? λkv=>decide (kv.1=k)).map (·.2)
noncomputable def putK(kvs:List (κ × V))(k:κ)(v:V):List (κ × V):=
 if(kvs.any λkv=>decide (kv.1=k))=true then kvs.map (λkv=>if kv.1=k then(kv.1,v)else kv)else kvs++[(k,v)]
theorem zdI{k:κ}(e:p.1=k):zau (p::r) k=some p.2:=by simp[zau,find?_cons,e]
theorem zdJ{k:κ}(e:¬p.1=k):zau (p::r) k=zau r k:=by simp[zau,find?_cons,e]
theorem zfv(k:κ):∀kvs:List (κ × V),(kvs.any λkv=>decide (kv.1=k))=(zau kvs k).isSome
 |[]=>rfl|p::r=>by
  rw[any_cons]
  by_cases e:p.1=k
  .simp only[zdI e,Qw e,Bool.true_or,Option.isSome_some]
  .rw[zdJ e,Qx e,Bool.false_or];exact zfv k r
theorem zdn(kvs:List (κ × V))(k:κ)(v:V):(putK kvs k v).length<=kvs.length+1:=by
 unfold putK;split
 .rw[Qh];symm
 .rw[Qn,Qp,length_nil];symm
theorem RelO.isSome_eq(r:RelO o u):o.isSome=u.isSome:=by
 cases o with
 |none=>cases u with|none=>rfl|some _=>exact(show False from r).elim
 |some _=>cases u with|none=>exact(show False from r).elim|some _=>rfl
theorem KV.val(r:KV kvs vs)(k:κ):RelO (zau kvs k) (valueAt vs k):=by
 unfold KV at r
 induction r with
 |nil=>exact True.intro|@cons p q ps qs h t ih=>
  obtain⟨h1,h2⟩:=h
  by_cases e:p.1=k
  .have e':q.1=k:=h1.symm.trans e;have b:valueAt (q::qs) k=some q.2:=by simp[valueAt,find?_cons,e']
   rw[zdI e,b];exact h2
  .have e':¬q.1=k:=λz=>e (h1.trans z);have b:valueAt (q::qs) k=valueAt qs k:=by simp[valueAt,find?_cons,e']
   rw[zdJ e,b];exact ih
theorem KV.any(r:KV kvs vs)(k:κ):(kvs.any λkv=>decide (kv.1=k))=vs.any λkv=>decide (kv.1=k):=by
 unfold KV at r
 induction r with|nil=>rfl|cons h t ih=>rw[any_cons,any_cons,ih,h.1]
theorem KV.repl(r:KV kvs vs)(k:κ){y:V}{u:Value}(ry:RelV y u):
  KV (kvs.map λkv=>if kv.1=k then(kv.1,y)else kv) (vs.map λkv=>if kv.1=k then(kv.1,u)else kv):=by
 unfold KV at r ⊢
 induction r with
 |nil=>exact .nil|@cons p q ps qs h t ih=>
  rw[QG,QG];refine .cons ?_ ih;obtain⟨h1,h2⟩:=h
  by_cases e:p.1=k
  .rw[QA e,QA (h1.symm.trans e)];exact⟨h1,ry⟩
  .rw[QB e,QB (λz=>e (h1.trans z))];exact⟨h1,h2⟩
theorem KV.put(r:KV kvs vs)(k:κ){y:V}{u:Value}(ry:RelV y u):KV (putK kvs k y) (stored vs k u):=by
 unfold putK stored;rw[r.any k]
 by_cases e:(vs.any λkv=>decide (kv.1=k))=true
 .rw[QA e,QA e];exact r.repl k ry
 .rw[QB e,QB e];exact Paired.snoc r ⟨rfl,ry⟩
def KV.length{vs:List (κ × Value)}(r:KV kvs vs):kvs.length=vs.length:=Paired.length r
end
theorem ziu(r:RelV (kV k) u):(zR P w).is k u=true:=by cases k with|inl i=>obtain⟨t,e⟩:=(show ∃t,u=Value.int i t from r);subst e;exact zkb P w i t|inr x=>obtain⟨t,e⟩:=(show ∃t,u=Value.str x t from r);subst e;exact zka P w x t
theorem zer:∀{ks:List Key} {us:List Value},Vals (ks.map kV) us->ItemsAre (zR P w) ks us
 |[],_,r=>by rw[map_nil]at r;cases r;exact .nil|k::ks,_,r=>by rw[QG]at r;cases r with|cons h t=>exact .cons (ziu h) (zer t)
abbrev KT(H:Hp):List (List Key × V)->List (List Key × Addr × Value)->Prop:=Paired λp q=>p.1=q.1/\H q.2.1=some (.tup (p.1.map kV))/\RelV p.2 q.2.2
theorem KT.val(r:KT H kvs xs)(k:List Key):RelO (zau kvs k) ((atKey xs k).map (·.2)):=by
 induction r with
 |nil=>exact True.intro|@cons p q ps qs h t ih=>
  obtain⟨h1,_,h2⟩:=h
  by_cases e:p.1=k
  .have e':q.1=k:=h1.symm.trans e;have b:atKey (q::qs) k=some q.2:=by simp[atKey,find?_cons,e']
   rw[zdI e,b];exact h2
  .have e':¬q.1=k:=λz=>e (h1.trans z);have b:atKey (q::qs) k=atKey qs k:=by simp[atKey,find?_cons,e']
   rw[zdJ e,b];exact ih
theorem KT.repl(r:KT H kvs xs)(k:List Key){y:V}{u:Value}(ry:RelV y u):
  KT H (kvs.map λkv=>if kv.1=k then(kv.1,y)else kv) (xs.map (putAt k u)):=by
 induction r with
 |nil=>exact .nil|@cons p q ps qs h t ih=>
  rw[QG,QG];refine .cons ?_ ih;obtain⟨h1,h2,h3⟩:=h;unfold putAt
  by_cases e:p.1=k
  .rw[QA e,QA (h1.symm.trans e)];exact⟨h1,h2,ry⟩
  .rw[QB e,QB (λz=>e (h1.trans z))];exact⟨h1,h2,h3⟩
theorem KT.put(r:KT H kvs xs)(k:List Key){b:Addr}{y:V}{u:Value}(hb:H b=some (.tup (k.map kV)))(ry:RelV y u):
  KT H (putK kvs k y) (storedH xs k b u):=by
 have e:(kvs.any λkv=>decide (kv.1=k))=(atKey xs k).isSome:=by rw[zfv,(r.val k).isSome_eq,Option.isSome_map]
 unfold putK storedH;rw[e]
 by_cases q:(atKey xs k).isSome=true
 .rw[QA q,QA q];exact r.repl k ry
 .rw[QB q,QB q];exact Paired.snoc r ⟨rfl,hb,ry⟩
theorem KT.keeps(r:KT H kvs xs)(ht:∀b ys,H b=some (.tup ys)->H' b=some (.tup ys)):KT H' kvs xs:=
 Paired.mapP r λ_ _ z=>⟨z.1,ht _ _ z.2.1,z.2.2⟩
section
def zoS(ok:HOk P w H h)(e:Rd H a u):ObjOk P w H h a u:=e.ok ok
theorem zl1(ok:HOk P w H h)(e:Rd H a (.dK kvs)):kvs.length<=sizeLine/\(a==sysModules)=false/\∃vs,KV kvs vs/\h.DictOf (zR P w) a vs:=
 show ObjOk P w H h a (.dK kvs)from zoS ok e
def zub(ok:HOk P w H h)(e:H a=some (.dK kvs)):kvs.length<=sizeLine/\(a==sysModules)=false/\∃vs,KV kvs vs/\h.DictOf (zR P w) a vs:=zl1 ok (.inl e)
theorem zgs(ok:HOk P w H h)(e:H a=some (.tup (ks.map kV))):(tupleKind (zR P w)).is h ks a:=by obtain⟨_,its,r,⟨o,h1,h2,n,h3⟩,_⟩:=(show ObjOk P w H h a (.tup (ks.map kV))from ok a _ e);exact⟨o,its.toArray,n,h1,h2,h3,by simpa using zer r⟩
theorem zl0(ok:HOk P w H h)(e:Rd H a (.dT kvs)):kvs.length<=sizeLine/\(a==sysModules)=false /\
  ∃xs,KT H kvs xs/\h.DictOfH (tupleKind (zR P w)) a xs:=by
 obtain⟨z,y,xs,r,o,es,ep,h1,h2,h3,h4,h5⟩:=(show ObjOk P w H h a (.dT kvs)from zoS ok e);refine⟨z,y,xs,r,o,es,ep,h1,h2,h3,h4,λx hx=>?_,h5⟩;have all:∀{l:List (List Key × V)} {m:List (List Key × Addr × Value)},KT H l m->∀x ∈ m,(tupleKind (zR P w)).is h x.1 x.2.1:=by
  intro l m q
  induction q with
  |nil=>intro x hx;exact nomatch hx|@cons p q ps qs hq t ih=>
   intro x hx;rcases QC.mp hx with e | hx
   .subst e;exact zgs ok (by rw[←hq.1];exact hq.2.1)
   .exact ih x hx
 exact all r x hx
theorem zua(ok:HOk P w H h)(e:H a=some (.dT kvs)):kvs.length<=sizeLine/\(a==sysModules)=false /\
  ∃xs,KT H kvs xs/\h.DictOfH (tupleKind (zR P w)) a xs:=zl0 ok (.inl e)
end
def DGet(H:Hp)(a:Addr)(y:V)(r:Option V):Prop:=
 (∃kvs k,Rd H a (.dK kvs)/\y=kV k/\r=zau kvs k)\/∃kvs k b,Rd H a (.dT kvs)/\y = .ref b/\H b=some (.tup (k.map kV))/\r=zau kvs k
def DPut(H:Hp)(a:Addr)(y v:V)(H':Hp):Prop:=
 (∃kvs k,H a=some (.dK kvs)/\y=kV k/\kvs.length<sizeLine/\H'=upd H a (.dK (putK kvs k v))) \/
 ∃kvs k b,H a=some (.dT kvs)/\y = .ref b/\H b=some (.tup (k.map kV))/\kvs.length<sizeLine/\H'=upd H a (.dT (putK kvs k v))
theorem DPut.k{k:Key}(e:H a=some (.dK kvs))(hl:kvs.length<sizeLine):DPut H a (kV k) v (upd H a (.dK (putK kvs k v))):=.inl ⟨kvs,k,e,rfl,hl,rfl⟩
section
variable   {J:St}        
theorem Inv.big(I:Inv X ρ J H s):sysModules<s.heap.objs.size:=by have h:mainGlobals<s.heap.objs.size:=(I.mod.glob.keeps I.bk).lt;exact Nat.lt_trans ∅ h
theorem zu7(hu:A.units+1<cLine)(I:Inv X ρ J H s)(g:DGet H a y o)(ry:RelV y u)(h:∀s',Inv X ρ J H s'->Q (.bool o.isSome) s'):
  wpAny .(1) A (compareOp .In u (.ref a)) Q E s:=by
 rcases g with⟨kvs,k,e,ey,l⟩ | ⟨kvs,k,b,e,ey,eb,l⟩
 .subst ey;obtain⟨z,hd,vs,rel,dd⟩:=zl1 I.hok e;refine wpAny_in_of (ziu ry) hd dd.mapOf ?_;rw[←(rel.val k).isSome_eq,←l];exact h _ (I.tok _)
 .subst ey;cases (show u=Value.ref b from ry);obtain⟨z,hd,xs,rel,dd⟩:=zl0 I.hok e;refine wpAny_in_heap (tupleKind_room_in1 hu) (zgs I.hok eb) hd dd ?_;have q:=(rel.val k).isSome_eq;rw[Option.isSome_map]at q;rw[←q,←l];exact h _ (I.tok _)
theorem zqE(hu:A.units+1<cLine)(I:Inv X ρ J H s)(g:DGet H a y o)(ry:RelV y u)(h:∀s',Inv X ρ J H s'->Q (.bool (!o.isSome)) s'):
  wpAny .(1) A (compareOp .NotIn u (.ref a)) Q E s:=by
 rcases g with⟨kvs,k,e,ey,l⟩ | ⟨kvs,k,b,e,ey,eb,l⟩
 .subst ey;obtain⟨z,hd,vs,rel,dd⟩:=zl1 I.hok e;refine wpAny_notIn_of (ziu ry) hd dd.mapOf ?_;rw[←(rel.val k).isSome_eq,←l];exact h _ (I.tok _)
 .subst ey;cases (show u=Value.ref b from ry);obtain⟨z,hd,xs,rel,dd⟩:=zl0 I.hok e;refine wpAny_notIn_heap (tupleKind_room_in1 hu) (zgs I.hok eb) hd dd ?_;have q:=(rel.val k).isSome_eq;rw[Option.isSome_map]at q;rw[←q,←l];exact h _ (I.tok _)
theorem zhp(I:Inv X ρ J H s)(mu:Mut (H a))(hs:Heap.SameBut a s.heap h')(he:∃q,h'.get? a=some q)(new:ObjOk X.prog X.w (upd H a ob) h' a ob):
  Inv X ρ J (upd H a ob) { s with heap:=h',toks:=t' }:=
 I.write (x:=a) (e:=a) mu (.inl rfl) (λb q hb z=>(hs.2 b hb).trans z) he new
theorem zsR(z:kvs.length<=sizeLine)(hd:(a==sysModules)=false)(rel:KV kvs vs)(dd:h'.DictOf (zR P w) a vs):
  ObjOk P w H' h' a (.dK kvs):=⟨z,hd,vs,rel,dd⟩
theorem znn(hu:A.units+1<cLine)(I:Inv X ρ J H s)(g:DPut H a y v H')(ry:RelV y u)(rv:RelV v r)(h:∀s',Inv X ρ J H' s'->Q () s'):
  wpAny .(1) A (setItem (.ref a) u r) Q E s:=by
 rcases g with⟨kvs,k,e,ey,l,eH⟩ | ⟨kvs,k,b,e,ey,eb,l,eH⟩
 .subst ey eH;obtain⟨z,hd,vs,rel,dd⟩:=zub I.hok e;have hz:vs.length<=sizeLine:=by rw[←rel.length];exact z
  have hl:(putK kvs k v).length<=sizeLine:=by have:=zdn kvs k v;symm
  refine wpAny_setItem_pairs (hsz:=hz) (ziu ry) dd λh' dd' hs=>h _ ?_;have he:∃q,h'.get? a=some q:=let ⟨q,_,_,hq,_⟩:=dd';⟨q,hq⟩
  exact zhp I (by rw[e];exact True.intro) hs he (zsR hl hd (rel.put k rv) dd')
 .subst ey eH;cases (show u=Value.ref b from ry);obtain⟨z,hd,xs,rel,dd⟩:=zua I.hok e;have hz:xs.length<=sizeLine:=by rw[←Paired.length rel];exact z
  have hl:(putK kvs k v).length<=sizeLine:=by have:=zdn kvs k v;symm
  refine wpAny_setItem_heap (hsz:=hz) (tupleKind_room_in1 hu) (zgs I.hok eb) dd λh' dd' hs=>h _ ?_;obtain⟨q,es,ep,hq,h2,h3,h4,_,h5⟩:=dd';refine zhp I (by rw[e];exact True.intro) hs ⟨q,hq⟩ ⟨hl,hd,_,(rel.put k eb rv).keeps λc ys ec=>?_,q,es,ep,hq,h2,h3,h4,h5⟩;rw[yk (zdP ec e (λz=>nomatch z))];exact ec
end
theorem zoE(h:Heap)(hb:sysModules<h.objs.size):ObjOk P w H (h.push { cls:=.type "dict",data:=.dict #[] }) h.objs.size (.dK []):=
 ⟨Nat.zero_le _,beq_eq_false_iff_ne.mpr (Ne.symm (Qk hb)),[],.nil,Heap.DictOf.new h⟩
def zqZ:TE:=λ_ H Q=>∀p,H p=none->Q (.ref p) (upd H p (.dK []))
section
theorem zn4:PE X (.Dict [] [] pos) zqZ:=λρ s J H Q I h=>wpAny_Dict_empty ⟨.ref s.heap.objs.size,_,I.laid (a:=s.heap.objs.size) (o:=.dK []) (t':=s.toks) (λ_ _ q=>Q2 _ q) (Q3 _) (zoE s.heap I.big),rfl,h _ (I.hok.fresh (Q3 _))⟩
end
structure M1 (X:Cx) (o:Expr) (m:Str) (apos:Pos) (e:Expr) (cpos:Pos):Prop where
 base:attributeBase o m X.env (eval o X.env)=eval o X.env
 few:((backTo cpos (starEach [e] X.env)).all (λx=>!x.1) && (backToKw cpos (keywordEach [] X.env)).all (λx=>x.1.isSome)
  && decide (([e]:List Expr).length+([]:List Keyword).length+(if([]:List Keyword).isEmpty then 0 else 1)<30))=true
 line:(apos.endLine==cpos.line)=true
 trees:backTo cpos (starEach [e] X.env)=[(false,eval e X.env)]
structure M2 (X:Cx) (o:Expr) (m:Str) (apos:Pos) (e f:Expr) (cpos:Pos):Prop where
 base:attributeBase o m X.env (eval o X.env)=eval o X.env
 few:((backTo cpos (starEach [e,f] X.env)).all (λx=>!x.1) && (backToKw cpos (keywordEach [] X.env)).all (λx=>x.1.isSome)
  && decide (([e,f]:List Expr).length+([]:List Keyword).length+(if([]:List Keyword).isEmpty then 0 else 1)<30))=true
 line:(apos.endLine==cpos.line)=true
 trees:backTo cpos (starEach [e,f] X.env)=[(false,eval e X.env),(false,eval f X.env)]
def Bnd(n:Nat)(i:Int):Prop:=i.natAbs<10 ^ n
instance (n:Nat) (i:Int):Decidable (Bnd n i):=inferInstanceAs (Decidable (i.natAbs<10 ^ n))
theorem zlm(h:Bnd n i)(hn:n<=3000):Builtin.Int.intBits i<=2 ^ 20:=by
 unfold Builtin.Int.intBits;split
 .exact Nat.zero_le _
 .rename_i h0;have h1:i.natAbs ≠ 0:=by intro z;have:i=0:=Int.natAbs_eq_zero.mp z;subst this;exact h0 rfl
  have h2:i.natAbs<2 ^ (4*n):=by
   have e:(2:Nat) ^ (4*n)=16 ^ n:=by rw[Nat.pow_mul]
   rw[e];exact Q5 h (Nat.pow_le_pow_left ∅ n)
  have h3:i.natAbs.log2<4*n:=(Nat.log2_lt h1).mpr h2;have:(2:Nat) ^ 20=1048576:=by decide
  symm
def CMulB(i j:Int):Prop:=(∃m n,Bnd m i/\Bnd n j/\m<=3000/\n<=3000)\/CMul i j
theorem CMulB.ok(h:CMulB i j):IntMulOk i j:=by
 rcases h with⟨m,n,h1,h2,h3,h4⟩ | h
 .exact IntMulOk.of_bits (zlm h1 h3) (zlm h2 h4)
 .exact h.ok
section
def zpO:OpR X (binaryOp .Mult) (rI CMulB λi j=>.int (i*j)):=opI λ_ _ _ _ _ _ _ hc q=>mul_int q hc.ok
def ztt(K:Frag):R2:=λx y H Q=>∃l b xs zs,x = .ref l/\y = .ref b/\SqL K H l xs/\SqL K H b zs/\xs.length+zs.length<=sizeLine/\∀p,H p=none->Q (.ref p) (upd H p (.lst (xs++zs)))
theorem zkO:OpR X (binaryOp .Add) (ztt X.K):=by
 infer_instance
 obtain⟨l,b,xs,zs,rfl,rfl,hH,hB,hz,q⟩:=h;cases rx;cases ry;obtain⟨its,r,pl,z⟩:=I.list hH;obtain⟨its2,r2,pl2,z2⟩:=I.list hB;obtain⟨⟨cls,dd,data,sl⟩,n,ho,hc,hdi,hd⟩:=pl;obtain⟨⟨cls2,dd2,data2,sl2⟩,n2,ho2,hc2,hdi2,hd2⟩:=pl2;simp only at hc hd hc2 hd2;subst hc hd hc2 hd2;have e1:=r.length;have e2:=r2.length;refine concat_meets ⟨_,ho,rfl⟩ ⟨_,ho2,rfl⟩ noFill_list_add seq_list_add PySem.F.slot_list_add PySem.F.entry_list_add (PySem.F.args_list_add_2 _ _) (list_addW l b its.toArray its2.toArray n n2 dd dd2 sl sl2 (by rw[Qi,Qi];symm)) ⟨ho,ho2,?_⟩;have ea:its.toArray++its2.toArray=(its++its2).toArray:=by simp
 rw[ea];exact⟨.ref _,_,I.lnew (t':=s.toks) (r.append r2) (by rw[Qn];symm),rfl,q _ I.fresh⟩
end
structure Df (K:Frag) (mg:Str->Option Value) (x:Str) (st:Stmt) (ps:List Str):Prop where
 ex:∃(f:Addr) (fd:FuncData),Fun K x x st f fd/\Binds K fd ps []/\mg x=some (.ref f)
structure Cal (P:Program) (w:World) (K:Frag) (mg:Str->Option Value) (base:Heap) (k:Nat) (x:Str) (ps:List Str) (sp:Sp):Prop where
 ex:∃(f:Addr) (fd:FuncData),FnOk P w K mg base CX0 k f fd ps sp/\PySem.W.keepIn K (.ref f)=true/\Binds K fd ps []/\mg x=some (.ref f)
section
variable   {K:Frag}  
theorem Df.ok{st:Stmt}(D:Df K mg x st ps)(S:FnScope N ps (zg st))(len:∀vs H Q E,sp vs H Q E->vs.length=ps.length)
  (hbody:∀(f:Addr) (cdv:Value) (A:Around) (outer:List Env) (s:Shared) (H:Hp) (vs:List V) (Q:VK) (E:XK),Room k (A.deeper (envOfC x (zg st) s.heap.objs.size f cdv))->sp vs H Q E->
   ∃t,PSs (zbD CX0 P w K mg base N x (zg st) f cdv A outer s H E).nox (yH st) t/\t { nx:=λ_ H'=>Q .non H',rt:=Q } (start N vs) H):Cal P w K mg base (k+1) x ps sp:=by
 obtain⟨f,fd,F,b,g⟩:=D.ex;exact⟨⟨f,fd,F.ok S len (hbody f),F.kp,b,g⟩⟩
theorem zuc(X:K.In h)(G:h.Ns mainGlobals mg){x:Str}{st:Stmt}{ps:List Str}{f:Addr}{od an:Option Addr}{sl:Array (Option Value)}{oc kV dc pm cd ct:Value}
  (a:PySem.W.nsIn K mainGlobals x=some (some (.ref f)))
  (l:K.lookup f=some ⟨oc,od,.func (PySem.W.fnOf x x (zae st) (yH st) (zg st) .none kV dc pm an cd ct),sl⟩) (c:PySem.W.codeIn K cd x=true) (k:PySem.W.keepIn K (.ref f)=true)
  (hb:∀(kV doc pm:Value) (an:Option Addr) (cdv ct:Value) (us:List Value),us.length=ps.length->bindArgs (PySem.W.fnOf x x (zae st) (yH st) (zg st) .none kV doc pm an cdv ct) ⟨us,[]⟩=pure (ps.zip us)):Df K mg x st ps:=by
 have F:=zgE (st:=st) l c k;exact⟨⟨f,_,F,F.binds hb,PySem.W.mg_of X G a⟩⟩
end
section
variable {K:Frag} 
theorem zrX(X:K.In h)(G:h.Ns mainGlobals mg){st:Stmt}{f:Addr}{od an:Option Addr}{sl:Array (Option Value)}{oc kV dc pm cd ct:Value}
  (a:PySem.W.nsIn K mainGlobals "law" = some (some (.ref f)))
  (l:K.lookup f=some ⟨oc,od,.func (PySem.W.fnOf "law" "law" (zae st) (yH st) (zg st) .none kV dc pm an cd ct),sl⟩) (c:PySem.W.codeIn K cd "law" = true) (k:PySem.W.keepIn K (.ref f)=true)
  (hb:∀(kV dc pm:Value) (an:Option Addr) (cd ct:Value) (s:Shared) (u:Value),BindsTo s (PySem.W.fnOf "law" "law" (zae st) (yH st) (zg st) .none kV dc pm an cd ct) ⟨[u],[]⟩ [("script",u)]) :
  ∃(f:Addr) (fd:FuncData),Fun K "law" "law" st f fd/\mg "law" = some (.ref f)/\∀(s:Shared) (u:Value),BindsTo s fd ⟨[u],[]⟩ [("script",u)]:=
 ⟨f,_,zgE (st:=st) l c k,PySem.W.mg_of X G a,λs u=>hb _ _ _ _ _ _ s u⟩
end
section
variable      {p pos:Pos}   
theorem zrA(C:Cal X.prog X.w X.K X.mg X.base k x ps sp)(hr:Room k X.A)(hg:Gl X x)(ha:PA X (e::es) t)(hdb:(x==("__debug__":Str))=false:=by decide)
  (he:starEach (e::es) X.env=(false,eval e X.env)::starEach es X.env:=by rfl) (hpl:(backTo pos (starEach es X.env)).any (·.1)=false:=by rfl) :
  PE X (.Call (.Name x p) (e::es) [] pos) (zoQ sp [] E0 t):=by
 obtain⟨f,fd,F,kp,b,g⟩:=C.ex;exact zkL F hr hg g kp b .nil zoV ha hdb he hpl
end
noncomputable abbrev y4:List Value:=[.type "ValueError",.type "Exception",.type "BaseException",.type "object"]
structure ExcAt (K:Frag) (mg:Str->Option Value) (x:Str) (C:Addr):Prop where
 bound:mg x=some (.ref C)
 obj:∀h:Heap,K.In h->∃bm N nm q bs hdct sn sub ab col dd k0 k1 k2 k3 k5 mN,h.get? C=some (excClassObj nm q C N bs bm hdct sn sub ab col dd k0 k1 k2 k3 k5 "ValueError.__new__")/\h.Ns N mN/\mN "__init__" = none/\OwnTail h y4 bm
noncomputable def zaZ(es:Array DictEntry):Bool:=es.toList.all (λe=>match e.key with | .str _ _=>true | _=>false)
theorem zkQ{K:Frag}(X:K.In h){N:Addr}{n:Str}{c:Value}{d:Option Addr}{es:Array DictEntry}{ep:Nat}{sl:Array (Option Value)}(l:K.lookup N=some ⟨c,d,.dict es ep,sl⟩)(sk:zaZ es=true)
  (q:PySem.W.nsIn K N n=some none):∃mN,h.Ns N mN/\mN n=none:=by
 have ho:=X _ _ l;have hi:h.isNs N=true:=by unfold Heap.isNs;rw[ho];unfold zaZ at sk;rw[Array.all_toList]at sk;exact sk
 refine⟨h.nsMap N,Heap.Ns.of_isNs hi,?_⟩;obtain⟨o,es',ep',ho',hd',_,hf⟩:=Heap.Ns.of_isNs hi;rw[←hf n];rw[ho]at ho';cases ho';cases hd';unfold PySem.W.nsIn at q;rw[l]at q;dsimp only at q;unfold nsFind findBy;cases e:es.toList.find? (·.key.isStr n)with
 |some e'=>rw[e]at q;cases q|none=>
  have:es.find? (λe=>e.key.isStr n)=none:=by rw[←Array.find?_toList];exact e
  simp[this]
theorem ObjOk.there(x:ObjOk P w H h a o):∃u,h.get? a=some u:=by cases o with|lst xs=>obtain⟨_,_,_,_,e⟩:=x;exact⟨_,e⟩|tup xs=>obtain⟨_,_,_,⟨ob,e,_⟩,_⟩:=x;exact⟨_,e⟩|dK kvs=>obtain⟨_,_,_,_,o,_,_,e,_⟩:=x;exact⟨_,e⟩|dT kvs=>obtain⟨_,_,_,_,o,_,_,e,_⟩:=x;exact⟨_,e⟩|dJ Jq kvs=>obtain⟨_,_,_,_,o,_,_,e,_⟩:=x;exact⟨_,e⟩|set S n=>obtain⟨o,_,_,_,e,_⟩:=x;exact⟨_,e⟩|ins C dx fs=>obtain⟨_,_,_,e,_⟩:=x;exact⟨_,e⟩|own y=>obtain⟨_,e⟩:=x;exact⟨_,e⟩|xd fs=>obtain⟨_,⟨_,_,_,e,_⟩,_⟩:=x;exact⟨_,e⟩|rng lo hi=>obtain⟨_,_,_,e⟩:=x;exact⟨_,e⟩|frz ob u=>obtain⟨e,_⟩:=x;exact⟨_,e⟩|tbl ps=>exact⟨_,(show h.get? a=some _ from x)⟩|met f y=>exact⟨_,(show h.get? a=some _ from x)⟩|ext φ=>obtain⟨_,⟨_,e⟩,_⟩:=x;exact⟨_,e⟩
def CXC(P:Program)(w:World)(C:Addr):CXT:=λl H s E ev s'=>∃(e t:Addr) (B:Heap) (H':Hp),ev = .ref e/\Heap.FlyingW B l e (.ref C) (.ref t) s'.heap/\s'.os=s.os/\AllBare s'.gens /\
 Un (frs l) [] H H' s.heap s'.heap/\HOk P w H' s'.heap/\(∀b o,s'.heap.get? b=some o->b ∉ frs l->(H' b ≠ none\/∃o',s.heap.get? b=some o')->B.get? b=some o)/\(∀b ∈ frs l,H' b=none)/\E (.ref C) none H'
theorem zly{B:Heap}(u:Un (frs l) [] H H' h h1)(hok:HOk P w H' h1)(hB:∀b o,h1.get? b=some o->b ∉ frs l->(H' b ≠ none\/∃o',h.get? b=some o')->B.get? b=some o)
  (hfr:∀b ∈ frs l,H' b=none) (hfn:∀b ∈ frs l,∀o,h1.get? b=some o->∀vs,o.data ≠ .fields vs) (st:B.StaysIn h2) (up:h1.UpToSlots h2):Un (frs l) [] H H' h h2/\HOk P w H' h2:=by
 refine⟨⟨λb o e n nf nx=>?_,λb o e n hf nx=>?_,u.free,λb o e nx=>?_,u.tups,u.frzs,u.tbls⟩,λa o e=>?_⟩
 .exact st _ _ (hB b o (u.keep b o e n nf nx) nf (.inr ⟨o,e⟩))
 .obtain⟨sl,e1⟩:=u.slot b o e n hf nx;obtain⟨sl2,e2⟩:=up b _ e1 (hfn b hf _ e1);exact⟨sl2,e2⟩
 .obtain⟨o1,e1⟩:=u.there b o e nx
  by_cases hf:b ∈ frs l
  .obtain⟨sl2,e2⟩:=up b _ e1 (hfn b hf _ e1);exact⟨_,e2⟩
  .exact⟨_,st _ _ (hB b o1 e1 hf (.inr ⟨o,e⟩))⟩
 .refine(hok a o e).stay (λb v hb ev=>?_) (λ_ q=>q) λ_ _ q=>q;have ht:H' b ≠ none:=by
   rcases hb with rfl | hb
   .rw[e];simp
   .rw[hb];simp
  exact st _ _ (hB b v ev (λhf=>ht (hfr b hf)) (.inl ht))
noncomputable abbrev Cx.suite(X:Cx)(ev:Addr):Cx:={ X with A:=X.A.mark (some (.ref ev)),calm:=false,xe:=λ_ _=>False }
section
variable   {J:St}   
theorem Inv.suite(I:Inv X ρ J H s)(ev:Addr):Inv (X.suite ev) ρ J H s:=
 ⟨⟨I.ok.mod,I.ok.kind,I.ok.glob,I.ok.blt,I.ok.above,I.ok.inj,I.ok.has,I.ok.cab,(λz=>by cases z),I.ok.frames,I.ok.stk,I.ok.exf,I.ok.bs,I.ok.bsz,I.ok.noex,I.ok.exfs,I.ok.funs,I.ok.frf⟩,I.os,I.bare,I.base,I.loc,I.cell,I.free,I.freeC,I.pin,I.hok,I.len⟩
def Inv.unsuite(ok:X.Ok)(I:Inv (X.suite ev) ρ J H s):Inv X ρ J H s:=⟨ok,I.os,I.bare,I.base,I.loc,I.cell,I.free,I.freeC,I.pin,I.hok,I.len⟩
theorem SP.unsuite(ok:X.Ok){D:Ends}{f:Flow}{s':Shared}(h:SP (X.suite ev) ρ D f s'):SP X ρ D f s':=by cases f with|next=>obtain⟨J',H',I,q⟩:=h;exact⟨J',H',I.unsuite ok,q⟩|brk=>obtain⟨J',H',I,q⟩:=h;exact⟨J',H',I.unsuite ok,q⟩|cont=>obtain⟨J',H',I,q⟩:=h;exact⟨J',H',I.unsuite ok,q⟩|ret u=>obtain⟨v,J',H',I,r,q⟩:=h;exact⟨v,J',H',I.unsuite ok,r,q⟩
theorem zv5{rest:List ExceptHandler}(O:ExcAt X.K X.mg x C)(hg:Gl X x)(hst:X.stack=X.env::X.outer)(hf:X.env.frame=some X.env.locals)
  (I:Inv X ρ J H s1) (hq:CXC X.prog X.w C X.stack H s1 E e s') (hE:∀H',E (.ref C) none H'->th D J H') (hs:∀ev,PSs (X.suite ev) (b0::suite) th) (hd:(x==("__debug__":Str))=false:=by decide) :
  wpAny .(1) X.A (noteFrame e X.env) (λ_ s₂=>wpAny .(1) X.A (setFlight e none) (λ_ s₃=>
   wpAny .(1) X.A (handleBy e X.env (.ExceptHandler (some (.Name x np)) none (b0::suite) hp::rest)) (SP X ρ D) X.xe s₃) X.xe s₂) X.xe s':=by
 obtain⟨ev,t,B,H',rfl,fl,os,bare,un,hok,hB,hfr,hEE⟩:=hq;have hfrm:X.A.frames=some (X.env::X.outer):=by rw[I.ok.frames,hst]
 have hfn:∀b ∈ frs X.stack,∀o,s'.heap.get? b=some o->∀vs,o.data ≠ .fields vs:=λb hb o e1=>by obtain⟨_,o',e2,n2⟩:=fl.2.2.1.mem hb;rw[e1]at e2;cases e2;exact n2
 have inv_at:∀h2:Heap,B.StaysIn h2->s'.heap.UpToSlots h2->Inv X ρ J H' { s' with heap:=h2 }:=λh2 st up=>by obtain⟨un2,hok2⟩:=zly un hok hB hfr hfn st up;exact I.call' (s':={ s' with heap:=h2 }) (ch:=[]) os un2 hok2 bare (λb z=>absurd z (by simp))
 rw[hst]at fl;refine wpAny_looks_onW hfrm hf fl λh4 hl4 up4=>?_;refine wpAny_landsW hl4 λh5 fl5 up5=>?_;have up45:=up4.trans up5;have I5:=inv_at h5 fl5.1 up45;refine wpAny_handleBy_cons (codeAny_handlers_test ?_) (by intro q;cases q);refine zbG (X:=X.suite ev) (I5.suite ev) hg O.bound ?_ hd;obtain⟨bm,N,nm,q,bs,hdct,sn,sub,ab,col,dd,k0,k1,k2,k3,k5,mN,hC,hN,hni,T⟩:=O.obj h5 I5.kIn;obtain⟨oe,he,hcls⟩:=fl5.there;refine wpAny_excMatches_sub_self hC he hcls (T.hasType PySem.F.excBase_ValueError.hasBase) (codeAny_handlers_suite ?_);refine lands_againW fl5 λh6 fl6 up6=>?_;have I6:=inv_at h6 fl6.1 (up45.trans up6);refine Qg (hs ev ρ _ J H' D (I6.suite ev) (hE H' hEE)) (λf s3 q3=>q3.unsuite I6.ok) λ_ _ z=>False.elim z
end
theorem zoC(x:V)(f:zaJ x=true):eqV x x=true:=by cases x with|non=>rfl|bl b=>simp[eqV]|int i=>simp[eqV]|str z=>simp[eqV]|_=>exact absurd (show false=true from f) Q4
section
def CDivS(_ j:Int):Prop:=j ≠ 0/\∃n,Bnd n j/\n<=2000
theorem CDivS.ok(h:CDivS i j):Builtin.divisionGoesByPylong i j=false:=by
 obtain⟨h0,n,h1,h2⟩:=h;refine PyProof.noPylong_of_log2 ?_;have hz:j.natAbs ≠ 0:=by symm
 have e:(2:Nat) ^ (4*n)=16 ^ n:=by rw[Nat.pow_mul]
 have h3:j.natAbs<2 ^ (4*n):=by rw[e];exact Q5 h1 (Nat.pow_le_pow_left ∅ n)
 have h4:j.natAbs.log2<4*n:=(Nat.log2_lt hz).mpr h3;symm
def zn7:OpR X (binaryOp .FloorDiv) (rI CDivS λi j=>.int (i.fdiv j)):=opI λ_ _ _ _ _ _ _ hc q=>floordiv_int hc.1 q (.inl hc.ok)
end
structure CalX (P:Program) (w:World) (K:Frag) (mg:Str->Option Value) (base:Heap) (C:Addr) (k:Nat) (x:Str) (ps:List Str) (sp:Sp):Prop where
 ex:∃(f:Addr) (fd:FuncData),FnOk P w K mg base (CXC P w C) k f fd ps sp/\PySem.W.keepIn K (.ref f)=true/\Binds K fd ps []/\mg x=some (.ref f)
theorem zcL{n:Nat}{acc:List (Str × Addr)}{c:Addr}(e:((name,n)::acc).lookup x=some c):(x=name/\c=n)\/acc.lookup x=some c:=by
 rw[lookup_cons]at e;split at e
 .rename_i h;cases e;exact .inl ⟨eq_of_beq h,rfl⟩
 .exact .inr e
theorem zjL:∀(names:List (Str × NameKind)) (n:Nat) (acc:List (Str × Addr)),(∀x y c,acc.lookup x=some c->acc.lookup y=some c->x=y)->(∀x c,acc.lookup x=some c->c<n)->∀x y c,(cellsFrom n names acc).lookup x=some c->(cellsFrom n names acc).lookup y=some c->x=y
 |[],_,_,h,_,x,y,c,e1,e2=>h x y c e1 e2|(name,kind)::r,n,acc,h,lt,x,y,c,e1,e2=>by
  unfold cellsFrom at e1 e2;split at e1
  .rename_i hk;rw[QA hk]at e2;refine zjL r (n+1) ((name,n)::acc) (λx y c f1 f2=>?_) (λx c f=>?_) x y c e1 e2
   .rcases zcL f1 with⟨g1,g2⟩ | g1<;>rcases zcL f2 with⟨g3,g4⟩ | g3
    .rw[g1,g3]
    .subst g2;exact absurd (lt _ _ g3) (Qo _)
    .subst g4;exact absurd (lt _ _ g1) (Qo _)
    .exact h x y c g1 g3
   .rcases zcL f with⟨g1,g2⟩ | g1
    .subst g2;exact Nat.lt_succ_self _
    .exact Nat.lt_succ_of_lt (lt _ _ g1)
  .rename_i hk;rw[QB hk]at e2;exact zjL r n acc h lt x y c e1 e2
theorem zl3:∀(names:List (Str × NameKind)) (n:Nat) (acc:List (Str × Addr)),(cellsFrom n names acc).lookup x=some c->acc.lookup x=some c\/n<=c
 |[],_,_,e=>.inl e|(name,kind)::r,n,acc,e=>by
  unfold cellsFrom at e;split at e
  .rcases zl3 r (n+1) _ e with f | f
   .rcases zcL f with⟨_,g⟩ | g
    .exact .inr (Nat.le_of_eq g.symm)
    .exact .inl g
   .exact .inr ⋯
  .exact zl3 r n acc e
theorem zl4{lo:Nat}:∀(names:List (Str × NameKind)) (n:Nat) (acc:List (Str × Addr)),lo<=n->(∀c,acc.lookup x=some c->lo<=c)->(cellsFrom n names acc).lookup x=some c->lo<=c
 |[],_,_,_,h,e=>h _ e|(name,kind)::r,n,acc,hn,h,e=>by
  unfold cellsFrom at e;split at e
  .refine zl4 r (n+1) _ (QM hn) (λc f=>?_) e;rcases zcL f with⟨_,g⟩ | g
   .subst g;exact hn
   .exact h _ g
  .exact zl4 r n acc hn h e
theorem zjJ:∀(names:List (Str × NameKind)) (n:Nat) (acc:List (Str × Addr)),names.lookup x=some .cell->(cellsFrom n names acc).lookup x=some c->n<=c
 |[],_,_,h,_=>by cases h|(name,kind)::r,n,acc,h,e=>by
  unfold cellsFrom at e;rw[lookup_cons]at h;split at h
  .rename_i hx;cases h;rw[QA (show(NameKind.cell==NameKind.cell)=true from rfl)]at e;refine zl4 r (n+1) _ (Nat.le_succ _) (λc f=>?_) e;rw[lookup_cons,hx]at f;cases f;exact Q3 _
  .split at e
   .exact Nat.le_of_succ_le (zjJ r (n+1) _ h e)
   .exact zjJ r n acc h e
theorem zjK:∀(names:List (Str × NameKind)) (n:Nat) (acc:List (Str × Addr)),(∀y ∈ names,y.2 = .cell->y.1 ≠ x)->(cellsFrom n names acc).lookup x=acc.lookup x
 |[],_,_,_=>rfl|(name,kind)::r,n,acc,h=>by
  unfold cellsFrom;split
  .rename_i hk;rw[zjK r (n+1) _ λy hy=>h y (mem_cons_of_mem _ hy),lookup_cons];have:(x==name)=false:=by cases q:x==name with|false=>rfl|true=>exact absurd (eq_of_beq q).symm (h (name,kind) mem_cons_self (eq_of_beq hk))
   rw[this]
  .exact zjK r n acc λy hy=>h y (mem_cons_of_mem _ hy)
theorem zhq:∀(names:List (Str × NameKind)) (h:Heap) (acc:List (Str × Addr)),(∀x c,acc.lookup x=some c->∃v,h.IsCell c v)->∀x c,(cellsFrom h.objs.size names acc).lookup x=some c->∃v,(pushCells h names).IsCell c v
 |[],_,_,k,x,c,e=>k x c e|(name,kind)::r,h,acc,k,x,c,e=>by
  unfold cellsFrom at e;unfold pushCells;split at e
  .rename_i hk;rw[QA hk];refine zhq r (h.push { cls:=.type "cell",data:=.cell none }) ((name,h.objs.size)::acc) (λx c f=>?_) x c (by rw[Heap.size_push];exact e);rcases zcL f with⟨_,g⟩ | g
   .subst g;exact⟨none,_,Ql _ rfl,rfl⟩
   .obtain⟨v,q⟩:=k x c g;exact⟨v,q.keeps λb o e=>Q2 _ e⟩
  .rename_i hk;rw[QB hk];exact zhq r h acc k x c e
theorem zcs
  (hQ:∀h',h'.Ns s.heap.objs.size (λ_=>none)->h'=pushCells (s.heap.push { cls:=.type "dict",data:=.dict #[] }) scope.names->
   Q (newEnv scope s.heap.objs.size globals (cellsFrom (s.heap.objs.size+1) scope.names cl) qual none .none (some env) builtins) { s with heap:=h' }) :
  wpAny M A (newFunctionEnv scope globals cl [] qual none .none (some env) builtins) Q E s:=by
 simp only[newFunctionEnv,Option.isSome_some,if_true];refine Q1 (wpAny_alloc ?_);refine Q1 (wpAny_layCells _ (λname kind cells=>by cases hkc:kind==NameKind.cell<;>simp[hkc]) _ _ _ _ ?_);rw[show({ s with heap:=s.heap.push { cls:=.type "dict",data:=.dict #[] } }:Shared).heap.objs.size=s.heap.objs.size+1 from Heap.size_push ..];refine Q1 ?_;rw[List.forIn_nil];exact Qf (Qf (hQ _ ((Heap.Ns.new s.heap (.type "dict")).keeps (pushCells_keeps _ _)) rfl))
noncomputable def zjS(scope:Scope)(cl:List (Str × Addr))(C:Addr)(env:Env):Env:={ compEnvC scope cl C env with cells:=cellsFrom (C+1) scope.names cl }
def Cx.block(X:Cx)(scope:Scope)(cl:List (Str × Addr))(N:List Str)(ex:List Addr)(s0:Shared)(H0:Hp):Cx where
 prog:=X.prog
 w:=X.w
 K:=X.K
 mg:=X.mg
 base:=X.base
 A:=X.A
 N:=N
 s₀:=s0
 H₀:=H0
 env:=zjS scope cl s0.heap.objs.size X.env
 outer:=X.stack
 stack:=X.stack
 ex:=ex
 fn:=λx=>scope.names.lookup x==some .cell
 calm:=X.calm
 pn:=[]
 xe:=λ_ _=>False
def PTs(X:Cx)(ifs:List Expr)(t:TT):Prop:=
 ∀(ρ:List (Addr × Obj)) (s:Shared) (J:St) (H:Hp) (Q:Bool->Hp->Prop),Inv X ρ J H s->t J H Q->
  wpAny .(1) X.A (forIn ifs true λc r=>if r=true then do let ok ←isTrue c X.env (eval c X.env);pure (ForInStep.yield ok)else pure (ForInStep.yield r)) (TP X ρ J Q) X.xe s
noncomputable def zs8:TT:=λ_ H Q=>Q true H
def zpu:PTs X [] zs8:=λ_ _ _ H _ I h=>wpAny_tests_nil ⟨H,I,h⟩
def zpt(h:PT X c t):PTs X [c] t:=λρ s J H Q I hq=>wpAny_tests_one (h ρ s J H Q I hq)
noncomputable def zcy(tgs:List Str)(ζ:List (Str × Nat))(J:St):St:=tgs.map (λ_=>none)++ζ.map λc=>(J[c.2]?).join
def zir(wi:TI)(g:TG)(tc:TT)(te:TE)(J0:St->St):TE:=λJ H Q=>wi J H λJq H1=>∀D,H1 D=none->∃W:Nat->Nat->St->Hp->Prop,(∃m,W 0 m (J0 J) (upd H1 D (.lst [])))/\∀i m J' H',W i m J' H'->
 (Jq.stop i H'/\Q (.ref D) H')\/(Jq.go i H'/\∃N:St->Hp->Prop,(∀J'' H'',N J'' H''->∃m',m'<m/\W (i+1) m' J'' H'')/\∀x H2,Jq.yld i H' x H2->g x J' H2 λJ2 H3=>tc J2 H3 λb H4=>if b=true then te J2 H4 λv H5=>∃ys,H5 D=some (.lst ys)/\ys.length<sizeLine/\N J2 (upd H5 D (.lst (ys++[v])))else N J2 H4)
theorem zdY(I:Nat->Shared->Prop)
  (turn:∀n s,I n s->wpAny (model prog w) A (pyNext it) (λr s₁=>match r with
   |none=>R (.ok .next) s₁
   | some v=>wpAny (model prog w) A (letOwnedTupleGo target it v) (λ_ s₁'=>wpAny (model prog w) A (assign target env v) (λ_ s₂=>
     wpAny (model prog w) A (forIn ifs true λc r=>if r=true then do let ok ←isTrue c env (eval c env);pure (ForInStep.yield ok)else pure (ForInStep.yield r)) (λok s₃=>
      if ok=true then wpAny (model prog w) A (eval elt env) (λx s₄=>wpAny (model prog w) A (call (.builtin "list.append") [acc,x]) (λ_ s₅=>∃m,m<n/\I m s₅) (notedBy (model prog w) A env λe s'=>R (.error e) s') s₄) (notedBy (model prog w) A env λe s'=>R (.error e) s') s₃
      else ∃m,m<n/\I m s₃) (notedBy (model prog w) A env λe s'=>R (.error e) s') s₂) (notedBy (model prog w) A env λe s'=>R (.error e) s') s₁') (notedBy (model prog w) A env λe s'=>R (.error e) s') s₁) (notedBy (model prog w) A env λe s'=>R (.error e) s') s)
  (n:Nat) (h:I n s):codeAny (model prog w) A (.compLoop (.ListComp elt [⟨target,iter,ifs,0⟩] scope pos) 0 it acc env) R s:=by
 refine codeAny_loop rfl I (λn s hI=>?_) n h;show wpAny _ A ((compTurn (.ListComp elt [⟨target,iter,ifs,0⟩] scope pos) 0 it acc env).onRaise (λx=>do noteFrame x env;theTreesLotGoes x)) _ _ s;refine wpAny_noted ?_;rw[compTurn_list];refine Q1 (wpAny_standAt (Q1 (Qg (turn n s hI) (λr s₁ h₁=>?_) λ_ _ h'=>h')));cases r with
 |none=>exact Qf h₁|some v=>
  refine Q1 (Qg h₁ (λ_ s₁' h₁'=>?_) λ_ _ h'=>h');refine Q1 (Qg h₁' (λ_ s₂ h₂=>Q1 (Qg h₂ (λok s₃ h₃=>?_) λ_ _ h'=>h')) λ_ _ h'=>h');cases ok with
  |false=>exact Qf ⟨rfl,h₃⟩|true=>exact Q1 (Q1 (Qg h₃ (λx s₄ h₄=>Q1 (Qg h₄ (λ_ s₅ h₅=>Qf (Qf ⟨rfl,h₅⟩)) λ_ _ h'=>h')) λ_ _ h'=>h'))
section
theorem Inv.drop{J:St}(I:Inv X ρ J H s)(f:H C=none)(z:X.s₀.heap.objs.size<=C)(l:X.env.locals<C)
  (k:∀x c,X.env.cells.lookup x=some c->c<C) (p:∀p ∈ X.pn++ρ,p.1<C) (sb:Heap.SameBut C s.heap h'):Inv X ρ J H { s with heap:=h' }:=by
 have eqb:∀b,b ≠ C->h'.get? b=s.heap.get? b:=λb hb=>sb.2 b hb;refine I.call' (s':={ s with heap:=h' }) (ch:=[C]) rfl ⟨λb o e a1 a2 a3=>?_,λb o e a1 a2 a3=>?_,λ_ _ _ q _=>q,λb o e a3=>?_,λ_ _ q=>q,λ_ _ _ q=>q,λb ps q=>⟨#[],by simpa using q⟩⟩
  (λa o e=>(I.hok a o e).stay (λb u hb eu=>?_) (λ_ q=>q) λ_ _ q=>q) I.bare λb hb=>?_
 .rw[eqb b (λz=>a3 (by rw[z];exact .head _))];exact e
 .exact⟨o.slots,by rw[eqb b (λz=>a3 (by rw[z];exact .head _))];exact e⟩
 .exact⟨o,by rw[eqb b (λz=>a3 (by rw[z];exact .head _))];exact e⟩
 .rw[eqb b λz=>by
   rcases hb with rfl | hb
   .rw[z,f]at e;cases e
   .rw[z,f]at hb;cases hb]
  exact eu
 .rw[QJ.mp hb];exact⟨.inr z,Nat.ne_of_gt l,λx c e=>Qk (k x c e),λq hq=>Qk (p q hq)⟩
theorem zh0{J:St} 
  (hc:X.calm=true) (hi:PI X tg iter wi) (hclos:closureFor scope X.env=pure cl) (hcell:∀y ∈ scope.names,y.2 = .cell->y.1 ∉ ζ.map (·.1)) (hkind:scope.kind = .function)
  (hnames:∀y ∈ scope.names,y.2 = .local->scope.names.lookup y.1=some .local)
  (hcl:∀y c,cl.lookup y=some c->X.env.cells.lookup y=some c)
  (hhas:∀n y,((relabel scope X.env).names.lookup y=some .cell\/(relabel scope X.env).names.lookup y=some .free)->∃c,(cellsFrom n scope.names cl).lookup y=some c)
  (hcap:∀c ∈ ζ,X.N[c.2]?=some c.1/\X.env.kindOf c.1=some .cell/\((relabel scope X.env).names.lookup c.1=some .cell\/(relabel scope X.env).names.lookup c.1=some .free))
  (hg:∀ex s0 H0,PG .(2) tg g) (hif:∀ex s0 H0,PTs .(2) ifs tc) (hel:∀ex s0 H0,PE .(2) elt te)
  (hs:∀x,foldedSetIterable iter X.env x=pure x) (I:Inv X ρ J H s) (h:zir wi g tc te (zcy tgs ζ) J H Q)
  (hend:∀(D C:Addr) (s6:Shared) (H5:Hp),Inv X ρ J H5 s6->H5 C=none->X.s₀.heap.objs.size<=C->X.env.locals<C->(∀x c,X.env.cells.lookup x=some c->c<C)->(∀p ∈ X.pn++ρ,p.1<C)->(∃m,s6.heap.Ns C m)->Q (.ref D) H5->
   compPost .(1) X.A X.xe use QQ (.ref D) C (.ok .next) s6) :
  wpAny .(1) X.A (comprehension (.ListComp elt [⟨tg,iter,ifs,0⟩] scope pos) scope X.env pq (newList []) false (eval iter X.env) use) QQ X.xe s:=by
 refine wpAny_comprehension_free rfl hs hclos hkind hnames (thn (hi ρ s J H _ I h) λv s1 h1=>thn h1 λitv s2 h2=>?_);obtain⟨it,fp,tn,Jq,H2,e,I2,T,st2,f2,hrest⟩:=h2;subst e
 have hD:H2 s2.heap.objs.size=none:=I2.fresh;obtain⟨W,⟨m0,w0⟩,turn⟩:=hrest _ hD;refine wpAny_newObj_type ?_ (by show 0<=sizeLine;decide);have I3:Inv X ρ J (upd H2 s2.heap.objs.size (.lst [])) { s2 with heap:=s2.heap.push { cls:=.type "list",data:=.seq ([]:List Value).toArray } }:=I2.lnew (t':=s2.toks) (ys:=[]) (its:=[]) .nil (by show 0<=sizeLine;decide);generalize hs3:({ s2 with heap:=s2.heap.push { cls:=.type "list",data:=.seq ([]:List Value).toArray } }:Shared)=s3 at I3;have lt2:∀b o,s2.heap.get? b=some o->s3.heap.get? b=some o:=λb o e=>by rw[←hs3];exact Q2 _ e
 have sz3:s2.heap.objs.size<s3.heap.objs.size:=by rw[←hs3];show _<(s2.heap.push _).objs.size;rw[Heap.size_push];exact Nat.lt_succ_self _
 have st3:tn 0 s3.heap:=T.keep 0 _ _ st2 λb _ o e=>lt2 b o e;have fplt:∀b ∈ fp,b<s2.heap.objs.size:=λb hb=>by obtain⟨o,e,_⟩:=T.obj 0 _ st2 b hb;exact Qe e
 generalize hH3:upd H2 s2.heap.objs.size (.lst [])=H3 at I3 w0;have fr3:∀b ∈ fp,H3 b=none:=λb hb=>by rw[←hH3,yk (Qk (fplt b hb))];exact(f2 b hb).1
 have nstk:∀b ∈ fp,b ∉ frs X.stack:=λb hb z=>by
  obtain⟨_,n1,n2,_⟩:=f2 b hb;rcases QC.mp (I2.stkSub b z)with z | z
  .exact n1 z
  .exact n2 z
 refine zcs λh4 ns4 sb4=>?_;have keep4:∀b o,s3.heap.get? b=some o->h4.get? b=some o:=λb o e=>by rw[sb4];exact pushCells_keeps _ _ b o (Q2 _ e)
 have clt:∀x c,cl.lookup x=some c->c<s3.heap.objs.size:=λx c e=>by obtain⟨v,q⟩:=I3.cell x c (hcl x c e);exact q.lt
 have cor:∀x c,(cellsFrom (s3.heap.objs.size+1) scope.names cl).lookup x=some c->cl.lookup x=some c\/s3.heap.objs.size+1<=c:=λx c e=>zl3 _ _ _ e;have cne:∀b ∈ fp,∀x c,(cellsFrom (s3.heap.objs.size+1) scope.names cl).lookup x=some c->c ≠ b:=λb hb x c e=>by
  rcases cor x c e with e | e
  .exact(f2 b hb).2.2.2.2.1 x c (hcl x c e)
  .exact Nat.ne_of_gt (Q5 (Nat.lt_trans (fplt b hb) sz3) (Nat.le_of_succ_le e))
 have neC:∀b ∈ fp,b ≠ s3.heap.objs.size:=λb hb=>Qk (Nat.lt_trans (fplt b hb) sz3);have ok':(X.block scope cl (tgs++ζ.map (·.1)) fp s3 H3).Ok:=
  ⟨I.ok.mod,hkind,I.ok.glob,I.ok.blt,Q3 _,zjL _ _ _ (λx y c e1 e2=>I.ok.inj x y c (hcl x c e1) (hcl y c e2)) (λx c e=>Nat.lt_succ_of_lt (clt x c e)),hhas _,(λx c z e=>Nat.le_of_succ_le (zjJ _ _ _ (eq_of_beq z) e)),I.ok.hd,I.ok.frames,.inl rfl,
   λb hb=>⟨neC b hb,cne b hb⟩,I3.bs,Qj I.ok.bsz I3.sz,λb o e hb=>by
    rcases (f2 b hb).2.2.2.1 with z | z
    .exact I.ok.noex b o e z
    .exact absurd (Q5 (Qe e) (Qj I.ok.bsz z)) (Qo _),
   nstk,I3.stack,I3.stkFree⟩
 have I4:Inv (X.block scope cl (tgs++ζ.map (·.1)) fp s3 H3) [] (zcy tgs ζ J) H3 { s3 with heap:=h4 }:=by
  refine⟨ok',rfl,I3.bare,Un.kept keep4,⟨_,ns4,λi x v e1 e2 e3=>?_⟩,λx c e=>?_,I3.hok.fresh (Q3 _),λx c e=>(cor x c e).elim (λe=>I3.freeC x c (hcl x c e)) (λe=>I3.hok.fresh (Nat.le_of_succ_le e)),λp hp=>by simp[Cx.block]at hp,I3.hok.kept keep4,by simp[zcy,Cx.block]⟩
  .-- a captured name
   have hlen:(tgs.map (λ_=>(none:Option V))).length=tgs.length:=by simp
   by_cases hi:i<tgs.length
   .have:(zcy tgs ζ J)[i]?=some none:=by unfold zcy;rw[Q6 (by simpa using hi)];simp[hi]
    rw[this]at e2;cases e2
   .have e1':(tgs++ζ.map (·.1))[i]?=some x:=e1;rw[Q8 ⋯,Qb]at e1';have e2':=e2;unfold zcy at e2';rw[Q8 (by simpa using hi),hlen,Qb]at e2';cases hcq:ζ[i-tgs.length]? with
    |none=>rw[hcq]at e1';cases e1'|some cq=>
     rw[hcq]at e1' e2';have ex:cq.1=x:=Qd e1';have ev:(J[cq.2]?).join=some v:=Qd e2';obtain⟨c1,c2,c3⟩:=hcap cq (Qa hcq);have ev':J[cq.2]?=some (some v):=by
      cases q:J[cq.2]? with
      |none=>rw[q]at ev;cases ev|some o=>rw[q]at ev;cases o with|none=>cases ev|some v'=>rw[show v'=v from Qd ev]
     obtain⟨m,hn,hl⟩:=I3.loc;obtain⟨u,r,lk⟩:=hl cq.2 cq.1 v c1 ev' (.inr (.inl c2));rcases lk with⟨k1,_⟩ | ⟨_,c,ec,icl⟩
     .rw[c2]at k1;cases k1
     .obtain⟨c',ec'⟩:=hhas (s3.heap.objs.size+1) cq.1 c3;have ec2:=ec';rw[zjK _ _ _ λy hy hk hyx=>hcell y hy hk (by rw[hyx];exact List.mem_map_of_mem (Qa hcq))]at ec2;have:=hcl _ _ ec2;rw[ec]at this;cases this;refine⟨u,r,.inr ⟨?_,c,?_,?_⟩⟩
      .rw[←ex];exact c3
      .rw[←ex];exact ec'
      .obtain⟨o,ho,hd⟩:=icl;exact⟨o,keep4 _ _ ho,hd⟩
  .show ∃v,h4.IsCell c v;rw[sb4];refine zhq scope.names _ cl (λx c f=>?_) x c (by rw[Heap.size_push];exact e);obtain⟨v,o,ho,hd⟩:=I3.cell x c (hcl x c f);exact⟨v,o,Q2 _ ho,hd⟩
 have stat:∀{H':Hp},(∀b ∈ fp,H' b=none)->∀b ∈ fp,zf2 (X.block scope cl (tgs++ζ.map (·.1)) fp s3 H3) [] H' b:=λhn b hb=>⟨hn b hb,neC b hb,nstk b hb,.inl hb,cne b hb,λp hp=>by simp[Cx.block]at hp⟩
 have st4:tn 0 h4:=T.keep 0 _ _ st3 λb _ o e=>keep4 b o e;have loop:codeAny .(1) X.A (.compLoop (.ListComp elt [⟨tg,iter,ifs,0⟩] scope pos) 0 (.ref it) (.ref s2.heap.objs.size) (zjS scope cl s3.heap.objs.size X.env))
   (compPost .(1) X.A X.xe use QQ (.ref s2.heap.objs.size) s3.heap.objs.size) { s3 with heap:=h4 }:=by
  refine zdY (λn s'=>∃i J' H',Inv (X.block scope cl (tgs++ζ.map (·.1)) fp s3 H3) [] J' H' s'/\tn i s'.heap/\(∀b ∈ fp,H' b=none)/\W i n J' H') ?_ m0 ⟨0,_,H3,I4,st4,fr3,w0⟩;rintro n s5 ⟨i,J5,H5,I5,st5,fr5,w5⟩;rcases turn i n J5 H5 w5 with⟨stop,qn⟩ | ⟨go,N,hN,step⟩
  .refine Qg (T.done (X.block scope cl (tgs++ζ.map (·.1)) fp s3 H3) rfl rfl rfl hc i [] s5 J5 H5 (λ_ _=>False) I5 (stat fr5) st5 stop) (λr s6 ⟨hr,I6⟩=>?_) λ_ _ z=>False.elim z;subst hr;obtain⟨m6,hn6,_⟩:=I6.loc;exact hend _ _ s6 H5 (I3.call' (s':=s6) (ch:=fp) I6.os I6.base I6.hok I6.bare (λb hb=>⟨(f2 b hb).2.2.2.1,(f2 b hb).2.1,(f2 b hb).2.2.2.2.1,(f2 b hb).2.2.2.2.2⟩)) I6.free I3.sz I3.lt
    (λx c e=>let ⟨_,q⟩:=I3.cell x c e;q.lt) (λp hp=>Qe (I3.pin p hp).1) ⟨m6,hn6⟩ qn
  .refine Qg (T.item (X.block scope cl (tgs++ζ.map (·.1)) fp s3 H3) rfl rfl rfl hc i [] s5 J5 H5 (λ_ _=>False) I5 (stat fr5) st5 go) (λr s6 ⟨u,hr,h6⟩=>?_) λ_ _ z=>False.elim z;subst hr;refine Qg h6 (λ_ s7 h9=>?_) λ_ _ z=>False.elim z;obtain⟨x,H7,I7,r7,y7,st7,fr7⟩:=h9;have I7':=I7.pinned (stat fr7) (T.obj _ _ st7);have again:∀{s9:Shared} {J9:St} {H9:Hp},Inv (X.block scope cl (tgs++ζ.map (·.1)) fp s3 H3) ([]++zek fp s7.heap) J9 H9 s9->N J9 H9->
     ∃m,m<n/\∃i J' H',Inv (X.block scope cl (tgs++ζ.map (·.1)) fp s3 H3) [] J' H' s9/\tn i s9.heap/\(∀b ∈ fp,H' b=none)/\W i m J' H':=λ{s9 J9 H9} I9 n9=>by
    obtain⟨m',hm,w9⟩:=hN J9 H9 n9;refine⟨m',hm,i+1,J9,H9,I9.unpinned,T.keep _ _ _ st7 λb hb o e=>(I9.pin (b,o) (Qm _ (Qm _ (zcB hb e)))).1,λb hb=>?_,w9⟩;obtain⟨o,e,d⟩:=T.obj _ _ st7 b hb;exact(I9.pin (b,o) (Qm _ (Qm _ (zcB hb e)))).2.1
   refine Qg (hg fp s3 H3 _ s7 J5 H7 x u _ I7' r7 (step x H7 y7)) (λ_ s8 h9=>?_) λ_ _ z=>False.elim z;obtain⟨J8,H8,I8,q8⟩:=h9;refine Qg (hif fp s3 H3 _ s8 J8 H8 _ I8 q8) (λb s9 h9=>?_) λ_ _ z=>False.elim z;obtain⟨H9,I9,q9⟩:=h9;cases b with
   |false=>rw[QB Q4]at q9;rw[QB Q4];exact again I9 q9
   |true=>rw[QA rfl]at q9;rw[QA rfl];refine Qg (hel fp s3 H3 _ s9 J8 H9 _ I9 q9) (λxv s10 h9=>?_) λ_ _ z=>False.elim z;obtain⟨v,H10,I10,rv,ys,hy,hl,q10⟩:=h9;refine Qg (yG (X:=X.block scope cl (tgs++ζ.map (·.1)) fp s3 H3) _ s10 J8 H10 (.ref s2.heap.objs.size) [v] (.ref s2.heap.objs.size) [xv] (λ_ H11=>N J8 H11) I10 rfl (.cons rv .nil) ⟨_,ys,v,rfl,rfl,hy,hl,q10⟩) (λ_ s11 ⟨_,H11,I11,_,q11⟩=>again I11 q11) λ_ _ z=>False.elim z
 exact codeAny_compStart_list loop (T.self _ 0 _ _ _ st4 loop)
theorem zpF
  (hc:X.calm=true) (hi:PI X tg iter wi) (hclos:closureFor scope X.env=pure cl) (hcell:∀y ∈ scope.names,y.2 = .cell->y.1 ∉ ζ.map (·.1)) (hkind:scope.kind = .function)
  (hnames:∀y ∈ scope.names,y.2 = .local->scope.names.lookup y.1=some .local)
  (hcl:∀y c,cl.lookup y=some c->X.env.cells.lookup y=some c)
  (hhas:∀n y,((relabel scope X.env).names.lookup y=some .cell\/(relabel scope X.env).names.lookup y=some .free)->∃c,(cellsFrom n scope.names cl).lookup y=some c)
  (hcap:∀c ∈ ζ,X.N[c.2]?=some c.1/\X.env.kindOf c.1=some .cell/\((relabel scope X.env).names.lookup c.1=some .cell\/(relabel scope X.env).names.lookup c.1=some .free))
  (hg:∀ex s0 H0,PG .(2) tg g) (hif:∀ex s0 H0,PTs .(2) ifs tc) (hel:∀ex s0 H0,PE .(2) elt te)
  (hs:∀x,foldedSetIterable iter X.env x=pure x:=by intro _;rfl) :
  PE X (.ListComp elt [⟨tg,iter,ifs,0⟩] scope pos) (zir wi g tc te (zcy tgs ζ)):=by
 apply?;rw[eval_ListComp];exact zh0 (use:=none) hc hi hclos hcell hkind hnames hcl hhas hcap hg hif hel hs I h λD C s6 H5 I6 f z l k p ⟨m,n⟩ q=>⟨m,n,λh' sb=>⟨.ref D,H5,I6.drop f z l k p sb,rfl,q⟩⟩
end
noncomputable def Each{α:Type}(P:α->Prop):List α->Prop
 |[]=>True|a::l=>P a/\Each P l
theorem Each.of:∀{l:List α},Each P l->∀a ∈ l,P a
 |_::_,⟨h,_⟩,_,.head _=>h|_::_,⟨_,h⟩,_,.tail _ m=>Each.of h _ m
theorem lookup_mem{l:List (Str × NameKind)}(h:l.lookup y=some k):(y,k) ∈ l:=by
 induction l with
 |nil=>cases h|cons p l ih=>
  obtain⟨n,k'⟩:=p;rw[lookup_cons]at h;cases e:y==n with
  |true=>rw[e]at h;cases h;rw[eq_of_beq e];exact .head _
  |false=>rw[e]at h;exact .tail _ (ih h)
theorem zsd{l:List (Str × NameKind)}{cl:List (Str × Addr)}(h:Each (λp=>(p.2 = .cell\/p.2 = .free)->∃c,cl.lookup p.1=some c) l)(y:Str)(q:l.lookup y=some .cell\/l.lookup y=some .free):∃c,cl.lookup y=some c:=by
 rcases q with q | q
 .exact h.of _ (lookup_mem q) (.inl rfl)
 .exact h.of _ (lookup_mem q) (.inr rfl)
def PI.or(h:PI X tg iter wi)(h':PI X tg iter wi'):PI X tg iter (λJ H R=>wi J H R\/wi' J H R):=λρ s J H R I q=>q.elim (h ρ s J H R I) (h' ρ s J H R I)
section
theorem zlK{spos:Pos} 
  (hc:X.calm=true) (hi:PI X tg iter wi) (hclos:closureFor scope X.env=pure cl) (hcell:∀y ∈ scope.names,y.2 = .cell->y.1 ∉ ζ.map (·.1)) (hkind:scope.kind = .function)
  (hnames:∀y ∈ scope.names,y.2 = .local->scope.names.lookup y.1=some .local)
  (hcl:∀y c,cl.lookup y=some c->X.env.cells.lookup y=some c)
  (hhas:∀n y,((relabel scope X.env).names.lookup y=some .cell\/(relabel scope X.env).names.lookup y=some .free)->∃c,(cellsFrom n scope.names cl).lookup y=some c)
  (hcap:∀c ∈ ζ,X.N[c.2]?=some c.1/\X.env.kindOf c.1=some .cell/\((relabel scope X.env).names.lookup c.1=some .cell\/(relabel scope X.env).names.lookup c.1=some .free))
  (hg:∀ex s0 H0,PG .(2) tg g) (hif:∀ex s0 H0,PTs .(2) ifs tc) (hel:∀ex s0 H0,PE .(2) elt te)
  (hN0:X.N.Nodup) (hi0:X.N[i0]?=some y0) (hx0:Loc X.env.scope y0)
  (hsw:swapsWith (.ListComp elt [⟨tg,iter,ifs,0⟩] scope pos) (some (.Name y0 py)) spos.line X.env=pure true:=by rfl)
  (hf0:X.fn y0=true\/X.env.scope.names.lookup y0=some .local:=by first | exact .inl rfl | exact .inr rfl | assumption)
  (hs:∀x,foldedSetIterable iter X.env x=pure x:=by intro _;rfl) :
  PS X (.Assign [.Name y0 py] (.ListComp elt [⟨tg,iter,ifs,0⟩] scope pos) spos) (λD J H=>zir wi g tc te (zcy tgs ζ) J H λv H'=>D.nx (J.set i0 (some v)) H'):=by
 intro ρ s J H DD I h;rw[exec_Assign_Name_used _ _ _ _ hsw];refine Q1 (wpAny_standAt (Q1 ?_));show wpAny _ X.A (do let _ ←comprehension (.ListComp elt [⟨tg,iter,ifs,0⟩] scope pos) scope X.env _ (newList []) false (eval iter X.env) (some (assign (.Name y0 py) X.env))) _ _ s;refine Q1 (Qg (zh0 (use:=some (assign (.Name y0 py) X.env)) (QQ:=λ_ s'=>SP X ρ DD .next s') hc hi hclos hcell hkind hnames hcl hhas hcap hg hif hel hs I h
  (λD C s6 H5 I6 f z l k p ⟨m,n⟩ q=>?_)) (λ_ s' hq=>Qf (Qf hq)) λ_ _ e=>e)
 show wpAny _ X.A (assign (.Name y0 py) X.env (.ref D)) _ _ s6;refine wpAny_assign_Name (zhA I6 hN0 hi0 hx0 (v:=.ref D) rfl (λs7 I7 ⟨a,sa,ha⟩=>⟨m,n.sameBut sa ?_,λh' sb=>⟨_,H5,I7.drop f z l k p sb,q⟩⟩) hf0);rcases ha with rfl | ha
 .exact Nat.ne_of_gt l
 .exact Nat.ne_of_gt (k _ _ ha)
end
section
theorem zou:zjZ X (znZ X.K):=by
 infer_instance
 obtain⟨p,xs,i,z,rfl,rfl,hq,he,q⟩:=h;cases rx;obtain⟨t,rfl⟩:=ry;obtain⟨its,r,pl,hz⟩:=I.list hq;obtain⟨j,h1,h2,h3,h4,h5⟩:=ze4 he;obtain⟨w,ew,rw'⟩:=r.get h2;have hl:=r.length;have hn:=zco;have Y:EP X ρ J Q w s:=⟨z,H,I,rw',q⟩
 by_cases h0:0<=i
 .have hj:i.toNat=j:=by rw[seqIndex_of h0 h5]at h1;exact Qd h1
  exact wpAny_getItem_list pl.isList h0 ⋯ (by rw[hj];simpa using ew) Y
 .have hj:(i+(its.toArray.size:Int)).toNat=j:=by rw[seqIndex_neg ⋯ h4]at h1;rw[Qi,←hl];exact Qd h1
  exact wpAny_getItem_list_neg pl.isList ⋯ (by rw[Qi]<;>symm) ⋯ (by rw[hj];simpa using ew) Y
end
end L2
namespace L2
open PySem PySem.Spec PyProof.Rows PySem.Builtin PySem.Builtin.ObjectAttr
inductive Tl (h:Heap) (bmB:List Value) (ns:List Str):List Value->Prop
 |base:Tl h bmB ns bmB
 |own {a:Addr} {c:Value} {dd:Option Addr} {cd:ClassData} {sl:Array (Option Value)} {mA:Str->Option Value} {tl:List Value} (e:h.get? a=some ⟨c,dd,.cls cd,sl⟩) (hn:h.Ns cd.ns mA) (no:∀n ∈ ns,mA n=none) (t:Tl h bmB ns tl):Tl h bmB ns (.ref a::tl)
section
theorem Tl.tail(T:Tl h bmB ns tl)(hi:("__init__":Str) ∈ ns):OwnTail h bmB tl:=by induction T with|base=>exact .base|own e hn no _ ih=>exact .own e hn (no _ hi) ih
variable       {os:OsState}
theorem Tl.along(T:Tl h bmB ns tl)(hm:n ∈ ns)(hB:lookupAlong bmB n=pure y)(hq:Q y ⟨h,g,d,t,os⟩):wpAny M A (lookupAlong tl n) Q E ⟨h,g,d,t,os⟩:=by
 induction T with
 |base=>rw[hB];exact Qf hq|own e hn no _ ih=>rw[lookupAlong_cons];exact Q1 (wpAny_classOwn_cls e hn (by rw[no _ hm];exact ih))
theorem zcX(hC:h.get? C=some (excClassObj nm q C N bs bm hdct sn sub ab col dd k0 k1 k2 k3 k5 newId))(hn:h.Ns N mN)(T:Tl h bmB ns bm)(hm:n ∈ ns)
  (hbm:mroOf (.type B)=pure bmB) (hB:typeLookup (.type B) n=pure y) (hq:Q ((mN n).or y) ⟨h,g,d,t,os⟩):wpAny M A (typeLookup (.ref C) n) Q E ⟨h,g,d,t,os⟩:=by
 have hr:lookupAlong bmB n=pure y:=by rw[typeLookup_eq,hbm]at hB;exact hB
 rw[typeLookup_eq];refine Q1 (wpAny_mroOf_exc hC ?_);rw[lookupAlong_cons];refine Q1 (wpAny_classOwn_exc hC hn ?_);cases hv:mN n with|some v=>rw[hv]at hq;exact Qf hq|none=>rw[hv]at hq;exact T.along hm hr hq
end
section
variable         {os:OsState}
theorem zlr(hC:h.get? C=some (excClassObj nm q C N bs bm true sn sub ab col dd k0 k1 k2 k3 k5 newId))(T:Tl h y4 ns bm)(hi:("__init__":Str) ∈ ns)(hx:h.get? x=some o)(hc:o.cls = .ref C)(hq:Q () ⟨h,g,d,t,os⟩) :
  wpAny M A (checkBuiltinCall "object.__setattr__" ⟨[.ref x,u,v],[]⟩) Q E ⟨h,g,d,t,os⟩:=by
 have hb:(Value.ref C::bm).contains (.type "object")=true:=by rw[contains_cons,(T.tail hi).hasType PySem.F.store_ValueError.hasOwner,Bool.or_true]
 simp only[checkBuiltinCall,PySem.F.store_ValueError.kind,PySem.F.store_ValueError.split];refine Q1 ?_;unfold isInstance
 repeat (first | (with_reducible refine wpAny_loadPart_at hx ?_;rw[hc]) | (with_reducible refine wpAny_isSubtype_exc hC ?_;rw[hb]) | wp_step)
 exact hq
theorem zlq(hC:h.get? C=some (excClassObj nm q C N bs bm true sn sub ab col dd k0 k1 k2 k3 k5 newId))(hn:h.Ns N mN)(T:Tl h y4 ns bm)(m2:mN name=none)(hm:name ∈ ns)
  (hB:typeLookup (.type "ValueError") name=pure none) (hx:h.get? x=some o) (hc:o.cls = .ref C) (hnc:∀c,o.data ≠ .cls c) (hd:o.dict=none)
  (hq:∀h' tk' dx,h.get? dx=none->dx ≠ x->h'.get? x=some { o with dict:=some dx }->h'.Ns1 dx (λy=>if y=name then some v else none)->(∀b ob,b ≠ x->h.get? b=some ob->h'.get? b=some ob)->Q (.done (.ret .none)) ⟨h',g,d,tk',os⟩) :
  wpAny (model prog w) A (Builtin.«object.__setattr__» ⟨[.ref x,.str name tk,v],[]⟩) Q E ⟨h,g,d,t,os⟩:=by
 have hp:∀l,Tl h y4 ns l->refuseLoop (.ref x) "__setattr__" l=pure ():=by
  intro l T
  induction T with|base=>exact PySem.F.store_ValueError.passes (.ref x)|own _ _ _ _ ih=>rw[refuseLoop_ref];exact ih
 have hp:=hp bm T;unfold Builtin.«object.__setattr__»
 repeat (first | rw[refuse_eq] | (rw[refuseLoop_ref,hp]) | (with_reducible refine wpAny_loadPart_at hx ?_;rw[hc]) | with_reducible refine wpAny_mroOf_exc hC ?_ | (with_reducible refine zcX hC hn T hm PySem.F.store_ValueError.mro hB ?_;rw[m2]) | wp_step)
 rw[hd,QB (by simp[typeHasDict])];have e1:(h.push ⟨.type "dict",none,.dict #[] 0,#[]⟩).get? x=some o:=Q2 _ hx;have ne:x ≠ h.objs.size:=Qk (Qe hx);have hfr:=(Heap.get?_some_iff.mp hx).2;have key:wpAny (model prog w) A (do let d ←alloc ⟨.type "dict",none,.dict #[] 0,#[]⟩;update x λo=>{ o with dict:=some d };dictMade (.ref C) x d) (λa s'=>wpAny (model prog w) A (match a with | some d=>storeInDict d (Value.str name tk) name v | none=>noDictFor (Value.ref x) (Value.ref C) name (none.or none:Option Value).isSome) Q E s') E ⟨h,g,d,t,os⟩:=by
  refine Q1 (wpAny_alloc' (Q1 (wpAny_update' e1 (Qf ?_))));generalize hg2:(h.push ⟨.type "dict",none,.dict #[] 0,#[]⟩).update x (λo=>{ o with dict:=some h.objs.size })=h2;have gd:h2.get? h.objs.size=some ⟨.type "dict",none,.dict #[] 0,#[]⟩:=by rw[←hg2];exact(Heap.get?_update_ne _ _ _ _ ne.symm).trans (Heap.get?_push_at rfl rfl)
  have gx:h2.get? x=some { o with dict:=some h.objs.size }:=by rw[←hg2];refine Heap.get?_update_self _ e1 ?_;obtain⟨oc,od,odt,osl⟩:=o;cases odt<;>first | rfl | exact hfr
  have nd:h2.Ns h.objs.size (λ_=>none):=⟨_,#[],_,gd,rfl,λe he=>absurd he (by simp),λ_=>rfl⟩;show wpAny _ _ (storeInDict h.objs.size (.str name tk) name v) _ _ _;unfold storeInDict newKeyGuard;refine Q1 (Qf (Q1 (wpAny_nsSet1 (Heap.Ns1.of_empty nd) λh' n1 hs=>?_)));obtain⟨oD,esD,epD,a1,a2,a3⟩:=n1.count (Within.cons name v Within.nil);refine Q1 (wpAny_lookBehind a1 (by rw[a2];exact pastItsLine_dict (Qj a3 (by rw[Qp,length_nil,sizeLine_eq];symm))) ?_)
  wp_walk
  refine hq h' _ h.objs.size (Heap.get?_none_of_le (Q3 _)) ne.symm ((hs.2 x ne).trans gx) n1 λb ob hb e=>(hs.2 b (Qk (Qe e))).trans ?_;rw[←hg2];exact(Heap.get?_update_ne _ _ _ _ hb).trans (Q2 _ e)
 cases hdt:o.data with|cls c=>exact absurd hdt (hnc c)|_=>exact key
theorem zuj(hC:h.get? C=some (excClassObj nm q C N bs bm true sn sub ab col dd k0 k1 k2 k3 k5 newId))(hn:h.Ns N mN)(T:Tl h y4 ns bm)(hi:("__init__":Str) ∈ ns)(m1:mN "__setattr__" = none)(hs:("__setattr__":Str) ∈ ns)(m2:mN name=none)(hm:name ∈ ns)
  (hB:typeLookup (.type "ValueError") name=pure none) (hx:h.get? x=some o) (hc:o.cls = .ref C) (hnc:∀c,o.data ≠ .cls c) (hd:o.dict=none)
  (hq:∀h' tk' dx,h.get? dx=none->dx ≠ x->h'.get? x=some { o with dict:=some dx }->h'.Ns1 dx (λy=>if y=name then some v else none)->(∀b ob,b ≠ x->h.get? b=some ob->h'.get? b=some ob)->Q () ⟨h',g,d,tk',os⟩) :
  wpAny (model prog w) A (setAttr (.ref x) name v) Q E ⟨h,g,d,t,os⟩:=by
 have f3:=PySem.F.store_ValueError.slot.bind (.ref x);unfold setAttr callSpecial? specialOf
 repeat (any_goals (first | assumption | (with_reducible refine wpAny_loadPart_at hx ?_;rw[hc]) | (with_reducible refine zcX hC hn T hs PySem.F.store_ValueError.mro PySem.F.store_ValueError.slot.lookup ?_;rw[m1]) | wp_step))
 refine codeAny_call_builtin PySem.F.store_ValueError.slot.plain PySem.F.store_ValueError.entry (zlr hC T hi hx hc (zlq hC hn T m2 hm hB hx hc hnc hd λh' tk' dx a1 a2 a3 a4 a5=>?_))
 repeat (any_goals (first | assumption | wp_step))
 exact hq h' tk' dx a1 a2 a3 a4 a5
end
noncomputable abbrev zbT(C:Addr)(t:Addr)(od:Option Addr):Obj:=⟨.ref C,od,.fields #[.ref t,.none,.none,.none,.bool false,.none],#[]⟩
section
variable         {os:OsState}
variable            {rest:List Value} 
theorem zls(hC:h.get? C=some (excClassObj nm q C N bs bm hdct sn sub ab col dd k0 k1 k2 k3 k5 "ValueError.__new__"))(hn:h.Ns N mN)(T:OwnTail h y4 bm)(hi:mN "__init__" = some (.ref fI))(hf:h.get? fI=some oI)(hc:oI.cls = .type "function")
  (hq:∀h' e,Heap.MadeExcOf h h' e (.ref C) rest->wpAny (model prog w) A (call (.ref fI) (.ref e::rest)) (λr s'=>r = .none/\Q (.done (.ret (.ref e))) s') E ⟨h',g,d,t,os⟩) (hl:rest.length<=sizeLine) :
  wpAny (model prog w) A (Builtin.«type.__call__» ⟨.ref C::rest,[]⟩) Q E ⟨h,g,d,t,os⟩:=by
 have F:=PySem.F.excBase_ValueError
 repeat (first | with_reducible refine wpAny_loadPart_at hC ?_ | with_reducible refine wpAny_madeBy_exc hC ?_ | wp_step)
 refine codeAny_call_builtin_code (Code.quiet_builtin _ F.quiet) (wpAny_check_new_subT F T hC ?_);refine codeAny_exc_new_subT F T hC ?_ hl;show wpAny _ _ _ _ _ _;have k2:∀b o,h.get? b=some o->((h.push ⟨.type "tuple",none,.seq rest.toArray 0,#[]⟩).push (zbT C h.objs.size none)).get? b=some o:=λb o e=>Q2 _ (Q2 _ e);have ge:((h.push ⟨.type "tuple",none,.seq rest.toArray 0,#[]⟩).push (zbT C h.objs.size none)).get? (h.objs.size+1)=some (zbT C h.objs.size none):=by heap_get
 have hC1:=k2 _ _ hC;have hcC:(Value.ref C::bm).contains (.ref C)=true:=by simp
 unfold isInstance
 repeat (first | with_reducible refine wpAny_loadPart_at ge ?_ | (with_reducible refine wpAny_isSubtype_exc hC1 ?_;rw[hcC]) | wp_step)
 show wpAny _ _ (typeLookup (.ref C) _) _ _ _;refine wpAny_typeLookup_tail hC1 (hn.keeps k2) (T.keeps k2) F.mroIs F.init.lookup ?_;rw[hi];refine wpAny_holding (Q1 ?_);unfold bindSpecial;refine Q1 (wpAny_typeOf (T:="function") ⟨_,k2 _ _ hf,hc⟩ ?_);rw[QA ∅];refine Qf (Q1 (Qg (hq _ (h.objs.size+1) ⟨k2,Heap.get?_none_of_le (Nat.le_succ _),h.objs.size,ge,Heap.get?_none_of_le (Q3 _),?_⟩) (λr s' hr=>?_) λ_ _ x=>x))
 .exact Q2 _ (Heap.get?_push_at rfl rfl)
 .obtain⟨rfl,hQ⟩:=hr
  wp_walk
  exact hQ
theorem zs3(hC:h.get? C=some (excClassObj nm q C N bs bm hdct sn sub ab col dd k0 k1 k2 k3 k5 "ValueError.__new__"))(hn:h.Ns N mN)(T:OwnTail h y4 bm)(hi:mN "__init__" = some (.ref fI))(hf:h.get? fI=some oI)(hc:oI.cls = .type "function")
  (hq:∀h' e,Heap.MadeExcOf h h' e (.ref C) rest->wpAny (model prog w) (A.under (.builtin "type.__call__" ⟨.ref C::rest,[]⟩)) (call (.ref fI) (.ref e::rest)) (λr s'=>r = .none/\Q (.ref e) s') E ⟨h',g,d,t,os⟩) (hl:rest.length<=sizeLine) :
  wpAny (model prog w) A (call (.ref C) rest) Q E ⟨h,g,d,t,os⟩:=by
 have f1:=tc_lookup;have f2:=tc_bind (.ref C);have hT:(⟨h,g,d,t,os⟩:Shared).TypeIs (.ref C) "type":=⟨_,hC,rfl⟩;refine wpAny_call (codeAny_of_tree ?_);show wpAny _ _ (callAny (.ref C) _) _ _ _
 repeat (any_goals (first | assumption | with_reducible refine wpAny_loadPart_at hC ?_ | wp_step))
 refine⟨rfl,codeAny_call_builtin_at (Code.quiet_builtin _ (by decide +kernel)) entry_typeCall (wpAny_check_type_call_sub hC (zls (hl:=hl) hC hn T hi hf hc λh' e hm=>?_))⟩;exact hq h' e hm
theorem zqP(hb:bm.contains (.type "BaseException")=true)(hh:A.handled=none)
  (hq:wpAny M A x (λv s1=>∃e t od,v = .ref e/\s1.heap.get? C=some (excClassObj nm q C N bs bm hdct sn sub ab col dd k0 k1 k2 k3 k5 "ValueError.__new__")/\s1.heap.get? e=some (zbT C t od)/\E (.ref e) s1) E s) :
  wpAny M A (raiseStmt env (some x) none) Q E s:=by
 have hcB:(Value.ref C::bm).contains (.type "BaseException")=true:=by rw[contains_cons,hb,Bool.or_true]
 unfold raiseStmt;refine Q1 (Qg hq (λv s1 h1=>?_) λ_ _ x=>x);obtain⟨e,t,od,rfl,hC,he,hE⟩:=h1;obtain⟨hp,g,d,tk,os⟩:=s1
 repeat (first | with_reducible refine wpAny_loadPart_at he ?_ | with_reducible refine wpAny_loadPart_at hC ?_ | (with_reducible refine wpAny_isSubtype_exc hC ?_;rw[hcB]) | wp_step)
 exact wpAny_raiseNew_none hh hE
end
noncomputable def Qt:Sem α->Prop
 |.pure _=>True|.raise _=>True|.unsupported _=>True|.finish _=>True|.rule _ k=>Qt (k ())|.at _ k=>Qt (k ())|.load _ _ k=>∀o,Qt (k o)|.update _ _ f k=>(∀o:Obj,(f o).dict=o.dict/\(o.isFreed=false->(f o).isFreed=false))/\Qt (k ())|.alloc _ k=>∀a,Qt (k a)|.loadIfAlive _ k=>∀o,Qt (k o)|.point _ k=>Qt (k ())|.fresh k=>∀a,Qt (k a)|.ask k=>∀a,Qt (k a)|.handled _ k=>∀a,Qt (k a)|.stack k=>∀a,Qt (k a)|_=>False
theorem Qt.bind{k:α->Sem β}(hk:∀a,Qt (k a)):∀{t:Sem α},Qt t->Qt (t >>= k):=by
 intro t
 induction t with|pure a=>exact λ_=>hk a|raise e=>exact λ_=>trivial|unsupported e=>exact λ_=>trivial|finish e=>exact λ_=>trivial|rule _ _ ih=>exact λh=>ih () h|«at» _ _ ih=>exact λh=>ih () h|load _ _ _ ih=>exact λh o=>ih o (h o)|update _ _ _ _ ih=>exact λh=>⟨h.1,ih () h.2⟩|alloc _ _ ih=>exact λh o=>ih o (h o)|loadIfAlive _ _ ih=>exact λh o=>ih o (h o)|point _ _ ih=>exact λh=>ih () h|fresh _ ih=>exact λh o=>ih o (h o)|ask _ ih=>exact λh o=>ih o (h o)|handled _ _ ih=>exact λh o=>ih o (h o)|stack _ ih=>exact λh o=>ih o (h o)|_=>exact λh=>h.elim
def Dk(s s':Shared):Prop:=∀b o,s.heap.get? b=some o->∃o',s'.heap.get? b=some o'/\o'.dict=o.dict
def Dk.refl(s:Shared):Dk s s:=λ_ o e=>⟨o,e,rfl⟩
theorem Dk.trans(h:Dk a b)(g:Dk b c):Dk a c:=λx o e=>by obtain⟨o1,e1,d1⟩:=h x o e;obtain⟨o2,e2,d2⟩:=g x o1 e1;exact⟨o2,e2,d2.trans d1⟩
theorem Qt.wp:∀{t:Sem α} {p:Pos} {s:Shared},Qt t->Sem.wp M Γ t Q E p s->Sem.wp M Γ t (λa p' s'=>Q a p' s'/\Dk s s') (λe p' s'=>E e p' s'/\Dk s s') p s:=by
 have up:∀{t:Sem α} {p:Pos} {s s1:Shared},Dk s s1->Sem.wp M Γ t (λa p' s'=>Q a p' s'/\Dk s1 s') (λe p' s'=>E e p' s'/\Dk s1 s') p s1->Sem.wp M Γ t (λa p' s'=>Q a p' s'/\Dk s s') (λe p' s'=>E e p' s'/\Dk s s') p s1:=λk h=>Sem.wp_mono M Γ _ (λ_ _ _ z=>⟨z.1,k.trans z.2⟩) (λ_ _ _ z=>⟨z.1,k.trans z.2⟩) _ _ h
 intro t
 induction t with
 |pure a=>exact λ_ h=>⟨h,.refl _⟩|raise e=>exact λ_ h=>⟨h,.refl _⟩|unsupported e=>exact λ_ h=>h|finish e=>exact λ_ h=>h|rule _ _ ih=>exact λq h=>ih () q h|«at» _ _ ih=>exact λq h=>ih () q h|load _ _ _ ih=>exact λq ⟨o,e,h⟩=>⟨o,e,ih o (q o) h⟩|update a _ f _ ih=>
  rintro p s q ⟨e,h⟩;refine⟨e,up (λb o eb=>?_) (ih () q.2 h)⟩
  by_cases hb:b=a
  .subst hb;exact⟨f o,Heap.get?_update_self _ eb ((q.1 o).2 (Heap.get?_some_iff.mp eb).2),(q.1 o).1⟩
  .exact⟨o,(Heap.get?_update_ne _ _ _ _ hb).trans eb,rfl⟩
 |alloc ob _ ih=>intro p s q h;exact up (s:=s) (s1:={ s with heap:=s.heap.push ob }) (λb o eb=>⟨o,Q2 _ eb,rfl⟩) (ih _ (q _) h)
 |loadIfAlive _ _ ih=>exact λq h=>ih _ (q _) h|point _ _ ih=>exact λq h=>ih () q h|fresh _ ih=>intro p s q h;exact up (s:=s) (s1:={ s with toks:=s.toks+1 }) (λb o eb=>⟨o,eb,rfl⟩) (ih _ (q _) h)
 |ask _ ih=>exact λq h=>ih _ (q _) h|handled _ _ ih=>exact λq h=>ih _ (q _) h|stack _ ih=>exact λq h=>ih _ (q _) h|_=>exact λq _=>q.elim
def Qt.any{Q:α->Shared->Prop}(q:Qt t)(h:wpAny M A t Q E s):wpAny M A t (λa s'=>Q a s'/\Dk s s') (λe s'=>E e s'/\Dk s s') s:=λΓ p hΓ=>q.wp (h Γ p hΓ)
theorem zj8:Qt (fieldsOf v):=by
 unfold fieldsOf;split
 .exact Qt.bind (λo=>by split<;>exact trivial) (λ_=>trivial)
 .exact trivial
theorem zdN:Qt (field v i):=by unfold field;exact Qt.bind (λvs=>by split<;>exact trivial) zj8
theorem zre(o:Obj):(Obj.mapFields f o).dict=o.dict/\(o.isFreed=false->(Obj.mapFields f o).isFreed=false):=by obtain⟨c,d,dt,sl⟩:=o;cases dt<;>exact⟨rfl,λh=>h⟩
theorem zdk:Qt (setField v i x):=by
 unfold setField;split
 .unfold updateField;refine Qt.bind (λo=>?_) (λ_=>trivial);split
  .split
   .exact⟨zre,trivial⟩
   .exact trivial
  .exact trivial
 .exact trivial
theorem zcR:Qt (setFlight e f):=by
 unfold setFlight;refine Qt.bind (λtb=>?_) zdN;split
 .exact zdk
 .exact trivial
theorem zi3:∀l:List PySem.Env,Qt (readyFrames l)
 |[]=>trivial|env::outer=>by
  unfold readyFrames;split
  .rename_i f _;refine Qt.bind (λo=>?_) (λ_=>trivial);split
   .exact trivial
   .refine Qt.bind (λb=>Qt.bind (λk=>?_) ?_) ?_
    .exact⟨λo=>⟨rfl,λh=>by obtain⟨c,d,dt,sl⟩:=o;cases dt<;>exact h⟩,zi3 outer⟩
    .unfold keptBack;split
     .split
      .exact trivial
      .unfold underTheClaimsCaller;exact λ_=>trivial
     .exact trivial
    .unfold behindIsImport;split
     .exact trivial
     .split
      .exact trivial
      .refine Qt.bind (λ_=>?_) zdN;exact trivial
  .exact trivial
theorem zlJ:Qt (PySem.frameOf env):=by
 unfold PySem.frameOf;refine Qt.bind (λl=>Qt.bind (λo=>?_) ?_) (show Qt frameEnvs from λ_=>trivial)
 .split<;>exact trivial
 .unfold frameObject;split
  .exact trivial
  .refine Qt.bind (λ_=>?_) (zi3 _);exact trivial
theorem zj7:Qt (EntryCells.newEntry a b c d e l):=by
 have nw:∀dt:Data,Qt (newObjAsIs (.type "traceback") dt):=λdt _=>trivial;unfold EntryCells.newEntry newFields newObj;dsimp only;generalize (if l.isEmpty=true then List.replicate 6 Value.none else l)=m;split
 .exact trivial
 .exact nw _
theorem zn0:Qt (entryPlaceOf f b):=by unfold entryPlaceOf;refine Qt.bind (λl=>?_) (λ_=>trivial);split<;>exact trivial
theorem zkI:Qt (noteFrame e env):=by
 unfold noteFrame;split
 .rename_i f _;refine Qt.bind (λhd=>?_) zdN;have last:Qt (PySem.frameOf env >>= λa=>entryPlaceOf f (hd != .none) >>= λp=>EntryCells.newEntry hd a .none (rawInt f) .none p >>= λn=>setField e 1 n):=Qt.bind (λa=>Qt.bind (λp=>Qt.bind (λn=>zdk) zj7) zn0) zlJ;dsimp only;split
  .refine Qt.bind (λx=>?_) zdN;split
   .exact trivial
   .exact Qt.bind (λ_=>last) zdk
  .exact last
 .exact trivial
theorem zgn:Qt (leaving env e):=by unfold leaving;exact Qt.bind (λ_=>zcR) zkI
noncomputable def ExO(e C:Addr)(od:Option Addr):Heap->Prop:=λh=>∃ob,h.get? e=some ob/\ob.cls = .ref C/\ob.dict=od/\∀c,ob.data ≠ .cls c
def ExN(e C t:Addr)(od:Option Addr):Heap->Prop:=λh=>h.get? e=some (zbT C t od)
theorem zsI(x:ExO e C od h):ObjOk P w H h e (.ext (ExO e C od)):=
 ⟨x,let ⟨ob,q,_⟩:=x;⟨ob,q⟩,λ_ _ ⟨ob,q,c⟩ k=>⟨ob,k _ q,c⟩⟩
theorem zng(x:ExN e C t od h):ObjOk P w H h e (.ext (ExN e C t od)):=
 ⟨x,⟨_,x⟩,λ_ _ q k=>k _ q⟩
noncomputable def zgO(H:Hp)(e:Addr):Hp:=λb=>if b=e then none else H b
def zbX(h:b ≠ e):zgO H e b=H b:=QB h
def zhz:zgO H e e=none:=QA rfl
section
variable   {J:St}   
theorem Inv.take(I:Inv X ρ J H s)(h0:X.s₀.heap.get? e=none)(hn:H e=none)(hl:e ≠ X.env.locals)(hc:∀x c,X.env.cells.lookup x=some c->c ≠ e)(hp:∀p ∈ X.pn++ρ,p.1 ≠ e)(new:ObjOk X.prog X.w (upd H e o) s.heap e o):Inv X ρ J (upd H e o) s:=by
 have ne:∀b ob,X.s₀.heap.get? b=some ob->b ≠ e:=λb ob q z=>by rw[z,h0]at q;cases q
 have nh:∀b u,H b=some u->b ≠ e:=λb u q z=>by rw[z,hn]at q;cases q
 refine⟨I.ok,I.os,I.bare,⟨I.base.keep,I.base.slot,λb ob q n x=>by rw[yk (ne b ob q)];exact I.base.free b ob q n x,I.base.there,λb xs q=>?_,λb u xs q=>?_,λb ps q=>?_⟩,I.loc,I.cell,by rw[yk hl.symm];exact I.free,λx c q=>by rw[yk (hc x c q)];exact I.freeC x c q,λp q=>?_,?_,I.len⟩
 .have:=I.base.tups b xs q;rw[yk (nh b _ this)];exact this
 .have:=I.base.frzs b u xs q;rw[yk (nh b _ this)];exact this
 .obtain⟨m,this⟩:=I.base.tbls b ps q;exact⟨m,by rw[yk (nh b _ this)];exact this⟩
 .obtain⟨a,b,c⟩:=I.pin p q;exact⟨a,by rw[yk (hp p q)];exact b,c⟩
 .intro b u q
  by_cases hb:b=e
  .subst hb;rw[qA]at q;cases q;exact new
  .rw[yk hb]at q;exact(I.hok b u q).stay (λ_ _ _ z=>z) (λc z=>by rw[yk (nh c _ z)];exact z) λc xs z=>by rw[yk (nh c _ z)];exact z
theorem Inv.let(I:Inv X ρ J H s)(he:H e=some (.ext φ)):Inv X ρ J (zgO H e) s:=by
 have nh:∀b u,H b=some u->(∀ψ,u ≠ .ext ψ)->b ≠ e:=λb u q n z=>by rw[z,he]at q;cases q;exact n φ rfl
 have nn:∀b,H b=none->zgO H e b=none:=λb q=>by
  unfold zgO;split
  .rfl
  .exact q
 refine⟨I.ok,I.os,I.bare,⟨I.base.keep,I.base.slot,λb ob q n x=>nn b (I.base.free b ob q n x),I.base.there,λb xs q=>?_,λb u xs q=>?_,λb ps q=>?_⟩,I.loc,I.cell,nn _ I.free,λx c q=>nn _ (I.freeC x c q),λp q=>?_,?_,I.len⟩
 .have:=I.base.tups b xs q;rw[zbX (nh b _ this (λ_ z=>by cases z))];exact this
 .have:=I.base.frzs b u xs q;rw[zbX (nh b _ this (λ_ z=>by cases z))];exact this
 .obtain⟨m,this⟩:=I.base.tbls b ps q;exact⟨m,by rw[zbX (nh b _ this (λ_ z=>by cases z))];exact this⟩
 .obtain⟨a,b,c⟩:=I.pin p q;exact⟨a,nn _ b,c⟩
 .intro b u q
  by_cases hb:b=e
  .subst hb;rw[zhz]at q;cases q
  .rw[zbX hb]at q;exact(I.hok b u q).stay (λ_ _ _ z=>z) (λc z=>by rw[zbX (nh c _ z (λ_ y=>by cases y))];exact z) λc xs z=>by rw[zbX (nh c _ z (λ_ y=>by cases y))];exact z
end
def CXX(P:Program)(w:World):CXT:=λl H s E ev s'=>∃(e t C:Addr) (oe:Obj) (B:Heap) (H':Hp),ev = .ref e/\Heap.FlyingW B l e (.ref C) (.ref t) s'.heap/\s'.heap.get? e=some oe/\s'.os=s.os/\AllBare s'.gens /\
 Un (frs l) [] H H' s.heap s'.heap/\HOk P w H' s'.heap/\(∀b o,s'.heap.get? b=some o->b ∉ frs l->(H' b ≠ none\/∃o',s.heap.get? b=some o')->B.get? b=some o)/\(∀b ∈ frs l,H' b=none)/\E (.ref C) oe.dict H'
section
variable    {J:St}  
theorem zle(I:Inv X ρ J H s)(hst:X.stack=X.env::X.outer)(hf:X.env.frame=some X.env.locals)(hex:X.ex=[])
  (hE:E (.ref C) od H) (hB:∀b o,s.heap.get? b=some o->b ∉ frs X.stack->(H b ≠ none\/∃o',X.s₀.heap.get? b=some o')->B.get? b=some o) (fl:Heap.FlyingW B X.outer e (.ref C) (.ref t) s1.heap) (up:s.heap.UpToSlots s1.heap) (hd:∃oe,s1.heap.get? e=some oe/\oe.dict=od)
  (os:s1.os=s.os) (ge:s1.gens=s.gens):CXX X.prog X.w X.outer X.H₀ X.s₀ E (.ref e) s1:=by
 obtain⟨oe,he,hod⟩:=hd;have u0:Un (frs X.outer) [] X.H₀ H X.s₀.heap s.heap:=by have:=I.base;rw[hex]at this;exact this
 have sub1:∀b ∈ frs X.outer,b ∈ frs X.stack:=λb hb=>by
  rw[hst];unfold frs
  rw[filterMap_cons,hf];exact mem_cons_of_mem _ hb
 have nst:∀b o,s.heap.get? b=some o->b ∉ frs X.outer->(H b ≠ none\/∃o',X.s₀.heap.get? b=some o')->b ∉ frs X.stack:=λb o e1 n1 q1 hm=>by
  rw[hst]at hm;unfold frs at hm;rw[filterMap_cons,hf]at hm;rcases QC.mp hm with z | z
  .rcases q1 with q1 | ⟨o',q1⟩
   .rw[z]at q1;exact q1 I.free
   .rw[z]at q1;exact absurd (Qe q1) (Nat.not_lt.mpr I.ok.above)
  .exact n1 z
 have hB1:∀b o,s.heap.get? b=some o->b ∉ frs X.outer->(H b ≠ none\/∃o',X.s₀.heap.get? b=some o')->B.get? b=some o:=λb o e1 n1 q1=>hB b o e1 (nst b o e1 n1 q1) q1;have hfr:∀b ∈ frs X.outer,H b=none:=λb hb=>I.stkFree b (sub1 b hb);have hfn:∀b ∈ frs X.outer,∀o,s.heap.get? b=some o->∀vs,o.data ≠ .fields vs:=λb hb o e1=>by
  obtain⟨_,o',e2,n2⟩:=I.stack.mem (sub1 b hb);rw[e1]at e2;cases e2
  exact n2
 obtain⟨un2,hok2⟩:=zly u0 I.hok hB1 hfr hfn fl.1 up;refine⟨e,t,C,oe,B,H,rfl,fl,he,os.trans I.os,by rw[ge];exact I.bare,un2,hok2,λb o e1 n1 q1=>?_,hfr,by rw[hod];exact hE⟩;have hex2:∃o1,s.heap.get? b=some o1:=by
  rcases q1 with q1 | ⟨o',q1⟩
  .cases z:H b with|none=>exact absurd z q1|some u=>exact(I.hok b u z).there
  .exact u0.there b o' q1 (by simp)
 obtain⟨o1,e2⟩:=hex2;have e3:=hB1 b o1 e2 n1 q1;have e4:=fl.1 b o1 e3;rw[e1]at e4;cases e4
 exact e3
theorem zdB(hst:X.stack=X.env::X.outer)(hf:X.env.frame=some X.env.locals)(hex:X.ex=[])
  (hxe:X.xe=λev s'=>wpAny .(1) X.A (leaving X.env ev) (λ_ s''=>CXX X.prog X.w X.outer X.H₀ X.s₀ E ev s'') (λe' s''=>CXX X.prog X.w X.outer X.H₀ X.s₀ E e' s'') s'):Passes (CXX X.prog X.w) X E:=by
 rintro ρ J H s ev s' I ⟨e,t,C,oe,B,H',e0,fl,he,os,bare,un,hok,hB,hfr,hE⟩;subst e0;rw[hxe];have I1:Inv X ρ J H' s':=I.call' (ch:=[]) os un hok bare (λb z=>absurd z (by simp));have hfrm:X.A.frames=some (X.env::X.outer):=by rw[I.ok.frames,hst]
 rw[hst]at fl;have w1:=zgn.any (wpAny_leaves_onW (M:=model X.prog X.w) (E:=λ_ _=>False) (Q:=λ_ s2=>∃h',s2={ s' with heap:=h' }/\Heap.FlyingW B X.outer e (.ref C) (.ref t) h'/\s'.heap.UpToSlots h') hfrm hf fl λh' a b=>⟨h',rfl,a,b⟩);refine Qg w1 ?_ λ_ _ z=>z.1.elim;rintro _ s2 ⟨⟨h',rfl,fl',up⟩,dk⟩;refine zle (s1:={ s' with heap:=h' }) I1 hst hf hex hE (λb o e1 n1 q1=>hB b o e1 n1 ?_) fl' up (dk e oe he) rfl rfl;rcases q1 with q1 | ⟨o',q1⟩
 .exact .inl q1
 .exact .inr (I.base.there b o' q1 (by rw[hex];simp))
theorem zlf(I:Inv X ρ J H s)(hst:X.stack=X.env::X.outer)(hf:X.env.frame=some X.env.locals)(hex:X.ex=[])
  (hxe:X.xe=λev s'=>wpAny .(1) X.A (leaving X.env ev) (λ_ s''=>CXX X.prog X.w X.outer X.H₀ X.s₀ E ev s'') (λe' s''=>CXX X.prog X.w X.outer X.H₀ X.s₀ E e' s'') s')
  (he:s.heap.get? e=some (zbT C t od)) (hn:H e=none) (h0:X.s₀.heap.get? e=none) (hE:E (.ref C) od H):X.xe (.ref e) s:=by
 rw[hxe];have hfrm:X.A.frames=some (X.env::X.outer):=by rw[I.ok.frames,hst]
 have hff:s.heap.FunFrames X.base (X.env::X.outer):=by have:=I.stack;rw[hst]at this;exact this
 have hin:∀env ∈ (X.env::X.outer),∀b,env.frame=some b->b ∈ e::frs (X.env::X.outer):=λenv he b hb=>mem_cons_of_mem _ (List.mem_filterMap.mpr ⟨env,he,hb⟩);have w1:=zgn.any (wpAny_leaving_firstW (M:=model X.prog X.w) (E:=λ_ _=>False) (base:=PySem.W.hideAll s.heap (e::frs (X.env::X.outer))) (a0:=.ref t) (Q:=λ_ s2=>∃h',s2={ s with heap:=h' }/\Heap.LeftW (PySem.W.hideAll s.heap (e::frs (X.env::X.outer))) (X.env::X.outer) e (.ref C) (.ref t) s.heap h') hfrm (PySem.W.funFrames_hide hff hin) hf he (λb o e1=>PySem.W.of_hideAll _ e1) (PySem.W.hideAll_none _ (mem_cons_self ..)) rfl rfl rfl λh' a=>⟨h',rfl,a⟩);refine Qg w1 ?_ λ_ _ z=>z.1.elim;rintro _ s2 ⟨⟨h',rfl,k1,⟨_,_,k2⟩,k3,k4⟩,dk⟩;refine zle (s1:={ s with heap:=h' }) I hst hf hex hE (λb o e1 n1 q1=>?_) ⟨k1,PySem.W.hideAll_none _ (mem_cons_self ..),k2,k3⟩ k4 (dk e _ he) rfl rfl;refine PySem.W.hideAll_get _ e1 λhm=>?_;rcases QC.mp hm with z | z
 .rcases q1 with q1 | ⟨o',q1⟩
  .rw[z]at q1;exact q1 hn
  .rw[z,h0]at q1;cases q1
 .rw[hst]at n1;exact n1 z
end
noncomputable abbrev xns:List Str:=["__setattr__","at","__getattribute__","__getattr__"]
structure XcAt (K:Frag) (mg:Str->Option Value) (x:Str) (C fI:Addr):Prop where
 bound:mg x=some (.ref C)
 obj:∀h:Heap,K.In h->∃bm N nm q bs sn sub ab col dd k0 k1 k2 k3 k5 mN,h.get? C=some (excClassObj nm q C N bs bm true sn sub ab col dd k0 k1 k2 k3 k5 "ValueError.__new__")/\h.Ns N mN/\mN "__init__" = some (.ref fI)/\(∀n ∈ xns,mN n=none)/\Tl h y4 ("__init__" :: xns) bm
 fn:∃oI,K.lookup fI=some oI/\oI.cls = .type "function"
theorem zkX:typeLookup (.type "ValueError") "at" = pure none:=by rw[typeLookup_type,builtinLookup_eq_fast];kernel_rfl
section
theorem Inv.new0{J:St}(I:Inv X ρ J H s)(hex:X.ex=[])(he:s.heap.get? e=none):X.s₀.heap.get? e=none/\H e=none/\e ≠ X.env.locals/\(∀x c,X.env.cells.lookup x=some c->c ≠ e)/\∀p ∈ X.pn++ρ,p.1 ≠ e:=by
 refine⟨?_,?_,λz=>?_,λx c q z=>?_,λp q z=>?_⟩
 .cases q:X.s₀.heap.get? e with
  |none=>rfl|some u=>obtain⟨o',e'⟩:=I.base.there e u q (by rw[hex];simp);rw[he]at e';cases e'
 .cases q:H e with
  |none=>rfl|some u=>obtain⟨o',e'⟩:=(I.hok e u q).there;rw[he]at e';cases e'
 .obtain⟨m,⟨ob,_,_,e',_⟩,_⟩:=I.loc;rw[←z,he]at e';cases e'
 .obtain⟨v,ob,e',_⟩:=I.cell x c q;rw[z,he]at e';cases e'
 .have:=(I.pin p q).1;rw[z,he]at this;cases this
theorem zrk(hex:X.ex=[])(ha:PE X o ta)(hv:PE X value tv)(hs:swapsWith value (some (.Attribute o "at" pos')) pos.line X.env=pure false:=by rfl):PS X (.Assign [.Attribute o "at" pos'] value pos)
  (λD J H=>tv J H λy H1=>ta J H1 λx H2=>∃e C fI t nm,x = .ref e/\XcAt X.K X.mg nm C fI/\H2 e=some (.ext (ExN e C t none))/\∀d,H2 d=none->d ≠ e->D.nx J (upd (upd H2 e (.ext (ExN e C t (some d)))) d (.xd [("at",y)]))):=by
 intro ρ s J H D I h;refine plainObj_wpAny_Assign_Attribute (thn (hv ρ s J H _ I h) λu s1 ⟨y,H1,I1,ry,q⟩=>thn (ha ρ s1 J H1 _ I1 q) λov s2 h9=>?_) hs;obtain⟨x,H2,I2,rx,e,C,fI,t,nm,ex,O,ee,q2⟩:=h9;subst ex;obtain rfl:ov=Value.ref e:=rx;obtain⟨bm,N,nm,q,bs,sn,sub,ab,col,dd,k0,k1,k2,k3,k5,mN,hC,hN,hi,hno,T⟩:=O.obj s2.heap I2.kIn;obtain⟨g0,_,_⟩:=I2.hok e _ ee;have g0:s2.heap.get? e=some (zbT C t none):=g0;obtain⟨h2,ge,dr,tk,os⟩:=s2;refine zuj hC hN T ∅ (hno _ ∅) ∅ (hno _ ∅) ∅ zkX g0 rfl (λc z=>by cases z) rfl λh' tk' dx a1 a2 a3 a4 a5=>?_;have I3:Inv X ρ J (upd H2 e (.ext (ExN e C t (some dx)))) ⟨h',ge,dr,tk',os⟩:=I2.write (t':=tk') (by rw[ee];trivial) (.inl rfl) (λb u nb e'=>a5 b u nb e') ⟨_,a3⟩ (zng a3);obtain⟨b1,b2,b3,b4,b5⟩:=I2.new0 hex a1;have I4:Inv X ρ J (upd (upd H2 e (.ext (ExN e C t (some dx)))) dx (.xd [("at",y)])) ⟨h',ge,dr,tk',os⟩:=I3.take b1 (by rw[yk a2];exact b2) b3 b4 b5 ⟨_,a4,λf=>by
  by_cases hf:f = "at"
  .subst hf;exact ry
  .rw[QB hf];show RelO (List.lookup f [("at",y)]) none;rw[lookup_cons];simp only[beq_eq_false_iff_ne.mpr hf,List.lookup_nil]
   trivial⟩
 exact⟨J,_,I4,q2 dx b2 a2⟩
end
theorem zhd{K:Frag}{st:Stmt}(O:XcAt K mg x C f)(F:Fun K "__init__" qual st f fd)(S:FnScope ["self","at"] ["self","at"] (zg st))
  (hb:yH st=[.Assign [.Attribute (.Name "self" p1) "at" p2] (.Name "at" p3) p4]) (l1:(zg st).names.lookup ("self":Str)=some NameKind.local) (l2:(zg st).names.lookup ("at":Str)=some NameKind.local) :
  FnOk P w K mg base CX0 1 f fd ["self","at"] (λvs H Q E=>(∃e t v,vs=[.ref e,v]/\H e=some (.ext (ExN e C t none))/\∀d,H d=none->d ≠ e->Q .non (upd (upd H e (.ext (ExN e C t (some d)))) d (.xd [("at",v)])))):=by
 refine F.ok S (λvs H Q E ⟨e,t,v,h,_⟩=>by rw[h];rfl) λcdv A outer s H vs Q E hr h9=>?_;obtain⟨e,t,v,h1,h2,h3⟩:=h9;subst h1;rw[hb];refine⟨_,zkJ (zrk rfl (zi5 (i:=0) rfl (.inl l1)) (zi5 (i:=1) rfl (.inl l2))),?_⟩;exact⟨v,rfl,.ref e,rfl,e,C,f,t,x,rfl,O,h2,h3⟩
section
theorem zgl(hb:bm.contains (.type "BaseException")=true)(hh:A.handled=none)(hp:(backTo cpos (starEach args env)).any (·.1)=false)
  (h:wpAny (model prog w) A (eval (.Name x np) env) (λf s1=>f = .ref C/\wpAny (model prog w) A (evalArgs (.ref C) true (backTo cpos (starEach args env)) []) (λa s2=>a.kw=[]/\s2.heap.get? C=some (excClassObj nm q C N bs bm hdct sn sub ab col dd k0 k1 k2 k3 k5 "ValueError.__new__") /\
   wpAny (model prog w) A (call (.ref C) a.pos) (λv s3=>∃e t od,v = .ref e/\s3.heap.get? C=some (excClassObj nm q C N bs bm hdct sn sub ab col dd k0 k1 k2 k3 k5 "ValueError.__new__")/\s3.heap.get? e=some (zbT C t od)/\E (.ref e) s3) E s2) E s1) E s) :
  wpAny (model prog w) A (exec (.Raise (some (.Call (.Name x np) args [] cpos)) none pos) env) Q E s:=by
 rw[arm_exec_Raise];refine Q1 (wpAny_standAt (zqP (C:=C) (nm:=nm) (q:=q) (N:=N) (bs:=bs) (bm:=bm) (hdct:=hdct) (sn:=sn) (sub:=sub) (ab:=ab) (col:=col) (dd:=dd) (k0:=k0) (k1:=k1) (k2:=k2) (k3:=k3) (k5:=k5) hb hh ?_))
 try simp only[evalOpt,Option.map]
 refine Q1 (Qg (wpAny_Call_ofName (Qg h (λf s1 h1=>?_) λ_ _ y=>y)) (λv s3 h3=>Q1 (wpAny_standAt (Qf h3))) λ_ _ y=>y);obtain⟨rfl,h1⟩:=h1;unfold callWith;refine Q1 (wpAny_holding (Qg h1 (λa s2 h2=>Q1 (wpAny_standAt ?_)) λ_ _ y=>y));obtain⟨ap,ak⟩:=a;obtain⟨hkw,hC,h2⟩:=h2;obtain rfl:ak=[]:=hkw;obtain⟨hp',g,d,tk,os⟩:=s2;simp only[hp];refine Q1 (wpAny_keeperOf_exc hC (Q1 (Qg h2 (λv s3 h3=>Q1 (wpAny_holding (wpAny_point (Qf ?_)))) λ_ _ y=>y)));exact h3
end
section
variable       {np cpos pos:Pos} 
theorem zmv(O:XcAt X.K X.mg x C f)(F:FnOk X.prog X.w X.K X.mg X.base CX0 1 f fd ["self","at"] (λvs H Q E=>(∃e t v,vs=[.ref e,v]/\H e=some (.ext (ExN e C t none))/\∀d,H d=none->d ≠ e->Q .non (upd (upd H e (.ext (ExN e C t (some d)))) d (.xd [("at",v)])))))
  (hbd:Binds X.K fd ["self","at"] []) (hr:Room 2 X.A) (hg:Gl X x) (hst:X.stack=X.env::X.outer) (hf:X.env.frame=some X.env.locals) (hex:X.ex=[])
  (hxe:X.xe=λev s'=>wpAny .(1) X.A (leaving X.env ev) (λ_ s''=>CXX X.prog X.w X.outer X.H₀ X.s₀ E ev s'') (λe' s''=>CXX X.prog X.w X.outer X.H₀ X.s₀ E e' s'') s')
  (ha:PA X [e] ta) (hd:(x==("__debug__":Str))=false:=by decide) (he:starEach [e] X.env=[(false,eval e X.env)]:=by rfl) :
  PS X (.Raise (some (.Call (.Name x np) [e] [] cpos)) none pos) (λ_ J H=>ta J H λvs H1=>∃v,vs=[v]/\∀d,H1 d=none->E (.ref C) (some d) (upd H1 d (.xd [("at",v)]))):=by
 intro ρ s J H D I h;obtain⟨bm,N,nm,q,bs,sn,sub,ab,col,dd,k0,k1,k2,k3,k5,mN,hC,hN,hi,hno,T⟩:=O.obj X.base I.ok.mod.kin;have Tt:=T.tail ∅;refine zgl (C:=C) (nm:=nm) (q:=q) (N:=N) (bs:=bs) (bm:=bm) (hdct:=true) (sn:=sn) (sub:=sub) (ab:=ab) (col:=col) (dd:=dd) (k0:=k0) (k1:=k1) (k2:=k2) (k3:=k3) (k5:=k5) (Tt.hasType PySem.F.excBase_ValueError.hasBase) hr.hd (by rw[he];rfl) (zbG I hg O.bound ⟨rfl,?_⟩ hd);have hq:=ha cpos ρ s J H _ I h;rw[he]at hq ⊢;refine Calls.evalArgs_plain (Qg hq (λus s2 h9=>?_) λ_ _ y=>y);obtain⟨vs,H2,I2,r2,v,ev,hE⟩:=h9;subst ev;obtain⟨u,rfl,ru⟩:∃u,us=[u]/\RelV v u:=by cases r2 with|cons a b=>cases b;exact⟨_,rfl,a⟩
 obtain⟨oI,fk,fc⟩:=O.fn;have hC2:=I2.bk _ _ hC;refine⟨rfl,hC2,?_⟩;obtain⟨h2,g2,d2,t2,os2⟩:=s2;refine zs3 hC2 (hN.keeps I2.bk) (Tt.keeps I2.bk) hi (I2.kIn _ _ fk) fc (λh' e hm=>?_) (by show 1<=sizeLine;decide);obtain⟨t,ge,_,_⟩:=hm.there;obtain⟨b1,b2,b3,b4,b5⟩:=I2.new0 hex hm.new;have I3:Inv X ρ J H2 ⟨h',g2,d2,t2,os2⟩:=I2.kept (t':=t2) hm.keeps;have I4:Inv X ρ J (upd H2 e (.ext (ExN e C t none))) ⟨h',g2,d2,t2,os2⟩:=I3.take b1 b2 b3 b4 b5 (zng ge);refine wpAny_call (codeAny_mono (F.run _ X.stack _ _ ⟨[.ref e,u],[]⟩ [.ref e,u] [.ref e,v] (λw H'=>w = .non/\∃d,H2 d=none/\d ≠ e/\H'=upd (upd (upd H2 e (.ext (ExN e C t none))) e (.ext (ExN e C t (some d)))) d (.xd [("at",v)])) E0 (hr.make C [u] []) (I4.env0.make C [u] []) (hbd _ [.ref e,u] I4.kIn rfl) (.cons rfl (.cons ru .nil)) ⟨e,t,v,rfl,qA,λd hd ne=>⟨rfl,d,by rw[yk ne]at hd;exact hd,ne,rfl⟩⟩) λr s' hr'=>?_);cases r with
 |error ee=>exact hr'.elim|ok fl=>
  cases fl with
  |next=>exact hr'.elim|brk=>exact hr'.elim|cont=>exact hr'.elim|ret u'=>
   obtain⟨w',H5,os,bare,un,hok,rw',rfl,d,hd2,ne,eH⟩:=hr';have I5:Inv X ρ J H5 s':=I4.call' (ch:=[]) os un hok bare (λb z=>absurd z (by simp));have e5:H5 e=some (.ext (ExN e C t (some d))):=by rw[eH,yk ne.symm,qA]
   have ge5:s'.heap.get? e=some (zbT C t (some d)):=(I5.hok e _ e5).1;have I6:=I5.let e5;have eq:zgO H5 e=upd H2 d (.xd [("at",v)]):=by
    funext b;rw[eH]
    by_cases hb:b=e
    .subst hb;rw[zhz,yk ne.symm,b2]
    .rw[zbX hb]
     by_cases hd':b=d
     .subst hd';rw[qA,qA]
     .rw[yk hd',yk hb,yk hb,yk hd']
   rw[eq]at I6;refine⟨rw',e,t,some d,rfl,I6.bk _ _ hC,ge5,?_⟩;exact zlf I6 hst hf hex hxe ge5 (by rw[yk ne.symm];exact b2) b1 (hE d hd2)
end
section
variable   {J:St}  
theorem zeW(I:Inv X ρ J H s)(hN:X.N.Nodup)(hj:X.N[j]?=some n)(hk:X.env.scope.names.lookup n=some .local)(h:∀s',Inv X ρ (J.set j none) H s'->Q () s'):
  wpAny M A (do bindName X.env n .none;unbindBehindTheSuite X.env n p) Q E s:=by
 refine Q1 (wpAny_bindName (zdL (v:=.non) I hN hj (.inl hk) rfl (λs1 I1=>?_) (.inr hk)));unfold unbindBehindTheSuite;refine wpAny_onRaise ?_;unfold unbindName;refine Q1 (wpAny_point (Q1 ?_));have hp:(X.env.scope.kind == .class || (X.env.scope.kind == .module && X.env.locals != X.env.globals))=false:=by rw[I.ok.kind];rfl
 have hkd:X.env.kindOf n=some .local:=hk;unfold deleteName;simp only[hkd,hp];rw[QB ∅];obtain⟨m,hn,hl⟩:=id I1.loc;have hjJ:j<J.length:=by rw[I.len];exact(Qz.mp hj).1
 obtain⟨u0,r0,q0⟩:=hl j n .non hj (by rw[List.getElem?_set_self hjJ]) (.inl hk);have hm:(m n).isSome=true:=by
  rcases q0 with⟨_,e⟩ | ⟨z | z,_⟩
  .rw[e];rfl
  .rw[hkd]at z;cases z
  .rw[hkd]at z;cases z
 refine Q1 (wpAny_nsDel_keeps hn λh2 v hn2 hs=>?_);rw[hm];simp only[Bool.not_true,Bool.false_eq_true,if_false];refine Qf (wpAny_point (h _ ?_));obtain⟨oL,_,_,hoL,_⟩:=id hn;have cne:=I1.cne;have ab:∀b o,X.s₀.heap.get? b=some o->b ≠ X.env.locals:=λb o e=>Qk (Q5 (Qe e) I.ok.above);refine⟨I1.ok,I1.os,I1.bare,⟨λb o e q hb hx=>(hs.2 b (ab b o e)).trans (I1.base.keep b o e q hb hx),λb o e q hb hx=>?_,I1.base.free,λb o e hx=>?_,I1.base.tups,I1.base.frzs,I1.base.tbls⟩,⟨_,hn2,λi y v' e1 e2 e3=>?_⟩,λy c e=>?_,I1.free,I1.freeC,λp hp=>?_,λb ob e=>?_,by rw[length_set];exact I.len⟩
 .obtain⟨sl,e1⟩:=I1.base.slot b o e q hb hx;exact⟨sl,(hs.2 b (ab b o e)).trans e1⟩
 .obtain⟨o',e1⟩:=I1.base.there b o e hx;exact⟨o',(hs.2 b (ab b o e)).trans e1⟩
 .have hij:j ≠ i:=by rintro rfl;rw[List.getElem?_set_self hjJ]at e2;cases e2
  rw[getElem?_set_ne hij]at e2;obtain⟨u',r',q⟩:=hl i y v' e1 (by rw[getElem?_set_ne hij];exact e2) e3;refine⟨u',r',?_⟩;rcases q with⟨k,e⟩ | ⟨k,c,e,z⟩
  .have:y ≠ n:=λe=>hij (zfC hN hj (e ▸ e1));exact .inl ⟨k,by simp[this,e]⟩
  .exact .inr ⟨k,c,e,z.sameBut hs (cne y c e)⟩
 .obtain⟨w',z⟩:=I1.cell y c e;exact⟨w',z.sameBut hs (cne y c e)⟩
 .obtain⟨e,q,ne,nf,d⟩:=I1.pin p hp;exact⟨(hs.2 p.1 ne).trans e,q,ne,nf,d⟩
 .refine(I1.hok b ob e).stay (λc w' hc q=>(hs.2 c ?_).trans q) (λ_ q=>q) λ_ _ q=>q;rintro rfl;rcases hc with rfl | hc
  .rw[I1.free]at e;cases e
  .rw[I1.free]at hc;cases hc
end
structure Sup (K:Frag) (mg:Str->Option Value) (y:Str) (C C':Addr):Prop where
 bound:mg y=some (.ref C)
 obj:∀h:Heap,K.In h->(∃bm N nm q bs hdct sn sub ab col dd k0 k1 k2 k3 k5,h.get? C=some (excClassObj nm q C N bs bm hdct sn sub ab col dd k0 k1 k2 k3 k5 "ValueError.__new__")/\bm.contains (.type "BaseException")=true) /\
  ∃bm N nm q bs hdct sn sub ab col dd k0 k1 k2 k3 k5,h.get? C'=some (excClassObj nm q C' N bs bm hdct sn sub ab col dd k0 k1 k2 k3 k5 "ValueError.__new__")/\(Value.ref C'::bm).contains (.ref C)=true
theorem znh
      {os:OsState}    (hC:h.get? C=some (excClassObj nm q C N bs bm hd sn sub ab col dd k0 k1 k2 k3 k5 "ValueError.__new__")) (hC':h.get? C'=some (excClassObj nm' q' C' N' bs' bm' hd' sn' sub' ab' col' dd' j0 j1 j2 j3 j5 "ValueError.__new__"))
  (he:h.get? e=some oe) (hc:oe.cls = .ref C') (hb:bm.contains (.type "BaseException")=true) (hm:(Value.ref C'::bm').contains (.ref C)=true) (hq:Q true ⟨h,g,d,t,os⟩):wpAny M A (excMatches (.ref e) (.ref C)) Q E ⟨h,g,d,t,os⟩:=by
 have hcB:(Value.ref C::bm).contains (.type "BaseException")=true:=by rw[contains_cons,hb,Bool.or_true]
 have f:=tc_notTuple;unfold excMatches
 repeat (first | (with_reducible refine wpAny_loadPart_at he ?_;rw[hc]) | with_reducible refine wpAny_loadPart_at hC ?_ | (with_reducible refine wpAny_isSubtype_exc hC ?_;rw[hcB]) | (with_reducible refine wpAny_isSubtype_exc hC' ?_;rw[hm]) | wp_step)
 exact hq
section
variable   {J:St}     {np hp:Pos}   {rest:List ExceptHandler}   
theorem znt{nmo:Option Str}(hg:Gl X y)(hst:X.stack=X.env::X.outer)(hf:X.env.frame=some X.env.locals)(hex:X.ex=[])(I:Inv X ρ J H s)
  (hq:CXX X.prog X.w X.stack H s E ev s') (hS:∀C' od H',E (.ref C') od H'->Sup X.K X.mg y C C')
  (go:∀e t C' od B H' h5,(∀h6,B.StaysIn h6->h5.UpToSlots h6->Inv X ρ J H' { s' with heap:=h6 })->Heap.FlyingW B X.stack e (.ref C') (.ref t) h5->(∃oe,h5.get? e=some oe/\oe.dict=od)->
   (X.s₀.heap.get? e=none/\H' e=none/\e ≠ X.env.locals/\(∀x c,X.env.cells.lookup x=some c->c ≠ e)/\∀p ∈ X.pn++ρ,p.1 ≠ e)->E (.ref C') od H'->
   codeAny .(1) (X.A.mark (some (.ref e))) (.handlers (.ref e) [.ExceptHandler none nmo (b0::suite) hp] X.env) (λr s2=>match r with
     | .ok f=>(match nmo with
      |none=>SP X ρ D f s2
      | some n=>wpAny .(1) X.A (do bindName X.env n .none;unbindBehindTheSuite X.env n hp) (λ_ s3=>SP X ρ D f s3) X.xe s2)
     | .error x=>cameBackBy .(1) X.A X.env X.xe x s2) { s' with heap:=h5 }) (hd:(y==("__debug__":Str))=false:=by decide) :
  wpAny .(1) X.A (noteFrame ev X.env) (λ_ s2=>wpAny .(1) X.A (setFlight ev none) (λ_ s3=>wpAny .(1) X.A (handleBy ev X.env (.ExceptHandler (some (.Name y np)) nmo (b0::suite) hp::rest)) (SP X ρ D) X.xe s3) X.xe s2) X.xe s':=by
 obtain⟨e,t,C',oe,B,H',rfl,fl,he,os,bare,un,hok,hB,hfr,hE⟩:=hq;have hfrm:X.A.frames=some (X.env::X.outer):=by rw[I.ok.frames,hst]
 have hfn:∀b ∈ frs X.stack,∀o,s'.heap.get? b=some o->∀vs,o.data ≠ .fields vs:=λb hb o e1=>by
  obtain⟨_,o',e2,n2⟩:=fl.2.2.1.mem hb;rw[e1]at e2;cases e2
  exact n2
 have inv_at:∀h2:Heap,B.StaysIn h2->s'.heap.UpToSlots h2->Inv X ρ J H' { s' with heap:=h2 }:=λh2 st up=>by obtain⟨un2,hok2⟩:=zly un hok hB hfr hfn st up;exact I.call' (s':={ s' with heap:=h2 }) (ch:=[]) os un2 hok2 bare (λb z=>absurd z (by simp))
 have ne:s.heap.get? e=none:=by
  cases q:s.heap.get? e with
  |none=>rfl|some u=>
   have hf2:e ∉ frs X.stack:=λhm=>by
    obtain⟨oe',h1,_⟩:=fl.there;obtain⟨oe2,vs2,h2,_,h3,_⟩:=fl.first
    exact hfn e hm oe2 h2 vs2 h3
   have:=hB e oe he hf2 (.inr ⟨u,q⟩);rw[fl.2.1]at this;cases this
 have he0:H' e=none:=by
  cases q:H' e with
  |none=>rfl|some u=>
   have hf2:e ∉ frs X.stack:=λhm=>by
    obtain⟨oe2,vs2,h2,_,h3,_⟩:=fl.first
    exact hfn e hm oe2 h2 vs2 h3
   have:=hB e oe he hf2 (.inl (by rw[q];simp));rw[fl.2.1]at this;cases this
 obtain⟨b1,_,b3,b4,b5⟩:=I.new0 hex ne;obtain⟨⟨bm,N,nm,q,bs,hdct,sn,sub,ab,col,dd,k0,k1,k2,k3,k5,hC,hcb⟩,bm',N',nm',q',bs',hdct',sn',sub',ab',col',dd',j0,j1,j2,j3,j5,hC',hcc⟩:=(hS C' oe.dict H' hE).obj X.base I.ok.mod.kin;rw[hst]at fl;refine Qg (zkI.any (wpAny_looks_onW (M:=model X.prog X.w) (E:=λ_ _=>False) (Q:=λ_ s2=>∃h4,s2={ s' with heap:=h4 }/\Heap.HeldW B (X.env::X.outer) e (.ref C') (.ref t) X.env.locals h4/\s'.heap.UpToSlots h4) hfrm hf fl λh' a b=>⟨h',rfl,a,b⟩)) ?_ λ_ _ z=>z.1.elim;rintro _ s4 ⟨⟨h4,rfl,hl4,up4⟩,dk4⟩;refine Qg (zcR.any (wpAny_landsW (M:=model X.prog X.w) (A:=X.A) (E:=λ_ _=>False) (s:={ s' with heap:=h4 }) (Q:=λ_ s2=>∃h5,s2={ s' with heap:=h5 }/\Heap.FlyingW B (X.env::X.outer) e (.ref C') (.ref t) h5/\h4.UpToSlots h5) hl4 λh' a b=>⟨h',rfl,a,b⟩)) ?_ λ_ _ z=>z.1.elim;rintro _ s5 ⟨⟨h5,rfl,fl5,up5⟩,dk5⟩;have up45:=up4.trans up5;have I5:=inv_at h5 fl5.1 up45;have d5:=(dk4.trans dk5) e oe he;refine wpAny_handleBy_cons (codeAny_handlers_test ?_) (by intro z;cases z);refine zbG (X:=X.suite e) (I5.suite e) hg (hS C' oe.dict H' hE).bound ?_ hd;obtain⟨o5,ge5,gd5⟩:=d5;obtain⟨o5',ge5',gc5⟩:=fl5.there;rw[ge5]at ge5';cases ge5'
 refine znh (I5.bk _ _ hC) (I5.bk _ _ hC') ge5 gc5 hcb hcc ?_;refine go e t C' oe.dict B H' h5 (λh6 st up=>inv_at h6 st (up45.trans up)) (by rw[hst];exact fl5) ⟨o5,ge5,gd5⟩ ⟨b1,he0,b3,b4,b5⟩ hE
end
section
variable   {J:St}        {rest:List ExceptHandler}   
theorem zqG(hg:Gl X y)(hst:X.stack=X.env::X.outer)(hf:X.env.frame=some X.env.locals)(hex:X.ex=[])(hN:X.N.Nodup)(hj:X.N[j]?=some n)(hk:X.env.scope.names.lookup n=some .local)(I:Inv X ρ J H s)
  (hq:CXX X.prog X.w X.stack H s (λcv od H2=>∃C',cv = .ref C'/\Sup X.K X.mg y C C'/\∀e,H2 e=none->th { nx:=λJ' H'=>D.nx (J'.set j none) H',rt:=D.rt,bk:=λJ' H'=>D.bk (J'.set j none) H',ct:=λJ' H'=>D.ct (J'.set j none) H' } (J.set j (some (.ref e))) (upd H2 e (.ext (ExO e C' od)))) ev s')
  (hs:∀ev,PSs (X.suite ev) (b0::suite) th) (hd:(y==("__debug__":Str))=false:=by decide) :
  wpAny .(1) X.A (noteFrame ev X.env) (λ_ s2=>wpAny .(1) X.A (setFlight ev none) (λ_ s3=>wpAny .(1) X.A (handleBy ev X.env (.ExceptHandler (some (.Name y np)) (some n) (b0::suite) hp::rest)) (SP X ρ D) X.xe s3) X.xe s2) X.xe s':=by
 refine znt hg hst hf hex I hq (λC' od H' ⟨C2,e,S,_⟩=>by cases e;exact S) (λe t C' od B H' h5 ia fl dk nw h9=>?_) hd;obtain⟨C2,e2,S,ht⟩:=h9;cases e2;obtain⟨oe,h1,h2⟩:=dk;refine codeAny_handlers_suite_as (Qg (zcR.any (lands_againW (M:=model X.prog X.w) (A:=X.A.mark (some (.ref e))) (E:=λ_ _=>False) (s:={ s' with heap:=h5 }) (Q:=λ_ s2=>∃h6,s2={ s' with heap:=h6 }/\Heap.FlyingW B X.stack e (.ref C') (.ref t) h6/\h5.UpToSlots h6) fl λh' a b=>⟨h',rfl,a,b⟩)) ?_ λ_ _ z=>z.1.elim);rintro _ s6 ⟨⟨h6,rfl,fl6,up6⟩,dk6⟩;have I6:=ia h6 fl6.1 up6;obtain⟨o6,g1,g2⟩:=dk6 e oe h1;obtain⟨o7,vs7,g3,g4,g5,_⟩:=fl6.first
 rw[show h6.get? e=some o6 from g1]at g3;cases g3
 obtain⟨b1,b2,b3,b4,b5⟩:=nw;have I7:=I6.take (o:=.ext (ExO e C' od)) b1 b2 b3 b4 b5 (zsI ⟨o6,g1,g4,g2.trans h2,λc z=>by rw[g5]at z;cases z⟩);refine zdL (M:=model X.prog X.w) (v:=.ref e) I7 hN hj (.inl hk) rfl (λs8 I8=>?_) (.inr hk);refine Qg (hs e ρ _ _ _ _ (I8.suite e) (ht e b2)) (λf s3 q3=>?_) λ_ _ z=>False.elim z;have q4:=q3.unsuite I8.ok;cases f with|next=>obtain⟨J',H9,I9,q⟩:=q4;exact zeW I9 hN hj hk λs10 I10=>⟨_,H9,I10,q⟩|brk=>obtain⟨J',H9,I9,q⟩:=q4;exact zeW I9 hN hj hk λs10 I10=>⟨_,H9,I10,q⟩|cont=>obtain⟨J',H9,I9,q⟩:=q4;exact zeW I9 hN hj hk λs10 I10=>⟨_,H9,I10,q⟩|ret u=>obtain⟨v,J',H9,I9,r,q⟩:=q4;exact zeW I9 hN hj hk λs10 I10=>⟨v,_,H9,I10,r,q⟩
end
theorem ztL:typeLookup (.type "ValueError") "__getattribute__" = pure (some (.builtin "BaseException.__getattribute__")):=by rw[typeLookup_type,builtinLookup_eq_fast];kernel_rfl
theorem zrU:typeLookup (.type "ValueError") "__getattr__" = pure none:=by rw[typeLookup_type,builtinLookup_eq_fast];kernel_rfl
section
variable         {os:OsState}  
            
theorem zlu(hC:h.get? C=some (excClassObj nm q C N bs bm true sn sub ab col dd k0 k1 k2 k3 k5 newId))(T:Tl h y4 ns bm)(hi:("__init__":Str) ∈ ns)(hx:h.get? a=some o)(hc:o.cls = .ref C)(hq:Q () ⟨h,g,d,t,os⟩) :
  wpAny M A (checkBuiltinCall "BaseException.__getattribute__" ⟨[.ref a,u],[]⟩) Q E ⟨h,g,d,t,os⟩:=by
 have hk:builtinKind "BaseException.__getattribute__" = some .slot:=by decide +kernel
 have hs:splitId "BaseException.__getattribute__" = some ("BaseException","__getattribute__"):=by decide +kernel
 have hb:(Value.ref C::bm).contains (.type "BaseException")=true:=by rw[contains_cons,(T.tail hi).hasType PySem.F.excBase_ValueError.hasBase];rfl
 have ha:=PySem.F.args_bexc_ga (.ref a) u;simp only[checkBuiltinCall,hk,hs];refine Q1 ?_;unfold isInstance
 repeat (first | (with_reducible refine wpAny_loadPart_at hx ?_;rw[hc]) | (with_reducible refine wpAny_isSubtype_exc hC ?_;rw[hb]) | wp_step)
 exact hq
theorem zlt(hC:h.get? C=some (excClassObj nm q C N bs bm true sn sub ab col dd k0 k1 k2 k3 k5 newId))(hn:h.Ns N mN)(T:Tl h y4 ns bm)(m2:mN name=none)(hm:name ∈ ns)(hB:typeLookup (.type "ValueError") name=pure none)
  (hx:h.get? a=some o) (hc:o.cls = .ref C) (hnc:∀c,o.data ≠ .cls c) (hd:o.dict=some dx) (hD:h.Ns dx mA) (hv:mA name=some v) (hq:Q (.done (.ret v)) ⟨h,g,d,t,os⟩) :
  wpAny (model prog w) A (Builtin.«object.__getattribute__» ⟨[.ref a,.str name tk],[]⟩) Q E ⟨h,g,d,t,os⟩:=by
 unfold Builtin.«object.__getattribute__»
 repeat (first | (with_reducible refine wpAny_loadPart_at hx ?_;rw[hc]) | (with_reducible refine zcX hC hn T hm PySem.F.store_ValueError.mro hB ?_;rw[m2]) | wp_step)
 split
 .rename_i c hcd;exact absurd hcd (hnc c)
 unfold instanceDict
 repeat (first | (with_reducible refine wpAny_loadPart_at hx ?_;rw[hc]) | with_reducible refine wpAny_loadPart_at hC ?_ | wp_step)
 rw[hd]
 repeat (first | (with_reducible refine wpAny_nsGet hD ?_;rw[hv]) | wp_step)
 exact hq
theorem zuk(hC:h.get? C=some (excClassObj nm q C N bs bm true sn sub ab col dd k0 k1 k2 k3 k5 newId))(hn:h.Ns N mN)(T:Tl h y4 ns bm)(hi:("__init__":Str) ∈ ns)(m2:mN name=none)(hm:name ∈ ns)(m3:mN "__getattribute__" = none)(h3:("__getattribute__":Str) ∈ ns)(m4:mN "__getattr__" = none)(h4:("__getattr__":Str) ∈ ns)
  (hB:typeLookup (.type "ValueError") name=pure none) (hx:h.get? a=some o) (hc:o.cls = .ref C) (hnc:∀c,o.data ≠ .cls c) (hd:o.dict=some dx) (hD:h.Ns dx mA) (hv:mA name=some v) (hh:handedOut v=pure v) (hq:Q v ⟨h,g,d,t+1,os⟩) :
  wpAny (model prog w) A (getAttr (.ref a) name expr) Q E ⟨h,g,d,t,os⟩:=by
 have f3:=PySem.F.excAttr_ValueError.ga.bind (.ref a);have hx0:(expr && onTheHeap (Value.builtin "BaseException.__getattribute__"))=false:=by cases expr<;>rfl
 have hx2:(Value.builtin "BaseException.__getattribute__" == Value.builtin "object.__getattribute__")=false:=by decide +kernel
 have hx1:(onTheHeap (Value.ref C) && Value.builtin "BaseException.__getattribute__" == Value.builtin "object.__getattribute__")=false:=by rw[hx2];rfl
 unfold getAttr
 repeat (any_goals (first | assumption | (with_reducible refine wpAny_loadPart_at hx ?_;rw[hc]) | (with_reducible refine zcX hC hn T h3 PySem.F.store_ValueError.mro ztL ?_;rw[m3]) | (with_reducible refine zcX hC hn T h4 PySem.F.store_ValueError.mro zrU ?_;rw[m4]) | wp_step))
 refine codeAny_call_builtin PySem.F.excAttr_ValueError.ga.plain PySem.F.entry_bexc_ga (zlu hC T hi hx hc (zlt hC hn T m2 hm hB hx hc hnc hd hD hv ?_));show wpAny _ _ (handedOut v) _ _ _;rw[hh];exact Qf hq
end
theorem handed(r:RelV x v):handedOut v=pure v:=by cases x with|non=>cases r;rfl|bl b=>cases r;rfl|int i=>obtain⟨_,rfl⟩:=r;rfl|str i=>obtain⟨_,rfl⟩:=r;rfl|byt i=>obtain⟨_,rfl⟩:=r;rfl|flt i=>obtain⟨_,rfl⟩:=r;rfl|ref a=>cases r;rfl|ty n=>cases r;rfl
section
theorem zrs(he:PE X e te)(hb:attributeBase e "at" X.env (eval e X.env)=eval e X.env):PE X (.Attribute e "at" pos) (λJ H Q=>te J H λx H1=>∃a C d us v nm fI,x = .ref a/\H1 a=some (.ext (ExO a C (some d)))/\H1 d=some (.xd us)/\XcAt X.K X.mg nm C fI/\us.lookup ("at":Str)=some v/\Q v H1):=by
 apply?;refine zlp hb (thn (he ρ s J H _ I h) λu s1 h9=>?_);obtain⟨x,H1,I1,rx,a,C,d,us,v,nm,fI,ex,ea,ed,O,l,q⟩:=h9;subst ex;obtain rfl:u=Value.ref a:=rx;obtain⟨bm,N,nm,qq,bs,sn,sub,ab,col,dd,k0,k1,k2,k3,k5,mN,hC,hN,hi,hno,T⟩:=O.obj s1.heap I1.kIn;obtain⟨⟨ob,g1,g2,g3,g4⟩,_,_⟩:=I1.hok a _ ea;obtain⟨mA,n1,rel⟩:=(show ObjOk X.prog X.w H1 s1.heap d (.xd us)from I1.hok d _ ed);have rl:=rel "at";rw[l]at rl;cases hm:mA "at" with
 |none=>rw[hm]at rl;exact rl.elim|some w=>rw[hm]at rl;obtain⟨h2,ge,dr,tk,os⟩:=s1;refine zuk hC hN T ∅ (hno _ ∅) ∅ (hno _ ∅) ∅ (hno _ ∅) ∅ zkX g1 g2 g4 g3 n1.ns hm (handed rl) ⟨v,H1,I1.tok _,rl,q⟩
end
def PX(X:Cx)(sts:List Stmt)(t:XK->TS):Prop:=
 ∀(E:XK) (ρ:List (Addr × Obj)) (s:Shared) (J:St) (H:Hp) (D:Ends),Inv X ρ J H s->t E D J H->
  wpAny .(1) X.A (execs sts X.env) (SP X ρ D) (λev s'=>∃H1 s1,Inv X ρ J H1 s1/\CXX X.prog X.w X.stack H1 s1 E ev s') s
section
variable         {p pos pos2 np hp tp vp:Pos}         
theorem ztm{J:St}(F:FnOk X.prog X.w X.K X.mg X.base (CXX X.prog X.w) k f fd ps sp)(hr:Room k X.A)(hg:Gl X x)(hm:X.mg x=some (.ref f))(hk:PySem.W.keepIn X.K (.ref f)=true)(hb:Binds X.K fd ps [])
  (ha:∀E',PA (X.wish E') (e::es) ta) (hdb:(x==("__debug__":Str))=false) (he:starEach (e::es) X.env=(false,eval e X.env)::starEach es X.env) (hpl:(backTo pos (starEach es X.env)).any (·.1)=false) (I:Inv X ρ J H s) (h:ta J H λvs H1=>sp vs H1 Q E) :
  wpAny .(1) X.A (eval (.Call (.Name x p) (e::es) [] pos) X.env) (EP X ρ J Q) (λev s'=>∃H1 s1,Inv X ρ J H1 s1/\CXX X.prog X.w X.stack H1 s1 E ev s') s:=by
 refine wpAny_Call_Name_kw (zbG (X:=X) I hg hm ?_ hdb);refine PySem.W.callWith_K (h₀:=X.base) I.ok.mod.kin hk (thn (ha (λev s'=>∃H1 s1,Inv X ρ J H1 s1/\CXX X.prog X.w X.stack H1 s1 E ev s') pos ρ s J H _ (I.wish _) h) λus s1 ⟨vs,H1,I1,r,q⟩=>⟨I1.kIn,?_⟩) he hpl;have hl:us.length=ps.length:=by rw[←r.length];exact F.len _ _ _ _ q
 have I1':=I1.unwish;refine wpAny_call (codeAny_mono (F.run X.A X.stack s1 H1 ⟨us,[]⟩ us vs _ _ hr I1'.env0 (by have:=hb s1 us I1'.kIn (by rw[append_nil];exact hl);rw[append_nil]at this;exact this) r q) λr s' hq=>?_);cases r with
 |error ee=>exact⟨H1,s1,I1',hq⟩|ok fl=>cases fl with|ret u=>exact I1'.after hq|next=>exact False.elim hq|brk=>exact False.elim hq|cont=>exact False.elim hq
theorem zpp(F:FnOk X.prog X.w X.K X.mg X.base (CXX X.prog X.w) k f fd ps sp)(hr:Room k X.A)(hg:Gl X x)(hm:X.mg x=some (.ref f))(hk:PySem.W.keepIn X.K (.ref f)=true)(hb:Binds X.K fd ps [])(ha:∀E',PA (X.wish E') (e::es) ta)
  (hdb:(x==("__debug__":Str))=false:=by decide) (he:starEach (e::es) X.env=(false,eval e X.env)::starEach es X.env:=by rfl) (hpl:(backTo pos (starEach es X.env)).any (·.1)=false:=by rfl) (hsw:swapsWith (.Call (.Name x p) (e::es) [] pos) none pos2.line X.env=pure false:=by rfl) :
  PX X [.Expr (.Call (.Name x p) (e::es) [] pos) pos2] (λE D J H=>ta J H λvs H1=>sp vs H1 (λ_ H2=>D.nx J H2) E):=by
 intro E ρ s J H D I h;refine wpAny_execs_cons (Qg (Q:=SP X ρ D) (wpAny_Expr_any (thn (ztm F hr hg hm hk hb ha hdb he hpl I h) λu s1 h9=>?_) I.quiet hsw) (λfl s1 q=>?_) λ_ _ z=>z);obtain⟨w,H1,I1,r,q⟩:=h9
 .exact⟨J,H1,I1,q⟩
 .cases fl with|next=>exact wpAny_execs_nil q|brk=>exact q|cont=>exact q|ret u=>exact q
theorem zpx(hb:PX X sts t)(hgy:Gl X y)(hst:X.stack=X.env::X.outer)(hf:X.env.frame=some X.env.locals)(hex:X.ex=[])(hN:X.N.Nodup)(hj:X.N[j]?=some n)(hk:X.env.scope.names.lookup n=some .local)(hs:∀ev,PSs (X.suite ev) (b0::suite) th)(hdy:(y==("__debug__":Str))=false:=by decide) :
  PS X (.Try sts [.ExceptHandler (some (.Name y np)) (some n) (b0::suite) hp] [] [] tp) (λD J H=>t (λcv od H2=>∃C',cv = .ref C'/\Sup X.K X.mg y C C'/\∀e,H2 e=none->th { nx:=λJ' H'=>D.nx (J'.set j none) H',rt:=D.rt,bk:=λJ' H'=>D.bk (J'.set j none) H',ct:=λJ' H'=>D.ct (J'.set j none) H' } (J.set j (some (.ref e))) (upd H2 e (.ext (ExO e C' od)))) D J H):=by
 intro ρ s J H D I h;refine wpAny_Try_except (Qg (hb _ ρ s J H D I h) (λfl s1 q=>?_) λev s1 ⟨H1,s0,I1,hq⟩=>?_)
 .cases fl with|next=>exact wpAny_execs_nil q|brk=>exact q|cont=>exact q|ret u=>exact q
 .exact zqG hgy hst hf hex hN hj hk I1 hq hs hdy
end
end L2
namespace FT
open PySem PySem.Spec PyProof.Rows L2
noncomputable def noStar:Expr->Bool
 |.Starred _ _=>false|_=>true
theorem z5(h:noStar e=true):starEach (e::es) env=(false,eval e env)::starEach es env:=by cases e<;>first | rfl | cases h
theorem zbZ:∀{es:List Expr},es.all noStar=true->(backTo pos (starEach es env)).any (·.1)=false:=by
 intro es h;have h1:(starEach es env).any (·.1)=false:=by
  induction es with
  |nil=>rfl|cons e es ih=>rw[all_cons,Qs]at h;rw[z5 h.1,any_cons,ih h.2];rfl
 have h2:∀l:List (Bool × Sem Value),l.any (·.1)=false->(backTo pos l).any (·.1)=false:=by intro l hl;unfold backTo;rw[List.any_map];exact hl
 exact h2 _ h1
inductive T where
 |non | bl (b:Bool) | int (i:Int) | str (x:Str) | ty (n:String) | tup (xs:List T) | lst (xs:List T) | ref (a:Nat) | dct (kvs:List (Key × T)) | exc (C:Addr) (fs:List (Str × T))
inductive Cell where
 |lst (xs:List T) | dic (kvs:List (Key × T)) | ins (C:Addr) (fs:List (Str × T)) | dtu (kvs:List (List Key × T))
abbrev Mem:=List Cell
abbrev Ev:=List (Option T)
inductive Out (β:Type) where
 |ok (b:β) (M:Mem) | exn (C:Addr) (fs:List (Str × T)) (M:Mem) | bad
def Out.bind(o:Out β)(k:β->Mem->Out γ):Out γ:=match o with
 |.ok b M=>k b M|.exn C fs M=>.exn C fs M|.bad=>.bad
def zvF(b:β)(M:Mem)(k:β->Mem->Out γ):(Out.ok b M).bind k=k b M:=rfl
def zva(k:β->Mem->Out γ):(Out.bad:Out β).bind k = .bad:=rfl
structure Sit where
 α:Nat->Addr
 M:Mem
 H:Hp
 hid:List Addr
def Sit.off(S:Sit)(p:Addr):Prop:=(∀a,a<S.M.length->S.α a ≠ p)/\p ∉ S.hid
def KL(K:Frag)(a:Addr)(xs:List V):Prop:=
 ∃(o:Obj) (its:Array Value) (n:Nat),K.lookup a=some o/\o.cls = .type "list"/\o.dict=none/\o.data = .seq its n/\its.size<=sizeLine/\Vals xs its.toList
inductive Rep (K:Frag) (S:Sit):T->V->Prop where
 |non:Rep K S .non .non
 |bl (b:Bool):Rep K S (.bl b) (.bl b)
 |int (i:Int):Rep K S (.int i) (.int i)
 |str (x:Str):Rep K S (.str x) (.str x)
 |ty (x:String):Rep K S (.ty x) (.ty x)
 |tup {ts:List T} {p:Addr} {vs:List V} (h:SqT K S.H p vs) (l:ts.length=vs.length) (r:∀(i:Nat) t v,ts[i]?=some t->vs[i]?=some v->Rep K S t v):Rep K S (.tup ts) (.ref p)
 |lst {ts:List T} {p:Addr} {vs:List V} (h:(Rd S.H p (.lst vs)/\S.off p)\/KL K p vs) (l:ts.length=vs.length) (r:∀(i:Nat) t v,ts[i]?=some t->vs[i]?=some v->Rep K S t v):Rep K S (.lst ts) (.ref p)
 |ref {a:Nat} (h:a<S.M.length):Rep K S (.ref a) (.ref (S.α a))
 |dct {kvs:List (Key × T)} {us:List (Key × V)} {p:Addr} {o:Obj} (h:S.H p=some (.frz o (.dK us))) (l:kvs.map (·.1)=us.map (·.1)) (r:∀(i:Nat) t v,(kvs.map (·.2))[i]?=some t->(us.map (·.2))[i]?=some v->Rep K S t v):Rep K S (.dct kvs) (.ref p)
 |exc {C:Addr} {fs:List (Str × T)} {us:List (Str × V)} {p:Addr} {od:Option Addr} (h:S.H p=some (.ext (ExO p C od))) (hd:(od=none/\us=[])\/∃d,od=some d/\S.H d=some (.xd us)) (l:fs.map (·.1)=us.map (·.1)) (r:∀(i:Nat) t v,(fs.map (·.2))[i]?=some t->(us.map (·.2))[i]?=some v->Rep K S t v):Rep K S (.exc C fs) (.ref p)
def Reps(K:Frag)(S:Sit)(ts:List T)(vs:List V):Prop:=ts.length=vs.length/\∀(i:Nat) t v,ts[i]?=some t->vs[i]?=some v->Rep K S t v
def RepF(K:Frag)(S:Sit)(fs:List (Str × T))(us:List (Str × V)):Prop:=fs.map (·.1)=us.map (·.1)/\Reps K S (fs.map (·.2)) (us.map (·.2))
def RepK{κ:Type}(K:Frag)(S:Sit)(fs:List (κ × T))(us:List (κ × V)):Prop:=fs.map (·.1)=us.map (·.1)/\Reps K S (fs.map (·.2)) (us.map (·.2))
def CellOk(K:Frag)(S:Sit)(p:Addr):Cell->Prop
 |.lst ts=>∃vs,S.H p=some (.lst vs)/\Reps K S ts vs|.dic kvs=>∃us,S.H p=some (.dK us)/\RepK K S kvs us|.ins C fs=>∃dx us,S.H p=some (.ins C dx us)/\RepF K S fs us|.dtu kvs=>∃us,S.H p=some (.dJ (λb ks=>KTp K b (ks.map kV)) us)/\RepK K S kvs us
structure MemOk (K:Frag) (S:Sit):Prop where
 cell:∀a c,S.M[a]?=some c->CellOk K S (S.α a) c
 inj:∀a b,a<S.M.length->b<S.M.length->S.α a=S.α b->a=b
 hd:∀p ∈ S.hid,(∀a,a<S.M.length->S.α a ≠ p)/\∃vs,S.H p=some (.lst vs)
structure Grow (S S':Sit):Prop where
 le:S.M.length<=S'.M.length
 al:∀a,a<S.M.length->S'.α a=S.α a
 fr:∀a,S.M.length<=a->a<S'.M.length->S.H (S'.α a)=none
 kp:∀b o,S.H b=some o->S.off b->S'.H b=some o
 hk:∀p ∈ S.hid,p ∈ S'.hid/\S'.H p=S.H p
 hf:∀p ∈ S'.hid,p ∈ S.hid\/S.H p=none
structure Stp (K:Frag) (S S':Sit):Prop extends Grow S S' where
 mok:MemOk K S'
section
variable {K:Frag} 
theorem MemOk.some(m:MemOk K S){a:Nat}(h:a<S.M.length):∃o,S.H (S.α a)=Option.some o/\Mut (Option.some o):=by
 have e:S.M[a]?=Option.some S.M[a]:=by simp[h]
 have c:=m.cell a _ e;cases q:S.M[a]with
 |lst ts=>rw[q]at c;obtain⟨vs,e,_⟩:=c;exact⟨_,e,trivial⟩|dic ts=>rw[q]at c;obtain⟨vs,e,_⟩:=c;exact⟨_,e,trivial⟩|ins C fs=>rw[q]at c;obtain⟨dx,vs,e,_⟩:=c;exact⟨_,e,trivial⟩|dtu ts=>rw[q]at c;obtain⟨vs,e,_⟩:=c;exact⟨_,e,trivial⟩
theorem MemOk.off_of(m:MemOk K S){p:Addr}{o:Option HO}(e:S.H p=o)(h:¬Mut o):S.off p:=by
 refine⟨λa ha z=>?_,λz=>?_⟩
 .obtain⟨o',e',mu⟩:=m.some ha;rw[z,e]at e';rw[e']at h;exact h mu
 .obtain⟨_,vs,q⟩:=m.hd p z;rw[e]at q;rw[q]at h;exact h trivial
theorem MemOk.off_ext(m:MemOk K S){p:Addr}{φ:Heap->Prop}(e:S.H p=Option.some (.ext φ)):S.off p:=by
 refine⟨λa ha z=>?_,λz=>?_⟩
 .have ea:S.M[a]?=Option.some S.M[a]:=by simp[ha]
  have c:=m.cell a _ ea;cases q:S.M[a]with
  |lst ts=>rw[q]at c;obtain⟨vs,e',_⟩:=c;rw[z,e]at e';cases e'|dic ts=>rw[q]at c;obtain⟨vs,e',_⟩:=c;rw[z,e]at e';cases e'|ins C fs=>rw[q]at c;obtain⟨dx,vs,e',_⟩:=c;rw[z,e]at e';cases e'|dtu ts=>rw[q]at c;obtain⟨vs,e',_⟩:=c;rw[z,e]at e';cases e'
 .obtain⟨_,vs,q⟩:=m.hd p z;rw[e]at q;cases q
def MemOk.off_none(m:MemOk K S){p:Addr}(e:S.H p=none):S.off p:=m.off_of e (λz=>z)
theorem Grow.tup(g:Grow S S')(m:MemOk K S){p:Addr}{vs:List V}(h:SqT K S.H p vs):SqT K S'.H p vs:=by
 rcases h with h | h
 .exact .inl (g.kp _ _ h (m.off_of h (λz=>z)))
 .exact .inr h
theorem Grow.off(g:Grow S S'){p:Addr}{o:HO}(h:S.H p=some o)(f:S.off p):S'.off p:=by
 refine⟨λa ha z=>?_,λz=>?_⟩
 .by_cases hl:a<S.M.length
  .rw[g.al a hl]at z;exact f.1 a hl z
  .have:=g.fr a (Nat.le_of_not_lt hl) ha;rw[z,h]at this;cases this
 .rcases g.hf p z with q | q
  .exact f.2 q
  .rw[h]at q;cases q
theorem Grow.rd(g:Grow S S'){p:Addr}{u:HO}(h:Rd S.H p u)(f:S.off p):Rd S'.H p u/\S'.off p:=by
 rcases h with h | ⟨o,h⟩
 .exact⟨.inl (g.kp _ _ h f),g.off h f⟩
 .exact⟨.inr ⟨o,g.kp _ _ h f⟩,g.off h f⟩
theorem Rep.grow(m:MemOk K S)(g:Grow S S'){t:T}{v:V}(r:Rep K S t v):Rep K S' t v:=by
 induction r with
 |non=>exact .non|bl b=>exact .bl b|int b=>exact .int b|str b=>exact .str b|ty b=>exact .ty b|tup h l _ ih=>exact .tup (g.tup m h) l ih|lst h l _ ih=>
  refine .lst ?_ l ih;rcases h with⟨h,f⟩ | h
  .exact .inl (g.rd h f)
  .exact .inr h
 |ref h=>rw[←g.al _ h];exact .ref (Q5 h g.le)|dct h l _ ih=>exact .dct (g.kp _ _ h (m.off_of h (λz=>z))) l ih|exc h hd l _ ih=>exact .exc (g.kp _ _ h (m.off_ext h)) (hd.imp (λz=>z) λ⟨d,a,b⟩=>⟨d,a,g.kp _ _ b (m.off_of b (λz=>z))⟩) l ih
def Reps.grow(m:MemOk K S)(g:Grow S S'){ts:List T}{vs:List V}(r:Reps K S ts vs):Reps K S' ts vs:=⟨r.1,λi t v e1 e2=>(r.2 i t v e1 e2).grow m g⟩
def RepF.grow(m:MemOk K S)(g:Grow S S'){ts:List (Str × T)}{vs:List (Str × V)}(r:RepF K S ts vs):RepF K S' ts vs:=⟨r.1,r.2.grow m g⟩
def RepK.grow(m:MemOk K S)(g:Grow S S'){ts:List (κ × T)}{vs:List (κ × V)}(r:RepK K S ts vs):RepK K S' ts vs:=⟨r.1,r.2.grow m g⟩
theorem Reps.nil:Reps K S [] []:=⟨rfl,λ_ _ _ e _=>by simp at e⟩
theorem Reps.cons(r:Rep K S t v)(rs:Reps K S ts vs):Reps K S (t::ts) (v::vs):=by refine⟨by simp[rs.1],λi a b e1 e2=>?_⟩;cases i with|zero=>simp at e1 e2;subst e1;subst e2;exact r|succ i=>exact rs.2 i a b (by simpa using e1) (by simpa using e2)
theorem Reps.consT(r:Reps K S (t::ts) vs):∃v vs',vs=v::vs'/\Rep K S t v/\Reps K S ts vs':=by cases vs with|nil=>have:=r.1;simp at this|cons v vs'=>exact⟨v,vs',rfl,r.2 0 t v rfl rfl,by have:=r.1;simpa using this,λi a b e1 e2=>r.2 (i+1) a b (by simpa using e1) (by simpa using e2)⟩
theorem Reps.nilT(r:Reps K S [] vs):vs=[]:=List.length_eq_zero_iff.mp (by rw[←r.1];rfl)
theorem Reps.app(r:Reps K S ts vs)(r':Reps K S ts' vs'):Reps K S (ts++ts') (vs++vs'):=by
 induction ts generalizing vs with
 |nil=>rw[r.nilT];exact r'|cons t ts ih=>obtain⟨v,vs1,rfl,r1,r2⟩:=r.consT;exact(ih r2).cons r1
theorem Reps.get(r:Reps K S ts vs){i:Nat}{t:T}(e:ts[i]?=some t):∃v,vs[i]?=some v/\Rep K S t v:=by
 have hi:i<vs.length:=by rw[←r.1];exact(Qz.mp e).1
 have e2:vs[i]?=some vs[i]:=by simp[hi]
 exact⟨_,e2,r.2 i t _ e e2⟩
theorem Reps.set(r:Reps K S ts vs){t:T}{v:V}(q:Rep K S t v)(j:Nat):Reps K S (ts.set j t) (vs.set j v):=by
 refine⟨by simp[r.1],λi a b e1 e2=>?_⟩;rw[Qc]at e1 e2
 by_cases h:j=i
 .subst h
  by_cases hl:j<ts.length
  .rw[QA rfl,QA hl]at e1;rw[QA rfl,QA (by rw[←r.1];exact hl)]at e2;cases e1;cases e2;exact q
  .rw[QA rfl,QB hl]at e1;cases e1
 .rw[QB h]at e1 e2;exact r.2 i a b e1 e2
theorem Reps.sub(r:Reps K S ts vs)(a b:Nat):Reps K S ((ts.drop a).take b) ((vs.drop a).take b):=by
 refine⟨by simp[r.1],λi x y e1 e2=>?_⟩;rw[getElem?_take]at e1 e2;split at e1
 .rename_i h;rw[QA h]at e2;rw[List.getElem?_drop]at e1 e2;exact r.2 _ x y e1 e2
 .cases e1
theorem CellOk.grow(m:MemOk K S)(g:Grow S S'){p:Addr}{c:Cell}(e:S'.H p=S.H p)(h:CellOk K S p c):CellOk K S' p c:=by cases c with|lst ts=>obtain⟨vs,q,r⟩:=h;exact⟨vs,by rw[e];exact q,r.grow m g⟩|dic ts=>obtain⟨vs,q,r⟩:=h;exact⟨vs,by rw[e];exact q,r.grow m g⟩|ins C ts=>obtain⟨dx,vs,q,r⟩:=h;exact⟨dx,vs,by rw[e];exact q,r.grow m g⟩|dtu ts=>obtain⟨vs,q,r⟩:=h;exact⟨vs,by rw[e];exact q,r.grow m g⟩
def Stp.refl(m:MemOk K S):Stp K S S:=⟨⟨Q3 _,λ_ _=>rfl,λa h1 h2=>absurd (Q5 h2 h1) (Qo _),λ_ _ e _=>e,λ_ h=>⟨h,rfl⟩,λ_ h=>.inl h⟩,m⟩
theorem Stp.trans(a:Stp K S S')(b:Stp K S' S''):Stp K S S'':=by
 have nn:∀p,S'.H p=none->S.H p=none:=λp hn=>by
  cases q:S.H p with
  |none=>rfl|some o=>
   by_cases f:S.off p
   .rw[a.kp _ _ q f]at hn;cases hn
   .exfalso;apply f;refine⟨λc hc z=>?_,λz=>?_⟩
    .have h3:c<S'.M.length:=Q5 hc a.le;obtain⟨o',e',_⟩:=a.mok.some h3;rw[a.al c hc,z,hn]at e';cases e'
    .rw[(a.hk p z).2,q]at hn;cases hn
 refine⟨⟨Qj a.le b.le,λi hi=>(b.al i (Q5 hi a.le)).trans (a.al i hi),λi h1 h2=>?_,λp o e f=>b.kp _ _ (a.kp _ _ e f) (a.off e f),λp h=>⟨(b.hk p (a.hk p h).1).1,(b.hk p (a.hk p h).1).2.trans (a.hk p h).2⟩,λp h=>?_⟩,b.mok⟩
 .by_cases hl:i<S'.M.length
  .rw[b.al i hl];exact a.fr i h1 hl
  .exact nn _ (b.fr i (Nat.le_of_not_lt hl) h2)
 .rcases b.hf p h with q | q
  .exact a.hf p q
  .exact .inr (nn p q)
theorem Stp.new(m:MemOk K S){p:Addr}(hp:S.H p=none)(o:HO):Stp K S ⟨S.α,S.M,upd S.H p o,S.hid⟩:=by
 have g:Grow S ⟨S.α,S.M,upd S.H p o,S.hid⟩:=⟨Q3 _,λ_ _=>rfl,λa h1 h2=>absurd (Q5 h2 h1) (Qo _),λb u e _=>by show upd S.H p o b=_;rw[yk (zF e hp)];exact e,λq h=>⟨h,by obtain⟨_,vs,e⟩:=m.hd q h;exact yk (zF e hp)⟩,λq h=>.inl h⟩;refine⟨g,⟨λa c e=>?_,m.inj,λq h=>?_⟩⟩
 rotate_left
 .obtain⟨h1,vs,e⟩:=m.hd q h;exact⟨h1,vs,(yk (zF e hp)).trans e⟩
 refine(m.cell a c e).grow m g ?_;have ha:a<S.M.length:=(Qz.mp e).1;exact yk ((m.off_none hp).1 a ha)
def Sit.more(S:Sit)(p:Addr)(o:HO)(c:Cell):Sit:=⟨λa=>if a=S.M.length then p else S.α a,S.M++[c],upd S.H p o,S.hid⟩
theorem Grow.more(m:MemOk K S){p:Addr}(hp:S.H p=none)(o:HO)(c:Cell):Grow S (S.more p o c):=by
 refine⟨by show _<=(S.M++[c]).length;simp,λa h=>QB (Qk h),λa h1 h2=>?_,λb u e _=>?_,λq h=>⟨h,by obtain⟨_,vs,e⟩:=m.hd q h;exact yk (zF e hp)⟩,λq h=>.inl h⟩
 .have h3:a<(S.M++[c]).length:=h2;have:a=S.M.length:=by simp at h3;symm
  show S.H (if a=S.M.length then p else S.α a)=none;rw[QA this];exact hp
 .show upd S.H p o b=_;rw[yk (zF e hp)];exact e
theorem Stp.more(m:MemOk K S){p:Addr}(hp:S.H p=none)(o:HO)(c:Cell)(hc:CellOk K (S.more p o c) p c):Stp K S (S.more p o c):=by
 have g:=Grow.more m hp o c;refine⟨g,⟨λa d e=>?_,λa b h1 h2 e=>?_,λq h=>?_⟩⟩
 rotate_right
 .obtain⟨h1,vs,e⟩:=m.hd q h;refine⟨λa ha z=>?_,vs,(yk (zF e hp)).trans e⟩;have z':(if a=S.M.length then p else S.α a)=q:=z
  by_cases hl:a=S.M.length
  .rw[QA hl]at z';rw[←z',hp]at e;cases e
  .rw[QB hl]at z';have h3:a<(S.M++[c]).length:=ha;exact h1 a (by simp at h3;symm) z'
 .have e':(S.M++[c])[a]?=some d:=e
  by_cases ha:a<S.M.length
  .rw[Q6 ha]at e';show CellOk K _ (if a=S.M.length then p else S.α a) d;rw[QB (Qk ha)];exact(m.cell a d e').grow m g (yk ((m.off_none hp).1 a ha))
  .rw[Q8 (Nat.le_of_not_lt ha)]at e';have h3:a-S.M.length=0:=by cases q:a-S.M.length with|zero=>rfl|succ k=>rw[q]at e';simp at e'
   rw[h3]at e';cases e';show CellOk K _ (if a=S.M.length then p else S.α a) c;rw[QA ⋯];exact hc
 .have h1':a<(S.M++[c]).length:=h1;have h2':b<(S.M++[c]).length:=h2;have e':(if a=S.M.length then p else S.α a)=(if b=S.M.length then p else S.α b):=e;simp at h1' h2'
  by_cases ha:a=S.M.length
  .by_cases hb:b=S.M.length
   .symm
   .rw[QA ha,QB hb]at e';exact absurd e'.symm ((m.off_none hp).1 b ⋯)
  .by_cases hb:b=S.M.length
   .rw[QB ha,QA hb]at e';exact absurd e' ((m.off_none hp).1 a ⋯)
   .rw[QB ha,QB hb]at e';exact m.inj a b ⋯ ⋯ e'
def Sit.put(S:Sit)(a:Nat)(o:HO)(c:Cell):Sit:=⟨S.α,S.M.set a c,upd S.H (S.α a) o,S.hid⟩
theorem Grow.put(m:MemOk K S){a:Nat}(ha:a<S.M.length)(o:HO)(c:Cell):Grow S (S.put a o c):=by
 refine⟨by show _<=(S.M.set a c).length;simp,λ_ _=>rfl,λb h1 h2=>?_,λb u e f=>?_,λq h=>⟨h,yk (Ne.symm ((m.hd q h).1 a ha))⟩,λq h=>.inl h⟩
 .have h3:b<(S.M.set a c).length:=h2;simp at h3;exact absurd (Q5 h3 h1) (Qo _)
 .show upd S.H (S.α a) o b=_;rw[yk (Ne.symm (f.1 a ha))];exact e
theorem Stp.put(m:MemOk K S){a:Nat}(ha:a<S.M.length)(o:HO)(c:Cell)(hc:CellOk K (S.put a o c) (S.α a) c):Stp K S (S.put a o c):=by
 have g:=Grow.put m ha o c;refine⟨g,⟨λb d e=>?_,λi j h1 h2 e=>?_,λq h=>?_⟩⟩
 rotate_right
 .obtain⟨h1,vs,e⟩:=m.hd q h;refine⟨λb hb z=>?_,vs,(yk (Ne.symm (h1 a ha))).trans e⟩;have h3:b<(S.M.set a c).length:=hb;simp at h3;exact h1 b h3 z
 .have e':(S.M.set a c)[b]?=some d:=e;rw[Qc]at e'
  by_cases h:a=b
  .subst h;rw[QA rfl,QA ha]at e';cases e';exact hc
  .rw[QB h]at e';refine(m.cell b d e').grow m g (yk λz=>h ?_);exact(m.inj b a (Qz.mp e').1 ha z).symm
 .have h1':i<(S.M.set a c).length:=h1;have h2':j<(S.M.set a c).length:=h2;simp at h1' h2';exact m.inj i j h1' h2' e
end
def EvR(K:Frag)(S:Sit)(Jτ:Ev)(J:L2.St):Prop:=Jτ.length=J.length/\∀(i:Nat) t,Jτ[i]?=some (some t)->∃v,J[i]?=some (some v)/\Rep K S t v
class Mo (K:Frag) {β γ:Type} (R:Sit->β->γ->Prop):Prop where
 mo:∀{S S' b c},MemOk K S->Stp K S S'->R S b c->R S' b c
noncomputable def UnR:Sit->Unit->Unit->Prop:=λ_ _ _=>True
noncomputable def EqR{β:Type}:Sit->β->β->Prop:=λ_ b c=>b=c
noncomputable def PrR{A AV B BV:Type}(RA:Sit->A->AV->Prop)(RB:Sit->B->BV->Prop):Sit->A × B->AV × BV->Prop:=λS a v=>RA S a.1 v.1/\RB S a.2 v.2
instance (K):Mo K (Rep K):=⟨λm s r=>r.grow m s.toGrow⟩
instance (K):Mo K (Reps K):=⟨λm s r=>r.grow m s.toGrow⟩
instance (K):Mo K (EvR K):=⟨λm s r=>⟨r.1,λi t e=>let ⟨v,e',q⟩:=r.2 i t e;⟨v,e',q.grow m s.toGrow⟩⟩⟩
instance (K):Mo K UnR:=⟨λ_ _ r=>r⟩
instance (K) {β:Type}:Mo K (EqR (β:=β)):=⟨λ_ _ r=>r⟩
instance (K) {A AV B BV:Type} (RA:Sit->A->AV->Prop) (RB:Sit->B->BV->Prop) [Mo K RA] [Mo K RB]:Mo K (PrR RA RB):=⟨λm s r=>⟨Mo.mo m s r.1,Mo.mo m s r.2⟩⟩
def zs0(K:Frag)(S:Sit)(fs:List (Str × T))(od:Option Addr):Prop:=(fs=[]/\od=none)\/∃d us,od=some d/\S.H d=some (.xd us)/\RepF K S fs us
def Fin{γ:Type}(XE:XK)(R:Sit->β->γ->Prop)(K:Frag)(S:Sit)(o:Out β)(Q:γ->Hp->Prop):Prop:=match o with
 |.ok b M'=>∀S' c,S'.M=M'->Stp K S S'->R S' b c->Q c S'.H|.exn C fs M'=>∀S' od,S'.M=M'->Stp K S S'->zs0 K S' fs od->XE (.ref C) od S'.H|.bad=>False
theorem Fin.later{K:Frag}{o:Out β}{Q:γ->Hp->Prop}(s:Stp K S S1)(h:Fin XE R K S o Q):Fin XE R K S1 o Q:=by cases o with|ok b M'=>exact λS' c e s' r=>h S' c e (s.trans s') r|exn C fs M'=>exact λS' c e s' r=>h S' c e (s.trans s') r|bad=>exact h
theorem Fin.mono{K:Frag}{o:Out β}{Q':γ->Hp->Prop}(i:∀c H,Q c H->Q' c H)(h:Fin XE R K S o Q):Fin XE R K S o Q':=by cases o with|ok b M'=>exact λS' c e s' r=>i _ _ (h S' c e s' r)|exn C fs M'=>exact h|bad=>exact h
def LN{A AV:Type}(XE:XK)(R:Sit->β->γ->Prop)(K:Frag)(RA:Sit->A->AV->Prop)(k:A->Ev->Mem->Out β)(av:AV)(J:L2.St)(H:Hp)(Q:γ->Hp->Prop):Prop:=
 ∃(S:Sit) (Jτ:Ev) (a:A),S.H=H/\MemOk K S/\EvR K S Jτ J/\RA S a av/\Fin XE R K S (k a Jτ S.M) Q
def L0{A AV:Type}(XE:XK)(R:Sit->β->γ->Prop)(K:Frag)(RA:Sit->A->AV->Prop)(k:A->Mem->Out β)(av:AV)(H:Hp)(Q:γ->Hp->Prop):Prop:=
 ∃(S:Sit) (a:A),S.H=H/\MemOk K S/\RA S a av/\Fin XE R K S (k a S.M) Q
section
variable {K:Frag} 
theorem LN.bind{RA:Sit->A->AV->Prop}{RB:Sit->B->BV->Prop}[Mo K RA]{k:A->B->Ev->Mem->Out β}{Q:γ->Hp->Prop}
  (h:LN XE R K RA (λa J M=>(f a J M).bind λb M1=>k a b J M1) av J H Q) :
  LN XE RB K RA f av J H (λbv H1=>LN XE R K (PrR RA RB) (λab=>k ab.1 ab.2) (av,bv) J H1 Q):=by
 obtain⟨S,Jτ,a,e,m,ev,ra,Y⟩:=h;refine⟨S,Jτ,a,e,m,ev,ra,?_⟩;replace Y:Fin XE R K S ((f a Jτ S.M).bind λb M1=>k a b Jτ M1) Q:=Y;cases q:f a Jτ S.M with
 |bad=>rw[q]at Y;exact Y|exn C fs M'=>rw[q]at Y;exact Y|ok b M1=>rw[q]at Y;intro S1 c e1 s1 r1;refine⟨S1,Jτ,(a,b),rfl,s1.mok,Mo.mo m s1 ev,⟨Mo.mo m s1 ra,r1⟩,?_⟩;rw[e1];exact Y.later s1
theorem LN.l0{k:A->Mem->Out β}{av:AV}{Q:γ->Hp->Prop}(h:LN XE R K RA (λa _ M=>k a M) av J H Q):L0 XE R K RA k av H Q:=by obtain⟨S,Jτ,a,e,m,ev,ra,Y⟩:=h;exact⟨S,a,e,m,ra,Y⟩
theorem LN.mono{k:A->Ev->Mem->Out β}{av:AV}{Q':γ->Hp->Prop}(h:LN XE R K RA k av J H Q)(i:∀c H,Q c H->Q' c H):LN XE R K RA k av J H Q':=by obtain⟨S,Jτ,a,e,m,ev,ra,Y⟩:=h;exact⟨S,Jτ,a,e,m,ev,ra,Y.mono i⟩
theorem LN.env{RA:Sit->A->AV->Prop}{f:Ev->Mem->Out β}{Q:γ->Hp->Prop}(h:LN XE R K RA (λ_ J M=>f J M) av J H Q):LN XE R K UnR (λ_ J M=>f J M) () J H Q:=by obtain⟨S,Jτ,a,e,m,ev,ra,Y⟩:=h;exact⟨S,Jτ,(),e,m,ev,trivial,Y⟩
end
def lE(XE:XK)(K:Frag)(f:Ev->Mem->Out T):TE:=λJ H Q=>LN XE (Rep K) K UnR (λ_ J M=>f J M) () J H Q
def lT(XE:XK)(K:Frag)(f:Ev->Mem->Out Bool):TT:=λJ H Q=>LN XE EqR K UnR (λ_ J M=>f J M) () J H Q
def lA(XE:XK)(K:Frag)(f:Ev->Mem->Out (List T)):TA:=λJ H Q=>LN XE (Reps K) K UnR (λ_ J M=>f J M) () J H Q
def GE(X:Cx)(XE:XK)(e:Expr)(f:Ev->Mem->Out T):Prop:=PE X e (lE XE X.K f)
def GT(X:Cx)(XE:XK)(e:Expr)(f:Ev->Mem->Out Bool):Prop:=PT X e (lT XE X.K f)
def GW(X:Cx)(XE:XK)(e:Expr)(f:Ev->Mem->Out Bool):Prop:=PW X e (lT XE X.K f)
def GA(X:Cx)(XE:XK)(es:List Expr)(f:Ev->Mem->Out (List T)):Prop:=PA X es (lA XE X.K f)
def PE.imp(h:PE X e t)(i:∀J H Q,t' J H Q->t J H Q):PE X e t':=λρ s J H Q I q=>h ρ s J H Q I (i J H Q q)
def PT.imp(h:PT X e t)(i:∀J H Q,t' J H Q->t J H Q):PT X e t':=λρ s J H Q I q=>h ρ s J H Q I (i J H Q q)
def PW.imp(h:PW X e t)(i:∀J H Q,t' J H Q->t J H Q):PW X e t':=λwhole ρ s J H Q I q=>h whole ρ s J H Q I (i J H Q q)
def PA.imp(h:PA X e t)(i:∀J H Q,t' J H Q->t J H Q):PA X e t':=λpos ρ s J H Q I q=>h pos ρ s J H Q I (i J H Q q)
def PS.imp(h:PS X e t)(i:∀D J H,t' D J H->t D J H):PS X e t':=λρ s J H D I q=>h ρ s J H D I (i D J H q)
def PSs.imp(h:PSs X e t)(i:∀D J H,t' D J H->t D J H):PSs X e t':=λρ s J H D I q=>h ρ s J H D I (i D J H q)
noncomputable def Z(i:Nat):Ev->Mem->Out T:=λJ M=>match J[i]? with
 |some (some t)=>.ok t M|_=>.bad
noncomputable def eC(t:T):Ev->Mem->Out T:=λ_ M=>.ok t M
abbrev j4:=eC (.int 0)
abbrev j7:=eC (.int 2)
abbrev j6:=eC (.int 1)
abbrev j8:=eC (.int 3)
abbrev j9:=eC (.int 4)
def eOp(o:T->T->Mem->Out T)(f g:Ev->Mem->Out T):Ev->Mem->Out T:=λJ M=>(f J M).bind λx M1=>(g J M1).bind λy M2=>o x y M2
def eUn(o:T->Mem->Out T)(f:Ev->Mem->Out T):Ev->Mem->Out T:=λJ M=>(f J M).bind λx M1=>o x M1
noncomputable def blT(t:T)(M:Mem)(k:Bool->Mem->Out β):Out β:=match t with
 |.bl b=>k b M|_=>.bad
noncomputable section
def yq(f:Ev->Mem->Out T):Ev->Mem->Out Bool:=λJ M=>(f J M).bind λx M1=>blT x M1 λb M2=>.ok b M2
def zaF(f g:Ev->Mem->Out Bool):Ev->Mem->Out Bool:=λJ M=>(f J M).bind λc M1=>if c=true then g J M1 else .ok false M1
def zby(f g:Ev->Mem->Out Bool):Ev->Mem->Out Bool:=λJ M=>(f J M).bind λc M1=>if c=true then .ok true M1 else g J M1
def zaW(f:Ev->Mem->Out Bool):Ev->Mem->Out Bool:=λJ M=>(f J M).bind λc M1=>.ok (!c) M1
def zfO(f g:Ev->Mem->Out T):Ev->Mem->Out T:=λJ M=>(f J M).bind λx M1=>blT x M1 λb M2=>if b=true then g J M2 else .ok (.bl false) M2
def eOr(f g:Ev->Mem->Out T):Ev->Mem->Out T:=λJ M=>(f J M).bind λx M1=>blT x M1 λb M2=>if b=true then .ok (.bl true) M2 else g J M2
def zhn(f:Ev->Mem->Out T):Ev->Mem->Out T:=λJ M=>(f J M).bind λx M1=>blT x M1 λb M2=>.ok (.bl (!b)) M2
def eIf(c:Ev->Mem->Out Bool)(f g:Ev->Mem->Out T):Ev->Mem->Out T:=λJ M=>(c J M).bind λb M1=>if b=true then f J M1 else g J M1
def ze:Ev->Mem->Out (List T):=λ_ M=>.ok [] M
def zb(f:Ev->Mem->Out T)(g:Ev->Mem->Out (List T)):Ev->Mem->Out (List T):=λJ M=>(f J M).bind λx M1=>(g J M1).bind λxs M2=>.ok (x::xs) M2
def yA(g:Ev->Mem->Out (List T)):Ev->Mem->Out T:=λJ M=>(g J M).bind λxs M1=>if xs.length<=sizeLine then .ok (.tup xs) M1 else .bad
def zu(g:Ev->Mem->Out (List T)):Ev->Mem->Out (List T):=λJ M=>(g J M).bind λxs M1=>if xs.length<=sizeLine then .ok xs M1 else .bad
def eFz(g:Ev->Mem->Out (List T)):Ev->Mem->Out T:=λJ M=>(g J M).bind λxs M1=>.ok (.lst xs) M1
def eTk(g:Ev->Mem->Out (List T)):Ev->Mem->Out T:=λJ M=>(g J M).bind λxs M1=>.ok (.ref M1.length) (M1++[.lst xs])
def yf(f:List T->Mem->Out T)(g:Ev->Mem->Out (List T)):Ev->Mem->Out T:=λJ M=>(g J M).bind λts M1=>f ts M1
def zeA(o o':T->T->Mem->Out T)(f g h:Ev->Mem->Out T):Ev->Mem->Out T:=λJ M=>(f J M).bind λx M1=>(g J M1).bind λy M2=>(o x y M2).bind λz M3=>blT z M3 λb M4=>if b=true then(h J M4).bind λw M5=>o' y w M5 else .ok (.bl false) M4
def lR2(XE:XK)(K:Frag)(o:T->T->Mem->Out T):R2:=λx y H Q=>L0 XE (Rep K) K (PrR (Rep K) (Rep K)) (λa M=>o a.1 a.2 M) (x,y) H Q
def lR1(XE:XK)(K:Frag)(o:T->Mem->Out T):V->Hp->VK->Prop:=λx H Q=>L0 XE (Rep K) K (Rep K) o x H Q
def lRN(XE:XK)(K:Frag)(o:List T->Mem->Out T):List V->Hp->VK->Prop:=λxs H Q=>L0 XE (Rep K) K (Reps K) o xs H Q
end
def FinL(XE:XK)(K:Frag)(S:Sit)(o:Out (List T))(Q:VK):Prop:=match o with
 |.ok xs M'=>∀S' p vs,S'.M=M'->Stp K S S'->S.H p=none->p ∈ S'.hid->S'.H p=some (.lst vs)->Reps K S' xs vs->Q (.ref p) S'.H|.exn C fs M'=>∀S' od,S'.M=M'->Stp K S S'->zs0 K S' fs od->XE (.ref C) od S'.H|.bad=>False
theorem FinL.later{K:Frag}(s:Stp K S S1)(h:FinL XE K S o Q):FinL XE K S1 o Q:=by
 have nn:∀p,S1.H p=none->S.H p=none:=λp hn=>by
  cases q:S.H p with
  |none=>rfl|some o=>
   by_cases f:S.off p
   .rw[s.kp _ _ q f]at hn;cases hn
   .exfalso;apply f;refine⟨λc hc z=>?_,λz=>?_⟩
    .have h3:c<S1.M.length:=Q5 hc s.le;obtain⟨o',e',_⟩:=s.mok.some h3;rw[s.al c hc,z,hn]at e';cases e'
    .rw[(s.hk p z).2,q]at hn;cases hn
 cases o with|ok b M'=>exact λS' p vs e s' f=>h S' p vs e (s.trans s') (nn p f)|exn C fs M'=>exact λS' c e s' r=>h S' c e (s.trans s') r|bad=>exact h
noncomputable def lL(XE:XK)(K:Frag)(f:Ev->Mem->Out (List T)):TE:=λJ H Q=>∃(S:Sit) (Jτ:Ev),S.H=H/\MemOk K S/\EvR K S Jτ J/\FinL XE K S (f Jτ S.M) Q
def GL(X:Cx)(XE:XK)(e:Expr)(f:Ev->Mem->Out (List T)):Prop:=PE X e (lL XE X.K f)
section
variable {K:Frag} 
noncomputable def Sit.show(S':Sit)(h:List Addr):Sit:=⟨S'.α,S'.M,S'.H,h⟩
theorem Rep.show(sub:∀p ∈ h,p ∈ S'.hid){t:T}{v:V}(r:Rep K S' t v):Rep K (S'.show h) t v:=by
 induction r with
 |non=>exact .non|bl b=>exact .bl b|int b=>exact .int b|str b=>exact .str b|ty b=>exact .ty b|tup h l _ ih=>exact .tup h l ih|lst h l _ ih=>
  refine .lst ?_ l ih;rcases h with⟨h,f⟩ | h
  .exact .inl ⟨h,f.1,λz=>f.2 (sub _ z)⟩
  .exact .inr h
 |ref h=>exact .ref (S:=S'.show _) h|dct h l _ ih=>exact .dct h l ih|exc h hd l _ ih=>exact .exc h hd l ih
def Reps.show(sub:∀p ∈ h,p ∈ S'.hid){ts:List T}{vs:List V}(r:Reps K S' ts vs):Reps K (S'.show h) ts vs:=⟨r.1,λi t v e1 e2=>(r.2 i t v e1 e2).show sub⟩
theorem CellOk.show(sub:∀p ∈ h,p ∈ S'.hid){p:Addr}{c:Cell}(q:CellOk K S' p c):CellOk K (S'.show h) p c:=by cases c with|lst ts=>obtain⟨vs,q,r⟩:=q;exact⟨vs,q,r.show sub⟩|dic ts=>obtain⟨vs,q,r⟩:=q;exact⟨vs,q,r.1,r.2.show sub⟩|ins C ts=>obtain⟨dx,vs,q,r⟩:=q;exact⟨dx,vs,q,r.1,r.2.show sub⟩|dtu ts=>obtain⟨vs,q,r⟩:=q;exact⟨vs,q,r.1,r.2.show sub⟩
theorem Stp.show(s:Stp K S S'):Stp K S (S'.show S.hid):=by have sub:∀p ∈ S.hid,p ∈ S'.hid:=λp h=>(s.hk p h).1;exact⟨⟨s.le,s.al,s.fr,s.kp,λp h=>⟨h,(s.hk p h).2⟩,λp h=>.inl h⟩,⟨λa c e=>(s.mok.cell a c e).show sub,s.mok.inj,λp h=>s.mok.hd p (sub p h)⟩⟩
theorem zk1(s:Stp K S S'){p:Addr}{vs:List V}(hn:S.H p=none)(m:MemOk K S)(hp:p ∈ S'.hid)(e:S'.H p=some (.lst vs)){xs:List T}(r:Reps K S' xs vs):Rep K (S'.show S.hid) (.lst xs) (.ref p):=by have sub:∀p ∈ S.hid,p ∈ S'.hid:=λp h=>(s.hk p h).1;refine .lst (.inl ⟨.inl e,(s.mok.hd p hp).1,λz=>?_⟩) r.1 (r.show sub).2;obtain⟨_,us,q⟩:=m.hd p z;rw[hn]at q;cases q
noncomputable def Sit.track(S':Sit)(p:Addr)(xs:List T)(h:List Addr):Sit:=⟨λa=>if a=S'.M.length then p else S'.α a,S'.M++[.lst xs],S'.H,h⟩
theorem Rep.track(hp:p ∈ S'.hid)(sub:∀p ∈ hh,p ∈ S'.hid){t:T}{v:V}(r:Rep K S' t v):Rep K (S'.track p xs hh) t v:=by
 induction r with
 |non=>exact .non|bl b=>exact .bl b|int b=>exact .int b|str b=>exact .str b|ty b=>exact .ty b|tup h l _ ih=>exact .tup h l ih|lst h l _ ih=>
  refine .lst ?_ l ih;rcases h with⟨h,f⟩ | h
  .refine .inl ⟨h,λa ha z=>?_,λz=>f.2 (sub _ z)⟩;have z':(if a=S'.M.length then p else S'.α a)=_:=z
   by_cases hl:a=S'.M.length
   .rw[QA hl]at z';rw[←z']at f;exact f.2 hp
   .rw[QB hl]at z';have h3:a<(S'.M++[Cell.lst xs]).length:=ha;exact f.1 a (by simp at h3;symm) z'
  .exact .inr h
 |@ref a h=>have:S'.α a=(S'.track p xs hh).α a:=(QB (Qk h)).symm;rw[this];exact .ref (by show a<(S'.M++[Cell.lst xs]).length;simp;symm)
 |dct h l _ ih=>exact .dct h l ih|exc h hd l _ ih=>exact .exc h hd l ih
def Reps.track(hp:p ∈ S'.hid)(sub:∀p ∈ h,p ∈ S'.hid){ts:List T}{vs:List V}(r:Reps K S' ts vs):Reps K (S'.track p xs h) ts vs:=⟨r.1,λi t v e1 e2=>(r.2 i t v e1 e2).track hp sub⟩
theorem CellOk.track(hp:p ∈ S'.hid)(sub:∀p ∈ h,p ∈ S'.hid){q:Addr}{c:Cell}(o:CellOk K S' q c):CellOk K (S'.track p xs h) q c:=by cases c with|lst ts=>obtain⟨vs,q,r⟩:=o;exact⟨vs,q,r.track hp sub⟩|dic ts=>obtain⟨vs,q,r⟩:=o;exact⟨vs,q,r.1,r.2.track hp sub⟩|ins C ts=>obtain⟨dx,vs,q,r⟩:=o;exact⟨dx,vs,q,r.1,r.2.track hp sub⟩|dtu ts=>obtain⟨vs,q,r⟩:=o;exact⟨vs,q,r.1,r.2.track hp sub⟩
theorem Stp.track(s:Stp K S S')(m:MemOk K S){p:Addr}{vs:List V}(hn:S.H p=none)(hp:p ∈ S'.hid)(e:S'.H p=some (.lst vs)){xs:List T}(r:Reps K S' xs vs):Stp K S (S'.track p xs S.hid):=by
 have sub:∀p ∈ S.hid,p ∈ S'.hid:=λp h=>(s.hk p h).1;have lt:∀a,a<S'.M.length->(S'.track p xs S.hid).α a=S'.α a:=λa h=>QB (Qk h);refine⟨⟨Qj s.le (by show _<=(S'.M++[Cell.lst xs]).length;simp),λa h=>(lt a (Q5 h s.le)).trans (s.al a h),λa h1 h2=>?_,s.kp,λp h=>⟨h,(s.hk p h).2⟩,λp h=>.inl h⟩,⟨λa c e2=>?_,λa b h1 h2 e2=>?_,λq h=>?_⟩⟩
 .by_cases hl:a<S'.M.length
  .rw[lt a hl];exact s.fr a h1 hl
  .have h3:a<(S'.M++[Cell.lst xs]).length:=h2;have:a=S'.M.length:=by simp at h3;symm
   show S.H (if a=S'.M.length then p else S'.α a)=none;rw[QA this];exact hn
 .have e':(S'.M++[Cell.lst xs])[a]?=some c:=e2
  by_cases ha:a<S'.M.length
  .rw[Q6 ha]at e';rw[lt a ha];exact(s.mok.cell a c e').track hp sub
  .rw[Q8 (Nat.le_of_not_lt ha)]at e';have h3:a-S'.M.length=0:=by cases q:a-S'.M.length with|zero=>rfl|succ k=>rw[q]at e';simp at e'
   rw[h3]at e';cases e';show CellOk K _ (if a=S'.M.length then p else S'.α a) _;rw[QA ⋯];exact⟨vs,e,r.track hp sub⟩
 .have h1':a<(S'.M++[Cell.lst xs]).length:=h1;have h2':b<(S'.M++[Cell.lst xs]).length:=h2;have e':(if a=S'.M.length then p else S'.α a)=(if b=S'.M.length then p else S'.α b):=e2;simp at h1' h2'
  by_cases ha:a=S'.M.length
  .by_cases hb:b=S'.M.length
   .symm
   .rw[QA ha,QB hb]at e';exact absurd e'.symm ((s.mok.hd p hp).1 b ⋯)
  .by_cases hb:b=S'.M.length
   .rw[QB ha,QA hb]at e';exact absurd e' ((s.mok.hd p hp).1 a ⋯)
   .rw[QB ha,QB hb]at e';exact s.mok.inj a b ⋯ ⋯ e'
 .obtain⟨h1,us,q1⟩:=s.mok.hd q (sub q h);refine⟨λa ha z=>?_,us,q1⟩;have z':(if a=S'.M.length then p else S'.α a)=q:=z;have h3:a<(S'.M++[Cell.lst xs]).length:=ha
  by_cases hl:a=S'.M.length
  .rw[QA hl]at z';obtain⟨_,us2,q2⟩:=m.hd q h;rw[←z',hn]at q2;cases q2
  .rw[QB hl]at z';exact h1 a (by simp at h3;symm) z'
def Sit.hide(S:Sit)(p:Addr)(vs:List V):Sit:=⟨S.α,S.M,upd S.H p (.lst vs),p::S.hid⟩
theorem Stp.hide(m:MemOk K S){p:Addr}(hp:S.H p=none)(vs:List V):Stp K S (S.hide p vs):=by
 have g:Grow S (S.hide p vs):=⟨Q3 _,λ_ _=>rfl,λa h1 h2=>absurd (Q5 h2 h1) (Qo _),λb u e _=>by show upd S.H p _ b=_;rw[yk (zF e hp)];exact e,λq h=>⟨.tail _ h,by obtain⟨_,vs,e⟩:=m.hd q h;exact yk (zF e hp)⟩,λq h=>by
  cases h with
  |head=>exact .inr hp
  | tail _ h=>exact .inl h⟩
 refine⟨g,⟨λa c e=>?_,m.inj,λq h=>?_⟩⟩
 .have ha:a<S.M.length:=(Qz.mp e).1;exact(m.cell a c e).grow m g (yk ((m.off_none hp).1 a ha))
 .cases h with
  |head=>exact⟨(m.off_none hp).1,vs,qA⟩|tail _ h=>obtain⟨h1,us,e⟩:=m.hd q h;exact⟨h1,us,(yk (zF e hp)).trans e⟩
end
section
variable  {XE:XK}    {pos:Pos} 
theorem zb6(h:PE X e (tC v))(r:∀S,Rep X.K S t v):GE X XE e (eC t):=PE.imp h λJ H Q h9=>by obtain⟨S,Jτ,_,e,m,ev,_,Y⟩:=h9;show Q v H;rw[←e];exact Y S v rfl (.refl m) (r S)
theorem ziz{K:Frag}(h:lE XE K (eOp o f g) J H Q):lE XE K f J H λx H1=>lE XE K g J H1 λy H2=>lR2 XE K o x y H2 Q:=
 LN.mono (LN.bind (f:=λ_ J M=>f J M) (k:=λ_ x J M1=>(g J M1).bind λy M2=>o x y M2) (RB:=Rep K) h) λv H1 h1=>LN.mono (LN.env (f:=g) (LN.bind (f:=λ_ J M=>g J M) (k:=λ(ax:Unit × T) y J M2=>o ax.2 y M2) (RB:=Rep K) h1)) λw H2 h2=>by obtain⟨S,Jτ,a,e,m,ev,ra,Y⟩:=h2;exact⟨S,(a.1.2,a.2),e,m,⟨ra.1.2,ra.2⟩,Y⟩
theorem ziy{K:Frag}{k:Bool->Mem->Out β}{Q:γ->Hp->Prop}(r:Rep K S t v)(h:Fin XE R K S (blT t M k) Q):∃b,v = .bl b/\t = .bl b/\Fin XE R K S (k b M) Q:=by cases r with|bl b=>exact⟨b,rfl,rfl,h⟩|_=>exact h.elim
theorem tif{tg:Ev->Mem->Out Bool}{K:Frag}{p:Bool->Ev->Mem->Out Bool}(h:LN XE EqR K UnR (λ_ J M=>(tf J M).bind λc M1=>p c J M1) () J H Q):lT XE K tf J H λc H1=>lT XE K (λJ M=>p c J M) J H1 Q:=
 LN.mono (LN.bind (f:=λ_ J M=>tf J M) (k:=λ_ c J M1=>p c J M1) (RB:=EqR) h) λc H1 h2=>by obtain⟨S,Jτ,a,e,m,ev,ra,Y⟩:=h2;have:a.2=c:=ra.2;subst this;exact⟨S,Jτ,(),e,m,ev,trivial,Y⟩
theorem zit{K:Frag}(h:lT XE K (λ_ M=>.ok d M) J H Q):Q d H:=by obtain⟨S,Jτ,a,e,m,ev,ra,Y⟩:=h;rw[←e];exact Y S d rfl (.refl m) rfl
theorem zlS{K:Frag}(h:lE XE K (λ_ M=>.ok d M) J H Q)(r:∀S,Rep K S d v):Q v H:=by obtain⟨S,Jτ,a,e,m,ev,ra,Y⟩:=h;rw[←e];exact Y S v rfl (.refl m) (r S)
variable  {rest:List Expr}
def GW.gt(h:GW X XE e tf):GT X XE e tf:=PW.pt h
theorem eif{K:Frag}{Q:VK}{p:Bool->Ev->Mem->Out T}(h:LN XE (Rep K) K UnR (λ_ J M=>(f J M).bind λx M1=>blT x M1 λb M2=>p b J M2) () J H Q):lE XE K f J H λx H1=>∃c,x = .bl c/\lE XE K (λJ M=>p c J M) J H1 Q:=
 LN.mono (LN.bind (f:=λ_ J M=>f J M) (k:=λ_ x J M1=>blT x M1 λb M2=>p b J M2) (RB:=Rep K) h) λc H1 h2=>by obtain⟨S,Jτ,a,e,m,ev,ra,Y⟩:=h2;obtain⟨b,e1,e2,Y⟩:=ziy ra.2 Y;exact⟨b,e1,S,Jτ,(),e,m,ev,trivial,Y⟩
theorem chain{K:Frag}(hh:lE XE K (zeA o o' f g h) J H Q):zmk (lR2 XE K o) (lR2 XE K o') (lE XE K f) (lE XE K g) (lE XE K h) J H Q:=
 LN.mono (LN.bind (f:=λ_ J M=>f J M) (k:=λ_ x J M1=>(g J M1).bind λy M2=>(o x y M2).bind λz M3=>blT z M3 λb M4=>if b=true then(h J M4).bind λw M5=>o' y w M5 else .ok (.bl false) M4) (RB:=Rep K) hh) λx H1 h1=>
  LN.mono (LN.env (f:=g) (LN.bind (f:=λ_ J M=>g J M) (k:=λ(ax:Unit × T) y J M2=>(o ax.2 y M2).bind λz M3=>blT z M3 λb M4=>if b=true then(h J M4).bind λw M5=>o' y w M5 else .ok (.bl false) M4) (RB:=Rep K) h1)) λy H2 h2=>by
   have h3:=LN.bind (f:=λ(a:(Unit × T) × T) _ M=>o a.1.2 a.2 M) (k:=λa z J M3=>blT z M3 λb M4=>if b=true then(h J M4).bind λw M5=>o' a.2 w M5 else .ok (.bl false) M4) (RB:=Rep K) h2;obtain⟨S,a,e,m,ra,Y⟩:=LN.l0 (k:=λ(a:(Unit × T) × T) M=>o a.1.2 a.2 M) h3;refine⟨S,(a.1.2,a.2),e,m,⟨ra.1.2,ra.2⟩,Y.mono λz H3 h4=>?_⟩;obtain⟨S3,Jτ,a3,e3,m3,ev3,ra3,fin3⟩:=h4;obtain⟨b,e1,_,fin3⟩:=ziy ra3.2 fin3;refine⟨b,e1,?_⟩;cases b with
   |false=>exact(QB Q4).mpr (by rw[←e3];exact fin3 S3 _ rfl (.refl m3) (.bl _))|true=>refine(QA rfl).mpr ?_;have h5:LN XE (Rep K) K (Rep K) (λy J M4=>(h J M4).bind λw M5=>o' y w M5) y J H3 Q:=⟨S3,Jτ,a3.1.2,e3,m3,ev3,ra3.1.2,fin3⟩;refine LN.mono (LN.env (f:=h) (LN.bind (f:=λ_ J M=>h J M) (k:=λy w J M5=>o' y w M5) (RB:=Rep K) h5)) λw H4 h6=>?_;exact LN.l0 (k:=λ(a:T × T) M=>o' a.1 a.2 M) h6
end
inductive Fl where
 |nx (J:Ev) | rt (t:T) | bk (J:Ev) | ct (J:Ev)
abbrev X1:=Ev->Mem->Out (List T)
abbrev X2:=List T->Mem->Out T
abbrev X3:=T->T->Mem->Out T
abbrev X4:=List T->Mem->Out T
abbrev X5:=Ev->Mem->Out Fl
abbrev X7:=Ev->Mem->Out Bool
abbrev X8:=Ev->Mem->Out Ev
abbrev X9:=Ev->Mem->Out T
inductive FlV where
 |nx (J:L2.St) | rt (v:V) | bk (J:L2.St) | ct (J:L2.St)
inductive FlR (K:Frag) (S:Sit):Fl->FlV->Prop where
 |nx {a b}:EvR K S a b->FlR K S (.nx a) (.nx b)
 |rt {a b}:Rep K S a b->FlR K S (.rt a) (.rt b)
 |bk {a b}:EvR K S a b->FlR K S (.bk a) (.bk b)
 |ct {a b}:EvR K S a b->FlR K S (.ct a) (.ct b)
noncomputable def zJ(D:Ends):FlV->Hp->Prop
 |.nx J,H=>D.nx J H|.rt v,H=>D.rt v H|.bk J,H=>D.bk J H|.ct J,H=>D.ct J H
def lS(XE:XK)(K:Frag)(g:X5):TS:=λD J H=>LN XE (FlR K) K UnR (λ_ J M=>g J M) () J H (zJ D)
def GS(X:Cx)(XE:XK)(st:Stmt)(g:X5):Prop:=PS X st (lS XE X.K g)
def GSs(X:Cx)(XE:XK)(st:List Stmt)(g:X5):Prop:=PSs X st (lS XE X.K g)
theorem EvR.set{K:Frag}(r:EvR K S Jτ J){t:T}{v:V}(q:Rep K S t v)(i:Nat):EvR K S (Jτ.set i (some t)) (J.set i (some v)):=by
 refine⟨by simp[r.1],λj u e=>?_⟩;rw[Qc]at e ⊢
 by_cases h:i=j
 .subst h
  by_cases hl:i<Jτ.length
  .rw[QA rfl,QA hl]at e;cases e;exact⟨v,by rw[QA rfl,QA (by rw[←r.1];exact hl)],q⟩
  .rw[QA rfl,QB hl]at e;cases e
 .rw[QB h]at e;obtain⟨w,e2,q2⟩:=r.2 j u e;exact⟨w,by rw[QB h];exact e2,q2⟩
noncomputable def zI:X5:=λJ M=>.ok (.nx J) M
noncomputable def zq6:X5:=λJ M=>.ok (.bk J) M
noncomputable def ztl:X5:=λJ M=>.ok (.ct J) M
noncomputable def zbt(k:X5)(fl:Fl)(M:Mem):Out Fl:=match fl with
 |.nx J=>k J M|.rt t=>.ok (.rt t) M|.bk J=>.ok (.bk J) M|.ct J=>.ok (.ct J) M
noncomputable section
def yh(g h:X5):X5:=λJ M=>(g J M).bind (zbt h)
def qD(f:X9):X5:=λJ M=>(f J M).bind λt M1=>.ok (.rt t) M1
def zB(f:X9):X5:=λJ M=>(f J M).bind λ_ M1=>.ok (.nx J) M1
def sIf(c:X7)(g h:X5):X5:=λJ M=>(c J M).bind λb M1=>if b=true then g J M1 else h J M1
def zn(i:Nat)(f:X9):X5:=λJ M=>(f J M).bind λt M1=>.ok (.nx (J.set i (some t))) M1
def lG(XE:XK)(K:Frag)(bd:T->X8):TG:=λv J H Q=>LN XE (EvR K) K (Rep K) bd v J H Q
def lGs(XE:XK)(K:Frag)(bd:List T->X8):TGs:=λv J H Q=>LN XE (EvR K) K (Reps K) bd v J H Q
end
def GG(X:Cx)(XE:XK)(tg:Expr)(bd:T->X8):Prop:=PG X tg (lG XE X.K bd)
def GGs(X:Cx)(XE:XK)(tg:List Expr)(bd:List T->X8):Prop:=PGs X tg (lGs XE X.K bd)
noncomputable def qp(i:Nat):T->X8:=λt J M=>.ok (J.set i (some t)) M
noncomputable def zd3:List T->X8:=λts J M=>match ts with
 |[]=>.ok J M|_=>.bad
def yY(b:T->X8)(bs:List T->X8):List T->X8:=λts J M=>match ts with
 |t::r=>(b t J M).bind λJ1 M1=>bs r J1 M1|_=>.bad
noncomputable def zfX(n:Nat)(bs:List T->X8):T->X8:=λt J M=>match t with
 |.tup xs=>if xs.length=n then bs xs J M else .bad|_=>.bad
def zax(f:X9)(b:T->X8):X5:=λJ M=>(f J M).bind λt M1=>(b t J M1).bind λJ1 M2=>.ok (.nx J1) M2
def zf1(K:Frag)(S:Sit)(items:List T)(Jq:It):Prop:=∀S',Stp K S S'->
 (∀(i:Nat) t,items[i]?=some t->Jq.go i S'.H/\∀x H',Jq.yld i S'.H x H'->∃S'',S''.H=H'/\S''.M=S'.M/\Stp K S' S''/\Rep K S'' t x)/\∀i,items.length<=i->Jq.stop i S'.H
instance (K):Mo K (zf1 K):=⟨λ_ s r=>λS' s'=>r S' (s.trans s')⟩
def lI(XE:XK)(K:Frag)(f:X1):TI:=λJ H R=>LN XE (zf1 K) K UnR (λ_ J M=>f J M) () J H R
def GI(X:Cx)(XE:XK)(tg iter:Expr)(f:X1):Prop:=PI X tg iter (lI XE X.K f)
noncomputable def zaj(k:X5)(fl:Fl)(M:Mem):Out Fl:=match fl with
 |.nx J=>k J M|.ct J=>k J M|.bk J=>.ok (.nx J) M|.rt t=>.ok (.rt t) M
def forL(bd:T->X8)(body:X5):List T->X5
 |[],J,M=>.ok (.nx J) M|x::xs,J,M=>(bd x J M).bind λJ1 M1=>(body J1 M1).bind (zaj (forL bd body xs))
def zaw(it:X1)(bd:T->X8)(body:X5):X5:=λJ M=>(it J M).bind λxs M1=>forL bd body xs J M1
def whileN(c:X7)(body:X5):Nat->X5
 |0,_,_=>.bad|n+1,J,M=>(c J M).bind λb M1=>if b=true then(body J M1).bind (zaj (whileN c body n))else .ok (.nx J) M1
open Classical in
def zbJ(c:X7)(body:X5):X5:=λJ M=>if h:∃n,whileN c body n J M ≠ .bad then whileN c body h.choose J M else .bad
theorem zdh:∀{n:Nat} {J:Ev} {M:Mem} {r:Out Fl},whileN c body n J M=r->r ≠ .bad->whileN c body (n+1) J M=r
 |0,_,_,_,e,h=>absurd e.symm h|n+1,J,M,r,e,h=>by
  unfold whileN at e ⊢;cases q:c J M with
  |bad=>rw[q]at e;exact absurd e.symm h|exn C fs M'=>rw[q]at e;exact e|ok b M1=>
   rw[q]at e;replace e:(if b=true then(body J M1).bind (zaj (whileN c body n))else Out.ok (.nx J) M1)=r:=e;show(if b=true then(body J M1).bind (zaj (whileN c body (n+1)))else Out.ok (.nx J) M1)=r;cases b with
   |false=>exact e|true=>
    rw[QA rfl]at e ⊢;cases q2:body J M1 with
    |bad=>rw[q2]at e;exact absurd e.symm h|exn C fs M'=>rw[q2]at e;exact e|ok fl M2=>rw[q2]at e;cases fl with|nx J2=>exact zdh (n:=n) e h|ct J2=>exact zdh (n:=n) e h|bk J2=>exact e|rt t=>exact e
theorem zhw(e:whileN c body n J M=r)(h:r ≠ .bad):whileN c body (n+k) J M=r:=by induction k with|zero=>exact e|succ k ih=>exact zdh ih h
theorem zmr(n:Nat)(e:whileN c body n J M=r)(h:r ≠ .bad):zbJ c body J M=r:=by have ex:∃n,whileN c body n J M ≠ .bad:=⟨n,by rw[e];exact h⟩;unfold zbJ;rw[dif_pos ex];have h2:=ex.choose_spec;have e1:=zhw (k:=ex.choose) e h;have e2:=zhw (k:=n) rfl h2;rw[Nat.add_comm]at e2;rw[←e2,e1]
def zfG(XE:XK)(K:Frag)(st:T->T->T->Mem->Out Unit):zhu:=λo i v H Q=>L0 XE UnR K (PrR (PrR (Rep K) (Rep K)) (Rep K)) (λa M=>st a.1.1 a.1.2 a.2 M) ((o,i),v) H (λ_ H'=>Q H')
def zaM(st:T->T->T->Mem->Out Unit)(f g:X9):T->X8:=λt J M=>(f J M).bind λo M1=>(g J M1).bind λi M2=>(st o i t M2).bind λ_ M3=>.ok J M3
def zis(get op:X3)(st:T->T->T->Mem->Out Unit)(f g h:X9):X5:=λJ M=>(f J M).bind λo M1=>(g J M1).bind λi M2=>(get o i M2).bind λx M3=>(h J M3).bind λy M4=>(op x y M4).bind λz M5=>(st o i z M5).bind λ_ M6=>.ok (.nx J) M6
section
variable      {pos:Pos}  {st:Stmt} {sts rest:List Stmt}  
theorem zrY{K:Frag}(hh:lS XE K (yh p q) D J H):lS XE K p { D with nx:=lS XE K q D } J H:=by
 obtain⟨S,Jτ,_,e,m,ev,_,Y⟩:=hh;refine⟨S,Jτ,(),e,m,ev,trivial,?_⟩;show Fin XE (FlR K) K S (p Jτ S.M) _;replace Y:Fin XE (FlR K) K S ((p Jτ S.M).bind (zbt q)) (zJ D):=Y;cases o:p Jτ S.M with
 |bad=>rw[o]at Y;exact Y|exn C fs M'=>rw[o]at Y;exact Y|ok fl M1=>rw[o]at Y;intro S1 cc e1 s1 r1;cases r1 with|nx r1=>exact⟨S1,_,(),rfl,s1.mok,r1,trivial,by rw[e1];exact Fin.later s1 Y⟩|rt r1=>exact Y S1 _ e1 s1 (.rt r1)|bk r1=>exact Y S1 _ e1 s1 (.bk r1)|ct r1=>exact Y S1 _ e1 s1 (.ct r1)
def PG.imp(h:PG X tg t)(i:∀v J H Q,t' v J H Q->t v J H Q):PG X tg t':=λρ s J H v u Q I r q=>h ρ s J H v u Q I r (i v J H Q q)
def PGs.imp(h:PGs X tgs t)(i:∀v J H Q,t' v J H Q->t v J H Q):PGs X tgs t':=λρ s J H v u Q I r q=>h ρ s J H v u Q I r (i v J H Q q)
theorem ztM{K:Frag}(hh:LN XE (FlR K) K (Rep K) (λt J M=>(bd t J M).bind λJ1 M2=>.ok (Fl.nx J1) M2) v J H (zJ D)):lG XE K bd v J H D.nx:=by
 obtain⟨S,Jτ,t,e,m,ev,ra,Y⟩:=hh;refine⟨S,Jτ,t,e,m,ev,ra,?_⟩;replace Y:Fin XE (FlR K) K S ((bd t Jτ S.M).bind λJ1 M2=>.ok (Fl.nx J1) M2) (zJ D):=Y;cases o:bd t Jτ S.M with
 |bad=>rw[o]at Y;exact Y|exn C fs M'=>rw[o]at Y;exact Y|ok J1 M1=>rw[o]at Y;intro S1 cc e1 s1 ev1;exact Y S1 (.nx cc) e1 s1 (.nx ev1)
def PI.imp(h:PI X tg iter t)(i:∀J H R,t' J H R->t J H R):PI X tg iter t':=λρ s J H R I q=>h ρ s J H R I (i J H R q)
end
noncomputable def startT(n:Nat)(ts:List T):Ev:=ts.map some++List.replicate (n-ts.length) none
def zj(p n:Nat)(g:X5):X4:=λts M=>if ts.length=p then match g (startT n ts) M with
 |.ok (.rt t) M'=>.ok t M'|.ok (.nx _) M'=>.ok .non M'|_=>.bad else .bad
noncomputable def spT(K:Frag)(f:X4):Sp:=λvs H Q E=>L0 E (Rep K) K (Reps K) f vs H Q
structure CalT (P:Program) (w:World) (K:Frag) (mg:Str->Option Value) (base:Heap) (k:Nat) (x:Str) (ps:List Str) (f:X4):Prop where
 cal:Cal P w K mg base k x ps (spT K f)
 nox:∀ts M C fs M',f ts M ≠ .exn C fs M'
theorem zgj(p n:Nat)(g:X5):∀ts M C fs M',zj p n g ts M ≠ .exn C fs M':=by
 intro ts M C fs M' z;unfold zj at z;split at z
 .split at z<;>cases z
 .cases z
theorem EvR.start{K:Frag}(r:Reps K S ts vs){N:List Str}{n:Nat}(hn:N.length=n):EvR K S (startT n ts) (L2.start N vs):=by
 subst hn;refine⟨by simp[startT,L2.start,r.1],λi t e=>?_⟩;unfold startT at e;unfold L2.start
 by_cases hi:i<ts.length
 .rw[Q6 (by simpa using hi)]at e;rw[Q6 (by simpa[←r.1]using hi)];rw[Qb]at e ⊢;cases q:ts[i]? with
  |none=>rw[q]at e;cases e|some t'=>rw[q]at e;have:t'=t:=Qd (Qd e);subst this;obtain⟨v,e2,r2⟩:=r.get q;exact⟨v,by rw[e2];rfl,r2⟩
 .rw[Q8 (by simpa using hi)]at e;rw[List.getElem?_replicate]at e;split at e<;>cases e
section
variable   {K:Frag}  
theorem zfW{st:List Stmt}(hn:N.length=n){E:XK}{vs:List V}{H:Hp}{Q:VK}(hX:X.K=K)(h:spT K (zj p n g) vs H Q E)(hb:GSs X E0 st g):
  ∃t,PSs X st t/\t { nx:=λ_ H'=>Q .non H',rt:=Q } (start N vs) H:=by
 subst hX;refine⟨_,hb,?_⟩;obtain⟨S,ts,e,m,r,Y⟩:=h;refine⟨S,startT n ts,(),e,m,EvR.start r hn,trivial,?_⟩;show Fin E0 (FlR X.K) X.K S (g (startT n ts) S.M) _;unfold zj at Y
 by_cases hp:ts.length=p
 .rw[QA hp]at Y;cases o:g (startT n ts) S.M with
  |bad=>rw[o]at Y;exact Y|exn C fs M'=>rw[o]at Y;exact Y.elim|ok fl M1=>
   rw[o]at Y;cases fl with
   |nx J1=>intro S1 c e1 s1 r1;cases r1 with|nx r1=>exact Y S1 .non e1 s1 .non
   |rt t=>intro S1 c e1 s1 r1;cases r1 with|rt r1=>exact Y S1 _ e1 s1 r1
   |bk J1=>exact Y.elim|ct J1=>exact Y.elim
 .rw[QB hp]at Y;exact Y.elim
theorem ziO{ps:List Str}(hp:ps.length=p):∀vs H Q E,spT K (zj p n g) vs H Q E->vs.length=ps.length:=by
 rintro vs H Q E ⟨S,ts,e,m,r,Y⟩;rw[←r.1,hp];unfold zj at Y
 by_cases h:ts.length=p
 .exact h
 .rw[QB h]at Y;exact Y.elim
theorem zny{st:Stmt}(D:Df K mg x st ps)(Sc:FnScope N ps (zg st))(hp:ps.length=p)(hn:N.length=n)
  (hb:∀(f:Addr) (cdv:Value) (A:Around) (outer:List PySem.Env) (s:Shared) (H:Hp) (E:XK),Room k (A.deeper (envOfC x (zg st) s.heap.objs.size f cdv))->GSs (zbD CX0 P w K mg base N x (zg st) f cdv A outer s H E).nox E0 (yH st) g) :
  CalT P w K mg base (k+1) x ps (zj p n g):=
 ⟨D.ok Sc (ziO hp) λf cdv A outer s H vs Q E hr h=>zfW hn rfl h (hb f cdv A outer s H E hr),zgj _ _ _⟩
theorem zrW{st:Stmt}(F:Fun K x qual st f fd)(Sc:FnScope N ps (zg st))(hp:ps.length=p)(hn:N.length=n)
  (hb:∀(cdv:Value) (A:Around) (outer:List PySem.Env) (s:Shared) (H:Hp) (E:XK),Room k (A.deeper (envOfC qual (zg st) s.heap.objs.size f cdv))->GSs (zbD CX0 P w K mg base N qual (zg st) f cdv A outer s H E).nox E0 (yH st) g) :
  FnOk P w K mg base CX0 (k+1) f fd ps (spT K (zj p n g)):=
 F.ok Sc (ziO hp) λcdv A outer s H vs Q E hr h=>zfW hn rfl h (hb cdv A outer s H E hr)
theorem zkY{ns:List Int}(hS:SqL K H a (ns.map V.int))(h:f [.lst (ns.map .int)] [] = .ok (.bl true) M'):spT K f [.ref a] H (λv _=>v = .bl true) λ_ _ _=>False:=by
 refine⟨⟨λ_=>0,[],H,[]⟩,[.lst (ns.map .int)],rfl,⟨λa c e=>by simp at e,λa b h=>absurd h (Nat.not_lt_zero _),λp h=>by simp at h⟩,.cons (.lst (vs:=ns.map V.int) ?_ (by simp) ?_) .nil,?_⟩
 .rcases hS with h | h
  .exact .inl ⟨h,λa h=>absurd h (Nat.not_lt_zero _),λz=>by simp at z⟩
  .exact .inr h
 .intro i t v e1 e2;rw[Qb]at e1 e2;cases q:ns[i]? with|none=>rw[q]at e1;cases e1|some z=>rw[q]at e1 e2;cases e1;cases e2;exact .int z
 .show Fin _ _ K _ (f [.lst (ns.map .int)] []) _;rw[h];intro S' c e s r;cases r;rfl
end
section
variable      {p pos:Pos}    
end
inductive T.lt (n:Nat):T->Prop where
 |non:T.lt n .non
 |bl (b:Bool):T.lt n (.bl b)
 |int (i:Int):T.lt n (.int i)
 |str (x:Str):T.lt n (.str x)
 |ty (x:String):T.lt n (.ty x)
 |tup {ts:List T} (h:∀t ∈ ts,T.lt n t):T.lt n (.tup ts)
 |lst {ts:List T} (h:∀t ∈ ts,T.lt n t):T.lt n (.lst ts)
 |ref {a:Nat} (h:a<n):T.lt n (.ref a)
 |dct {kvs:List (Key × T)} (h:∀t ∈ kvs.map (·.2),T.lt n t):T.lt n (.dct kvs)
 |exc {C:Addr} {fs:List (Str × T)} (h:∀t ∈ fs.map (·.2),T.lt n t):T.lt n (.exc C fs)
def Cell.lt(n:Nat):Cell->Prop
 |.lst ts=>∀t ∈ ts,T.lt n t|.dic kvs=>∀k ∈ kvs,T.lt n k.2|.ins _ fs=>∀k ∈ fs,T.lt n k.2|.dtu kvs=>∀k ∈ kvs,T.lt n k.2
inductive Fz (M':Mem) (n:Nat):T->T->Prop where
 |same {t:T} (h:T.lt n t):Fz M' n t t
 |tup {ts us:List T} (l:ts.length=us.length) (h:∀(i:Nat) t u,ts[i]?=some t->us[i]?=some u->Fz M' n t u):Fz M' n (.tup ts) (.tup us)
 |lst {ts us:List T} (l:ts.length=us.length) (h:∀(i:Nat) t u,ts[i]?=some t->us[i]?=some u->Fz M' n t u):Fz M' n (.lst ts) (.lst us)
 |ref {a:Nat} {ts us:List T} (e:M'[a]?=some (.lst ts)) (g:n<=a) (l:ts.length=us.length) (h:∀(i:Nat) t u,ts[i]?=some t->us[i]?=some u->Fz M' n t u):Fz M' n (.ref a) (.lst us)
theorem Rep.lt{K:Frag}(r:Rep K S t v):T.lt S.M.length t:=by
 induction r with
 |non=>exact .non|bl b=>exact .bl b|int b=>exact .int b|str b=>exact .str b|ty b=>exact .ty b|@tup ts p vs h l _ ih=>refine .tup λt ht=>?_;obtain⟨i,hi,rfl⟩:=getElem_of_mem ht;exact ih i _ vs[i] (by simp[hi]) (by simp[←l,hi])
 |@lst ts p vs h l _ ih=>refine .lst λt ht=>?_;obtain⟨i,hi,rfl⟩:=getElem_of_mem ht;exact ih i _ vs[i] (by simp[hi]) (by simp[←l,hi])
 |ref h=>exact .ref h|@dct kvs us p o h l _ ih=>
  refine .dct λt ht=>?_;obtain⟨i,hi,rfl⟩:=getElem_of_mem ht;have hl:i<us.length:=by have:=congrArg List.length l;simp at this hi;symm
  exact ih i _ (us[i]'hl).2 (Q0 hi) (by simp[hl])
 |@exc C fs us p od h hd l _ ih=>
  refine .exc λt ht=>?_;obtain⟨i,hi,rfl⟩:=getElem_of_mem ht;have hl:i<us.length:=by have:=congrArg List.length l;simp at this hi;symm
  exact ih i _ (us[i]'hl).2 (Q0 hi) (by simp[hl])
theorem Reps.lt{K:Frag}(r:Reps K S ts vs):∀t ∈ ts,T.lt S.M.length t:=λt ht=>by
 obtain⟨i,hi,rfl⟩:=getElem_of_mem ht;have hv:i<vs.length:=by rw[←r.1];exact hi
 exact(r.2 i _ vs[i] (by simp[hi]) (by simp[hv])).lt
def zhb{κ:Type}{fs:List (κ × T)}(h:∀t ∈ fs.map (·.2),T.lt n t):∀k ∈ fs,T.lt n k.2:=λk hk=>h _ (List.mem_map_of_mem (f:=(·.2)) hk)
theorem CellOk.lt{K:Frag}(h:CellOk K S p c):Cell.lt S.M.length c:=by cases c with|lst ts=>obtain⟨vs,_,r⟩:=h;exact r.lt|dic ts=>obtain⟨vs,_,r⟩:=h;exact zhb r.2.lt|ins C ts=>obtain⟨dx,vs,_,r⟩:=h;exact zhb r.2.lt|dtu ts=>obtain⟨vs,_,r⟩:=h;exact zhb r.2.lt
theorem T.lt.mono(h:n<=m){t:T}(r:T.lt n t):T.lt m t:=by induction r with|non=>exact .non|bl b=>exact .bl b|int b=>exact .int b|str b=>exact .str b|ty b=>exact .ty b|tup _ ih=>exact .tup ih|lst _ ih=>exact .lst ih|ref g=>exact .ref (Q5 g h)|dct _ ih=>exact .dct ih|exc _ ih=>exact .exc ih
noncomputable def Sit.cut(S:Sit)(n:Nat)(h:List Addr):Sit:=⟨S.α,S.M.take n,S.H,h⟩
section
variable {K:Frag}   
theorem Rep.cut(hn:n<=S'.M.length)(sub:∀p ∈ hh,p ∈ S'.hid){t:T}{v:V}(r:Rep K S' t v)(l:T.lt n t):Rep K (S'.cut n hh) t v:=by
 have ln:(S'.cut n hh).M.length=n:=by show(S'.M.take n).length=n;simp;symm
 induction r with
 |non=>exact .non|bl b=>exact .bl b|int b=>exact .int b|str b=>exact .str b|ty b=>exact .ty b|@tup ts p vs h l2 _ ih=>cases l with|tup hl=>exact .tup h l2 λi t v e1 e2=>ih i t v e1 e2 (hl t (Qa e1))
 |@lst ts p vs h l2 _ ih=>
  cases l with
  |lst hl=>
   refine .lst ?_ l2 λi t v e1 e2=>ih i t v e1 e2 (hl t (Qa e1));rcases h with⟨h,f⟩ | h
   .exact .inl ⟨h,λa ha z=>f.1 a (by rw[ln]at ha;symm) z,λz=>f.2 (sub _ z)⟩
   .exact .inr h
 |@ref a h=>cases l with|ref hl=>exact .ref (S:=S'.cut n hh) (by rw[ln];exact hl)
 |dct h l2 _ ih=>cases l with|dct hl=>exact .dct (S:=S'.cut n hh) h l2 λi t v e1 e2=>ih i t v e1 e2 (hl t (Qa e1))
 |exc h hd l2 _ ih=>cases l with|exc hl=>exact .exc (S:=S'.cut n hh) h hd l2 λi t v e1 e2=>ih i t v e1 e2 (hl t (Qa e1))
def Reps.cut(hn:n<=S'.M.length)(sub:∀p ∈ hh,p ∈ S'.hid){t:List T}{v:List V}(r:Reps K S' t v)(l:∀x ∈ t,T.lt n x):Reps K (S'.cut n hh) t v:=⟨r.1,λi t v e1 e2=>(r.2 i t v e1 e2).cut hn sub (l t (Qa e1))⟩
theorem CellOk.cut(hn:n<=S'.M.length)(sub:∀p ∈ hh,p ∈ S'.hid){p:Addr}{c:Cell}(r:CellOk K S' p c)(l:Cell.lt n c):CellOk K (S'.cut n hh) p c:=by
 have ms:∀{κ:Type} {fs:List (κ × T)},(∀k ∈ fs,T.lt n k.2)->∀t ∈ fs.map (·.2),T.lt n t:=λh t ht=>by obtain⟨k,hk,rfl⟩:=mem_map.mp ht;exact h k hk
 cases c with|lst ts=>obtain⟨vs,q,r⟩:=r;exact⟨vs,q,r.cut hn sub l⟩|dic ts=>obtain⟨vs,q,r⟩:=r;exact⟨vs,q,r.1,r.2.cut hn sub (ms l)⟩|ins C ts=>obtain⟨dx,vs,q,r⟩:=r;exact⟨dx,vs,q,r.1,r.2.cut hn sub (ms l)⟩|dtu ts=>obtain⟨vs,q,r⟩:=r;exact⟨vs,q,r.1,r.2.cut hn sub (ms l)⟩
theorem Stp.cut(s:Stp K S S')(h1:S.M.length<=n)(h2:n<=S'.M.length)(hl:∀(i:Nat) c,i<n->S'.M[i]?=some c->Cell.lt n c):Stp K S (S'.cut n S.hid):=by
 have sub:∀p ∈ S.hid,p ∈ S'.hid:=λp h=>(s.hk p h).1;have ln:(S'.cut n S.hid).M.length=n:=by show(S'.M.take n).length=n;simp;symm
 refine⟨⟨by rw[ln];exact h1,s.al,λa g1 g2=>s.fr a g1 (by rw[ln]at g2;symm),s.kp,λp h=>⟨h,(s.hk p h).2⟩,λp h=>.inl h⟩,⟨λa c e=>?_,λa b g1 g2 e=>s.mok.inj a b (by rw[ln]at g1;symm) (by rw[ln]at g2;symm) e,λp h=>?_⟩⟩
 .have e':(S'.M.take n)[a]?=some c:=e;rw[getElem?_take]at e';split at e'
  .rename_i hi;exact(s.mok.cell a c e').cut h2 sub (hl a c hi e')
  .cases e'
 .obtain⟨g1,vs,g2⟩:=s.mok.hd p (sub p h);exact⟨λa ha z=>g1 a (by rw[ln]at ha;symm) z,vs,g2⟩
theorem Rep.fz(m:MemOk K S')(hn:n<=S'.M.length)(sub:∀p ∈ hh,p ∈ S'.hid){t u:T}(z:Fz S'.M n t u):∀{v:V},Rep K S' t v->Rep K (S'.cut n hh) u v:=by
 have ln:(S'.cut n hh).M.length=n:=by show(S'.M.take n).length=n;simp;symm
 induction z with
 |same h=>exact λr=>r.cut hn sub h|@tup ts us l _ ih=>
  intro v r;cases r with
  |@tup _ p vs h l2 rr=>
   refine .tup h (by rw[←l];exact l2) λi t v e1 e2=>?_;have hi:i<ts.length:=by rw[l];exact(Qz.mp e1).1
   exact ih i ts[i] t (by simp[hi]) e1 (rr i _ v (by simp[hi]) e2)
 |@lst ts us l _ ih=>
  intro v r;cases r with
  |@lst _ p vs h l2 rr=>
   refine .lst ?_ (by rw[←l];exact l2) λi t v e1 e2=>?_
   .rcases h with⟨h,f⟩ | h
    .exact .inl ⟨h,λa ha z=>f.1 a (by rw[ln]at ha;symm) z,λz=>f.2 (sub _ z)⟩
    .exact .inr h
   .have hi:i<ts.length:=by rw[l];exact(Qz.mp e1).1
    exact ih i ts[i] t (by simp[hi]) e1 (rr i _ v (by simp[hi]) e2)
 |@ref a ts us e g l _ ih=>
  intro v r;cases r with
  |ref ha=>
   obtain⟨vs,q,rr⟩:=m.cell a _ e;refine .lst (vs:=vs) (.inl ⟨.inl q,λb hb z=>?_,λz=>?_⟩) (by rw[←l];exact rr.1) λi t v e1 e2=>?_
   .rw[ln]at hb;have:=m.inj b a ⋯ ha z;symm
   .exact(m.hd _ (sub _ z)).1 a ha rfl
   .have hi:i<ts.length:=by rw[l];exact(Qz.mp e1).1
    exact ih i ts[i] t (by simp[hi]) e1 (rr.2 i _ v (by simp[hi]) e2)
end
def Refines(f g:X4):Prop:=∀ts M t' M1,(∀c ∈ M,Cell.lt M.length c)->f ts M = .ok t' M1->∃t M',g ts M = .ok t M'/\M.length<=M1.length/\M1.length<=M'.length/\M1=M'.take M1.length/\(∀(i:Nat) c,M1[i]?=some c->M[i]?=some c\/Cell.lt M1.length c)/\Fz M' M1.length t t'
theorem Cell.lt.mono(h:n<=m){c:Cell}(r:Cell.lt n c):Cell.lt m c:=by cases c with|lst ts=>exact λt ht=>(r t ht).mono h|dic ts=>exact λt ht=>(r t ht).mono h|ins C ts=>exact λt ht=>(r t ht).mono h|dtu ts=>exact λt ht=>(r t ht).mono h
theorem CalT.refine{K:Frag}(C:CalT P w K mg base k x ps g)(h:Refines f g)(nox:∀ts M C fs M',f ts M ≠ .exn C fs M'):CalT P w K mg base k x ps f:=by
 refine⟨?_,nox⟩;obtain⟨⟨fa,fd,F,kp,b,gg⟩⟩:=C.cal;have key:∀vs H Q E,spT K f vs H Q E->spT K g vs H Q E:=by
  rintro vs H Q E ⟨S,ts,e,m,r,Y⟩;refine⟨S,ts,e,m,r,?_⟩;have wf:∀c ∈ S.M,Cell.lt S.M.length c:=λc hc=>by obtain⟨i,hi,rfl⟩:=getElem_of_mem hc;exact(m.cell i _ (by simp[hi])).lt
  cases o:f ts S.M with
  |bad=>rw[o]at Y;exact Y.elim|exn C' fs M'=>exact absurd o (nox _ _ _ _ _)|ok t' M1=>
   rw[o]at Y;obtain⟨t,M',eg,l1,l2,eM,hc,z⟩:=h ts S.M t' M1 wf o;rw[eg];intro S' v e1 s r1;have hl:∀(i:Nat) c,i<M1.length->S'.M[i]?=some c->Cell.lt M1.length c:=λi c hi ec=>by
    have e2:M1[i]?=some c:=by rw[eM,getElem?_take,QA hi,←e1];exact ec
    rcases hc i c e2 with q | q
    .exact(wf c (Qa q)).mono l1
    .exact q
   have sc:=s.cut l1 (by rw[e1];exact l2) hl;refine Y (S'.cut M1.length S.hid) v ?_ sc ?_
   .show S'.M.take M1.length=M1;rw[e1];exact eM.symm
   .exact Rep.fz s.mok (by rw[e1];exact l2) (λp h=>(s.hk p h).1) (by rw[e1];exact z) r1
 refine⟨⟨fa,fd,⟨λvs H Q E q=>F.len vs H Q E (key _ _ _ _ q),?_⟩,kp,b,gg⟩⟩;intro A outer s H args us vs Q E hr h0 hb hv hq;exact F.run A outer s H args us vs Q E hr h0 hb hv (key _ _ _ _ hq)
noncomputable def zy(t:T)(M:Mem):Option (List T):=match t with
 |.lst xs=>some xs|.ref a=>match M[a]? with
  |some (.lst xs)=>some xs|_=>none
 |_=>none
noncomputable def zfA(t:T):Option (List T):=match t with
 |.lst xs=>some xs|.tup xs=>some xs|_=>none
def qR(t:T)(M:Mem):Option (List T):=match t with
 |.tup xs=>some xs|t=>zy t M
section
variable {K:Frag}{S:Sit}   
theorem zdD(h:(Rd S.H p (.lst vs)/\S.off p)\/KL K p vs):SqL K S.H p vs:=by
 rcases h with⟨h,_⟩ | h
 .exact .inl h
 .exact .inr h
theorem yD(m:MemOk K S)(r:Rep K S t v)(e:zy t S.M=some xs):∃p vs,v = .ref p/\SqL K S.H p vs/\Reps K S xs vs:=by
 cases r with
 |@lst ts p vs h l r=>cases e;exact⟨p,vs,rfl,zdD h,l,r⟩|@ref a h=>
  unfold zy at e;dsimp only at e;split at e
  .rename_i ys q;cases e;obtain⟨vs,q2,r2⟩:=m.cell a _ q;exact⟨_,vs,rfl,.inl (.inl q2),r2⟩
  .cases e
 |_=>cases e
theorem zcj(m:MemOk K S)(r:Rep K S t v)(e:qR t S.M=some xs):∃p vs,v = .ref p/\(SqL K S.H p vs\/SqT K S.H p vs)/\Reps K S xs vs:=by
 cases t with
 |tup ts=>cases e;cases r with|@tup _ p vs h l r=>exact⟨p,vs,rfl,.inr h,l,r⟩
 |lst ts=>obtain⟨p,vs,e1,h,r2⟩:=yD m r e;exact⟨p,vs,e1,.inl h,r2⟩|ref a=>obtain⟨p,vs,e1,h,r2⟩:=yD m r e;exact⟨p,vs,e1,.inl h,r2⟩|_=>cases e
end
def za6(f:X9):X1:=λJ M=>(f J M).bind λt M1=>match zfA t with
 |some xs=>.ok xs M1|none=>.bad
noncomputable def zdj(lo:Int)(n:Nat):List T:=(List.range n).map λ(k:Nat)=>T.int (lo+(k:Int))
def zbz(ts:List T)(M1:Mem):Out (List T):=match ts with
 |[.int j]=>@ite _ (-(2 ^ 62)<=j/\j<2 ^ 62) (Classical.propDecidable _) (.ok (zdj 0 j.toNat) M1) .bad|_=>.bad
def zej(ts:List T)(M1:Mem):Out (List T):=match ts with
 |[.int i,.int j]=>@ite _ ((-(2 ^ 62)<=i/\i<2 ^ 62)/\(-(2 ^ 62)<=j/\j<2 ^ 62)) (Classical.propDecidable _) (.ok (zdj i (j-i).toNat) M1) .bad|_=>.bad
def qO(f:X1):X1:=λJ M=>(f J M).bind λts M1=>zbz ts M1
def zeV(f:X1):X1:=λJ M=>(f J M).bind λts M1=>zej ts M1
theorem zjn(K:Frag)(S:Sit)(lo:Int)(n:Nat):zf1 K S (zdj lo n) (Itr lo n):=λS' s=>by
 refine⟨λi t e=>?_,λi h=>?_⟩
 .unfold zdj at e;rw[Qb]at e;cases q:(List.range n)[i]? with
  |none=>rw[q]at e;cases e|some k=>
   rw[q]at e;cases e;have hi:i<n:=by have:=(Qz.mp q).1;simpa using this
   have hk:k=i:=by rw[getElem?_range hi]at q;exact(Qd q).symm
   subst hk;refine⟨hi,λx H' hy=>?_⟩;obtain⟨e1,e2⟩:=hy;exact⟨S',e1.symm,rfl,.refl s.mok,by rw[e2];exact .int _⟩
 .show n<=i
  simpa[zdj]using h
section
variable   {a b c e iter tg:Expr}   {pos p:Pos} 
theorem zsq(he:GE X XE e f):GI X XE tg e (za6 f):=PI.imp (PI.or (zg3 he) (zmz he)) λJ H R h9=>by
 obtain⟨S,Jτ,_,e,m,ev,_,Y⟩:=h9;replace Y:Fin XE (zf1 X.K) X.K S ((f Jτ S.M).bind λt M1=>match zfA t with | some xs=>.ok xs M1 | none=>.bad) R:=Y;cases o:f Jτ S.M with
 |bad=>rw[o]at Y;exact Y.elim|exn C fs M'=>rw[o]at Y;refine .inl ⟨S,Jτ,(),e,m,ev,trivial,?_⟩;show Fin XE (Rep X.K) X.K S (f Jτ S.M) _;rw[o];exact Y
 |ok t M1=>
  rw[o]at Y;cases t with
  |lst ts=>
   refine .inl ⟨S,Jτ,(),e,m,ev,trivial,?_⟩;show Fin XE (Rep X.K) X.K S (f Jτ S.M) _;rw[o];intro S1 v e1 s1 r1;cases r1 with
   |@lst _ p vs h l r=>
    have r1:Reps X.K S1 ts vs:=⟨l,r⟩;refine⟨p,rfl,⟨vs,zdD h⟩,Y S1 _ e1 s1 λS3 s3=>?_⟩;have g3:SqL X.K S3.H p vs:=by
     rcases h with⟨h2,f2⟩ | h2
     .exact .inl (s3.toGrow.rd h2 f2).1
     .exact .inr h2
    refine⟨λi t et=>?_,λi hi=>⟨vs,g3,by rw[←l];exact hi⟩⟩;obtain⟨v2,ev3,r3⟩:=r1.get et;refine⟨⟨vs,v2,g3,ev3⟩,λx H' hy=>?_⟩;obtain⟨ey,hy⟩:=hy;have:=hy vs g3;rw[ev3]at this;cases this;exact⟨S3,ey.symm,rfl,.refl s3.mok,r3.grow s1.mok s3.toGrow⟩
  |tup ts=>
   refine .inr ⟨S,Jτ,(),e,m,ev,trivial,?_⟩;show Fin XE (Rep X.K) X.K S (f Jτ S.M) _;rw[o];intro S1 v e1 s1 r1;cases r1 with
   |@tup _ p vs h l r=>have r1:Reps X.K S1 ts vs:=⟨l,r⟩;refine⟨p,rfl,⟨vs,h⟩,Y S1 _ e1 s1 λS3 s3=>?_⟩;have g3:SqT X.K S3.H p vs:=s3.toGrow.tup s1.mok h;refine⟨λi t et=>?_,λi hi=>⟨vs,g3,by rw[←l];exact hi⟩⟩;obtain⟨v2,ev3,r3⟩:=r1.get et;refine⟨⟨vs,v2,g3,ev3⟩,λx H' hy=>?_⟩;obtain⟨ey,hy⟩:=hy;have:=hy vs g3;rw[ev3]at this;cases this;exact⟨S3,ey.symm,rfl,.refl s3.mok,r3.grow s1.mok s3.toGrow⟩
  |_=>exact Y.elim
end
def qF(bd:T->X8)(cond:X7)(el:X9):List T->Ev->Mem->List T->Out (List T)
 |[],_,M,acc=>.ok acc M|x::xs,J,M,acc=>(bd x J M).bind λJ1 M1=>(cond J1 M1).bind λb M2=>if b=true then(el J1 M2).bind λt M3=>if acc.length<sizeLine then qF bd cond el xs J1 M3 (acc++[t])else .bad else qF bd cond el xs J1 M2 acc
noncomputable def zds(tgs:List Str)(ζ:List (Str × Nat))(J:Ev):Ev:=tgs.map (λ_=>none)++ζ.map λc=>(J[c.2]?).join
def zY(it:X1)(bd:T->X8)(cond:X7)(el:X9)(tgs:List Str)(ζ:List (Str × Nat)):X1:=λJ M=>(it J M).bind λxs M1=>qF bd cond el xs (zds tgs ζ J) M1 []
noncomputable def yN:X7:=λ_ M=>.ok true M
theorem EvR.cap{K:Frag}(r:EvR K S Jτ J)(tgs:List Str)(ζ:List (Str × Nat)):EvR K S (zds tgs ζ Jτ) (zcy tgs ζ J):=by
 refine⟨by simp[zds,zcy],λi t e=>?_⟩;unfold zds at e;unfold zcy
 by_cases hi:i<tgs.length
 .rw[Q6 (by simpa using hi)]at e;rw[Qb]at e;cases q:tgs[i]? with|none=>rw[q]at e;cases e|some x=>rw[q]at e;cases e
 .rw[Q8 (by simpa using hi),Qb]at e;rw[Q8 (by simpa using hi),Qb];simp only[Qh]at e ⊢;cases q:ζ[i-tgs.length]? with
  |none=>rw[q]at e;cases e|some cq=>
   rw[q]at e;have e2:(Jτ[cq.2]?).join=some t:=Qd e;have e3:Jτ[cq.2]?=some (some t):=by
    cases q2:Jτ[cq.2]? with
    |none=>rw[q2]at e2;cases e2|some o=>rw[q2]at e2;cases o with|none=>cases e2|some v'=>rw[show v'=t from Qd e2]
   obtain⟨v,e4,r4⟩:=r.2 _ _ e3;exact⟨v,by show some ((J[cq.2]?).join)=_;rw[e4];rfl,r4⟩
def Sit.hput(S:Sit)(p:Addr)(vs:List V):Sit:=⟨S.α,S.M,upd S.H p (.lst vs),S.hid⟩
section
variable {K:Frag}   
theorem Rep.hput(m:MemOk K S)(hp:p ∈ S.hid){t:T}{v:V}(r:Rep K S t v):Rep K (S.hput p us) t v:=by
 obtain⟨_,ws,ew⟩:=m.hd p hp
 induction r with
 |non=>exact .non|bl b=>exact .bl b|int b=>exact .int b|str b=>exact .str b|ty b=>exact .ty b|@tup ts q vs h l _ ih=>
  refine .tup ?_ l ih;rcases h with h | h
  .exact .inl ((yk (zdP h ew (by intro z;cases z))).trans h)
  .exact .inr h
 |@lst ts q vs h l _ ih=>
  refine .lst ?_ l ih;rcases h with⟨h,f⟩ | h
  .have hne:q ≠ p:=λz=>f.2 (by rw[z];exact hp);refine .inl ⟨?_,f⟩;rcases h with h | ⟨o,h⟩
   .exact .inl ((yk hne).trans h)
   .exact .inr ⟨o,(yk hne).trans h⟩
  .exact .inr h
 |ref h=>exact .ref (S:=S.hput p us) h|dct h l _ ih=>exact .dct (S:=S.hput p us) ((yk (zdP h ew (by intro z;cases z))).trans h) l ih|exc h hd l _ ih=>exact .exc (S:=S.hput p us) ((yk (zdP h ew (by intro z;cases z))).trans h) (hd.imp (λz=>z) λ⟨d,a,b⟩=>⟨d,a,(yk (zdP b ew (by intro z;cases z))).trans b⟩) l ih
def Reps.hput(m:MemOk K S)(hp:p ∈ S.hid){t:List T}{v:List V}(r:Reps K S t v):Reps K (S.hput p us) t v:=⟨r.1,λi a b e1 e2=>(r.2 i a b e1 e2).hput m hp⟩
theorem CellOk.hput(m:MemOk K S)(hp:p ∈ S.hid){q:Addr}{c:Cell}(hq:q ≠ p)(r:CellOk K S q c):CellOk K (S.hput p us) q c:=by cases c with|lst ts=>obtain⟨vs,q,r⟩:=r;exact⟨vs,(yk hq).trans q,r.hput m hp⟩|dic ts=>obtain⟨vs,q,r⟩:=r;exact⟨vs,(yk hq).trans q,r.1,r.2.hput m hp⟩|ins C ts=>obtain⟨dx,vs,q,r⟩:=r;exact⟨dx,vs,(yk hq).trans q,r.1,r.2.hput m hp⟩|dtu ts=>obtain⟨vs,q,r⟩:=r;exact⟨vs,(yk hq).trans q,r.1,r.2.hput m hp⟩
theorem Stp.hput(s:Stp K S0 S)(hp:p ∈ S.hid)(hn:S0.H p=none)(m0:MemOk K S0):Stp K S0 (S.hput p us):=by
 refine⟨⟨s.le,s.al,s.fr,λb o e f=>(yk (zF e hn)).trans (s.kp b o e f),λq h=>⟨(s.hk q h).1,?_⟩,s.hf⟩,⟨λa c e=>?_,s.mok.inj,λq h=>?_⟩⟩
 .obtain⟨_,vs,e⟩:=m0.hd q h;exact(yk (zF e hn)).trans (s.hk q h).2
 .exact(s.mok.cell a c e).hput s.mok hp ((s.mok.hd p hp).1 a (Qz.mp e).1)
 .obtain⟨h1,vs,e⟩:=s.mok.hd q h;refine⟨h1,?_⟩
  by_cases z:q=p
  .exact⟨us,by show upd S.H p _ q=_;rw[z];exact qA⟩
  .exact⟨vs,(yk z).trans e⟩
end
structure CB (X:Cx) (scope:Scope) (cl:List (Str × Addr)) (ζ:List (Str × Nat)):Prop where
 hc:X.calm=true
 hclos:closureFor scope X.env=pure cl
 hcell:∀y ∈ scope.names,y.2 = .cell->y.1 ∉ ζ.map (·.1)
 hkind:scope.kind = .function
 hnames:∀y ∈ scope.names,y.2 = .local->scope.names.lookup y.1=some .local
 hcl:∀y c,cl.lookup y=some c->X.env.cells.lookup y=some c
 hhas:∀n y,((relabel scope X.env).names.lookup y=some .cell\/(relabel scope X.env).names.lookup y=some .free)->∃c,(cellsFrom n scope.names cl).lookup y=some c
 hcap:∀c ∈ ζ,X.N[c.2]?=some c.1/\X.env.kindOf c.1=some .cell/\((relabel scope X.env).names.lookup c.1=some .cell\/(relabel scope X.env).names.lookup c.1=some .free)
section
def zqd:PTs X [] (lT XE X.K yN):=λρ s J H Q I h=>zpu ρ s J H Q I (zit h)
def zqc(h:GT X XE c tf):PTs X [c] (lT XE X.K tf):=zpt h
end
def LNL{A AV:Type}(XE:XK)(K:Frag)(RA:Sit->A->AV->Prop)(k:A->X1)(av:AV)(J:L2.St)(H:Hp)(Q:VK):Prop:=
 ∃(S:Sit) (Jτ:Ev) (a:A),S.H=H/\MemOk K S/\EvR K S Jτ J/\RA S a av/\FinL XE K S (k a Jτ S.M) Q
theorem LNL.bind{K:Frag}{RA:Sit->A->AV->Prop}{RB:Sit->B->BV->Prop}[Mo K RA]{k:A->B->X1} 
  (h:LNL XE K RA (λa J M=>(f a J M).bind λb M1=>k a b J M1) av J H Q):LN XE RB K RA f av J H (λbv H1=>LNL XE K (PrR RA RB) (λab=>k ab.1 ab.2) (av,bv) J H1 Q):=by
 obtain⟨S,Jτ,a,e,m,ev,ra,Y⟩:=h;refine⟨S,Jτ,a,e,m,ev,ra,?_⟩;replace Y:FinL XE K S ((f a Jτ S.M).bind λb M1=>k a b Jτ M1) Q:=Y;cases q:f a Jτ S.M with
 |bad=>rw[q]at Y;exact Y|exn C fs M'=>rw[q]at Y;exact Y|ok b M1=>rw[q]at Y;intro S1 c e1 s1 r1;refine⟨S1,Jτ,(a,b),rfl,s1.mok,Mo.mo m s1 ev,⟨Mo.mo m s1 ra,r1⟩,?_⟩;rw[e1];exact Y.later s1
def L0L{A AV:Type}(XE:XK)(K:Frag)(RA:Sit->A->AV->Prop)(k:A->Mem->Out (List T))(av:AV)(H:Hp)(Q:VK):Prop:=∃(S:Sit) (a:A),S.H=H/\MemOk K S/\RA S a av/\FinL XE K S (k a S.M) Q
def zlR(XE:XK)(K:Frag)(o:T->T->Mem->Out (List T)):R2:=λx y H Q=>L0L XE K (PrR (Rep K) (Rep K)) (λa M=>o a.1 a.2 M) (x,y) H Q
def lOp(o:T->T->Mem->Out (List T))(f g:X9):X1:=λJ M=>(f J M).bind λx M1=>(g J M1).bind λy M2=>o x y M2
def ztN(F:List T->Mem->Out (List T))(g:X1):X1:=λJ M=>(g J M).bind λts M1=>F ts M1
theorem zjd{K:Frag}(m:MemOk K S)(Y:FinL XE K S (.ok xs S.M) Q)(r:Reps K S xs vs):∀p,S.H p=none->Q (.ref p) (upd S.H p (.lst vs)):=λp hp=>Y (S.hide p vs) p vs rfl (Stp.hide m hp vs) hp (.head _) qA (r.grow m (Stp.hide m hp vs).toGrow)
section
end
noncomputable def zaU(k:Int->Int->Mem->Out T)(x y:T)(M:Mem):Out T:=match x,y with
 |.int i,.int j=>k i j M|_,_=>.bad
def Mo64(i j:Int):Prop:=(i.natAbs<10 ^ 3000/\j.natAbs<10 ^ 3000)\/(-(2 ^ 64)<i/\i<2 ^ 64)\/(-(2 ^ 64)<j/\j<2 ^ 64)
instance (i j:Int):Decidable (Mo64 i j):=inferInstanceAs (Decidable (_\/_))
theorem Mo64.ok(h:Mo64 i j):CMulB i j:=by
 rcases h with h | h
 .exact .inl ⟨3000,3000,h.1,h.2,Q3 _,Q3 _⟩
 .exact .inr h
noncomputable section
def zdv:X3:=zaU λi j M=>.ok (.int (i+j)) M
def zbY:X3:=zaU λi j M=>.ok (.int (i-j)) M
def zuL:X3:=zaU λi j M=>if Mo64 i j then .ok (.int (i*j)) M else .bad
def zeB:X3:=zaU λi j M=>if j ≠ 0/\j.natAbs<10 ^ 2000 then .ok (.int (i.fdiv j)) M else .bad
def zb3:X3:=zaU λi j M=>if j ≠ 0 then .ok (.int (i.fmod j)) M else .bad
def zg2:X3:=zaU λi j M=>if 0<=j/\j<=1000000/\i.natAbs<2 ^ 64 then .ok (.int (i ^ j.toNat)) M else .bad
def ltI:X3:=zaU λi j M=>.ok (.bl (decide (i<j))) M
def leI:X3:=zaU λi j M=>.ok (.bl (decide (i<=j))) M
def gtI:X3:=zaU λi j M=>.ok (.bl (decide (j<i))) M
def geI:X3:=zaU λi j M=>.ok (.bl (decide (j<=i))) M
end
noncomputable def zdm:T->Mem->Out T:=λx M=>match x with
 |.int i=>.ok (.int (-i)) M|_=>.bad
section
theorem zkH{K:Frag}(r:Rep K S (.int i) v):v = .int i:=by cases r;rfl
theorem zbF(ho:OpR X fn r)
  (h:∀i j S Q,MemOk X.K S->Fin XE (Rep X.K) X.K S (k i j S.M) Q->r (.int i) (.int j) S.H Q):OpR X fn (lR2 XE X.K (zaU k)):=by
 injections
 replace Y:Fin XE (Rep X.K) X.K S (zaU k tx ty S.M) Q:=Y;unfold zaU at Y;rw?
 .have e1:=zkH r1;have e2:=zkH r2;dsimp only at e1 e2;subst e1;subst e2;subst e
  exact ho ρ s J S.H _ _ v u Q I rx ry (h _ _ S Q m Y)
 .simp?
def zay:OpR X (binaryOp .Sub) (lR2 XE X.K zbY):=zbF zrC λi j S Q m Y=>⟨i,j,rfl,rfl,Y S _ rfl (.refl m) (.int _)⟩
theorem zpN:OpR X (binaryOp .Mult) (lR2 XE X.K zuL):=zbF zpO λi j S Q m Y=>by
 by_cases h:Mo64 i j
 .rw[QA h]at Y;exact⟨i,j,rfl,rfl,h.ok,Y S _ rfl (.refl m) (.int _)⟩
 .rw[QB h]at Y;exact Y.elim
theorem zg6:OpR X (binaryOp .FloorDiv) (lR2 XE X.K zeB):=zbF zn7 λi j S Q m Y=>by
 by_cases h:j ≠ 0/\j.natAbs<10 ^ 2000
 .rw[QA h]at Y;exact⟨i,j,rfl,rfl,⟨h.1,2000,h.2,Q3 _⟩,Y S _ rfl (.refl m) (.int _)⟩
 .rw[QB h]at Y;exact Y.elim
theorem zbh:OpR X (binaryOp .Mod) (lR2 XE X.K zb3):=zbF zpP λi j S Q m Y=>by
 by_cases h:j ≠ 0
 .rw[QA h]at Y;exact⟨i,j,rfl,rfl,h,Y S _ rfl (.refl m) (.int _)⟩
 .rw[QB h]at Y;exact Y.elim
theorem zeP:OpR X (binaryOp .Pow) (lR2 XE X.K zg2):=zbF zrD λi j S Q m Y=>by
 by_cases h:0<=j/\j<=1000000/\i.natAbs<2 ^ 64
 .rw[QA h]at Y;exact⟨i,j,rfl,rfl,h,Y S _ rfl (.refl m) (.int _)⟩
 .rw[QB h]at Y;exact Y.elim
def zdC:OpR X (compareOp .Lt) (lR2 XE X.K ltI):=zbF ztC λi j S Q m Y=>⟨i,j,rfl,rfl,Y S _ rfl (.refl m) (.bl _)⟩
def zmG:OpR X (compareOp .LtE) (lR2 XE X.K leI):=zbF ztD λi j S Q m Y=>⟨i,j,rfl,rfl,Y S _ rfl (.refl m) (.bl _)⟩
def zcU:OpR X (compareOp .Gt) (lR2 XE X.K gtI):=zbF ztE λi j S Q m Y=>⟨i,j,rfl,rfl,Y S _ rfl (.refl m) (.bl _)⟩
theorem zcI:L2.UnR X (unaryOp .USub) (lR1 XE X.K zdm):=by
 rintro ρ s J H x v Q I rx ⟨S,t,e,m,r,Y⟩;replace Y:Fin XE (Rep X.K) X.K S (zdm t S.M) Q:=Y;unfold zdm at Y;rw?
 .cases r;subst e;exact zqU ρ s J S.H _ v Q I rx ⟨_,rfl,Y S _ rfl (.refl m) (.int _)⟩
 .simp?
noncomputable def isB:X3:=λx y M=>match x,y with
 |.bl a,.bl b=>.ok (.bl (a==b)) M|_,_=>.bad
noncomputable def ztP:X3:=λx y M=>match x,y with
 |.bl a,.bl b=>.ok (.bl (a != b)) M|_,_=>.bad
noncomputable def zn9:T->Bool
 |.non=>true|_=>false
def isN:X3:=λx y M=>match y with
 |.non=>.ok (.bl (zn9 x)) M|_=>.bad
def zaa:X3:=λx y M=>match y with
 |.non=>.ok (.bl (!zn9 x)) M|_=>.bad
theorem zjb{K:Frag}(r:Rep K S t v):decide (v = .non)=zn9 t:=by cases r<;>first | rfl | exact Qx (by intro z;cases z)
theorem zg5:OpR X (compareOp .Is) (lR2 XE X.K isN):=by
 injections
 replace Y:Fin XE (Rep X.K) X.K S (isN tx ty S.M) Q:=Y;unfold isN at Y;rw?
 .cases r2;subst e
  exact zrE ρ s J S.H _ _ v u Q I rx ry ⟨rfl,by rw[zjb r1];exact Y S _ rfl (.refl m) (.bl _)⟩
 .simp?
theorem zcn:OpR X (compareOp .IsNot) (lR2 XE X.K zaa):=by
 injections
 replace Y:Fin XE (Rep X.K) X.K S (zaa tx ty S.M) Q:=Y;unfold zaa at Y;rw?
 .cases r2;subst e
  exact zpJ ρ s J S.H _ _ v u Q I rx ry ⟨rfl,by rw[zjb r1];exact Y S _ rfl (.refl m) (.bl _)⟩
 .simp?
def zhh(M:Mem):T->T->Option T
 |.tup xs,.int i=>atI xs i|.lst xs,.int i=>atI xs i|.ref a,.int i=>match M[a]? with
  |some (.lst xs)=>atI xs i|_=>none
 |_,_=>none
noncomputable def zem(o:Option T)(M:Mem):Out T:=match o with
 |some t=>.ok t M|none=>.bad
def ixT:X3:=λx y M=>zem (zhh M x y) M
theorem Reps.atI{K:Frag}(r:Reps K S ts vs){i:Int}{t:T}(e:L2.atI ts i=some t):∃v,L2.atI vs i=some v/\Rep K S t v:=by
 unfold L2.atI at e ⊢;rw[←r.1];cases q:ixN ts.length i with
 |none=>rw[q]at e;cases e|some j=>rw[q]at e;obtain⟨v,e2,r2⟩:=r.get (show ts[j]?=some t from e);exact⟨v,e2,r2⟩
theorem zqt{K:Frag}(m:MemOk K S)(r1:Rep K S tx x)(r2:Rep K S ty y)(e:zhh S.M tx ty=some t):
  ∃p vs i v,x = .ref p/\y = .int i/\(SqL K S.H p vs\/SqT K S.H p vs)/\L2.atI vs i=some v/\Rep K S t v:=by
 unfold zhh at e;split at e
 .cases r2;cases r1 with
  |@tup _ p vs h l r=>obtain⟨v,e2,r3⟩:=Reps.atI ⟨l,r⟩ e;exact⟨p,vs,_,v,rfl,rfl,.inr h,e2,r3⟩
 .cases r2;cases r1 with
  |@lst _ p vs h l r=>obtain⟨v,e2,r3⟩:=Reps.atI ⟨l,r⟩ e;exact⟨p,vs,_,v,rfl,rfl,.inl (zdD h),e2,r3⟩
 .split at e
  .rename_i q;cases r2;cases r1 with
   |ref h=>obtain⟨vs,q2,r⟩:=m.cell _ _ q;obtain⟨v,e2,r3⟩:=Reps.atI r e;exact⟨_,vs,_,v,rfl,rfl,.inl (.inl (.inl q2)),e2,r3⟩
  .cases e
 .cases e
theorem zg4{K:Frag}{Q:VK}(Y:Fin XE (Rep K) K S (zem o S.M) Q):∃t,o=some t/\Fin XE (Rep K) K S (.ok t S.M) Q:=by
 unfold zem at Y;rw?
 .exact⟨_,rfl,Y⟩
 .simp?
theorem zf:IxR X (lR2 XE X.K ixT):=by
 rintro va sl ρ s J H x y v u Q I rx ry ⟨S,⟨tx,ty⟩,e,m,⟨r1,r2⟩,Y⟩ hs;obtain⟨t,et,Y⟩:=zg4 (show Fin XE (Rep X.K) X.K S (zem (zhh S.M tx ty) S.M) Q from Y);obtain⟨p,vs,i,w,e1,e2,hq,ea,r3⟩:=zqt m r1 r2 et;dsimp only at e1 e2;subst e1;subst e2;subst e
 refine zr7 va sl ρ s J S.H _ _ v u Q I rx ry ?_ hs;rcases hq with hq | hq
 .exact .inl ⟨p,vs,i,w,rfl,rfl,hq,ea,Y S w rfl (.refl m) r3⟩
 .exact .inr (.inl ⟨p,vs,i,w,rfl,rfl,hq,ea,Y S w rfl (.refl m) r3⟩)
noncomputable def yw(k:T->Mem->Out T)(ts:List T)(M:Mem):Out T:=match ts with
 |[t]=>k t M|_=>.bad
noncomputable def call2(k:X3)(ts:List T)(M:Mem):Out T:=match ts with
 |[t,u]=>k t u M|_=>.bad
theorem zfT(h:∀(ρ:List (Addr × Obj)) (s:Shared) (J:L2.St) (S:Sit) (t:T) (x:V) (v:Value) (Q:VK),Inv X ρ J S.H s->RelV x v->MemOk X.K S->Rep X.K S t x->Fin XE (Rep X.K) X.K S (k t S.M) Q->wpAny .(1) X.A (call F [v]) (EP X ρ J Q) X.xe s):yV X F (lRN XE X.K (yw k)):=by
 rintro ρ s J H xs us Q I r ⟨S,ts,e,m,rs,Y⟩;subst e;replace Y:Fin XE (Rep X.K) X.K S (yw k ts S.M) Q:=Y;unfold yw at Y;rw?
 .obtain⟨v,vs,rfl,r1,r2⟩:=rs.consT;rw[r2.nilT]at r;obtain⟨u,rfl,rx⟩:=vals1 r;exact h ρ s J S _ v u Q I rx m r1 Y
 .simp?
theorem zfS(h:∀(ρ:List (Addr × Obj)) (s:Shared) (J:L2.St) (S:Sit) (t1 t2:T) (x1 x2:V) (v1 v2:Value) (Q:VK),Inv X ρ J S.H s->RelV x1 v1->RelV x2 v2->MemOk X.K S->Rep X.K S t1 x1->Rep X.K S t2 x2->Fin XE (Rep X.K) X.K S (k t1 t2 S.M) Q->wpAny .(1) X.A (call F [v1,v2]) (EP X ρ J Q) X.xe s):yV X F (lRN XE X.K (call2 k)):=by
 rintro ρ s J H xs us Q I r ⟨S,ts,e,m,rs,Y⟩;subst e;replace Y:Fin XE (Rep X.K) X.K S (call2 k ts S.M) Q:=Y;unfold call2 at Y;rw?
 .obtain⟨v,vs,rfl,r1,r2⟩:=rs.consT;obtain⟨v2,vs2,rfl,r3,r4⟩:=r2.consT;rw[r4.nilT]at r;obtain⟨u,w,rfl,rx,ry⟩:=vals2 r;exact h ρ s J S _ _ v v2 u w Q I rx ry m r1 r3 Y
 .simp?
def zx:T->Mem->Out T:=λt M=>match t with
 |.str z=>if z.length<=sizeLine then .ok (.int z.length) M else .bad|t=>match qR t M with
  |some xs=>.ok (.int xs.length) M|none=>.bad
theorem yp:yV X (.builtin "len") (lRN XE X.K (yw zx)):=zfT λρ s J S t x v Q I rx m r Y=>by
 unfold zx at Y;rw?
 .cases r;rw?
  .rename_i hz;exact zjN ρ s J S.H _ _ Q I (.cons rx .nil) ⟨_,rfl,hz,Y S _ rfl (.refl m) (.int _)⟩
  .simp?
 .split at Y
  .rename_i xs q;obtain⟨p,vs,rfl,hq,rs⟩:=zcj m r q;exact zjO ρ s J S.H _ _ Q I (.cons rx .nil) ⟨p,vs,rfl,hq,by rw[←rs.1];exact Y S _ rfl (.refl m) (.int _)⟩
  .simp?
def zjf:X3:=zaU λi j M=>.ok (.int (if j > i then j else i)) M
def zha:X3:=zaU λi j M=>.ok (.int (if j<i then j else i)) M
theorem zh3(hc:X.calm=true):yV X (.builtin "max") (lRN XE X.K (call2 zjf)):=zfS λρ s J S t1 t2 x1 x2 v1 v2 Q I rx ry m r1 r2 Y=>by
 unfold zjf zaU at Y;rw?
 .cases r1;cases r2
  exact znw hc ρ s J S.H _ _ Q I (.cons rx (.cons ry .nil)) ⟨_,_,rfl,Y S _ rfl (.refl m) (.int _)⟩
 .simp?
theorem zeE(hc:X.calm=true):yV X (.builtin "min") (lRN XE X.K (call2 zha)):=zfS λρ s J S t1 t2 x1 x2 v1 v2 Q I rx ry m r1 r2 Y=>by
 unfold zha zaU at Y;rw?
 .cases r1;cases r2
  exact znv hc ρ s J S.H _ _ Q I (.cons rx (.cons ry .nil)) ⟨_,_,rfl,Y S _ rfl (.refl m) (.int _)⟩
 .simp?
def z8:T->Mem->Out T:=λt M=>match qR t M with
 |some xs=>.ok (.tup xs) M|none=>.bad
theorem zbr:yV X (.type "tuple") (lRN XE X.K (yw z8)):=zfT λρ s J S t x v Q I rx m r Y=>by
 unfold z8 at Y;rw?
 .rename_i xs q;obtain⟨p,vs,rfl,hq,rs⟩:=zcj m r q;refine zil ρ s J S.H _ _ Q I (.cons rx .nil) ⟨p,vs,rfl,?_⟩;rcases hq with hq | hq
  .refine .inl ⟨hq,λl hl=>?_⟩;have s2:=Stp.new m hl (.tup vs);exact Y ⟨S.α,S.M,upd S.H l (.tup vs),S.hid⟩ (.ref l) rfl s2 (.tup (.inl qA) rs.1 (rs.grow m s2.toGrow).2)
  .exact .inr ⟨hq,Y S _ rfl (.refl m) (.tup hq rs.1 rs.2)⟩
 .simp?
def zeD:T->T->Mem->Out (List T):=λx y M=>match zy x M,zy y M with
 |some xs,some ys=>if xs.length+ys.length<=sizeLine then .ok (xs++ys) M else .bad|_,_=>.bad
theorem zkP:OpR X (binaryOp .Add) (zlR XE X.K zeD):=by
 injections
 subst e;replace Y:FinL XE X.K S (zeD tx ty S.M) Q:=Y;unfold zeD at Y;rw?
 .rename_i xs ys q1 q2;rw?
  .rename_i hz;obtain⟨p,vs,e1,h1,s1⟩:=yD m r1 q1;obtain⟨p2,vs2,e2,h2,s2⟩:=yD m r2 q2;dsimp only at e1 e2;subst e1;subst e2
   exact zkO ρ s J S.H _ _ v u Q I rx ry ⟨p,p2,vs,vs2,rfl,rfl,h1,h2,by rw[←s1.1,←s2.1];exact hz,zjd m Y (s1.app s2)⟩
  .simp?
 .simp?
noncomputable def yP(x:T)(ts:List T)(M:Mem):Out T:=match x,ts with
 |.ref a,[t]=>match M[a]? with
  |some (.lst xs)=>if xs.length<sizeLine then .ok .non (M.set a (.lst (xs++[t])))else .bad|_=>.bad
 |_,_=>.bad
def za0(o i t:T)(M:Mem):Out Unit:=match o,i with
 |.ref a,.int k=>match M[a]? with
  |some (.lst xs)=>match ixN xs.length k with
   |some j=>.ok () (M.set a (.lst (xs.set j t)))|none=>.bad
  |_=>.bad
 |_,_=>.bad
theorem zeM{K:Frag}(m:MemOk K S){a:Nat}{c:Cell}(e:S.M[a]?=some c){ts:List T}{vs:List V}(r:Reps K S ts vs):Stp K S (S.put a (.lst vs) (.lst ts)):=by have ha:a<S.M.length:=(Qz.mp e).1;exact Stp.put m ha _ _ ⟨vs,qA,r.grow m (Grow.put m ha _ _)⟩
theorem zc6:zdw X (zfG XE X.K za0):=by
 rintro ρ s J H o i v ov iv u Q I ro ri rv ⟨S,⟨⟨to,ti⟩,tv⟩,e,m,⟨⟨r1,r2⟩,r3⟩,Y⟩;subst e;replace Y:Fin XE UnR X.K S (za0 to ti tv S.M) (λ_ H'=>Q H'):=Y;unfold za0 at Y;rw?
 .split at Y
  .rename_i a k _ xs q;rw?
   .rename_i j qj;cases r1;cases r2;obtain⟨vs,q2,rs⟩:=m.cell _ _ q;refine set_list ρ s J S.H _ _ v ov iv u Q I ro ri rv ⟨S.α a,vs,k,j,rfl,rfl,q2,by rw[←rs.1];exact qj,?_⟩;exact Y (S.put a (.lst (vs.set j v)) (.lst (xs.set j tv))) () rfl (zeM m q (rs.set r3 j)) trivial
   .simp?
  .simp?
 .simp?
def qG(x:T)(M:Mem):Out T:=match zy x M with
 |some _=>.ok x M|none=>.bad
def qS(F:T->X4)(f:X9)(g:X1):X9:=λJ M=>(f J M).bind λx M1=>(g J M1).bind λts M2=>F x ts M2
end
def zc1(xs:List T)(lo hi:Option Int):List T:=(xs.drop (HT.sIx xs.length 0 lo)).take (HT.sIx xs.length xs.length hi-HT.sIx xs.length 0 lo)
theorem Reps.cutV{K:Frag}(r:Reps K S ts vs)(lo hi:Option Int):Reps K S (zc1 ts lo hi) (L2.cutV vs lo hi):=by unfold zc1 L2.cutV;rw[←r.1];exact r.sub _ _
theorem zg7{K:Frag}{Q:VK}(m:MemOk K S)(Y:Fin XE (Rep K) K S (.ok (.lst xs) S.M) Q)(r:Reps K S xs vs):∀p,S.H p=none->Q (.ref p) (upd S.H p (.lst vs)):=λp hp=>by have s2:=Stp.new m hp (.lst vs);exact Y ⟨S.α,S.M,upd S.H p (.lst vs),S.hid⟩ (.ref p) rfl s2 (.lst (.inl ⟨.inl qA,m.off_none hp⟩) r.1 (r.grow m s2.toGrow).2)
def yF:X3:=λx y M=>match x,y with
 |.int i,.int j=>.ok (.int (i+j)) M|.str a,.str b=>if a.length+b.length<=sizeLine then .ok (.str (a++b)) M else .bad|x,y=>match zy x M,zy y M with
  |some xs,some ys=>if xs.length+ys.length<=sizeLine then .ok (.lst (xs++ys)) M else .bad|_,_=>.bad
noncomputable def zW:X3:=λx y M=>match x,y with
 |.int i,.int j=>if Mo64 i j then .ok (.int (i*j)) M else .bad|_,_=>.bad
section
theorem zC:OpR X (binaryOp .Add) (lR2 XE X.K yF):=by
 injections
 subst e;replace Y:Fin XE (Rep X.K) X.K S (yF tx ty S.M) Q:=Y;unfold yF at Y;rw?
 .cases r1;cases r2
  exact zrI ρ s J S.H _ _ v u Q I rx ry ⟨_,_,rfl,rfl,Y S _ rfl (.refl m) (.int _)⟩
 .cases r1;cases r2
  rw?
  .rename_i hz;exact zlM ρ s J S.H _ _ v u Q I rx ry ⟨_,_,rfl,rfl,hz,Y S _ rfl (.refl m) (.str _)⟩
  .simp?
 .split at Y
  .rename_i xs ys q1 q2;rw?
   .rename_i hz;obtain⟨p,vs,e1,h1,s1⟩:=yD m r1 q1;obtain⟨p2,vs2,e2,h2,s2⟩:=yD m r2 q2;dsimp only at e1 e2;subst e1;subst e2
    exact zkO ρ s J S.H _ _ v u Q I rx ry ⟨p,p2,vs,vs2,rfl,rfl,h1,h2,by rw[←s1.1,←s2.1];exact hz,zg7 m Y (s1.app s2)⟩
   .simp?
  .simp?
theorem Reps.rep{K:Frag}(r:Reps K S ts vs)(n:Nat):Reps K S (List.replicate n ts).flatten (List.replicate n vs).flatten:=by induction n with|zero=>exact .nil|succ n ih=>rw[replicate_succ,replicate_succ,flatten_cons,flatten_cons];exact r.app ih
def zaz:OpR X (binaryOp .Mult) (lR2 XE X.K zW):=zpN
def lO(XE:XK)(K:Frag)(f:Ev->Mem->Out (Option Int)):TO:=λJ H Q=>LN XE EqR K UnR (λ_ J M=>f J M) () J H Q
def GO(X:Cx)(XE:XK)(e:Option Expr)(f:Ev->Mem->Out (Option Int)):Prop:=PO X e (lO XE X.K f)
noncomputable def zcc:Ev->Mem->Out (Option Int):=λ_ M=>.ok none M
noncomputable def zlU(x:T)(M:Mem):Out (Option Int):=match x with
 |.int i=>.ok (some i) M|_=>.bad
def zbL(f:X9):Ev->Mem->Out (Option Int):=λJ M=>(f J M).bind zlU
def PO.imp(h:PO X e t)(i:∀J H Q,t' J H Q->t J H Q):PO X e t':=λρ s J H Q I q=>h ρ s J H Q I (i J H Q q)
def zeC(x:T)(lo hi:Option Int)(M:Mem):Out T:=match zy x M with
 |some xs=>.ok (.lst (zc1 xs lo hi)) M|none=>.bad
def eSl(f:X9)(p q:Ev->Mem->Out (Option Int)):X9:=λJ M=>(f J M).bind λx M1=>(p J M1).bind λlo M2=>(q J M2).bind λhi M3=>zeC x lo hi M3
def zuU(XE:XK)(K:Frag):V->Option Int->Option Int->Hp->VK->Prop:=λx lo hi H Q=>∃S t,S.H=H/\MemOk K S/\Rep K S t x/\Fin XE (Rep K) K S (zeC t lo hi S.M) Q
theorem zq4:SlR X (zuU XE X.K):=by
 rintro ρ s J H x v vl vu lo hi sl Q I rx hs pl pu ⟨S,t,e,m,r,Y⟩;subst e;unfold zeC at Y;rw?
 .rename_i xs q;obtain⟨p,vs,e1,h1,s1⟩:=yD m r q;subst e1;exact zph ρ s J S.H _ v vl vu lo hi sl Q I rx hs pl pu ⟨p,vs,rfl,h1,zg7 m Y (s1.cutV lo hi)⟩
 .simp?
noncomputable def zr1(T U:String):Option Bool:=if(Value.type T==Value.type U)=true then some true else if PySem.W.kitMeta U=true then(PySem.fastBuiltinMro T).map (·.contains (.type U))else none
noncomputable def tyN(t:T)(M:Mem):Option String:=match t with
 |.non=>some "NoneType" | .bl _=>some "bool" | .int _=>some "int" | .str _=>some "str" | .tup _=>some "tuple" | .lst _=>some "list"
 |.ref a=>match M[a]? with
  |some (.lst _)=>some "list"|some (.dic _)=>some "dict"|_=>none
 |_=>none
noncomputable def zoY(n U:String):Bool:=n==U || (n == "bool" && U == "int")
noncomputable def ziq:List String:=["NoneType","bool","int","str","tuple","list","dict"]
theorem zp4:∀n ∈ ziq,∀U ∈ ziq,U ≠ "NoneType"->zr1 n U=some (zoY n U):=by decide +kernel
def z6:X3:=λt u M=>match u with
 |.ty U=>match tyN t M with
  |some n=>if U ∈ ziq/\U ≠ "NoneType" then .ok (.bl (zoY n U)) M else .bad|none=>.bad
 |_=>.bad
theorem zpc(h:tyN t M=some n):n ∈ ziq:=by unfold tyN at h;split at h<;>first | (cases h;decide) | (split at h<;>first | (cases h;decide) | (cases h)) | cases h
theorem zom{J:L2.St}(I:L2.Inv X ρ J S.H s)(m:MemOk X.K S)(rx:RelV x u)(r:Rep X.K S t x)(hn:tyN t S.M=some n)(e:zr1 n U=some b)(h:∀tk,Q (.bool b) { s with toks:=tk }):
  wpAny .(1) X.A (call (.builtin "isinstance") [u,.type U]) Q E s:=by
 have e':PySem.W.kitOne X.K (.type n) (.type U)=some b:=e;cases r with
 |non=>cases hn;cases (show u=Value.none from rx);exact PySem.W.kia_one PySem.W.kitx_none I.kIn True.intro e' (λz=>nomatch z) h|bl y=>cases hn;cases (show u=Value.bool y from rx);exact PySem.W.kia_one PySem.W.kitx_bool I.kIn True.intro e' (λz=>nomatch z) h|int i=>cases hn;obtain⟨t,q⟩:=(show ∃t,u=Value.int i t from rx);cases q;exact PySem.W.kia_one PySem.W.kitx_int I.kIn True.intro e' (λz=>nomatch z) h|str y=>cases hn;obtain⟨t,q⟩:=(show ∃t,u=Value.str y t from rx);cases q;exact PySem.W.kia_one PySem.W.kitx_str I.kIn True.intro e' (λz=>nomatch z) h|ty y=>cases hn|@tup ts p vs hq l r=>cases hn;cases (show u=Value.ref p from rx);obtain⟨its,_,pl,_⟩:=I.tuple hq;obtain⟨o,h1,h2,_⟩:=pl;exact PySem.W.kia_one PySem.W.kitx_tuple I.kIn ⟨o,h1,h2⟩ e' (λz=>nomatch z) h
 |@lst ts p vs hq l r=>cases hn;cases (show u=Value.ref p from rx);obtain⟨its,_,pl,_⟩:=I.list (zdD hq);obtain⟨o,h1,h2⟩:=pl.isList;exact PySem.W.kia_one PySem.W.kitx_list I.kIn ⟨o,h1,h2.1⟩ e' (λz=>nomatch z) h
 |@ref a ha=>
  cases (show u=Value.ref _ from rx);unfold tyN at hn;dsimp only at hn;split at hn
  .rename_i ts q;cases hn;obtain⟨vs,q2,_⟩:=m.cell a _ q;obtain⟨_,_,n,_,h1⟩:=(show ObjOk X.prog X.w S.H s.heap (S.α a) (.lst vs)from I.hok _ _ q2);exact PySem.W.kia_one PySem.W.kitx_list I.kIn ⟨_,h1,rfl⟩ e' (λz=>nomatch z) h
  .rename_i ts q;cases hn;obtain⟨vs,q2,_⟩:=m.cell a _ q;obtain⟨_,_,vs2,_,p⟩:=(show ObjOk X.prog X.w S.H s.heap (S.α a) (.dK vs)from I.hok _ _ q2);obtain⟨o,es,ep,h1,h2,_⟩:=p;exact PySem.W.kia_one PySem.W.kitx_dict I.kIn ⟨o,h1,h2.1⟩ e' (λz=>nomatch z) h
  .cases hn
 |dct h l r=>cases hn|exc h hd l r=>cases hn
theorem zc2:yV X (.builtin "isinstance") (lRN XE X.K (call2 z6)):=zfS λρ s J S t1 t2 x1 x2 v1 v2 Q I rx ry m r1 r2 Y=>by
 unfold z6 at Y;rw?
 .rename_i U;rw?
  .rename_i n hn;rw?
   .rename_i hU;cases r2;cases ry;exact zom I m rx r1 hn (zp4 n (zpc hn) U hU.1 hU.2) λtk=>⟨.bl _,S.H,I.tok tk,rfl,Y S _ rfl (.refl m) (.bl _)⟩
   .simp?
  .simp?
 .simp?
end
noncomputable def zbk:T->Bool
 |.non=>true|.bl _=>true|.int _=>true|.str _=>true|_=>false
noncomputable def eqS:T->T->Bool
 |.non,.non=>true|.bl a,.bl b=>a==b|.bl a,.int b=>(if a then 1 else 0)==b|.int a,.bl b=>a==(if b then 1 else 0)|.int a,.int b=>a==b|.str a,.str b=>a==b|_,_=>false
noncomputable def eqL(f:T->T->Option Bool):List T->List T->Option Bool
 |[],[]=>some true|[],_::_=>some false|_::_,[]=>some false|x::xs,y::ys=>match f x y,eqL f xs ys with
  |some a,some b=>some (a && b)|_,_=>none
def eqD(M:Mem):Nat->T->T->Option Bool
 |d,.tup xs,.tup ys=>match d with
  |0=>none|d+1=>eqL (eqD M d) xs ys
 |d,x,y=>if(zbk x && zbk y)=true then some (eqS x y)else match d,zy x M,zy y M with
  |d+1,some xs,some ys=>if xs.length=ys.length then eqL (eqD M d) xs ys else some false|_,_,_=>none
def eqA:X3:=λx y M=>match eqD M 20 x y with
 |some b=>.ok (.bl b) M|none=>.bad
def neA:X3:=λx y M=>match eqD M 20 x y with
 |some b=>.ok (.bl (!b)) M|none=>.bad
theorem zdX:∀{xs ys:List T} {b:Bool},eqL f xs ys=some b->
  ∃e:Nat->Bool,(∀j x y,xs[j]?=some x->ys[j]?=some y->f x y=some (e j))/\b=((List.range (min xs.length ys.length)).all e && xs.length==ys.length)
 |[],[],b,h=>by cases h;exact⟨λ_=>true,λj x y e1=>by simp at e1,by simp⟩|[],_::_,b,h=>by cases h;exact⟨λ_=>true,λj x y e1=>by simp at e1,by simp⟩|_::_,[],b,h=>by cases h;exact⟨λ_=>true,λj x y _ e1=>by simp at e1,by simp⟩|x::xs,y::ys,b,h=>by
  unfold eqL at h;cases q1:f x y with
  |none=>rw[q1]at h;cases h|some a=>
   cases q2:eqL f xs ys with
   |none=>rw[q1,q2]at h;cases h|some c=>
    rw[q1,q2]at h;cases h;obtain⟨e,h1,h2⟩:=zdX q2;refine⟨λj=>match j with | 0=>a | j+1=>e j,λj u v e1 e2=>?_,?_⟩
    .cases j with|zero=>simp at e1 e2;subst e1;subst e2;exact q1|succ j=>exact h1 j u v (by simpa using e1) (by simpa using e2)
    .rw[h2];have:min (x::xs).length (y::ys).length=min xs.length ys.length+1:=by simp only[Qp];symm
     rw[this,List.range_succ_eq_map,all_cons,List.all_map];simp[Bool.and_assoc,Function.comp_def]
section
variable     {J:L2.St} 
theorem qP{K:Frag}(r:Rep K S t v)(h:zbk t=true):zaJ v=true:=by cases r<;>first | rfl | (exact absurd (show false=true from h) Q4)
theorem ze1{K:Frag}(r:Rep K S t v)(q:Rep K S u w)(h:zbk t=true)(h2:zbk u=true):eqS t u=eqV v w:=by cases r<;>first | (exact absurd (show false=true from h) Q4) | (cases q<;>first | rfl | (exact absurd (show false=true from h2) Q4))
theorem zkx{K:Frag}(r:Rep K S t v)(q:Rep K S u v)(h:zbk t=true)(h2:zbk u=true):eqS t u=true:=by rw[ze1 r q h h2];exact zoC v (qP r h)
theorem zoD(I:L2.Inv X ρ J S.H s)(m:MemOk X.K S):∀(d:Nat) {t u:T} {v:V} {b:Bool},Rep X.K S t v->Rep X.K S u v->eqD S.M d t u=some b->b=true:=by
 intro d
 induction d with
 |zero=>
  intro t u v b r q h;unfold eqD at h;split at h
  .cases h
  .split at h
   .rename_i hs;rw[Qs]at hs;cases h;exact zkx r q hs.1 hs.2
   .cases h
 |succ d ih=>
  have key:∀{xs ys:List T} {vs:List V} {b:Bool},Reps X.K S xs vs->Reps X.K S ys vs->eqL (eqD S.M d) xs ys=some b->b=true:=by
   intro xs ys vs b r q h;obtain⟨e,h1,h2⟩:=zdX h;rw[h2,r.1,q.1];simp only[Nat.min_self,Qy,Bool.and_true,all_eq_true,mem_range];intro j hj;have hx:j<xs.length:=by rw[r.1];exact hj
   have hy:j<ys.length:=by rw[q.1];exact hj
   have ex:xs[j]?=some xs[j]:=by simp[hx]
   have ey:ys[j]?=some ys[j]:=by simp[hy]
   have ev:vs[j]?=some vs[j]:=by simp[hj]
   exact ih (r.2 j _ _ ex ev) (q.2 j _ _ ey ev) (h1 j _ _ ex ey)
  intro t u v b r q h;unfold eqD at h;split at h
  .cases r with
   |@tup _ p vs h1 l1 r1=>
   cases q with|@tup _ _ vs2 h2 l2 r2=>
   have:=I.tuple_inj h1 h2;subst this;exact key ⟨l1,r1⟩ ⟨l2,r2⟩ h
  .split at h
   .rename_i hs;rw[Qs]at hs;cases h;exact zkx r q hs.1 hs.2
   .split at h
    .rename_i d' xs ys hd q1 q2;cases hd;obtain⟨p,vs,e1,hq1,s1⟩:=yD m r q1;obtain⟨p2,vs2,e2,hq2,s2⟩:=yD m q q2;rw[e1]at e2;cases e2;have:=I.list_inj hq1 hq2;subst this;rw[QA (by rw[s1.1,s2.1])]at h;exact key s1 s2 h
    .cases h
theorem znk(I:L2.Inv X ρ J S.H s)(m:MemOk X.K S):∀(d:Nat) {A:Around} {t u:T} {v w:V} {x y:Value} {b:Bool},A.units+d<cLine->RelV v x->RelV w y->Rep X.K S t v->Rep X.K S u w->eqD S.M d t u=some b->SeqAt.EqAt A s x y b:=by
 intro d
 induction d with
 |zero=>
  intro A t u v w x y b hu rx ry r q h;unfold eqD at h;split at h
  .cases h
  .split at h
   .rename_i hs;rw[Qs]at hs;cases h;rw[ze1 r q hs.1 hs.2];exact zjE rx ry (qP r hs.1) (qP q hs.2)
   .cases h
 |succ d ih=>
  have key:∀{A:Around} {xs ys:List T} {vs ws:List V} {us zs:List Value} {b:Bool},A.units+d<cLine->Reps X.K S xs vs->Reps X.K S ys ws->Vals vs us->Vals ws zs->eqL (eqD S.M d) xs ys=some b->
    ∃e:Nat->Bool,(∀j (h1:j<us.toArray.size) (h2:j<zs.toArray.size),SeqAt.EqAt A s us.toArray[j] zs.toArray[j] (e j))/\b=((List.range (min us.toArray.size zs.toArray.size)).all e && us.toArray.size==zs.toArray.size):=by
   intro A xs ys vs ws us zs b hu r q hv hw h;obtain⟨e,h1,h2⟩:=zdX h;have l1:us.length=xs.length:=by rw[←hv.length,r.1]
   have l2:zs.length=ys.length:=by rw[←hw.length,q.1]
   refine⟨e,λj g1 g2=>?_,by rw[h2,Qi,Qi,l1,l2]⟩;have g1':j<us.length:=by simpa using g1
   have g2':j<zs.length:=by simpa using g2
   have ex:xs[j]?=some (xs[j]'⋯):=Q0 ⋯;have ey:ys[j]?=some (ys[j]'⋯):=Q0 ⋯;obtain⟨v,ev,rv⟩:=r.get ex;obtain⟨w,ew,rw'⟩:=q.get ey;obtain⟨a,ea,ra⟩:=Vals.get hv ev;obtain⟨c,ec,rc⟩:=Vals.get hw ew;have:us.toArray[j]=a:=by rw[getElem_toArray];rw[Q0 g1']at ea;exact Qd ea
   rw[this];have:zs.toArray[j]=c:=by rw[getElem_toArray];rw[Q0 g2']at ec;exact Qd ec
   rw[this];exact ih hu ra rc rv rw' (h1 j _ _ ex ey)
  intro A t u v w x y b hu rx ry r q h;have hsame:v=w->b=true:=λz=>by subst z;exact zoD I m (d+1) r q h
  unfold eqD at h;split at h
  .cases r with
   |@tup _ p vs h1 l1 r1=>
   cases q with|@tup _ p2 vs2 h2 l2 r2=>
   cases rx;cases ry
   by_cases hp:p=p2
   .subst hp;rw[hsame rfl];exact SeqAt.EqAt.same _
   .obtain⟨its,ri,pl,_⟩:=I.tuple h1;obtain⟨its2,ri2,pl2,_⟩:=I.tuple h2;obtain⟨e,he,eb⟩:=key (A:=A.in1) (by show A.units+1+d<cLine;symm) ⟨l1,r1⟩ ⟨l2,r2⟩ ri ri2 h;rw[eb];exact SeqAt.EqAt.of_refs hp (SeqAt.RcAt.tuples pl pl2 ⋯ he)
  .split at h
   .rename_i hs;rw[Qs]at hs;cases h;rw[ze1 r q hs.1 hs.2];exact zjE rx ry (qP r hs.1) (qP q hs.2)
   .split at h
    .rename_i d' xs ys hd q1 q2;cases hd;obtain⟨p,vs,e1,hq1,s1⟩:=yD m r q1;obtain⟨p2,vs2,e2,hq2,s2⟩:=yD m q q2;subst e1;subst e2;cases rx;cases ry
     by_cases hp:p=p2
     .subst hp;rw[hsame rfl];exact SeqAt.EqAt.same _
     .obtain⟨its,ri,pl,_⟩:=I.list hq1;obtain⟨its2,ri2,pl2,_⟩:=I.list hq2;have lz:its.length=xs.length:=by rw[←ri.length,s1.1]
      have lz2:its2.length=ys.length:=by rw[←ri2.length,s2.1]
      by_cases hl:xs.length=ys.length
      .rw[QA hl]at h;obtain⟨e,he,eb⟩:=key (A:=A.in1) (by show A.units+1+d<cLine;symm) s1 s2 ri ri2 h;have hsz:its.toArray.size=its2.toArray.size:=by simp[lz,lz2,hl]
       rw[eb,hsz,Nat.min_self,Qy,Bool.and_true,←hsz];exact SeqAt.EqAt.of_refs hp (SeqAt.RcAt.lists pl.isList pl2.isList hsz ⋯ he)
      .rw[QB hl]at h;cases h;exact SeqAt.EqAt.of_refs hp (SeqAt.RcAt.lists_lengths pl.isList pl2.isList (by simp[lz,lz2,hl]) ⋯)
    .cases h
theorem zrb(ry:RelV y u)(rx:RelV x v)(fy:zaJ y=true)(fx:zaJ x=true):SeqAt.RcAt A s u v (eqV y x):=by
 cases y with
 |non=>cases ry;cases x with|non=>cases rx;exact SeqAt.RcAt.none_none|bl b=>cases rx;exact SeqAt.RcAt.none_bool b|int b=>obtain⟨t,rfl⟩:=rx;exact SeqAt.RcAt.none_int b t|str b=>obtain⟨t,rfl⟩:=rx;exact SeqAt.RcAt.none_str b t|_=>exact?
 |bl a=>cases ry;cases x with|non=>cases rx;exact SeqAt.RcAt.bool_none a|bl b=>cases rx;exact SeqAt.RcAt.bool_bool a b|int b=>obtain⟨t,rfl⟩:=rx;exact SeqAt.RcAt.bool_int a b t|str b=>obtain⟨t,rfl⟩:=rx;exact SeqAt.RcAt.bool_str a b t|_=>exact?
 |int a=>obtain⟨t',rfl⟩:=ry;cases x with|non=>cases rx;exact SeqAt.RcAt.int_none a t'|bl b=>cases rx;exact SeqAt.RcAt.int_bool a t' b|int b=>obtain⟨t,rfl⟩:=rx;exact SeqAt.RcAt.int_int a t' b t|str b=>obtain⟨t,rfl⟩:=rx;exact SeqAt.RcAt.int_str a t' b t|_=>exact?
 |str a=>obtain⟨t',rfl⟩:=ry;cases x with|non=>cases rx;exact SeqAt.RcAt.str_none a t'|bl b=>cases rx;exact SeqAt.RcAt.str_bool a t' b|int b=>obtain⟨t,rfl⟩:=rx;exact SeqAt.RcAt.str_int a t' b t|str b=>obtain⟨t,rfl⟩:=rx;exact SeqAt.RcAt.str_str a t' b t|_=>exact?
 |_=>exact absurd (show false=true from fy) Q4
theorem znY(ry:RelV y u)(rx:RelV x v)(fy:zaJ y=true)(fx:zaJ x=true):SeqAt.RcNeAt A s u v (!eqV y x):=by
 cases y with
 |non=>cases ry;cases x with|non=>cases rx;exact SeqAt.RcNeAt.none_none|bl b=>cases rx;exact SeqAt.RcNeAt.none_bool b|int b=>obtain⟨t,rfl⟩:=rx;exact SeqAt.RcNeAt.none_int b t|str b=>obtain⟨t,rfl⟩:=rx;exact SeqAt.RcNeAt.none_str b t|_=>exact?
 |bl a=>cases ry;cases x with|non=>cases rx;exact SeqAt.RcNeAt.bool_none a|bl b=>cases rx;exact SeqAt.RcNeAt.bool_bool a b|int b=>obtain⟨t,rfl⟩:=rx;exact SeqAt.RcNeAt.bool_int a b t|str b=>obtain⟨t,rfl⟩:=rx;exact SeqAt.RcNeAt.bool_str a b t|_=>exact?
 |int a=>obtain⟨t',rfl⟩:=ry;cases x with|non=>cases rx;exact SeqAt.RcNeAt.int_none a t'|bl b=>cases rx;exact SeqAt.RcNeAt.int_bool a t' b|int b=>obtain⟨t,rfl⟩:=rx;exact SeqAt.RcNeAt.int_int a t' b t|str b=>obtain⟨t,rfl⟩:=rx;exact SeqAt.RcNeAt.int_str a t' b t|_=>exact?
 |str a=>obtain⟨t',rfl⟩:=ry;cases x with|non=>cases rx;exact SeqAt.RcNeAt.str_none a t'|bl b=>cases rx;exact SeqAt.RcNeAt.str_bool a t' b|int b=>obtain⟨t,rfl⟩:=rx;exact SeqAt.RcNeAt.str_int a t' b t|str b=>obtain⟨t,rfl⟩:=rx;exact SeqAt.RcNeAt.str_str a t' b t|_=>exact?
 |_=>exact absurd (show false=true from fy) Q4
theorem znj(I:L2.Inv X ρ J S.H s)(m:MemOk X.K S)(d:Nat){t u:T}{v w:V}{x y:Value}{b:Bool}{A:Around}(hu:A.units+d<cLine)(rx:RelV v x)(ry:RelV w y)(r:Rep X.K S t v)(q:Rep X.K S u w)(h:eqD S.M d t u=some b):SeqAt.RcAt A s x y b/\SeqAt.RcNeAt A s x y (!b):=by
 have at_:∀{A:Around} {d:Nat} {xs ys:List T} {vs ws:List V} {us zs:List Value} {b:Bool},A.units+d<cLine->Reps X.K S xs vs->Reps X.K S ys ws->Vals vs us->Vals ws zs->eqL (eqD S.M d) xs ys=some b->
    ∃e:Nat->Bool,(∀j (h1:j<us.toArray.size) (h2:j<zs.toArray.size),SeqAt.EqAt A s us.toArray[j] zs.toArray[j] (e j))/\b=((List.range (min us.toArray.size zs.toArray.size)).all e && us.toArray.size==zs.toArray.size):=by
  intro A d xs ys vs ws us zs b hu r q hv hw h;obtain⟨e,h1,h2⟩:=zdX h;have l1:us.length=xs.length:=by rw[←hv.length,r.1]
  have l2:zs.length=ys.length:=by rw[←hw.length,q.1]
  refine⟨e,λj g1 g2=>?_,by rw[h2,Qi,Qi,l1,l2]⟩;have g1':j<us.length:=by simpa using g1
  have g2':j<zs.length:=by simpa using g2
  have ex:xs[j]?=some (xs[j]'⋯):=Q0 ⋯;have ey:ys[j]?=some (ys[j]'⋯):=Q0 ⋯;obtain⟨v,ev,rv⟩:=r.get ex;obtain⟨w,ew,rw'⟩:=q.get ey;obtain⟨a,ea,ra⟩:=Vals.get hv ev;obtain⟨c,ec,rc⟩:=Vals.get hw ew;have:us.toArray[j]=a:=by rw[getElem_toArray];rw[Q0 g1']at ea;exact Qd ea
  rw[this];have:zs.toArray[j]=c:=by rw[getElem_toArray];rw[Q0 g2']at ec;exact Qd ec
  rw[this];exact znk I m d hu ra rc rv rw' (h1 j _ _ ex ey)
 unfold eqD at h;split at h
 .split at h
  .cases h
  .rename_i d;cases r with
   |@tup _ p vs h1 l1 r1=>
   cases q with|@tup _ p2 vs2 h2 l2 r2=>
   cases rx;cases ry;obtain⟨its,ri,pl,_⟩:=I.tuple h1;obtain⟨its2,ri2,pl2,_⟩:=I.tuple h2;obtain⟨e,he,eb⟩:=at_ (A:=A.in1) (by show A.units+1+d<cLine;symm) ⟨l1,r1⟩ ⟨l2,r2⟩ ri ri2 h;rw[eb];exact⟨SeqAt.RcAt.tuples pl pl2 ⋯ he,SeqAt.RcNeAt.tuples pl pl2 ⋯ he⟩
 .split at h
  .rename_i hs;rw[Qs]at hs;cases h;rw[ze1 r q hs.1 hs.2];exact⟨zrb rx ry (qP r hs.1) (qP q hs.2),znY rx ry (qP r hs.1) (qP q hs.2)⟩
  .split at h
   .rename_i d' xs ys q1 q2;obtain⟨p,vs,e1,hq1,s1⟩:=yD m r q1;obtain⟨p2,vs2,e2,hq2,s2⟩:=yD m q q2;subst e1;subst e2;cases rx;cases ry;obtain⟨its,ri,pl,_⟩:=I.list hq1;obtain⟨its2,ri2,pl2,_⟩:=I.list hq2;have lz:its.length=xs.length:=by rw[←ri.length,s1.1]
    have lz2:its2.length=ys.length:=by rw[←ri2.length,s2.1]
    by_cases hl:xs.length=ys.length
    .rw[QA hl]at h;obtain⟨e,he,eb⟩:=at_ (A:=A.in1) (by show A.units+1+d'<cLine;symm) s1 s2 ri ri2 h;have hsz:its.toArray.size=its2.toArray.size:=by simp[lz,lz2,hl]
     rw[eb,hsz,Nat.min_self,Qy,Bool.and_true,←hsz];exact⟨SeqAt.RcAt.lists pl.isList pl2.isList hsz ⋯ he,SeqAt.RcNeAt.lists pl.isList pl2.isList hsz ⋯ he⟩
    .rw[QB hl]at h;cases h;exact⟨SeqAt.RcAt.lists_lengths pl.isList pl2.isList (by simp[lz,lz2,hl]) ⋯,SeqAt.RcNeAt.lists_lengths pl.isList pl2.isList (by simp[lz,lz2,hl]) ⋯⟩
   .cases h
theorem qB(hu:X.A.units+64<cLine):OpR X (compareOp .Eq) (lR2 XE X.K eqA):=by
 injections
 subst e;replace Y:Fin XE (Rep X.K) X.K S (eqA tx ty S.M) Q:=Y;unfold eqA at Y;rw?
 .rename_i b q;exact(znj I m 20 (A:=X.A) ⋯ rx ry r1 r2 q).1 _ _ _ _ ⟨.bl b,S.H,I,rfl,Y S _ rfl (.refl m) (.bl _)⟩
 .simp?
theorem zcm(hu:X.A.units+64<cLine):OpR X (compareOp .NotEq) (lR2 XE X.K neA):=by
 injections
 subst e;replace Y:Fin XE (Rep X.K) X.K S (neA tx ty S.M) Q:=Y;unfold neA at Y;rw?
 .rename_i b q;exact(znj I m 20 (A:=X.A) ⋯ rx ry r1 r2 q).2 _ _ _ _ ⟨.bl (!b),S.H,I,rfl,Y S _ rfl (.refl m) (.bl _)⟩
 .simp?
def inA:X3:=λx y M=>match qR y M with
 |some ys=>if(zbk x && ys.all zbk)=true then .ok (.bl (ys.any λy=>eqS y x)) M else .bad|none=>.bad
def zlN:X3:=λx y M=>match qR y M with
 |some ys=>if(zbk x && ys.all zbk)=true then .ok (.bl (!ys.any λy=>eqS y x)) M else .bad|none=>.bad
theorem ziA{K:Frag}(rx:Rep K S x v)(hx:zbk x=true):∀{ys:List T} {vs:List V},Reps K S ys vs->ys.all zbk=true->vs.all zaJ=true/\inV v vs=ys.any λy=>eqS y x
 |[],vs,r,_=>by rw[r.nilT];exact⟨rfl,rfl⟩|y::ys,vs,r,h=>by obtain⟨w,ws,rfl,r1,r2⟩:=r.consT;rw[all_cons,Qs]at h;obtain⟨h1,h2⟩:=ziA rx hx r2 h.2;refine⟨by rw[all_cons,qP r1 h.1,h1];rfl,?_⟩;unfold inV at h2 ⊢;rw[any_cons,any_cons,h2,ze1 r1 rx h.1 hx]
theorem zrH:OpR X (compareOp .In) (lR2 XE X.K inA):=by
 injections
 subst e;replace Y:Fin XE (Rep X.K) X.K S (inA tx ty S.M) Q:=Y;unfold inA at Y;rw?
 .rename_i ys q;rw?
  .rename_i hs;rw[Qs]at hs;obtain⟨p,vs,e1,hq,rs⟩:=zcj m r2 q;dsimp only at e1;subst e1;obtain⟨a1,a2⟩:=ziA r1 hs.1 rs hs.2;exact zmH ρ s J S.H _ _ v u Q I rx ry ⟨p,vs,rfl,hq,qP r1 hs.1,a1,by rw[a2];exact Y S _ rfl (.refl m) (.bl _)⟩
  .simp?
 .simp?
theorem zpL:OpR X (compareOp .NotIn) (lR2 XE X.K zlN):=by
 injections
 subst e;replace Y:Fin XE (Rep X.K) X.K S (zlN tx ty S.M) Q:=Y;unfold zlN at Y;rw?
 .rename_i ys q;rw?
  .rename_i hs;rw[Qs]at hs;obtain⟨p,vs,e1,hq,rs⟩:=zcj m r2 q;dsimp only at e1;subst e1;obtain⟨a1,a2⟩:=ziA r1 hs.1 rs hs.2;exact zi7 ρ s J S.H _ _ v u Q I rx ry ⟨p,vs,rfl,hq,qP r1 hs.1,a1,by rw[QA rfl,a2];exact Y S _ rfl (.refl m) (.bl _)⟩
  .simp?
 .simp?
end
section
noncomputable def zu1:List T->Option (List Int)
 |[]=>some []|.int b::r=>(zu1 r).map (b :: ·)|_=>none
def getL:X3:=λx y M=>match y,zy x M with
 |.int i,some xs=>zem (atI xs i) M|_,_=>.bad
theorem ztZ:zjZ X (lR2 XE X.K getL):=by
 injections
 subst e;replace Y:Fin XE (Rep X.K) X.K S (getL tx ty S.M) Q:=Y;unfold getL at Y;rw?
 .rename_i i xs q;obtain⟨t,et,Y⟩:=zg4 Y;obtain⟨p,vs,e1,hq,rs⟩:=yD m r1 q;dsimp only at e1;subst e1;cases r2;obtain⟨w,ew,rw'⟩:=rs.atI et;exact zou ρ s J S.H _ _ v u Q I rx ry ⟨p,vs,i,w,rfl,rfl,hq,ew,Y S w rfl (.refl m) rw'⟩
 .simp?
theorem zp9:PIp X .Add (lR2 XE X.K zdv):=by
 injections
 subst e;replace Y:Fin XE (Rep X.K) X.K S (zdv tx ty S.M) Q:=Y;unfold zdv zaU at Y;rw?
 .cases r1;cases r2
  exact zr9 ρ s J S.H _ _ v u Q I rx ry ⟨_,_,rfl,rfl,Y S _ rfl (.refl m) (.int _)⟩
 .simp?
end
noncomputable def znX(o:Out Fl):Out T:=match o with
 |.ok (.rt t) M'=>.ok t M'|.ok (.nx _) M'=>.ok .non M'|_=>.bad
theorem zms(h:ts.length=p):zj p n g ts M=znX (g (startT n ts) M):=by unfold zj;rw[QA h];rfl
def zvt:znX (.ok (.rt t) M) = .ok t M:=rfl
def zvu:znX (.ok (.nx J) M) = .ok .non M:=rfl
def zv6{k:Bool->Mem->Out β}:blT (.bl b) M k=k b M:=rfl
def qf:zbt k (.nx J) M=k J M:=rfl
def zum:zbt k (.rt t) M = .ok (.rt t) M:=rfl
def zuo:zbt k (.bk J) M = .ok (.bk J) M:=rfl
def zun:zbt k (.ct J) M = .ok (.ct J) M:=rfl
def zuO:zaj k (.nx J) M=k J M:=rfl
def zuN:zaj k (.rt t) M = .ok (.rt t) M:=rfl
def zuQ:zaj k (.bk J) M = .ok (.nx J) M:=rfl
def zuP:zaj k (.ct J) M=k J M:=rfl
def zc8:forL bd body (x::xs) J M=(bd x J M).bind λJ1 M1=>(body J1 M1).bind (zaj (forL bd body xs)):=rfl
def zvE:yw k [t] M=k t M:=rfl
def zvD:call2 k [t,u] M=k t u M:=rfl
def zvJ:yF (.int i) (.int j) M = .ok (.int (i+j)) M:=rfl
def zvj:zbY (.int i) (.int j) M = .ok (.int (i-j)) M:=rfl
def zpT(h:Mo64 i j):zW (.int i) (.int j) M = .ok (.int (i*j)) M:=QA h
def zho(h:j ≠ 0/\j.natAbs<10 ^ 2000):zeB (.int i) (.int j) M = .ok (.int (i.fdiv j)) M:=QA h
def zkT(h:j ≠ 0):zb3 (.int i) (.int j) M = .ok (.int (i.fmod j)) M:=QA h
def zvv(h:0<=j/\j<=1000000/\i.natAbs<2 ^ 64):zg2 (.int i) (.int j) M = .ok (.int (i ^ j.toNat)) M:=QA h
def zvP:ltI (.int i) (.int j) M = .ok (.bl (decide (i<j))) M:=rfl
def zvQ:leI (.int i) (.int j) M = .ok (.bl (decide (i<=j))) M:=rfl
def zvU:gtI (.int i) (.int j) M = .ok (.bl (decide (j<i))) M:=rfl
def zvV:geI (.int i) (.int j) M = .ok (.bl (decide (j<=i))) M:=rfl
def zvN:zdm (.int i) M = .ok (.int (-i)) M:=rfl
def zvw:zjf (.int i) (.int j) M = .ok (.int (if j > i then j else i)) M:=rfl
def zvW:eqA (.int i) (.int j) M = .ok (.bl (i==j)) M:=rfl
def zvO:neA (.int i) (.int j) M = .ok (.bl (!(i==j))) M:=rfl
def zvT:isB (.bl a) (.bl b) M = .ok (.bl (a==b)) M:=rfl
def zuZ:ztP (.bl a) (.bl b) M = .ok (.bl (a != b)) M:=rfl
theorem zaB{xs:List α}{n:Nat}:atI xs (n:Int)=xs[n]?:=by
 unfold atI ixN
 by_cases h:n<xs.length
 .simp[h]
 .simp[h]
theorem zo7{l:List α}:atI (x::l) 0=some x:=by have:=zaB (xs:=x::l) (n:=0);exact this
theorem zuf{l:List α}:atI (x::y::l) 1=some y:=by have:=zaB (xs:=x::y::l) (n:=1);exact this
theorem zue{l:List α}:atI (x::y::z::l) 2=some z:=by have:=zaB (xs:=x::y::z::l) (n:=2);exact this
theorem zud{l:List α}:atI (x::y::z::w::l) 3=some w:=by have:=zaB (xs:=x::y::z::w::l) (n:=3);exact this
theorem zwe:ixN (n+1) 0=some 0:=by unfold ixN;simp
theorem zwd:ixN (n+2) 1=some 1:=by unfold ixN;simp;symm
theorem zwc:ixN (n+3) 2=some 2:=by unfold ixN;simp;symm
theorem qQ(e:M[a]?=some (.lst xs))(h:xs.length<sizeLine):yP (.ref a) [t] M = .ok .non (M.set a (.lst (xs++[t]))):=by unfold yP;simp only[e,QA h]
theorem qH(e:M[a]?=some (.lst xs)):qG (.ref a) M = .ok (.ref a) M:=by unfold qG zy;simp only[e]
theorem zdK(e:M[a]?=some (.lst xs)):z8 (.ref a) M = .ok (.tup xs) M:=by unfold z8 qR zy;simp only[e]
def zra(h:-(2 ^ 62)<=j/\j<2 ^ 62):zbz [.int j] M = .ok (zdj 0 j.toNat) M:=QA h
theorem zv4:zeB (.int i) (.int 8) M = .ok (.int (i.fdiv 8)) M:=zho ⟨by decide,Q5 (show(8:Int).natAbs<10 ^ 1 by decide) (Nat.pow_le_pow_right ∅ ∅)⟩
def zaO(h:-(2 ^ 64)<i/\i<2 ^ 64):zW (.int i) (.int j) M = .ok (.int (i*j)) M:=zpT (.inr (.inl h))
theorem zo3{j:Int}(n:Nat)(hn:n<=2000)(h0:j ≠ 0)(h:j.natAbs<10 ^ n):j ≠ 0/\j.natAbs<10 ^ 2000:=⟨h0,Q5 h (Nat.pow_le_pow_right ∅ hn)⟩
structure Po where
 a:Int
 b:Int
 c:Int
noncomputable def Po.cell(p:Po):Cell:=.lst [.int p.a,.int p.b,.int p.c]
noncomputable def Po.dig(p:Po)(base:Int):Int:=if 0<p.a then p.a % base else
 let mixed:=(p.b+7919*(p.c+1)) % 1000000007
 let stir:=(mixed+11)*(mixed+48271) % 998244353
 (stir*stir % 2147483647 / 8) % base
noncomputable def Po.nxt(p:Po)(base:Int):Po:=if 0<p.a then⟨p.a / base,p.b,p.c⟩else⟨p.a,p.b,p.c+1⟩
def Po.new(cell:Int):Po:=⟨if cell-10 ^ 18 > 0 then cell-10 ^ 18 else 0,cell % 10 ^ 18,0⟩
theorem Po.dig_lo(p:Po){base:Int}(h:0<base):0<=p.dig base:=by
 unfold Po.dig;split
 .exact Int.emod_nonneg _ ⋯
 .exact Int.emod_nonneg _ ⋯
theorem Po.dig_hi(p:Po){base:Int}(h:0<base):p.dig base<base:=by
 unfold Po.dig;split
 .exact Int.emod_lt_of_pos _ h
 .exact Int.emod_lt_of_pos _ h
def zuS:zx (.tup xs) M = .ok (.int xs.length) M:=rfl
def zoh:zx (.lst xs) M = .ok (.int xs.length) M:=rfl
theorem zfE(e:M[a]?=some (.lst xs)):zx (.ref a) M = .ok (.int xs.length) M:=by unfold zx qR zy;simp only[e]
theorem znF{xs:List α}{i:Int}(h0:0<=i)(h1:i<xs.length):∃x,atI xs i=some x/\x ∈ xs:=by
 obtain⟨n,rfl⟩:∃n:Nat,i=n:=⟨i.toNat,⋯⟩;have hn:n<xs.length:=by symm
 exact⟨xs[n],by rw[zaB];simp[hn],getElem_mem hn⟩
def zdG(h:xs.length+ys.length<=sizeLine):yF (.lst xs) (.lst ys) M = .ok (.lst (xs++ys)) M:=QA h
noncomputable def zhc:T->Option Key
 |.int i=>some (.inl i)|.str x=>some (.inr x)|_=>none
noncomputable def zgH(t:T)(M:Mem):Option (List (Key × T)):=match t with
 |.ref a=>match M[a]? with
  |some (.dic kvs)=>some kvs|_=>none
 |.dct kvs=>some kvs|_=>none
noncomputable def qI{κ:Type}[DecidableEq κ](kvs:List (κ × T))(k:κ):Option T:=(kvs.find? λkv=>decide (kv.1=k)).map (·.2)
noncomputable def zab{κ:Type}[DecidableEq κ](kvs:List (κ × T))(k:κ)(t:T):List (κ × T):=
 if(kvs.any λkv=>decide (kv.1=k))=true then kvs.map (λkv=>if kv.1=k then(kv.1,t)else kv)else kvs++[(k,t)]
section
variable {K:Frag}{S:Sit}
theorem zdQ(r:Rep K S t v)(e:zhc t=some k):v=kV k:=by cases r with|int i=>have e':some (Sum.inl i)=some k:=e;cases e';rfl|str i=>have e':some (Sum.inr i)=some k:=e;cases e';rfl|non=>cases e|bl b=>cases e|ty b=>cases e|tup _ _ _=>cases e|lst _ _ _=>cases e|ref _=>cases e|dct _ _ _=>cases e|exc _ _ _ _=>cases e
section
variable {κ:Type}[DecidableEq κ]
theorem RepK.nilT{us:List (κ × V)}(r:RepK K S [] us):us=[]:=by
 have:=r.1
 simpa using this.symm
def RepK.nil:RepK (κ:=κ) K S [] []:=⟨rfl,.nil⟩
theorem RepK.consT{us:List (κ × V)}(r:RepK K S (p::kvs) us):∃u us',us=(p.1,u)::us'/\Rep K S p.2 u/\RepK K S kvs us':=by
 cases us with
 |nil=>have:=r.1;simp at this|cons q us=>
  obtain⟨h1,h2⟩:=r;rw[QG,QG]at h1 h2;injection h1 with e1 e2;obtain⟨v,vs,e3,r1,r2⟩:=h2.consT;injection e3 with e3 e4;refine⟨q.2,us,?_,?_,e2,?_⟩
  .rw[e1]
  .rw[e3];exact r1
  .rw[e4];exact r2
theorem RepK.cons{t:T}{u:V}{kvs:List (κ × T)}{us:List (κ × V)}(q:Rep K S t u)(r:RepK K S kvs us):RepK K S ((k,t)::kvs) ((k,u)::us):=
 ⟨by rw[QG,QG,r.1],by rw[QG,QG];exact r.2.cons q⟩
theorem RepK.length{us:List (κ × V)}(r:RepK K S kvs us):kvs.length=us.length:=by
 have:=congrArg List.length r.1
 simpa using this
theorem RepK.look(k:κ):∀{kvs:List (κ × T)} {us:List (κ × V)},RepK K S kvs us->(qI kvs k=none/\zau us k=none)\/∃t v,qI kvs k=some t/\zau us k=some v/\Rep K S t v
 |[],us,r=>by rw[r.nilT];exact .inl ⟨rfl,rfl⟩|p::kvs,us,r=>by
  obtain⟨u,us',rfl,r1,r2⟩:=r.consT
  by_cases h:p.1=k
  .refine .inr ⟨p.2,u,?_,?_,r1⟩
   .simp[qI,find?_cons,h]
   .simp[zau,find?_cons,h]
  .have e1:qI (p::kvs) k=qI kvs k:=by simp[qI,find?_cons,h]
   have e2:zau ((p.1,u)::us') k=zau us' k:=by simp[zau,find?_cons,h]
   rw[e1,e2];exact RepK.look k r2
theorem RepK.any(k:κ):∀{kvs:List (κ × T)} {us:List (κ × V)},RepK K S kvs us->(kvs.any λkv=>decide (kv.1=k))=us.any λkv=>decide (kv.1=k)
 |[],us,r=>by rw[r.nilT];rfl|p::kvs,us,r=>by obtain⟨u,us',rfl,r1,r2⟩:=r.consT;rw[any_cons,any_cons,RepK.any k r2]
theorem RepK.repl(k:κ){t:T}{v:V}(q:Rep K S t v):∀{kvs:List (κ × T)} {us:List (κ × V)},RepK K S kvs us->RepK K S (kvs.map (λkv=>if kv.1=k then(kv.1,t)else kv)) (us.map (λkv=>if kv.1=k then(kv.1,v)else kv))
 |[],us,r=>by rw[r.nilT];exact .nil|p::kvs,us,r=>by
  obtain⟨u,us',rfl,r1,r2⟩:=r.consT;rw[QG,QG]
  by_cases h:p.1=k
  .rw[QA h,QA h];exact(RepK.repl k q r2).cons q
  .rw[QB h,QB h];exact(RepK.repl k q r2).cons r1
theorem RepK.snoc(k:κ){t:T}{v:V}(q:Rep K S t v):∀{kvs:List (κ × T)} {us:List (κ × V)},RepK K S kvs us->RepK K S (kvs++[(k,t)]) (us++[(k,v)])
 |[],us,r=>by rw[r.nilT];exact RepK.nil.cons q|p::kvs,us,r=>by obtain⟨u,us',rfl,r1,r2⟩:=r.consT;exact(RepK.snoc k q r2).cons r1
theorem RepK.put(k:κ){t:T}{v:V}(q:Rep K S t v){kvs:List (κ × T)}{us:List (κ × V)}(r:RepK K S kvs us):RepK K S (zab kvs k t) (putK us k v):=by
 unfold zab putK;rw[r.any k];split
 .exact r.repl k q
 .exact r.snoc k q
end
theorem zhY(m:MemOk K S){t:T}{x:V}{kvs:List (Key × T)}(r:Rep K S t x)(e:zgH t S.M=some kvs):∃p us,x = .ref p/\Rd S.H p (.dK us)/\RepK K S kvs us:=by
 unfold zgH at e;split at e
 .split at e
  .rename_i a _ kvs' q;cases e;cases r;obtain⟨us,h1,h2⟩:=m.cell _ _ q;exact⟨_,us,rfl,.inl h1,h2⟩
  .cases e
 .cases e;cases r with
  |dct h l rr=>
   refine⟨_,_,rfl,.inr ⟨_,h⟩,l,?_,rr⟩;have:=congrArg List.length l
   simpa using this
 .cases e
def _root_.L2.DGet.r{H:Hp}{a:Addr}{us:List (Key × V)}{k:Key}(e:Rd H a (.dK us)):DGet H a (kV k) (zau us k):=.inl ⟨us,k,e,rfl,rfl⟩
theorem RepK.isSome[DecidableEq κ](k:κ){kvs:List (κ × T)}{us:List (κ × V)}(r:RepK K S kvs us):(zau us k).isSome=(qI kvs k).isSome:=by
 rcases r.look k with⟨a,b⟩ | ⟨t,v,a,b,_⟩
 .rw[a,b];rfl
 .rw[a,b];rfl
theorem zps(m:MemOk K S){a:Nat}{c:Cell}(e:S.M[a]?=some c){ts:List (Key × T)}{vs:List (Key × V)}(r:RepK K S ts vs):Stp K S (S.put a (.dK vs) (.dic ts)):=by have ha:a<S.M.length:=(Qz.mp e).1;exact Stp.put m ha _ _ ⟨vs,qA,r.grow m (Grow.put m ha _ _)⟩
end
section
def inD:X3:=λx y M=>match zgH y M with
 |some kvs=>match zhc x with
  |some k=>.ok (.bl (qI kvs k).isSome) M|none=>.bad
 |none=>inA x y M
def zfD:X3:=λx y M=>match zgH y M with
 |some kvs=>match zhc x with
  |some k=>.ok (.bl (!(qI kvs k).isSome)) M|none=>.bad
 |none=>zlN x y M
theorem zrG(hu:X.A.units+64<cLine):OpR X (compareOp .In) (lR2 XE X.K inD):=by
 injections
 replace Y:Fin XE (Rep X.K) X.K S (inD tx ty S.M) Q:=Y;unfold inD at Y;rw?
 .subst e;rename_i kvs q;rw?
  .rename_i k qk;obtain⟨p,us,e3,e4,rk⟩:=zhY m r2 q;dsimp only at e3;subst e3;cases (show u=Value.ref p from ry);have ek:=zdQ r1 qk;dsimp only at ek;subst ek;refine zu7 ⋯ I (.r e4) rx λs' I'=>⟨.bl _,S.H,I',rfl,?_⟩;rw[rk.isSome k];exact Y S _ rfl (.refl m) (.bl _)
  .simp?
 .exact zrH ρ s J H x y v u Q I rx ry ⟨S,⟨tx,ty⟩,e,m,⟨r1,r2⟩,Y⟩
theorem zkN(hu:X.A.units+64<cLine):OpR X (compareOp .NotIn) (lR2 XE X.K zfD):=by
 injections
 replace Y:Fin XE (Rep X.K) X.K S (zfD tx ty S.M) Q:=Y;unfold zfD at Y;rw?
 .subst e;rename_i kvs q;rw?
  .rename_i k qk;obtain⟨p,us,e3,e4,rk⟩:=zhY m r2 q;dsimp only at e3;subst e3;cases (show u=Value.ref p from ry);have ek:=zdQ r1 qk;dsimp only at ek;subst ek;refine zqE ⋯ I (.r e4) rx λs' I'=>⟨.bl _,S.H,I',rfl,?_⟩;rw[rk.isSome k];exact Y S _ rfl (.refl m) (.bl _)
  .simp?
 .exact zpL ρ s J H x y v u Q I rx ry ⟨S,⟨tx,ty⟩,e,m,⟨r1,r2⟩,Y⟩
def zdi(o i t:T)(M:Mem):Out Unit:=match o,zhc i with
 |.ref a,some k=>match M[a]? with
  |some (.dic kvs)=>if kvs.length<sizeLine then .ok () (M.set a (.dic (zab kvs k t)))else .bad|_=>za0 o i t M
 |_,_=>za0 o i t M
theorem zf5(hu:X.A.units+64<cLine):zdw X (zfG XE X.K zdi):=by
 rintro ρ s J H o i v ov iv u Q I ro ri rv ⟨S,⟨⟨to,ti⟩,tv⟩,e,m,⟨⟨r1,r2⟩,r3⟩,Y⟩;replace Y:Fin XE UnR X.K S (zdi to ti tv S.M) (λ_ H'=>Q H'):=Y;unfold zdi at Y;rw?
 .split at Y
  .rename_i a k qk _ kvs q;rw?
   .rename_i hz;subst e;obtain⟨us,h4,rk⟩:=m.cell _ _ q;cases r1;cases (show ov=Value.ref (S.α a)from ro);have ek:=zdQ r2 qk;dsimp only at ek;subst ek;refine znn ⋯ I (.k h4 (by rw[←rk.length];exact hz)) ri rv λs' I'=>⟨_,I',?_⟩;exact Y (S.put a (.dK (putK us k v)) (.dic (zab kvs k tv))) () rfl (zps m q (rk.put k r3)) trivial
   .simp?
  .exact zc6 ρ s J H o i v ov iv u Q I ro ri rv ⟨S,⟨⟨_,ti⟩,tv⟩,e,m,⟨⟨r1,r2⟩,r3⟩,Y⟩
 .exact zc6 ρ s J H o i v ov iv u Q I ro ri rv ⟨S,⟨⟨_,ti⟩,tv⟩,e,m,⟨⟨r1,r2⟩,r3⟩,Y⟩
noncomputable def zlZ:X9:=λ_ M=>.ok (.ref M.length) (M++[.dic []])
def lMt(XE:XK)(K:Frag)(F:T->X4):V->List V->Hp->VK->Prop:=λx xs H Q=>L0 XE (Rep K) K (PrR (Rep K) (Reps K)) (λa M=>F a.1 a.2 M) (x,xs) H Q
def za8(chk:T->Mem->Bool)(F:T->X4)(f:X9)(g:X1):X9:=λJ M=>(f J M).bind λx M1=>if chk x M1=true then(g J M1).bind λts M2=>F x ts M2 else .bad
end
section
noncomputable def zfH:T->Mem->Out T:=λt M=>match t with
 |.bl b=>.ok (.int (if b then 1 else 0)) M|_=>.bad
theorem zh4:yV X (.type "int") (lRN XE X.K (yw zfH)):=zfT λρ s J S t x v Q I rx m r Y=>by
 unfold zfH at Y;rw?
 .cases r;cases (show v=Value.bool _ from rx);exact call_int_bool ⟨.int _,S.H,I.tok _,⟨_,rfl⟩,Y S _ rfl (.refl m) (.int _)⟩
 .simp?
end
noncomputable def SubL(m:List (Str × Addr)):List (Str × Addr)->Prop
 |[]=>True|c::l=>m.lookup c.1=some c.2/\SubL m l
theorem zjh:∀{l m:List (Str × Addr)},SubL m l->∀x a,l.lookup x=some a->m.lookup x=some a
 |[],_,_,_,_,h=>by cases h|(y,b)::l,m,g,x,a,h=>by
  rw[lookup_cons]at h;split at h
  .rename_i e;cases h;rw[eq_of_beq e];exact g.1
  .exact zjh g.2 x a h
def zce(t:T)(M:Mem):Bool:=(zy t M).isSome
theorem ziL{K:Frag}(m:MemOk K S){t:T}{x:V}(r:Rep K S t x)(h:zce t S.M=true):tyV K "list" x S.H:=by
 unfold zce at h;cases q:zy t S.M with
 |none=>rw[q]at h;cases h|some xs=>obtain⟨p,vs,rfl,hq,_⟩:=yD m r q;exact .inl ⟨rfl,vs,hq⟩
theorem Reps.rev{K:Frag}(r:Reps K S ts vs):Reps K S ts.reverse vs.reverse:=by
 refine⟨by simp[r.1],λi t v e1 e2=>?_⟩;have h1:i<ts.length:=by have:=(Qz.mp e1).1;simpa using this
 rw[List.getElem?_reverse h1]at e1;rw[List.getElem?_reverse (by rw[←r.1];exact h1),←r.1]at e2;exact r.2 _ t v e1 e2
def zch(M:Mem)(x:T):List T->Option (List Bool)
 |[]=>some []|t::ts=>match eqD M 20 t x,zch M x ts with
  |some b,some bs=>some (b::bs)|_,_=>none
def inN:X3:=λx y M=>match qR y M with
 |some ys=>match zch M x ys with
  |some bs=>.ok (.bl (bs.any id)) M|none=>.bad
 |none=>.bad
theorem zhX:∀{ts:List T} {bs:List Bool},zch M x ts=some bs->bs.length=ts.length/\∀(i:Nat) t b,ts[i]?=some t->bs[i]?=some b->eqD M 20 t x=some b
 |[],bs,h=>by cases h;exact⟨rfl,λi t b e=>by simp at e⟩|t::ts,bs,h=>by
  unfold zch at h;split at h
  .rename_i b bs' q1 q2;cases h;obtain⟨l,g⟩:=zhX q2;refine⟨by simp[l],λi u c e1 e2=>?_⟩;cases i with|zero=>cases (show some t=some u from e1);cases (show some b=some c from e2);exact q1|succ i=>exact g i u c (by simpa using e1) (by simpa using e2)
  .cases h
section
open Classical in
theorem zjF(I:L2.Inv X ρ J S.H s)(m:MemOk X.K S)(hu:X.A.units+64<cLine){x:T}{v:V}{u:Value}(rx:RelV v u)(r:Rep X.K S x v){ts:List T}{vs:List V}{its:List Value}(rs:Reps X.K S ts vs)(rv:Vals vs its){bs:List Bool}(h:zch S.M x ts=some bs):
  ∃e:Value->Bool,(∀y,y ∈ its.toArray->SeqAt.EqAt X.A.in1 s y u (e y))/\its.toArray.any e=bs.any id:=by
 obtain⟨hl,g⟩:=zhX h;have l1:its.length=bs.length:=by rw[←rv.length,←rs.1,hl]
 have at_:∀(j:Nat) (y:Value) (b:Bool),its[j]?=some y->bs[j]?=some b->SeqAt.EqAt X.A.in1 s y u b:=λj y b e1 e2=>by
  have hj:j<ts.length:=by rw[←hl];exact(Qz.mp e2).1
  have et:ts[j]?=some ts[j]:=by simp[hj]
  obtain⟨w,ew,rw'⟩:=rs.get et;obtain⟨y',ey,ry⟩:=rv.get ew;rw[e1]at ey;cases ey;exact znk I m 20 (A:=X.A.in1) (by show X.A.units+1+20<cLine;symm) ry rx rw' r (g j _ b et e2)
 refine⟨λy=>decide (∃j:Nat,its[j]?=some y/\bs[j]?=some true),λy hy=>?_,?_⟩
 .by_cases hc:∃j:Nat,its[j]?=some y/\bs[j]?=some true
  .show SeqAt.EqAt X.A.in1 s y u (decide (∃j:Nat,its[j]?=some y/\bs[j]?=some true));rw[Qw hc];obtain⟨j,e1,e2⟩:=hc;exact at_ j y true e1 e2
  .show SeqAt.EqAt X.A.in1 s y u (decide (∃j:Nat,its[j]?=some y/\bs[j]?=some true));rw[Qx hc];obtain⟨j,hj,e1⟩:=getElem_of_mem (show y ∈ its by simpa using hy);have ej:its[j]?=some y:=by rw[Q0 hj,e1]
   have hb:bs[j]?=some bs[j]:=by simp[show j<bs.length by symm]
   cases q:bs[j]'⋯with
   |true=>exact absurd ⟨j,ej,by rw[hb,q]⟩ hc|false=>exact at_ j y false ej (by rw[hb,q])
 .rw[Bool.eq_iff_iff];simp only[List.any_toArray,any_eq_true,id,decide_eq_true_eq];constructor
  .rintro⟨y,_,j,_,e2⟩;exact⟨true,Qa e2,rfl⟩
  .rintro⟨b,hb,rfl⟩;obtain⟨j,hj,e1⟩:=getElem_of_mem hb;have hj2:j<its.length:=by symm
   exact⟨its[j],getElem_mem hj2,j,by simp[hj2],by simp[hj,e1]⟩
theorem zrF(hu:X.A.units+64<cLine):OpR X (compareOp .In) (lR2 XE X.K inN):=by
 injections
 subst e;replace Y:Fin XE (Rep X.K) X.K S (inN tx ty S.M) Q:=Y;unfold inN at Y;rw?
 .rename_i ys q;rw?
  .rename_i bs qb;obtain⟨p,vs,e1,hq,rs⟩:=zcj m r2 q;dsimp only at e1;subst e1;cases ry;rcases hq with hq | hq
   .obtain⟨its,rv,pl,hz⟩:=I.list hq;obtain⟨e,h1,h2⟩:=zjF I m hu rx r1 rs rv qb;exact SeqAt.in_listAt e pl.isList h1 ⟨.bl _,S.H,I,rfl,by rw[h2];exact Y S _ rfl (.refl m) (.bl _)⟩
   .obtain⟨its,rv,pl,hz⟩:=I.tuple hq;obtain⟨e,h1,h2⟩:=zjF I m hu rx r1 rs rv qb;exact SeqAt.in_tupleAt e pl h1 ⟨.bl _,S.H,I,rfl,by rw[h2];exact Y S _ rfl (.refl m) (.bl _)⟩
  .simp?
 .simp?
end
noncomputable def zcT(f:Str)(v:T):List (Str × T)->List (Str × T)
 |[]=>[(f,v)]|(g,x)::r=>if g=f then(g,v)::r else(g,x)::zcT f v r
section
variable {K:Frag} 
def RepF.nil:RepF K S [] []:=⟨rfl,.nil⟩
theorem RepF.nilT(r:RepF K S [] us):us=[]:=by
 have:=r.1
 simpa using this.symm
theorem RepF.consT(r:RepF K S (p::fs) us):∃u us',us=(p.1,u)::us'/\Rep K S p.2 u/\RepF K S fs us':=by
 cases us with
 |nil=>have:=r.1;simp at this|cons q us'=>have h1:=r.1;simp only[QG,List.cons.injEq]at h1;obtain⟨v,vs,e,r1,r2⟩:=(show Reps K S (p.2::fs.map (·.2)) (q.2::us'.map (·.2))from r.2).consT;cases e;exact⟨q.2,us',by rw[h1.1],r1,h1.2,r2⟩
theorem RepF.cons{t:T}{u:V}{fs:List (Str × T)}{us:List (Str × V)}(q:Rep K S t u)(r:RepF K S fs us):RepF K S ((g,t)::fs) ((g,u)::us):=⟨by simp[r.1],r.2.cons q⟩
theorem RepF.look(f:Str):∀{fs:List (Str × T)} {us:List (Str × V)},RepF K S fs us->∀{t:T},fs.lookup f=some t->∃v,us.lookup f=some v/\Rep K S t v
 |[],us,r,t,e=>by cases e|(g,x)::fs,us,r,t,e=>by obtain⟨u,us',rfl,r1,r2⟩:=r.consT;rw[lookup_cons]at e ⊢;cases h:f==g with|true=>rw[h]at e;cases e;exact⟨u,rfl,r1⟩|false=>rw[h]at e;exact RepF.look f r2 e
theorem RepF.put(f:Str){t:T}{v:V}(q:Rep K S t v):∀{fs:List (Str × T)} {us:List (Str × V)},RepF K S fs us->RepF K S (zcT f t fs) (z9 f v us)
 |[],us,r=>by rw[r.nilT];exact RepF.cons q .nil|(g,x)::fs,us,r=>by
  obtain⟨u,us',rfl,r1,r2⟩:=r.consT;unfold zcT z9
  by_cases h:g=f
  .rw[QA h,QA h];exact RepF.cons q r2
  .rw[QB h,QB h];exact RepF.cons r1 (RepF.put f q r2)
theorem RepF.len(r:RepF K S fs us):fs.length=us.length:=by
 have:=congrArg List.length r.1
 simpa using this
end
def zaI(Cs:List Addr)(f:Str)(x:T)(M:Mem):Out T:=match x with
 |.ref a=>match M[a]? with
  |some (.ins C fs)=>if C ∈ Cs then zem (fs.lookup f) M else .bad|_=>.bad
 |_=>.bad
def yo(Cs:List Addr)(f:Str)(g:X9):X9:=λJ M=>(g J M).bind λx M1=>zaI Cs f x M1
def zaT(Cs:List Addr)(f:Str)(x y:T)(M:Mem):Out Unit:=match x with
 |.ref a=>match M[a]? with
  |some (.ins C fs)=>if C ∈ Cs/\fs.length<1000 then .ok () (M.set a (.ins C (zcT f y fs)))else .bad|_=>.bad
 |_=>.bad
def zH(Cs:List Addr)(f:Str)(fo fv:X9):X5:=λJ M=>(fv J M).bind λy M1=>(fo J M1).bind λx M2=>(zaT Cs f x y M2).bind λ_ M3=>.ok (.nx J) M3
section
end
structure MakT (P:Program) (w:World) (K:Frag) (mg:Str->Option Value) (base:Heap) (k:Nat) (x:Str) (C:Addr) (ps:List Str) (f:X4):Prop where
 ex:∃(fI:Addr) (fd:FuncData),Mk K C fI/\FnOk P w K mg base CX0 k fI fd ps (spT K f)/\Binds K fd ps []/\mg x=some (.ref C)
 nox:∀ts M C fs M',f ts M ≠ .exn C fs M'
structure Di (K:Frag) (mg:Str->Option Value) (x qual:Str) (C:Addr) (st:Stmt) (ps:List Str):Prop where
 ex:∃(fI:Addr) (fd:FuncData),Mk K C fI/\Fun K "__init__" qual st fI fd/\Binds K fd ps []/\mg x=some (.ref C)
theorem zrS{K:Frag}{st:Stmt}(D:Di K mg x qual C st ps)(Sc:FnScope N ps (zg st))(hp:ps.length=p)(hn:N.length=n)
  (hb:∀(f:Addr) (cdv:Value) (A:Around) (outer:List PySem.Env) (s:Shared) (H:Hp) (E:XK),Room k (A.deeper (envOfC qual (zg st) s.heap.objs.size f cdv))->GSs (zbD CX0 P w K mg base N qual (zg st) f cdv A outer s H E).nox E0 (yH st) g) :
  MakT P w K mg base (k+1) x C ps (zj p n g):=by
 obtain⟨fI,fd,M,F,b,e⟩:=D.ex;exact⟨⟨fI,fd,M,F.ok Sc (ziO hp) λcdv A outer s H vs Q E hr h=>zfW hn rfl h (hb fI cdv A outer s H E hr),b,e⟩,zgj _ _ _⟩
noncomputable def zoa(a:Nat)(t:T)(M:Mem):Out T:=match t with
 |.non=>.ok (.ref a) M|_=>.bad
def zde(C:Addr)(F:X4)(ga:X1):X9:=λJ M=>(ga J M).bind λts M1=>(F (.ref M1.length::ts) (M1++[.ins C []])).bind λt M2=>zoa M1.length t M2
section
variable       {p pos:Pos}    
end
theorem qh{P:Addr->Prop}:∀C ∈ ([]:List Addr),P C:=λC h=>by simp at h
theorem qg{P:Addr->Prop}(h:P a)(r:∀C ∈ l,P C):∀C ∈ a::l,P C:=λC hc=>by
 rcases QC.mp hc with rfl | hc
 .exact h
 .exact r C hc
noncomputable def qi(K:Frag)(x:Str):Addr:=match PySem.W.nsIn K mainGlobals x with
 |some (some (.ref a))=>a|_=>0
theorem zaf{K:Frag}(a:PySem.W.nsIn K mainGlobals x=some (some (.ref C))):qi K x=C:=by unfold qi;rw[a]
theorem ztG{K:Frag}(a:PySem.W.nsIn K mainGlobals x=some (some (.ref C)))(n:PySem.W.findIn K (.ref C) f=some none):NoAttr K (qi K x) f:=by rw[zaf a];exact n
theorem znq{K:Frag}(a:PySem.W.nsIn K mainGlobals x=some (some (.ref C)))(pg:PySem.W.plainGet K C Str.empty=true)(hd:PySem.W.hasDictIn K C=true)(po:PySem.W.plainOver K C=true)
  (sa:PySem.W.findIn K (.ref C) "__setattr__" = some (some (.builtin "object.__setattr__"))):Cls K (qi K x):=by
 rw[zaf a];exact⟨pg,hd,po,sa⟩
theorem zo5{K:Frag}(X:K.In h)(G:h.Ns mainGlobals mg){x qual:Str}{st:Stmt}{ps:List Str}{C fI:Addr}{od an:Option Addr}{sl:Array (Option Value)}{oc kV dc pm cd ct:Value}
  (a:PySem.W.nsIn K mainGlobals x=some (some (.ref C))) (a1:PySem.W.findIn K (.ref C) "__init__" = some (some (.ref fI))) (i1:PySem.W.isFn K (.ref fI)=true)
  (l1:K.lookup fI=some ⟨oc,od,.func (PySem.W.fnOf "__init__" qual (zae st) (yH st) (zg st) .none kV dc pm an cd ct),sl⟩) (c1:PySem.W.codeIn K cd qual=true) (k1:PySem.W.keepIn K (.ref fI)=true) (mk:PySem.W.makesIn K C=true) (kc:PySem.W.keepIn K (.ref C)=true)
  (hb:∀(kV doc pm:Value) (an:Option Addr) (cdv ct:Value) (us:List Value),us.length=ps.length->bindArgs (PySem.W.fnOf "__init__" qual (zae st) (yH st) (zg st) .none kV doc pm an cdv ct) ⟨us,[]⟩=pure (ps.zip us)):Di K mg x qual (qi K x) st ps:=by
 have F:=zgE (st:=st) l1 c1 k1;rw[zaf a];exact⟨⟨fI,_,⟨mk,a1,i1,kc⟩,F,F.binds hb,PySem.W.mg_of X G a⟩⟩
noncomputable def zqO:List T->List T->List T
 |x::xs,y::ys=>.tup [x,y]::zqO xs ys|_,_=>[]
def zp(ts:List T)(M:Mem):Out (List T):=match ts with
 |[.lst xs,.lst ys]=>.ok (zqO xs ys) M|_=>.bad
section
theorem zmN{K:Frag}(s3:Stp K S1 S3){p:Addr}{vs:List V}(h:(Rd S1.H p (.lst vs)/\S1.off p)\/KL K p vs):SqL K S3.H p vs:=by
 rcases h with⟨h2,f2⟩ | h2
 .exact .inl (s3.toGrow.rd h2 f2).1
 .exact .inr h2
end
abbrev Gd:=List (Nat × List T)
def zaV(G:Gd)(M:Mem):Prop:=∀g ∈ G,M[g.1]?=some (.lst g.2)
noncomputable def gdK(G:Gd)(M:Mem)(o:Out β):Out β:=@ite _ (zaV G M) (Classical.propDecidable _) o .bad
def zaP{o:Out β}(h:zaV G M):gdK G M o=o:=QA h
theorem zbC(M:Mem):zaV [] M:=λg h=>by simp at h
theorem zju(h:M[a]?=some (.lst xs)):zaV [(a,xs)] M:=λg hg=>by rw[QJ.mp hg];exact h
def ItG(K:Frag)(S:Sit)(items:List T × Gd)(Jq:It):Prop:=∀S',Stp K S S'->zaV items.2 S'.M->
 (∀(i:Nat) t,items.1[i]?=some t->Jq.go i S'.H/\∀x H',Jq.yld i S'.H x H'->∃S'',S''.H=H'/\S''.M=S'.M/\Stp K S' S''/\Rep K S'' t x)/\∀i,items.1.length<=i->Jq.stop i S'.H
instance (K):Mo K (ItG K):=⟨λ_ s r=>λS' s'=>r S' (s.trans s')⟩
def lIG(XE:XK)(K:Frag)(f:Ev->Mem->Out (List T × Gd)):TI:=λJ H R=>LN XE (ItG K) K UnR (λ_ J M=>f J M) () J H R
def GIG(X:Cx)(XE:XK)(tg iter:Expr)(f:Ev->Mem->Out (List T × Gd)):Prop:=PI X tg iter (lIG XE X.K f)
def forG(G:Gd)(bd:T->X8)(body:X5):List T->X5
 |[],J,M=>gdK G M (.ok (.nx J) M)|x::xs,J,M=>gdK G M ((bd x J M).bind λJ1 M1=>(body J1 M1).bind (zaj (forG G bd body xs)))
def zcb(it:Ev->Mem->Out (List T × Gd))(bd:T->X8)(body:X5):X5:=λJ M=>(it J M).bind λxs M1=>forG xs.2 bd body xs.1 J M1
def yQ(G:Gd)(bd:T->X8)(cond:X7)(el:X9):List T->Ev->Mem->List T->Out (List T)
 |[],_,M,acc=>gdK G M (.ok acc M)|x::xs,J,M,acc=>gdK G M ((bd x J M).bind λJ1 M1=>(cond J1 M1).bind λb M2=>if b=true then(el J1 M2).bind λt M3=>if acc.length<sizeLine then yQ G bd cond el xs J1 M3 (acc++[t])else .bad else yQ G bd cond el xs J1 M2 acc)
def zak(it:Ev->Mem->Out (List T × Gd))(bd:T->X8)(cond:X7)(el:X9)(tgs:List Str)(ζ:List (Str × Nat)):X1:=λJ M=>(it J M).bind λxs M1=>yQ xs.2 bd cond el xs.1 (zds tgs ζ J) M1 []
theorem Fin.gd{K:Frag}{o:Out β}{Q:γ->Hp->Prop}(h:Fin XE R K S (gdK G M o) Q):zaV G M/\Fin XE R K S o Q:=by
 by_cases g:zaV G M
 .rw[zaP g]at h;exact⟨g,h⟩
 .rw[show gdK G M o = .bad from QB g]at h;exact h.elim
theorem FinL.gd{K:Frag}(h:FinL XE K S (gdK G M o) Q):zaV G M/\FinL XE K S o Q:=by
 by_cases g:zaV G M
 .rw[zaP g]at h;exact⟨g,h⟩
 .rw[show gdK G M o = .bad from QB g]at h;exact h.elim
theorem znd{K:Frag}(h:Fin XE (FlR K) K S (forG G bd p xs J M) Q):zaV G M:=by cases xs with|nil=>exact(Fin.gd h).1|cons x xs=>exact(Fin.gd h).1
theorem zl2{K:Frag}(h:FinL XE K S (yQ G bd c f xs J M acc) Q):zaV G M:=by cases xs with|nil=>exact(FinL.gd h).1|cons x xs=>exact(FinL.gd h).1
section
variable {X:Cx}       
theorem zk3(hp:PassesOwn .(1) X.A X.env X.xe)(hc:X.calm=true)(hi:GIG X XE tg iter ga)(hg:GG X XE tg bd)(hb:GSs X XE sts p)
  (hs:∀x,foldedSetIterable iter X.env x=pure x:=by intro _;rfl):GS X XE (.For tg iter sts [] pos) (zcb ga bd p):=PS.imp (zrn hp hc hi hg hb hs) λD J H hh=>by
 refine LN.mono (LN.bind (f:=λ_ J M=>ga J M) (k:=λ_ xs J M1=>forG xs.2 bd p xs.1 J M1) (RB:=ItG X.K) hh) λJq H1 h1=>?_;obtain⟨S,Jτ,a,e,m,ev,ra,Y⟩:=h1;refine⟨λi n J H=>∃S Jτ,S.H=H/\MemOk X.K S/\EvR X.K S Jτ J/\ItG X.K S a.2 Jq/\n=a.2.1.length-i/\i<=a.2.1.length/\Fin XE (FlR X.K) X.K S (forG a.2.2 bd p (a.2.1.drop i) Jτ S.M) (zJ D),⟨_,S,Jτ,e,m,ev,ra.2,rfl,Nat.zero_le _,Y⟩,?_⟩;rintro i n J1 H2 ⟨S1,Jτ1,e1,m1,ev1,it1,en,hi1,fin1⟩;subst e1;have hgd:=znd fin1;obtain⟨it2,it3⟩:=it1 S1 (.refl m1) hgd
 by_cases hl:i<a.2.1.length
 .have eq:a.2.1.drop i=a.2.1[i]::a.2.1.drop (i+1):=List.drop_eq_getElem_cons hl;rw[eq]at fin1;replace fin1:=(Fin.gd fin1).2;obtain⟨go,yl⟩:=it2 i a.2.1[i] (by simp[hl]);refine .inr ⟨go,λJ' H'=>∃S Jτ,S.H=H'/\MemOk X.K S/\EvR X.K S Jτ J'/\ItG X.K S a.2 Jq/\Fin XE (FlR X.K) X.K S (forG a.2.2 bd p (a.2.1.drop (i+1)) Jτ S.M) (zJ D),?_,λx H' hy=>?_⟩
  .rintro J' H' ⟨S2,Jτ2,e2,m2,ev2,it4,fin2⟩;exact⟨a.2.1.length-(i+1),⋯,S2,Jτ2,e2,m2,ev2,it4,rfl,hl,fin2⟩
  .obtain⟨S2,e2,eM,s2,r2⟩:=yl x H' hy;replace fin1:Fin XE (FlR X.K) X.K S1 ((bd a.2.1[i] Jτ1 S1.M).bind λJ1 M1=>(p J1 M1).bind (zaj (forG a.2.2 bd p (a.2.1.drop (i+1))))) (zJ D):=fin1;refine⟨S2,Jτ1,a.2.1[i],e2,s2.mok,Mo.mo m1 s2 ev1,r2,?_⟩;rw[eM];cases o:bd a.2.1[i] Jτ1 S1.M with
   |bad=>rw[o]at fin1;exact fin1|exn C fs M'=>rw[o]at fin1;exact Fin.later s2 fin1|ok J3 M3=>
    rw[o]at fin1;intro S3 J3v e3 s3 ev3;have s13:=s2.trans s3;refine⟨S3,J3,(),rfl,s3.mok,ev3,trivial,?_⟩;show Fin XE (FlR X.K) X.K S3 (p J3 S3.M) _;rw[e3];replace fin1:Fin XE (FlR X.K) X.K S1 ((p J3 M3).bind (zaj (forG a.2.2 bd p (a.2.1.drop (i+1))))) (zJ D):=fin1;cases o2:p J3 M3 with
    |bad=>rw[o2]at fin1;exact fin1|exn C fs M'=>rw[o2]at fin1;exact Fin.later s13 fin1|ok fl M4=>rw[o2]at fin1;intro S4 fv e4 s4 r4;have s14:=s13.trans s4;cases r4 with|nx r4=>exact⟨S4,_,rfl,s4.mok,r4,Mo.mo m1 s14 it1,by rw[e4];exact Fin.later s14 fin1⟩|ct r4=>exact⟨S4,_,rfl,s4.mok,r4,Mo.mo m1 s14 it1,by rw[e4];exact Fin.later s14 fin1⟩|bk r4=>exact fin1 S4 (.nx _) e4 s14 (.nx r4)|rt r4=>exact fin1 S4 (.rt _) e4 s14 (.rt r4)
 .rw[List.drop_eq_nil_of_le ⋯]at fin1;replace fin1:=(Fin.gd fin1).2;refine .inl ⟨it3 i ⋯,?_⟩;exact fin1 S1 (.nx J1) rfl (.refl m1) (.nx ev1)
theorem zhZ{cond:X7}(hh:lL XE X.K (zak ga bd cond f tgs ζ) J H Q):
  zir (lIG XE X.K ga) (lG XE X.K bd) (lT XE X.K cond) (lE XE X.K f) (zcy tgs ζ) J H Q:=by
 obtain⟨S,Jτ,e,m,ev,Y⟩:=hh;replace Y:FinL XE X.K S ((ga Jτ S.M).bind λxs M1=>yQ xs.2 bd cond f xs.1 (zds tgs ζ Jτ) M1 []) Q:=Y;refine⟨S,Jτ,(),e,m,ev,trivial,?_⟩;show Fin XE (ItG X.K) X.K S (ga Jτ S.M) _;cases o:ga Jτ S.M with
 |bad=>rw[o]at Y;exact Y|exn C fs M'=>rw[o]at Y;exact Y|ok items M1=>
  rw[o]at Y;replace Y:FinL XE X.K S (yQ items.2 bd cond f items.1 (zds tgs ζ Jτ) M1 []) Q:=Y;intro S0 Jq e0 s0 it0 D hD;have m0:=s0.mok;have fin0:=Y.later s0;have s1:=Stp.hide (K:=X.K) m0 hD [];refine⟨λi n J' H'=>∃S Jτ acc vs,S.H=H'/\EvR X.K S Jτ J'/\n=items.1.length-i/\i<=items.1.length/\D ∈ S.hid/\S.H D=some (.lst vs)/\Reps X.K S acc vs/\Stp X.K S0 S/\FinL XE X.K S0 (yQ items.2 bd cond f (items.1.drop i) Jτ S.M acc) Q,
   ⟨items.1.length-0,S0.hide D [],zds tgs ζ Jτ,[],[],rfl,(Mo.mo (K:=X.K) m0 s1 (Mo.mo (K:=X.K) m s0 ev)).cap tgs ζ,rfl,Nat.zero_le _,.head _,qA,.nil,s1,by show FinL XE X.K S0 (yQ items.2 bd cond f items.1 (zds tgs ζ Jτ) S0.M []) Q;rw[e0];exact fin0⟩,?_⟩
  rintro i n J1 H1 ⟨S2,Jτ2,acc,vs,e2,ev2,en,hi2,hid2,hD2,racc,s2,fin2⟩;subst e2;have m2:=s2.mok;have hgd:=zl2 fin2;obtain⟨itg,its⟩:=it0 S2 s2 hgd
  by_cases hl:i<items.1.length
  .have eq:items.1.drop i=items.1[i]::items.1.drop (i+1):=List.drop_eq_getElem_cons hl;rw[eq]at fin2;replace fin2:=(FinL.gd fin2).2;obtain⟨go,yl⟩:=itg i items.1[i] (by simp[hl]);refine .inr ⟨go,λJ' H'=>∃S Jτ acc vs,S.H=H'/\EvR X.K S Jτ J'/\D ∈ S.hid/\S.H D=some (.lst vs)/\Reps X.K S acc vs/\Stp X.K S0 S/\FinL XE X.K S0 (yQ items.2 bd cond f (items.1.drop (i+1)) Jτ S.M acc) Q,?_,λx H' hy=>?_⟩
   .rintro J' H' ⟨S,Jτ,acc,vs,a1,a2,a3,a4,a5,a6,a7⟩;exact⟨items.1.length-(i+1),⋯,S,Jτ,acc,vs,a1,a2,rfl,hl,a3,a4,a5,a6,a7⟩
   .obtain⟨S3,e3,eM,s3,r3⟩:=yl x H' hy;replace fin2:FinL XE X.K S0 ((bd items.1[i] Jτ2 S2.M).bind λJ1 M1=>(cond J1 M1).bind λb M2=>if b=true then(f J1 M2).bind λt M3=>if acc.length<sizeLine then yQ items.2 bd cond f (items.1.drop (i+1)) J1 M3 (acc++[t])else .bad else yQ items.2 bd cond f (items.1.drop (i+1)) J1 M2 acc) Q:=fin2;refine⟨S3,Jτ2,items.1[i],e3,s3.mok,Mo.mo m2 s3 ev2,r3,?_⟩;show Fin XE (EvR X.K) X.K S3 (bd items.1[i] Jτ2 S3.M) _;rw[eM];cases o1:bd items.1[i] Jτ2 S2.M with
    |bad=>rw[o1]at fin2;exact fin2|exn C fs M'=>rw[o1]at fin2;exact λS' od a1 a2 a3=>fin2 S' od a1 ((s2.trans s3).trans a2) a3|ok J4 M4=>
     rw[o1]at fin2;intro S4 J4v e4 s4 ev4;have t4:=s3.trans s4;replace fin2:FinL XE X.K S0 ((cond J4 M4).bind λb M2=>if b=true then(f J4 M2).bind λt M3=>if acc.length<sizeLine then yQ items.2 bd cond f (items.1.drop (i+1)) J4 M3 (acc++[t])else .bad else yQ items.2 bd cond f (items.1.drop (i+1)) J4 M2 acc) Q:=fin2;refine⟨S4,J4,(),rfl,s4.mok,ev4,trivial,?_⟩;show Fin XE EqR X.K S4 (cond J4 S4.M) _;rw[e4];cases o2:cond J4 M4 with
     |bad=>rw[o2]at fin2;exact fin2|exn C fs M'=>rw[o2]at fin2;exact λS' od a1 a2 a3=>fin2 S' od a1 ((s2.trans t4).trans a2) a3|ok b M5=>
      rw[o2]at fin2;intro S5 b5 e5 s5 eb;have eb':b=b5:=eb;subst eb';have t5:=t4.trans s5;replace fin2:FinL XE X.K S0 (if b=true then(f J4 M5).bind λt M3=>if acc.length<sizeLine then yQ items.2 bd cond f (items.1.drop (i+1)) J4 M3 (acc++[t])else .bad else yQ items.2 bd cond f (items.1.drop (i+1)) J4 M5 acc) Q:=fin2;cases b with
      |false=>rw[QB Q4]at fin2;refine(QB Q4).mpr ⟨S5,J4,acc,vs,rfl,Mo.mo s4.mok s5 ev4,(t5.hk D hid2).1,by rw[(t5.hk D hid2).2];exact hD2,racc.grow m2 t5.toGrow,s2.trans t5,by rw[e5];exact fin2⟩
      |true=>
       rw[QA rfl]at fin2;refine(QA rfl).mpr ⟨S5,J4,(),rfl,s5.mok,Mo.mo s4.mok s5 ev4,trivial,?_⟩;show Fin XE (Rep X.K) X.K S5 (f J4 S5.M) _;rw[e5];cases o3:f J4 M5 with
       |bad=>rw[o3]at fin2;exact fin2|exn C fs M'=>rw[o3]at fin2;exact λS' od a1 a2 a3=>fin2 S' od a1 ((s2.trans t5).trans a2) a3|ok t M6=>
        rw[o3]at fin2;replace fin2:FinL XE X.K S0 (if acc.length<sizeLine then yQ items.2 bd cond f (items.1.drop (i+1)) J4 M6 (acc++[t])else .bad) Q:=fin2;intro S6 v6 e6 s6 r6;have t6:=t5.trans s6;have hz:acc.length<sizeLine:=by
         by_cases hz:acc.length<sizeLine
         .exact hz
         .rw[QB hz]at fin2;exact fin2.elim
        rw[QA hz]at fin2;have hid6:=(t6.hk D hid2).1;have hD6:S6.H D=some (.lst vs):=by rw[(t6.hk D hid2).2];exact hD2
        refine⟨vs,hD6,by rw[←racc.1];exact hz,S6.hput D (vs++[v6]),J4,acc++[t],vs++[v6],rfl,?_,hid6,qA,?_,(s2.trans t6).hput hid6 hD m0,by show FinL XE X.K S0 (yQ items.2 bd cond f (items.1.drop (i+1)) J4 S6.M (acc++[t])) Q;rw[e6];exact fin2⟩
        .have ev6:EvR X.K S6 J4 J4v:=Mo.mo s4.mok (s5.trans s6) ev4;exact⟨ev6.1,λi t e=>let ⟨v,e',q⟩:=ev6.2 i t e;⟨v,e',q.hput s6.mok hid6⟩⟩
        .exact((racc.grow m2 t6.toGrow).app (.cons r6 .nil)).hput s6.mok hid6
  .rw[List.drop_eq_nil_of_le ⋯]at fin2;replace fin2:=(FinL.gd fin2).2;refine .inl ⟨its i ⋯,?_⟩;exact fin2 S2 D vs rfl s2 hD hid2 hD2 racc
theorem zjs{cond:X7} 
  (hi:GIG X XE tg iter ga) (cb:CB X scope cl ζ)
  (hg:∀ex s0 H0,GG .(2) XE tg bd) (hif:∀ex s0 H0,PTs .(2) ifs (lT XE X.K cond)) (hel:∀ex s0 H0,GE .(2) XE elt f)
  (hs:∀x,foldedSetIterable iter X.env x=pure x:=by intro _;rfl) :
  GL X XE (.ListComp elt [⟨tg,iter,ifs,0⟩] scope pos) (zak ga bd cond f tgs ζ):=PE.imp (zpF (tgs:=tgs) (g:=lG XE X.K bd) (tc:=lT XE X.K cond) (te:=lE XE X.K f) cb.hc hi cb.hclos cb.hcell cb.hkind cb.hnames cb.hcl cb.hhas cb.hcap hg hif hel hs) λJ H Q hh=>zhZ hh
theorem zes{spos:Pos}{cond:X7} 
  (hi:GIG X XE tg iter ga) (cb:CB X scope cl ζ)
  (hg:∀ex s0 H0,GG .(2) XE tg bd) (hif:∀ex s0 H0,PTs .(2) ifs (lT XE X.K cond)) (hel:∀ex s0 H0,GE .(2) XE elt f)
  (hN0:X.N.Nodup) (hi0:X.N[i0]?=some y0) (hx0:Loc X.env.scope y0)
  (hsw:swapsWith (.ListComp elt [⟨tg,iter,ifs,0⟩] scope pos) (some (.Name y0 py)) spos.line X.env=pure true:=by rfl)
  (hf0:X.fn y0=true\/X.env.scope.names.lookup y0=some .local:=by first | exact .inl rfl | exact .inr rfl | assumption)
  (hs:∀x,foldedSetIterable iter X.env x=pure x:=by intro _;rfl) :
  GS X XE (.Assign [.Name y0 py] (.ListComp elt [⟨tg,iter,ifs,0⟩] scope pos) spos) (zn i0 (eFz (zak ga bd cond f tgs ζ))):=PS.imp (zlK (tgs:=tgs) (g:=lG XE X.K bd) (tc:=lT XE X.K cond) (te:=lE XE X.K f) cb.hc hi cb.hclos cb.hcell cb.hkind cb.hnames cb.hcl cb.hhas cb.hcap hg hif hel hN0 hi0 hx0 hsw hf0 hs) λD J H ⟨S,Jτ,_,e,m,ev,_,Y⟩=>zhZ ⟨S,Jτ,e,m,ev,by
 show FinL XE X.K S (zak ga bd cond f tgs ζ Jτ S.M) _;replace Y:Fin XE (FlR X.K) X.K S (((zak ga bd cond f tgs ζ Jτ S.M).bind λxs M1=>.ok (T.lst xs) M1).bind λt M1=>.ok (.nx (Jτ.set i0 (some t))) M1) (zJ D):=Y;cases q:zak ga bd cond f tgs ζ Jτ S.M with
 |bad=>rw[q]at Y;exact Y|exn C fs M'=>rw[q]at Y;exact Y|ok xs M1=>rw[q]at Y;intro S1 p vs e1 s1 hn hp hv r;exact Y (S1.show S.hid) (.nx (J.set i0 (some (.ref p)))) e1 s1.show (.nx ((Mo.mo (K:=X.K) m s1.show ev).set (zk1 s1 hn m hp hv r) i0))⟩
def gN(ga:X1):Ev->Mem->Out (List T × Gd):=λJ M=>(ga J M).bind λxs M1=>.ok (xs,[]) M1
theorem zjt(h:GI X XE tg iter ga):GIG X XE tg iter (gN ga):=PI.imp h λJ H R hh=>by obtain⟨S,Jτ,u,e,m,ev,q,Y⟩:=hh;refine⟨S,Jτ,u,e,m,ev,q,?_⟩;replace Y:Fin XE (ItG X.K) X.K S ((ga Jτ S.M).bind λxs M1=>.ok (xs,[]) M1) R:=Y;show Fin XE (zf1 X.K) X.K S (ga Jτ S.M) R;cases o:ga Jτ S.M with|bad=>rw[o]at Y;exact Y|exn C fs M'=>rw[o]at Y;exact Y|ok xs M1=>rw[o]at Y;exact λS0 Jq e0 s0 it0=>Y S0 Jq e0 s0 λS' s' _=>it0 S' s'
theorem zh1{cond:X7}:∀xs J M acc,yQ [] bd cond f xs J M acc=qF bd cond f xs J M acc
 |[],_,M,_=>zaP (zbC M)|x::xs,_,M,_=>by simp only[yQ,qF,zaP (zbC M),zh1 xs]
theorem zjz:∀xs,forG [] bd p xs=forL bd p xs
 |[]=>funext λ_=>funext λM=>zaP (zbC M)|x::xs=>funext λ_=>funext λM=>by simp only[forG,forL,zaP (zbC M),zjz xs]
theorem znS:zcb (gN ga) bd p=zaw ga bd p:=by funext J M;unfold zcb zaw gN;cases ga J M with|ok xs M1=>exact congrFun (congrFun (zjz xs) _) _|exn C fs M'=>rfl|bad=>rfl
theorem zhN{cond:X7}:zak (gN ga) bd cond f tgs ζ=zY ga bd cond f tgs ζ:=by funext J M;unfold zak zY gN;cases ga J M with|ok xs M1=>exact zh1 xs _ _ _|exn C fs M'=>rfl|bad=>rfl
end
noncomputable def zcW(t:T)(M:Mem):Option (List T × Gd):=match t with
 |.lst xs=>some (xs,[])|.ref a=>match M[a]? with
  |some (.lst xs)=>some (xs,[(a,xs)])|_=>none
 |_=>none
theorem zkW{K:Frag}(m:MemOk K S){t:T}{v:V}(r:Rep K S t v){xs:List T}{G:Gd}(e:zcW t S.M=some (xs,G)):∃p vs,v = .ref p/\SqL K S.H p vs/\∀S3,Stp K S S3->zaV G S3.M->∃vs3,SqL K S3.H p vs3/\Reps K S3 xs vs3:=by
 unfold zcW at e;split at e
 .cases e;cases r with
  |@lst _ p vs h l rr=>refine⟨p,vs,rfl,zdD h,λS3 s3 _=>⟨vs,zmN s3 h,?_⟩⟩;exact(show Reps K S xs vs from⟨l,rr⟩).grow m s3.toGrow
 .rename_i a;split at e
  .rename_i ys q;cases e;cases r with
   |ref ha=>obtain⟨vs,h1,r1⟩:=m.cell a _ q;refine⟨S.α a,vs,rfl,.inl (.inl h1),λS3 s3 g=>?_⟩;obtain⟨vs3,h3,r3⟩:=s3.mok.cell a _ (g (a,xs) (.head _));rw[s3.al a ha]at h3;exact⟨vs3,.inl (.inl h3),r3⟩
  .cases e
 .cases e
def zcD(f:X9):Ev->Mem->Out (List T × Gd):=λJ M=>(f J M).bind λt M1=>match zcW t M1 with
 |some g=>.ok g M1|none=>.bad
section
end
def zed(t:T)(M:Mem):Option (List T × Gd):=match t with
 |.tup xs=>some (xs,[])|t=>zcW t M
def zgv(f:X9):Ev->Mem->Out (List T × Gd):=λJ M=>(f J M).bind λt M1=>match zed t M1 with
 |some g=>.ok g M1|none=>.bad
section
theorem zqo(he:GE X XE e f):GIG X XE tg e (zgv f):=PI.imp (PI.or (zg3 he) (zmz he)) λJ H R h9=>by
 obtain⟨S,Jτ,_,e,m,ev,_,Y⟩:=h9;replace Y:Fin XE (ItG X.K) X.K S ((f Jτ S.M).bind λt M1=>match zed t M1 with | some g=>.ok g M1 | none=>.bad) R:=Y;cases o:f Jτ S.M with
 |bad=>rw[o]at Y;exact Y.elim|exn C fs M'=>rw[o]at Y;refine .inl ⟨S,Jτ,(),e,m,ev,trivial,?_⟩;show Fin XE (Rep X.K) X.K S (f Jτ S.M) _;rw[o];exact Y
 |ok t M1=>
  rw[o]at Y;replace Y:Fin XE (ItG X.K) X.K S (match zed t M1 with | some g=>.ok g M1 | none=>.bad) R:=Y;have lists:(∀g,zed t M1=some g->zcW t M1=some g)->zoZ X.K (lE XE X.K f) J H R:=λhg=>by
   refine⟨S,Jτ,(),e,m,ev,trivial,?_⟩;show Fin XE (Rep X.K) X.K S (f Jτ S.M) _;rw[o];intro S1 v e1 s1 r1;cases q:zed t M1 with
   |none=>rw[q]at Y;exact Y.elim|some g=>rw[q]at Y;obtain⟨xs,G⟩:=g;obtain⟨p,vs,rfl,h1,h2⟩:=zkW s1.mok r1 (by rw[e1];exact hg _ q);refine⟨p,rfl,⟨vs,h1⟩,Y S1 _ e1 s1 λS3 s3 gd=>?_⟩;obtain⟨vs3,g3,r3⟩:=h2 S3 s3 gd;refine⟨λi t et=>?_,λi hi=>⟨vs3,g3,by rw[←r3.1];exact hi⟩⟩;obtain⟨v2,ev3,rv⟩:=r3.get et;refine⟨⟨vs3,v2,g3,ev3⟩,λx H' hy=>?_⟩;obtain⟨ey,hy⟩:=hy;have:=hy vs3 g3;rw[ev3]at this;cases this;exact⟨S3,ey.symm,rfl,.refl s3.mok,rv⟩
  cases t with
  |tup ts=>
   refine .inr ⟨S,Jτ,(),e,m,ev,trivial,?_⟩;show Fin XE (Rep X.K) X.K S (f Jτ S.M) _;rw[o];intro S1 v e1 s1 r1;cases r1 with
   |@tup _ p vs h l r=>have r1:Reps X.K S1 ts vs:=⟨l,r⟩;replace Y:Fin XE (ItG X.K) X.K S (.ok (ts,[]) M1) R:=Y;refine⟨p,rfl,⟨vs,h⟩,Y S1 _ e1 s1 λS3 s3 gd=>?_⟩;have g3:SqT X.K S3.H p vs:=s3.toGrow.tup s1.mok h;refine⟨λi t et=>?_,λi hi=>⟨vs,g3,by rw[←l];exact hi⟩⟩;obtain⟨v2,ev3,r3⟩:=r1.get et;refine⟨⟨vs,v2,g3,ev3⟩,λx H' hy=>?_⟩;obtain⟨ey,hy⟩:=hy;have:=hy vs g3;rw[ev3]at this;cases this;exact⟨S3,ey.symm,rfl,.refl s3.mok,r3.grow s1.mok s3.toGrow⟩
  |_=>exact .inl (lists λg h=>h)
end
end FT
namespace L2
open PySem PySem.Spec PyProof.Rows
abbrev TSl:=V->Option Int->Option Int->V->Hp->(Hp->Prop)->Prop
end L2
namespace FT
open PySem PySem.Spec PyProof.Rows L2
def zci(f:X4):X4:=λts M=>match f ts M with
 |.ok v M'=>@ite _ (M'.take M.length=M/\T.lt 0 v) (Classical.propDecidable _) (.ok v M) .bad|_=>.bad
theorem zfP(f:X4):Refines (zci f) f:=by
 intro ts M t' M1 _ e;unfold zci at e;split at e
 .rename_i v M' q;split at e
  .rename_i hc;cases e;have hl:M.length<=M'.length:=by have:=congrArg List.length hc.1;rw[Qr]at this;symm
   exact⟨_,_,q,Q3 _,hl,hc.1.symm,λi c e=>.inl e,.same (hc.2.mono (Nat.zero_le _))⟩
  .cases e
 .cases e
theorem zfQ(f:X4):∀ts M C fs M',zci f ts M ≠ .exn C fs M':=by
 intro ts M C fs M' e;unfold zci at e;split at e
 .split at e<;>cases e
 .cases e
def zuF(o:Out Fl):Out T:=match o with
 |.ok (.rt t) M'=>.ok t M'|.ok (.nx _) M'=>.ok .non M'|.exn C fs M'=>.exn C fs M'|_=>.bad
def zT(p n:Nat)(g:X5):X4:=λts M=>if ts.length=p then zuF (g (startT n ts) M)else .bad
structure CalX (P:Program) (w:World) (K:Frag) (mg:Str->Option Value) (base:Heap) (k:Nat) (x:Str) (ps:List Str) (f:X4):Prop where
 ex:∃(fa:Addr) (fd:FuncData),FnOk P w K mg base (CXX P w) k fa fd ps (spT K f)/\PySem.W.keepIn K (.ref fa)=true/\Binds K fd ps []/\mg x=some (.ref fa)
section
variable   {K:Frag}  
theorem znC{st:List Stmt}(hn:N.length=n){E:XK}{vs:List V}{H:Hp}{Q:VK}(hX:X.K=K)(h:spT K (zT p n g) vs H Q E)(hb:GSs X E st g):
  ∃t,PSs X st t/\t { nx:=λ_ H'=>Q .non H',rt:=Q } (start N vs) H:=by
 subst hX;refine⟨_,hb,?_⟩;obtain⟨S,ts,e,m,r,Y⟩:=h;refine⟨S,startT n ts,(),e,m,EvR.start r hn,trivial,?_⟩;show Fin E (FlR X.K) X.K S (g (startT n ts) S.M) _;unfold zT at Y
 by_cases hp:ts.length=p
 .rw[QA hp]at Y;cases o:g (startT n ts) S.M with
  |bad=>rw[o]at Y;exact Y|exn C fs M'=>rw[o]at Y;exact Y|ok fl M1=>
   rw[o]at Y;cases fl with
   |nx J1=>intro S1 c e1 s1 r1;cases r1 with|nx r1=>exact Y S1 .non e1 s1 .non
   |rt t=>intro S1 c e1 s1 r1;cases r1 with|rt r1=>exact Y S1 _ e1 s1 r1
   |bk J1=>exact Y.elim|ct J1=>exact Y.elim
 .rw[QB hp]at Y;exact Y.elim
theorem zpg{ps:List Str}(hp:ps.length=p):∀vs H Q E,spT K (zT p n g) vs H Q E->vs.length=ps.length:=by
 rintro vs H Q E ⟨S,ts,e,m,r,Y⟩;rw[←r.1,hp];unfold zT at Y
 by_cases h:ts.length=p
 .exact h
 .rw[QB h]at Y;exact Y.elim
theorem zqH{st:Stmt}(D:Df K mg x st ps)(Sc:FnScope N ps (zg st))(hp:ps.length=p)(hn:N.length=n)
  (hb:∀(f:Addr) (cdv:Value) (A:Around) (outer:List PySem.Env) (s:Shared) (H:Hp) (E:XK),Room k (A.deeper (envOfC x (zg st) s.heap.objs.size f cdv))->GSs (zbD (CXX P w) P w K mg base N x (zg st) f cdv A outer s H E) E (yH st) g) :
  CalX P w K mg base (k+1) x ps (zT p n g):=by
 obtain⟨f,fd,F,b,gg⟩:=D.ex;obtain⟨oc,od,kV,doc,pm,an,cdv,ct,osl,rfl,lk,hcd⟩:=F.ex;exact⟨⟨f,_,zo1 lk hcd Sc (zpg hp) λA outer s H vs Q E hr hsp=>znC hn rfl hsp (hb f cdv A outer s H E hr),F.kp,b,gg⟩⟩
end
section
variable     {x y v nm:Str} {p pos pos2 np hp tp vp cpos:Pos} {e:Expr}    {C:Addr}   
noncomputable def zcQ(C:Addr)(ts:List T)(M:Mem):Out Fl:=if ts.length<=sizeLine then .exn C [] M else .bad
def zck(r:List T->Mem->Out Fl)(ga:X1):X5:=λJ M=>(ga J M).bind λts M1=>r ts M1
structure XcF (P:Program) (w:World) (K:Frag) (mg:Str->Option Value) (base:Heap) (x:Str) (C:Addr):Prop where
 ex:∃f fd,XcAt K mg x C f/\FnOk P w K mg base CX0 1 f fd ["self","at"] (λvs H Q E=>(∃e t v,vs=[.ref e,v]/\H e=some (.ext (ExN e C t none))/\∀d,H d=none->d ≠ e->Q .non (upd (upd H e (.ext (ExN e C t (some d)))) d (.xd [("at",v)]))))/\Binds K fd ["self","at"] []
def XcF.at{K:Frag}(O:XcF P w K mg base x C):∃nm fI,XcAt K mg nm C fI:=let ⟨f,_,h,_⟩:=O.ex;⟨x,f,h⟩
noncomputable def zcP(C:Addr)(ts:List T)(M:Mem):Out Fl:=match ts with
 |[t]=>.exn C [("at",t)] M|_=>.bad
def GX(X:Cx)(sts:List Stmt)(g:X5):Prop:=PX X sts λE=>lS E X.K g
noncomputable def zgY:X5:=λ_ _=>.bad
noncomputable def noX(o:Out Fl):Out Fl:=match o with
 |.exn _ _ _=>.bad|o=>o
noncomputable def clr(j:Nat)(fl:Fl)(M:Mem):Out Fl:=match fl with
 |.nx J=>.ok (.nx (J.set j none)) M|.rt t=>.ok (.rt t) M|.bk J=>.ok (.bk (J.set j none)) M|.ct J=>.ok (.ct (J.set j none)) M
def zeL(j:Nat)(cs:List Addr)(g gs:X5):X5:=λJ M=>match g J M with
 |.exn C fs M'=>if cs.contains C=true then(noX (gs (J.set j (some (.exc C fs))) M')).bind (clr j)else .bad|o=>o
theorem EvR.clr{K:Frag}(r:EvR K S Jτ J)(j:Nat):EvR K S (Jτ.set j none) (J.set j none):=by
 refine⟨by simp[r.1],λi t e=>?_⟩;rw[Qc]at e ⊢
 by_cases h:j=i
 .subst h;rw[QA rfl]at e;split at e<;>cases e
 .rw[QB h]at e ⊢;exact r.2 i t e
def xat(cs:List Addr)(t:T)(M:Mem):Out T:=match t with
 |.exc C fs=>if cs.contains C=true then match fs.lookup ("at":Str)with
  |some v=>.ok v M|none=>.bad else .bad
 |_=>.bad
theorem zhK{K:Frag}:∀{fs:List (Str × T)} {us:List (Str × V)},fs.map (·.1)=us.map (·.1)->(∀(i:Nat) t v,(fs.map (·.2))[i]?=some t->(us.map (·.2))[i]?=some v->Rep K S t v)->fs.lookup f=some t->∃v,us.lookup f=some v/\Rep K S t v
 |[],_,_,_,h=>by simp at h|(a,x)::fs,[],l,_,_=>by simp at l|(a,x)::fs,(b,y)::us,l,r,h=>by
  simp only[QG,List.cons.injEq]at l;obtain⟨rfl,l⟩:=l;rw[lookup_cons]at h ⊢
  by_cases hf:(f==a)=true
  .rw[hf]at h ⊢;cases h;exact⟨y,rfl,r 0 _ _ rfl rfl⟩
  .have hf:(f==a)=false:=by simpa using hf
   rw[hf]at h ⊢;exact zhK l (λi t v e1 e2=>r (i+1) t v (by simpa using e1) (by simpa using e2)) h
end
theorem zmJ{K:Frag}(X:K.In h){N:Addr}{c:Value}{d:Option Addr}{es:Array DictEntry}{ep:Nat}{sl:Array (Option Value)}(l:K.lookup N=some ⟨c,d,.dict es ep,sl⟩)(sk:zaZ es=true):
  h.Ns N (h.nsMap N)/\∀(n:Str) r,PySem.W.nsIn K N n=some r->h.nsMap N n=r:=by
 have ho:=X _ _ l;have hi:h.isNs N=true:=by unfold Heap.isNs;rw[ho];unfold zaZ at sk;rw[Array.all_toList]at sk;exact sk
 refine⟨Heap.Ns.of_isNs hi,λn r q=>?_⟩;obtain⟨o,es',ep',ho',hd',_,hf⟩:=Heap.Ns.of_isNs hi;rw[←hf n];rw[ho]at ho';cases ho';cases hd';unfold PySem.W.nsIn at q;rw[l]at q;dsimp only at q;unfold nsFind findBy;cases e:es.toList.find? (·.key.isStr n)with
 |some e'=>
  rw[e]at q;have:es.find? (λe=>e.key.isStr n)=some e':=by rw[←Array.find?_toList];exact e
  rw[this];exact Qd q
 |none=>
  rw[e]at q;have:es.find? (λe=>e.key.isStr n)=none:=by rw[←Array.find?_toList];exact e
  rw[this];dsimp only at q;split at q
  .cases q
  .exact Qd q
noncomputable def zcV(K:Frag)(N:Addr)(ns:List Str):Bool:=ns.all λn=>PySem.W.nsIn K N n==some none
def zgq{K:Frag}{h:Heap}(v:∀(n:Str) r,PySem.W.nsIn K N n=some r->h.nsMap N n=r)(e:zcV K N ns=true):∀n ∈ ns,h.nsMap N n=none:=λn hn=>v n none (eq_of_beq (all_eq_true.mp e n hn))
def zja{K:Frag}:zcV K N []=true:=rfl
theorem zai{K:Frag}(a:PySem.W.nsIn K N n=some none)(b:zcV K N ns=true):zcV K N (n::ns)=true:=by unfold zcV at *;rw[all_cons,b,a];rfl
theorem zs5{K:Frag}(X:K.In h)(G:h.Ns mainGlobals mg){x qual nm q:Str}{st:Stmt}{C N W fI:Addr}{bs:List Value}{sn:List Str}{sub:List Value}{ab:Bool}{col:Option Bool}{dd od an:Option Addr}{k0 k1 k2 k3 k5:Option Value}
  {c1 c2 c3 kV dc pm cd ct:Value} {d1 d2 d3:Option Addr} {es es':Array DictEntry} {ep ep':Nat} {s1 s2 s3 sl:Array (Option Value)} {cdw:ClassData} {p1 p2 p3 p4:Pos}
  (a:PySem.W.nsIn K mainGlobals x=some (some (.ref C)))
  (l:K.lookup C=some (excClassObj nm q C N bs (.ref W::y4) true sn sub ab col dd k0 k1 k2 k3 k5 "ValueError.__new__"))
  (ln:K.lookup N=some ⟨c1,d1,.dict es ep,s1⟩) (sk:zaZ es=true) (q0:PySem.W.nsIn K N "__init__" = some (some (.ref fI))) (n0:zcV K N xns=true)
  (lw:K.lookup W=some ⟨c2,d2,.cls cdw,s2⟩) (lwn:K.lookup cdw.ns=some ⟨c3,d3,.dict es' ep',s3⟩) (sk':zaZ es'=true) (n1:zcV K cdw.ns ("__init__" :: xns)=true)
  (lf:K.lookup fI=some ⟨.type "function",od,.func (PySem.W.fnOf "__init__" qual (zae st) (yH st) (zg st) .none kV dc pm an cd ct),sl⟩) (cc:PySem.W.codeIn K cd qual=true) (kk:PySem.W.keepIn K (.ref fI)=true)
  (Sc:FnScope ["self","at"] ["self","at"] (zg st)) (hb:yH st=[.Assign [.Attribute (.Name "self" p1) "at" p2] (.Name "at" p3) p4]) (l1:(zg st).names.lookup ("self":Str)=some NameKind.local) (l2:(zg st).names.lookup ("at":Str)=some NameKind.local)
  (bd:∀(kV doc pm:Value) (an:Option Addr) (cdv ct:Value) (us:List Value),us.length=2->bindArgs (PySem.W.fnOf "__init__" qual (zae st) (yH st) (zg st) .none kV doc pm an cdv ct) ⟨us,[]⟩=pure ((["self","at"]:List Str).zip us)) :
  XcF P w K mg base x (qi K x):=by
 rw[zaf a];have F:=zgE (st:=st) lf cc kk;have O:XcAt K mg x C fI:=by refine⟨PySem.W.mg_of X G a,λh' X'=>?_,_,lf,rfl⟩;obtain⟨hN,v1⟩:=zmJ X' ln sk;obtain⟨hW,v2⟩:=zmJ X' lwn sk';exact⟨_,N,nm,q,bs,sn,sub,ab,col,dd,k0,k1,k2,k3,k5,_,X' _ _ l,hN,v1 _ _ q0,zgq v1 n0,.own (X' _ _ lw) hW (zgq v2 n1) .base⟩
 exact⟨fI,_,O,zhd O F Sc hb l1 l2,F.binds bd⟩
end FT
namespace L2
open PySem
noncomputable def hsh(ks:List Nat):List Int:=ks.map λk:Nat=>(k:Int)
end L2
namespace L2
open PySem PySem.Spec PyProof.Rows
theorem zmt(n:Nat):sliceRange (sliceBounds none none (some (-1)) n).1 (sliceBounds none none (some (-1)) n).2.1 (sliceBounds none none (some (-1)) n).2.2=(List.range n).map λk=>n-1-k:=by
 unfold sliceBounds sliceRange;have h0:¬((-1:Int) > 0):=by decide
 simp only[Option.getD_some,h0,if_false];have hc:(if(n:Int)-1 > -1 then((n:Int)-1 - -1 - -1-1) / (- -1)else 0).toNat=n:=by
  by_cases hn:(n:Int)-1 > -1
  .rw[QA hn];have:((n:Int)-1 - -1 - -1-1) / (- -1)=n:=by
    have e:(- -1:Int)=1:=by decide
    rw[e,Int.ediv_one];symm
   rw[this];simp
  .rw[QB hn];symm
 rw[hc];apply map_congr_left;intro k hk;have hk':k<n:=mem_range.mp hk;symm
theorem znW{α:Type}:∀xs:List α,((List.range xs.length).map λk=>xs.length-1-k).filterMap (λk=>xs[k]?)=xs.reverse:=λxs=>by
 rw[List.filterMap_map];have:((List.range xs.length).filterMap λk=>xs[xs.length-1-k]?)=(List.range xs.reverse.length).filterMap λk=>xs.reverse[k]?:=by
  rw[List.length_reverse];have:∀(ns:List Nat),(∀k ∈ ns,k<xs.length)->(ns.filterMap λk=>xs[xs.length-1-k]?)=ns.filterMap λk=>xs.reverse[k]?:=by
   intro ns
   induction ns with
   |nil=>intro _;rfl|cons n ns ih=>intro h;rw[filterMap_cons,filterMap_cons,ih λk hk=>h k (.tail _ hk),List.getElem?_reverse (h n (.head _))]
  exact this _ λk hk=>mem_range.mp hk
 show((List.range xs.length).filterMap λk=>xs[xs.length-1-k]?)=_;rw[this];exact PySem.List.filterMap_getElem?_range_length _
theorem zih(its:List Value):slicePick its.toArray none none (some (-1))=its.reverse.toArray:=by unfold slicePick;rw[Qi,zmt];have:=znW its;simp only[List.getElem?_toArray];rw[this]
section
noncomputable def tRv(r:V->Hp->VK->Prop)(te:TE)(ts:TO):TE:=λJ H Q=>te J H λx H1=>ts J H1 λl H2=>l=some (-1)/\r x H2 Q
def zuH(K:Frag):V->Hp->VK->Prop:=λx H Q=>∃a xs,x = .ref a/\SqL K H a xs/\∀p,H p=none->Q (.ref p) (upd H p (.lst xs.reverse))
theorem zru{st:Expr}(he:PE X e te)(hs:PO X (some st) ts):PE X (.Subscript e (.Slice none none (some st) p2) pos) (tRv (zuH X.K) te ts):=by apply?;refine Subscript_ (thn (he ρ s J H _ I h) λv s1 h9=>?_);obtain⟨x,H1,I1,r1,q1⟩:=h9;refine wpAny_Slice ?_;rw[evalPart_none];refine Qf (Qf (thn (hs ρ s1 J H1 _ I1 q1) λvl s2 h9=>?_));obtain⟨l,H2,I2,pl,q2⟩:=h9;obtain⟨rfl,a,xs,rfl,hx,q⟩:=q2;cases r1;have I4:Inv X ρ J H2 { s2 with heap:=s2.heap.push { cls:=.type "slice",data:=.fields #[.none,.none,vl] } }:=I2.kept (t':=s2.toks) λb ob q=>Q2 _ q;obtain⟨its,r,ht,hz⟩:=I4.list hx;have hlen:=r.length;refine tail_any (ops:=[.ref a,.ref s2.heap.objs.size]) ht.isList.typeIs slot_list_getitem.lookup ?_ (by with_unfolding_all rfl);refine wpAny_getItem_list_slice ht.isList (Heap.IsSliceOf.new ..) .none .none pl ∅ ?_ (by rw[Qi]<;>symm);rw[zih];refine⟨.ref _,_,I4.laid (t':=s2.toks) (o:=.lst xs.reverse) (λb ob q=>Q2 _ q) (Q3 _) ?_,rfl,q _ (I4.hok.fresh (Q3 _))⟩;exact⟨by rw[List.length_reverse];exact hz,_,0,r.reverse,Ql _ rfl⟩
end
end L2
namespace FT
open PySem PySem.Spec PyProof.Rows L2
def rvX(x:T)(M:Mem):Out T:=match zy x M with
 |some xs=>.ok (.lst xs.reverse) M|none=>.bad
def zgZ(x:T)(l:Option Int)(M:Mem):Out T:=if l=some (-1)then rvX x M else .bad
def eRv(f:X9)(p:Ev->Mem->Out (Option Int)):X9:=λJ M=>(f J M).bind λx M1=>(p J M1).bind λl M2=>zgZ x l M2
section
end
def zex(f:X4):X4:=λts M=>match f ts M with
 |.ok (.ref a) M'=>match M'[a]? with
  |some (.lst xs)=>@ite _ (M'.take M.length=M/\M.length<=a/\∀x ∈ xs,T.lt 0 x) (Classical.propDecidable _) (.ok (.lst xs) M) .bad|_=>.bad
 |_=>.bad
theorem zlb(f:X4):Refines (zex f) f:=by
 intro ts M t' M1 _ e;unfold zex at e;split at e
 .rename_i a M' q;split at e
  .rename_i xs qa;split at e
   .rename_i hc;cases e;have hl:M.length<=M'.length:=by have:=congrArg List.length hc.1;rw[Qr]at this;symm
    refine⟨_,_,q,Q3 _,hl,hc.1.symm,λi c e=>.inl e,.ref qa hc.2.1 rfl λi t u e1 e2=>?_⟩;rw[e1]at e2;cases e2;exact .same ((hc.2.2 t (Qa e1)).mono (Nat.zero_le _))
   .cases e
  .cases e
 .cases e
theorem zlc(f:X4):∀ts M C fs M',zex f ts M ≠ .exn C fs M':=by
 intro ts M C fs M' e;unfold zex at e;split at e
 .split at e
  .split at e<;>cases e
  .cases e
 .cases e
section
variable   {K:Frag}  
theorem Refines.bad(g:X4):Refines (λ_ _=>.bad) g:=λ_ _ _ _ _ e=>by cases e
theorem CalT.bad{st:Stmt}(D:Df K mg x st ps)(Sc:FnScope N ps (zg st)):CalT P w K mg base (k+1) x ps (λ_ _=>.bad):=
 CalT.refine (g:=zj ps.length N.length (λ_ _=>.bad)) (zny D Sc rfl rfl λf cdv A outer s H E hr=>λ_ _ _ _ _ _ ⟨_,_,_,_,_,_,_,Y⟩=>Y.elim) (Refines.bad _) (λ_ _ _ _ _ z=>by cases z)
end
def KTu(K:Frag)(a:Addr)(xs:List V):Prop:=∃(o:Obj) (its:Array Value) (n:Nat),K.lookup a=some o/\o.cls = .type "tuple"/\o.dict=none/\o.data = .seq its n/\its.size<=sizeLine/\Vals xs its.toList
theorem zrZ{K:Frag}(h:K.lookup a=some ⟨.type "tuple",none,.seq #[.str x t] n,sl⟩):KTu K a [.str x]:=
 ⟨_,_,n,h,rfl,rfl,rfl,(by rw[sizeLine_eq];exact Nat.le_of_ble_eq_true rfl),.cons ⟨t,rfl⟩ .nil⟩
def zgi(Cs:List Addr)(f:Str)(fo:X9)(n:Int):X5:=λJ M=>(fo J M).bind λx M1=>(zaI Cs f x M1).bind λv M2=>(zdv v (.int n) M2).bind λz M3=>(zaT Cs f x z M3).bind λ_ M4=>.ok (.nx J) M4
noncomputable def zfM:T->X4:=λx ts M=>match x,ts with
 |.ref a,[.lst ys]=>match M[a]? with
  |some (.lst xs)=>if xs.length+ys.length<1000000 then .ok .non (M.set a (.lst (xs++ys)))else .bad|_=>.bad
 |.ref a,[.ref b]=>match M[a]?,M[b]? with
  |some (.lst xs),some (.lst ys)=>if xs.length+ys.length<1000000 then .ok .non (M.set a (.lst (xs++ys)))else .bad|_,_=>.bad
 |_,_=>.bad
def zhe(x:T):List T->Nat->Option Nat
 |[],_=>none|y::ys,n=>if eqS y x=true then some n else zhe x ys (n+1)
def zdR:T->X4:=λx ts M=>match ts with
 |[y]=>match zy x M with
  | some xs=>if(zbk y && xs.all zbk)=true then(match zhe y xs 0 with
   |some n=>.ok (.int (n:Int)) M
   | none=>.bad)else .bad
  |none=>.bad
 |_=>.bad
theorem zhO:∀{ys:List T} {k n:Nat},zhe x ys k=some n->k<=n/\n-k<ys.length/\(∀y,ys[n-k]?=some y->eqS y x=true)/\∀(m:Nat) y,m<n-k->ys[m]?=some y->eqS y x=false
 |[],k,n,h=>by cases h|y::ys,k,n,h=>by
  unfold zhe at h;split at h
  .rename_i e;cases h;refine⟨Q3 _,by simp,λz hz=>?_,λm z hm=>absurd hm ⋯⟩;simp at hz;rw[←hz];exact e
  .rename_i e;obtain⟨h1,h2,h3,h4⟩:=zhO h;refine⟨⋯,by rw[Qp];symm,λz hz=>?_,λm z hm hz=>?_⟩
   .rw[show n-k=n-(k+1)+1 by symm,getElem?_cons_succ]at hz;exact h3 z hz
   .cases m with|zero=>simp at hz;rw[←hz];simpa using e|succ m=>rw[getElem?_cons_succ]at hz;exact h4 m z ⋯ hz
section
theorem zmM(hu:X.A.units+64<cLine):MtR X "list.index" (lMt XE X.K zdR):=by
 rintro ρ s J H x xs v us Q I rx rs ⟨S,⟨tx,ts⟩,e,m,⟨r1,r2⟩,Y⟩;subst e;replace r1:Rep X.K S tx x:=r1;replace r2:Reps X.K S ts xs:=r2;replace Y:Fin XE (Rep X.K) X.K S (zdR tx ts S.M) Q:=Y;unfold zdR at Y;rw?
 .rename_i y;rw?
  .rename_i ys q;rw?
   .rename_i hs;rw?
    .rename_i n hn;rw[Qs]at hs;obtain⟨p,vs,rfl,hq,rs'⟩:=yD m r1 q;obtain⟨w1,ws,rfl,h1,h2⟩:=r2.consT;cases h2.nilT;cases rs with | cons a1 a2=>
     cases a2;cases rx;obtain⟨its,rv,pl,hz⟩:=I.list hq;obtain⟨i1,i2,i3,i4⟩:=zhO hn;rw[Nat.sub_zero]at i2 i3 i4;obtain⟨b1,b2⟩:=ziA h1 hs.1 rs' hs.2;have fx:=qP h1 hs.1;have hlen:=rv.length;have hys:=rs'.1;have val:∀(k:Nat) (hk:k<its.length),∃y',ys[k]?=some y'/\eqU w1 its[k]=eqS y' y:=λk hk=>by obtain⟨y',hy'⟩:∃y',ys[k]?=some y':=⟨ys[k],Q0 ⋯⟩;obtain⟨v',hv',rv'⟩:=rs'.get hy';obtain⟨u',hu',ru'⟩:=rv.get hv';rw[Q0 hk]at hu';cases hu';have sy:zbk y'=true:=all_eq_true.mp hs.2 y' (Qa hy');exact⟨y',hy',by rw[zjD ru' (qP rv' sy),ze1 rv' h1 sy hs.1]⟩
     obtain⟨o,c,ho,hcl,hdi,hda⟩:=pl;obtain⟨cls,dict,data,slots⟩:=o;dsimp only at hcl hdi hda;subst hcl;subst hdi;subst hda
     have hnl:n<its.length:=by symm
     refine call_meets PySem.F.slot_list_index ⟨_,ho,rfl⟩ PySem.F.entry_list_index (PySem.F.args_list_index_2 _ _) (SeqAt.list_indexAt p its.toArray c none slots _ (eqU w1) n (by simpa using hnl) (by have:=zco;rw[hlen]at hz;symm) ?_ ?_) ⟨ho,λw hw=>zb4 a1 fx rv b1 w (by simpa using hw),⟨.int (n:Int),S.H,I.tok _,⟨_,rfl⟩,Y S _ rfl (.refl m) (.int _)⟩⟩
     .obtain⟨y',hy',e'⟩:=val n hnl;simp only[getElem_toArray];rw[e'];exact i3 y' hy'
     .intro k hk hk2;have hk':k<its.length:=by simpa using hk
      obtain⟨y',hy',e'⟩:=val k hk';simp only[getElem_toArray];rw[e'];exact i4 k y' hk2 hy'
    .simp?
   .simp?
  .simp?
 .simp?
end
theorem zmQ(l:Addr)(items:Array Value)(n:Nat)(b:Addr)(items2:Array Value)(n2:Nat)(dd:Option Addr)(sl:Array (Option Value))(hc0:¬(!items.isEmpty && Builtin.List.listTooLong (items.size+items2.size))=true)(hc1:items.size<=sizeLine)(hs2:items.size+items2.size<=sizeLine+1):
  Meets (Builtin.«list.extend» ⟨[.ref l,.ref b],[]⟩) (λ_ R s=>s.heap.get? l=some { cls:=.type "list",dict:=none,data:=.seq items n,slots:=#[] }/\s.heap.get? b=some { cls:=.type "list",dict:=dd,data:=.seq items2 n2,slots:=sl }/\R (.ok (.ret Value.none)) { s with heap:=s.heap.update l (Obj.mapSeq λx=>x++items2),toks:=s.toks }):=
 .of_wp λprog w A R s h=>by
  obtain⟨hp,g,d,tk,os⟩:=s;obtain⟨hl,hb,h⟩:=h;have f1:=AutoSeq1.idx_int;have f2:=AutoSeq1.sub_tuple_tuple;have f3:=AutoSeq1.sub_list_list;have f4:=AutoSeq1.sub_tuple_list;have f5:=AutoSeq1.sub_list_tuple
  have hz':(items++items2).size<=sizeLine+1:=by rw[Array.size_append];exact hs2
  wp_walk using(wpAny_updateSeq hl rfl (hz:=hc1) (_hz':=hz')),AutoSeq1.wpAny_loadPart' hl,AutoSeq1.wpAny_loadPart' hb;exact⟨_,rfl,h⟩
section
def zts(K:Frag):V->List V->Hp->VK->Prop:=λx vs H Q=>∃l b xs zs,x = .ref l/\vs=[.ref b]/\H l=some (.lst xs)/\SqL K H b zs/\xs.length+zs.length<=sizeLine/\Q .non (upd H l (.lst (xs++zs)))
theorem zkS:MtM X "list.extend" (zts X.K):=by
 intro ρ s J H x vs v us Q I rx rv h;obtain⟨l,b,xs,zs,rfl,rfl,hH,hB,hz,q⟩:=h;cases rx;obtain⟨u,rfl,ru⟩:=rv.one;cases ru;obtain⟨z,its,n,r,hl,e⟩:=I.lstM hH;obtain⟨its2,r2,pl2,z2⟩:=I.list hB;obtain⟨⟨cls2,dd2,data2,sl2⟩,n2,ho2,hc2,hdi2,hd2⟩:=pl2;simp only at hc2 hd2;subst hc2 hd2;have hl2:=r2.length;have hsz:its.toArray.size+its2.toArray.size<=sizeLine:=by rw[Qi,Qi];symm
 have hlong:¬(!its.toArray.isEmpty && Builtin.List.listTooLong (its.toArray.size+its2.toArray.size))=true:=by rw[zi9 hsz,Bool.and_false];exact Q4
 refine call_meets F.slot_list_extend ⟨_,e,rfl⟩ F.entry_list_extend (F.args_list_extend_2 _ _)
  (zmQ l its.toArray n b its2.toArray n2 dd2 sl2 hlong (by rw[Qi];symm) ⋯) ⟨e,ho2,?_⟩
 refine⟨.non,_,I.lset (its':=its++its2) hH e (by simp) (r.append r2) ?_,rfl,q⟩;rw[Qn];symm
theorem zpV:MtR X "list.extend" (lMt XE X.K zfM):=by
 rintro ρ s J H x xs v us Q I rx rs ⟨S,⟨tx,ts⟩,e,m,⟨r1,r2⟩,Y⟩;subst e;replace r1:Rep X.K S tx x:=r1;replace r2:Reps X.K S ts xs:=r2;replace Y:Fin XE (Rep X.K) X.K S (zfM tx ts S.M) Q:=Y;have hsl:(1000000:Nat)<=sizeLine:=by rw[sizeLine_eq];exact Nat.le_of_ble_eq_true rfl
 unfold zfM at Y;rw?
 .rename_i a ys;rw?
  .rename_i xs0 q;rw?
   .rename_i hlt;cases r1 with
    |ref ha=>
    obtain⟨w1,ws,rfl,h1,h2⟩:=r2.consT;cases h2.nilT;obtain⟨us4,h4,rr⟩:=m.cell _ _ q;cases h1 with|@lst _ p vs h l r=>
    have rr2:Reps X.K S ys vs:=⟨l,r⟩;have st:=zeM m q (rr.app rr2);refine zkS ρ s J S.H (.ref (S.α a)) [.ref p] v us Q I rx rs ⟨S.α a,p,us4,vs,rfl,rfl,h4,zdD h,by rw[←rr.1,←l];symm,?_⟩;exact Y (S.put a (.lst (us4++vs)) (.lst (xs0++ys))) .non rfl st .non
   .simp?
  .simp?
 .rename_i a b;rw?
  .rename_i xs0 ys q qb;rw?
   .rename_i hlt;cases r1 with
    |ref ha=>
    obtain⟨w1,ws,rfl,h1,h2⟩:=r2.consT;cases h2.nilT;obtain⟨us4,h4,rr⟩:=m.cell _ _ q;obtain⟨us5,h5,rr5⟩:=m.cell _ _ qb;cases h1 with|ref hb=>
    have st:=zeM m q (rr.app rr5);refine zkS ρ s J S.H (.ref (S.α a)) [.ref (S.α b)] v us Q I rx rs ⟨S.α a,S.α b,us4,us5,rfl,rfl,h4,.inl (.inl h5),by rw[←rr.1,←rr5.1];symm,?_⟩;exact Y (S.put a (.lst (us4++us5)) (.lst (xs0++ys))) .non rfl st .non
   .simp?
  .simp?
 .simp?
end
structure WE (X:Cx) (XE:XK) (e:Expr) (f:X9):Prop where
 pe:GE X XE e f
structure WT (X:Cx) (XE:XK) (e:Expr) (f:X7):Prop where
 pe:GT X XE e f
structure WW (X:Cx) (XE:XK) (e:Expr) (f:X7):Prop where
 pe:GW X XE e f
structure WA (X:Cx) (XE:XK) (e:List Expr) (f:X1):Prop where
 pe:GA X XE e f
structure WSs (X:Cx) (XE:XK) (e:List Stmt) (f:X5):Prop where
 pe:GSs X XE e f
structure WS (X:Cx) (XE:XK) (e:Stmt) (f:X5):Prop where
 pe:GS X XE e f
structure WL (X:Cx) (XE:XK) (e:Expr) (f:X1):Prop where
 pe:GL X XE e f
structure WGs (X:Cx) (XE:XK) (e:List Expr) (f:List T->X8):Prop where
 pe:GGs X XE e f
structure WG (X:Cx) (XE:XK) (e:Expr) (f:T->X8):Prop where
 pe:GG X XE e f
structure WO (X:Cx) (XE:XK) (e:Option Expr) (f:Ev->Mem->Out (Option Int)):Prop where
 pe:GO X XE e f
structure WI (X:Cx) (XE:XK) (tg iter:Expr) (f:X1):Prop where
 pe:GI X XE tg iter f
structure WX (X:Cx) (e:List Stmt) (f:X5):Prop where
 pe:GX X e f
structure WIG (X:Cx) (XE:XK) (tg iter:Expr) (f:Ev->Mem->Out (List T × Gd)):Prop where
 pe:GIG X XE tg iter f
section
variable  {XE:XK}    {pos:Pos} 
theorem ya(h:PE X e (zlD i)):WE X XE e (Z i):=⟨PE.imp h λJ H Q h9=>by
 obtain⟨S,Jτ,_,e,m,ev,_,Y⟩:=h9;replace Y:Fin XE (Rep X.K) X.K S (Z i Jτ S.M) Q:=Y;unfold Z at Y;cases q:Jτ[i]? with
 |none=>rw[q]at Y;exact Y.elim|some o=>
  cases o with
  |none=>rw[q]at Y;exact Y.elim|some t=>rw[q]at Y;obtain⟨v,e2,r⟩:=ev.2 i t q;exact⟨v,e2,by rw[←e];exact Y S v rfl (.refl m) r⟩⟩
def yc:WE X XE (.Constant (.int i) j pos) (eC (.int i)):=⟨zb6 zmE λ_=>.int _⟩
def z7:WE X XE (.Constant (.bool i) j pos) (eC (.bl i)):=⟨zb6 ztB λ_=>.bl _⟩
def qM:WE X XE (.Constant .none j pos) (eC .non):=⟨zb6 zrx λ_=>.non⟩
def yi:WE X XE (.Constant (.str i) j pos) (eC (.str i)):=⟨zb6 zrt λ_=>.str _⟩
theorem zfu(hg:Gl X x)(hm:X.mg x=none)(hv:bootBuiltins x=some (.type n))(hn:x ≠ "__name__":=by decide)(hd:(x==("__debug__":Str))=false:=by decide):WE X XE (.Name x pos) (eC (.ty n)):=⟨zb6 (zkM (v:=.ty n) hg hm hv rfl hn hd) λ_=>.ty _⟩
theorem yj(ho:OpR X (binaryOp op) (lR2 XE X.K o))(ha:WE X XE a f)(hb:WE X XE b g):WE X XE (.BinOp a op b pos) (eOp o f g):=by have ha:=ha.pe;have hb:=hb.pe;exact⟨PE.imp (zoU ho ha hb) λ_ _ _ h=>ziz h⟩
theorem yX(ho:OpR X (compareOp op) (lR2 XE X.K o))(ha:WE X XE a f)(hb:WE X XE b g)(hm:behindInMarks op b=false):WE X XE (.Compare a [op] [b] pos) (eOp o f g):=by have ha:=ha.pe;have hb:=hb.pe;exact⟨PE.imp (zpG ho ha hb hm) λ_ _ _ h=>ziz h⟩
theorem zdx(ho:L2.UnR X (unaryOp op) (lR1 XE X.K o))(ha:WE X XE a f):WE X XE (.UnaryOp op a pos) (eUn o f):=by have ha:=ha.pe;exact⟨PE.imp (zty ho ha) λJ H Q h=>LN.mono (LN.bind (f:=λ_ J M=>f J M) (k:=λ_ x J M1=>o x M1) (RB:=Rep X.K) h) λv H1 h2=>by obtain⟨S,Jτ,a,e,m,ev,ra,Y⟩:=h2;exact⟨S,a.2,e,m,ra.2,Y⟩⟩
theorem qd(ho:IxR X (lR2 XE X.K o))(ha:WE X XE a f)(hb:WE X XE b g)(hs:zhv b:=by exact λ_ _=>rfl):WE X XE (.Subscript a b pos) (eOp o f g):=by have ha:=ha.pe;have hb:=hb.pe;exact⟨PE.imp (ztA ho ha hb hs) λ_ _ _ h=>ziz h⟩
theorem yJ(ha:WE X XE e f)(he:∀whole,isTrue e X.env whole=(do let v ←whole;standAt e.pos;holding [v] (truthy v)):=by intro _;rfl):WT X XE e (yq f):=by have ha:=ha.pe;exact⟨PT.imp (zri ha he) λJ H Q h=>LN.mono (LN.bind (f:=λ_ J M=>f J M) (k:=λ_ x J M1=>blT x M1 λb M2=>.ok b M2) (RB:=Rep X.K) h) λv H1 h2=>by obtain⟨S,Jτ,a,e,m,ev,ra,Y⟩:=h2;obtain⟨b,e1,_,Y⟩:=ziy ra.2 Y;exact⟨b,e1,by rw[←e];exact Y S b rfl (.refl m) rfl⟩⟩
theorem zl(ho:OpR X (compareOp op) (lR2 XE X.K o))(ha:WE X XE a f)(hb:WE X XE b g)(hm:behindInMarks op b=false):WT X XE (.Compare a [op] [b] pos) (yq (eOp o f g)):=by have ha:=ha.pe;have hb:=hb.pe;exact⟨PT.imp (zpv ho ha hb hm) λJ H Q h=>by have h1:=LN.bind (f:=λ_ J M=>eOp o f g J M) (k:=λ_ x J M1=>blT x M1 λb M2=>.ok b M2) (RB:=Rep X.K) h;refine ziz (LN.mono h1 λv H1 h2=>?_);obtain⟨S,Jτ,a,e,m,ev,ra,Y⟩:=h2;obtain⟨b,e1,_,Y⟩:=ziy ra.2 Y;exact⟨b,e1,by rw[←e];exact Y S b rfl (.refl m) rfl⟩⟩
variable  {rest:List Expr}
theorem y6(ha:WT X XE a tf):WW X XE (.BoolOp .And [a] pos) tf:=by have ha:=ha.pe;exact⟨zpq ha⟩
theorem zbb(ha:WT X XE a tf):WW X XE (.BoolOp .Or [a] pos) tf:=by have ha:=ha.pe;exact⟨zrg ha⟩
theorem zac(ha:WT X XE a tf)(hb:WW X XE (.BoolOp .And (b::rest) pos) tg):WW X XE (.BoolOp .And (a::b::rest) pos) (zaF tf tg):=by
 have ha:=ha.pe;have hb:=hb.pe;exact⟨PW.imp (zrh ha hb) λJ H Q h=>
  LN.mono (tif (tf:=tf) (tg:=tg) (p:=λc J M1=>if c=true then tg J M1 else .ok false M1) h) λc H1 h1=>by
   cases c with
   |true=>exact(QA rfl).mpr h1
   | false=>exact(QB Q4).mpr (zit h1)⟩
theorem zaX(ha:WT X XE a tf)(hb:WW X XE (.BoolOp .Or (b::rest) pos) tg):WW X XE (.BoolOp .Or (a::b::rest) pos) (zby tf tg):=by
 have ha:=ha.pe;have hb:=hb.pe;exact⟨PW.imp (ztv ha hb) λJ H Q h=>
  LN.mono (tif (tf:=tf) (tg:=tg) (p:=λc J M1=>if c=true then .ok true M1 else tg J M1) h) λc H1 h1=>by
   cases c with
   |true=>exact(QA rfl).mpr (zit h1)
   | false=>exact(QB Q4).mpr h1⟩
def WW.gt(h:WW X XE e tf):WT X XE e tf:=⟨GW.gt h.pe⟩
theorem zar(ha:WT X XE a tf):WT X XE (.UnaryOp .Not a pos) (zaW tf):=by have ha:=ha.pe;exact⟨PT.imp (zrj ha) λJ H Q h=>LN.mono (tif (tf:=tf) (tg:=tf) (p:=λc J M1=>.ok (!c) M1) h) λc H1 h1=>zit h1⟩
theorem zcH(h:WE X XE a f):WE X XE (.BoolOp op [a] pos) f:=by have h:=h.pe;exact⟨zrv h⟩
theorem zeI(ha:WE X XE a f)(hb:WE X XE (.BoolOp .And (b::rest) pos) g):WE X XE (.BoolOp .And (a::b::rest) pos) (zfO f g):=by
 have ha:=ha.pe;have hb:=hb.pe;exact⟨PE.imp (zrB ha hb) λJ H Q h=>
  LN.mono (eif (f:=f) (p:=λb J M2=>if b=true then g J M2 else .ok (.bl false) M2) h) λx H1 ⟨c,e,h1⟩=>⟨c,e,by
   cases c with
   |true=>exact(QA rfl).mpr h1
   | false=>exact(QB Q4).mpr (zlS h1 λ_=>.bl _)⟩⟩
theorem zmf(ha:WE X XE a f)(hb:WE X XE (.BoolOp .Or (b::rest) pos) g):WE X XE (.BoolOp .Or (a::b::rest) pos) (eOr f g):=by
 have ha:=ha.pe;have hb:=hb.pe;exact⟨PE.imp (ztz ha hb) λJ H Q h=>
  LN.mono (eif (f:=f) (p:=λb J M2=>if b=true then .ok (.bl true) M2 else g J M2) h) λx H1 ⟨c,e,h1⟩=>⟨c,e,by
   cases c with
   |true=>exact(QA rfl).mpr (zlS h1 λ_=>.bl _)
   | false=>exact(QB Q4).mpr h1⟩⟩
theorem zgN(ha:WE X XE a f):WE X XE (.UnaryOp .Not a pos) (zhn f):=by have ha:=ha.pe;exact⟨PE.imp (zrw ha) λJ H Q h=>LN.mono (eif (f:=f) (p:=λb J M2=>.ok (.bl (!b)) M2) h) λx H1 ⟨c,e,h1⟩=>⟨c,e,zlS h1 λ_=>.bl _⟩⟩
theorem zqT(hc:WT X XE c tf)(ha:WE X XE a f)(hb:WE X XE b g):WE X XE (.IfExp c a b pos) (eIf tf f g):=by
 have hc:=hc.pe;have ha:=ha.pe;have hb:=hb.pe;exact⟨PE.imp (zn3 hc ha hb) λJ H Q h=>
  LN.mono (LN.bind (f:=λ_ J M=>tf J M) (k:=λ_ c J M1=>if c=true then f J M1 else g J M1) (RB:=EqR) h) λc H1 h2=>by
   obtain⟨S,Jτ,a,e,m,ev,ra,Y⟩:=h2;have:a.2=c:=ra.2;subst this;replace Y:Fin XE (Rep X.K) X.K S (if a.2=true then f Jτ S.M else g Jτ S.M) Q:=Y;cases q:a.2 with
   |true=>exact(QA rfl).mpr ⟨S,Jτ,(),e,m,ev,trivial,by rw[q]at Y;exact Y⟩
   | false=>exact(QB Q4).mpr ⟨S,Jτ,(),e,m,ev,trivial,by rw[q]at Y;exact Y⟩⟩
theorem zd:WA X XE [] ze:=⟨PA.imp zgp λJ H Q h9=>by obtain⟨S,Jτ,_,e,m,ev,_,Y⟩:=h9;show Q [] H;rw[←e];exact Y S [] rfl (.refl m) .nil⟩
theorem za(ha:WE X XE e f)(hr:WA X XE es ga)(hs:noStar e=true:=by rfl):WA X XE (e::es) (zb f ga):=by have ha:=ha.pe;have hr:=hr.pe;exact⟨PA.imp (zb1 ha hr (z5 hs)) λJ H Q h=>LN.mono (LN.bind (f:=λ_ J M=>f J M) (k:=λ_ x J M1=>(ga J M1).bind λxs M2=>.ok (x::xs) M2) (RB:=Rep X.K) h) λv H1 h1=>LN.mono (LN.env (f:=ga) (LN.bind (f:=λ_ J M=>ga J M) (k:=λ(ax:Unit × T) ys J M2=>.ok (ax.2::ys) M2) (RB:=Reps X.K) h1)) λw H2 h2=>by obtain⟨S,Jτ,a,e,m,ev,ra,Y⟩:=h2;show Q (v::w) H2;rw[←e];exact Y S _ rfl (.refl m) (Reps.cons ra.1.2 ra.2)⟩
theorem qo(h:WA X XE es ga):WE X XE (.Tuple es x1 pos) (yA ga):=by
 have h:=h.pe;exact⟨PE.imp (zmD h) λJ H Q h=>
  LN.mono (LN.bind (f:=λ_ J M=>ga J M) (k:=λ_ xs J M1=>if xs.length<=sizeLine then .ok (T.tup xs) M1 else .bad) (RB:=Reps X.K) h) λv H1 h2=>by
   obtain⟨S,Jτ,a,e,m,ev,ra,Y⟩:=h2
   by_cases hl:a.2.length<=sizeLine
   .replace Y:Fin XE (Rep X.K) X.K S (if a.2.length<=sizeLine then .ok (.tup a.2) S.M else .bad) Q:=Y;rw[QA hl]at Y;refine⟨by rw[←ra.2.1];exact hl,λp hp=>?_⟩;subst e;have s:=Stp.new m hp (.tup v);exact Y ⟨S.α,S.M,upd S.H p (.tup v),S.hid⟩ (.ref p) rfl s (.tup (.inl qA) ra.2.1 (ra.2.grow m s.toGrow).2)
   .replace Y:Fin XE (Rep X.K) X.K S (if a.2.length<=sizeLine then .ok (.tup a.2) S.M else .bad) Q:=Y;rw[QB hl]at Y;exact Y.elim⟩
theorem zq(h:WA X XE es ga):WL X XE (.List es pos) (zu ga):=by
 have h:=h.pe;exact⟨PE.imp (zry h) λJ H Q h9=>by
  obtain⟨S,Jτ,e,m,ev,Y⟩:=h9;replace Y:FinL XE X.K S ((ga Jτ S.M).bind λxs M1=>if xs.length<=sizeLine then .ok xs M1 else .bad) Q:=Y;refine⟨S,Jτ,(),e,m,ev,trivial,?_⟩;show Fin XE (Reps X.K) X.K S (ga Jτ S.M) _;cases q:ga Jτ S.M with
  |bad=>rw[q]at Y;exact Y|exn C fs M'=>rw[q]at Y;exact Y|ok xs M1=>
   rw[q]at Y;intro S1 vs e1 s1 r1
   by_cases hl:xs.length<=sizeLine
   .replace Y:FinL XE X.K S (if xs.length<=sizeLine then .ok xs M1 else .bad) Q:=Y;rw[QA hl]at Y;refine⟨by rw[←r1.1];exact hl,λp hp=>?_⟩;have s2:=Stp.hide s1.mok hp vs;exact(Y.later s1) (S1.hide p vs) p vs e1 s2 hp (.head _) qA (r1.grow s1.mok s2.toGrow)
   .replace Y:FinL XE X.K S (if xs.length<=sizeLine then .ok xs M1 else .bad) Q:=Y;rw[QB hl]at Y;exact Y.elim⟩
theorem qC(h:WL X XE e ga):WE X XE e (eFz ga):=by
 have h:=h.pe;exact⟨PE.imp h λJ H Q ⟨S,Jτ,_,e,m,ev,_,Y⟩=>⟨S,Jτ,e,m,ev,by
  show FinL XE X.K S (ga Jτ S.M) Q;replace Y:Fin XE (Rep X.K) X.K S ((ga Jτ S.M).bind λxs M1=>.ok (.lst xs) M1) Q:=Y;cases q:ga Jτ S.M with
  |bad=>rw[q]at Y;exact Y|exn C fs M'=>rw[q]at Y;exact Y|ok xs M1=>rw[q]at Y;intro S1 p vs e1 s1 hn hp hv r;exact Y (S1.show S.hid) (.ref p) e1 s1.show (zk1 s1 hn m hp hv r)⟩⟩
theorem qJ(h:WL X XE e ga):WE X XE e (eTk ga):=by
 have h:=h.pe;exact⟨PE.imp h λJ H Q ⟨S,Jτ,_,e,m,ev,_,Y⟩=>⟨S,Jτ,e,m,ev,by
  show FinL XE X.K S (ga Jτ S.M) Q;replace Y:Fin XE (Rep X.K) X.K S ((ga Jτ S.M).bind λxs M1=>.ok (.ref M1.length) (M1++[.lst xs])) Q:=Y;cases q:ga Jτ S.M with
  |bad=>rw[q]at Y;exact Y|exn C fs M'=>rw[q]at Y;exact Y|ok xs M1=>
   rw[q]at Y;intro S1 p vs e1 s1 hn hp hv r;refine Y (S1.track p xs S.hid) (.ref p) (by show S1.M++_=_;rw[e1]) (s1.track m hn hp hv r) ?_;have this:(S1.track p xs S.hid).α S1.M.length=p:=QA rfl;rw[←e1];have hl:S1.M.length<(S1.track p xs S.hid).M.length:=by show _<(S1.M++[Cell.lst xs]).length;simp
   have r2:Rep X.K (S1.track p xs S.hid) (.ref S1.M.length) (.ref ((S1.track p xs S.hid).α S1.M.length)):=.ref hl;rw[this]at r2;exact r2⟩⟩
theorem zmh(ho:OpR X (compareOp op) (lR2 XE X.K o))(ho':OpR X (compareOp op') (lR2 XE X.K o'))(ha:WE X XE a f)(hb:WE X XE b g)(hc:WE X XE c h)(hm:lastMarks [op,op'] [b,c]=false:=by with_unfolding_all rfl):WE X XE (.Compare a [op,op'] [b,c] pos) (zeA o o' f g h):=by have ha:=ha.pe;have hb:=hb.pe;have hc:=hc.pe;exact⟨PE.imp (zn6 ho ho' ha hb hc hm) λ_ _ _ hh=>chain hh⟩
end
section
variable      {pos:Pos}  {st:Stmt} {sts rest:List Stmt}  
theorem yu:WSs X XE [] zI:=⟨PSs.imp zpw λD J H h9=>by obtain⟨S,Jτ,_,e,m,ev,_,Y⟩:=h9;show D.nx J H;rw[←e];exact Y S (.nx J) rfl (.refl m) (.nx ev)⟩
theorem yd(h1:WS X XE st p)(h2:WSs X XE rest q):WSs X XE (st::rest) (yh p q):=by have h1:=h1.pe;have h2:=h2.pe;exact⟨PSs.imp (zn1 h1 h2) λ_ _ _ hh=>zrY hh⟩
theorem ye(h1:WS X XE st p):WSs X XE [st] p:=by have h1:=h1.pe;exact⟨zkJ h1⟩
theorem yt(he:WE X XE e f):WS X XE (.Return (some e) pos) (qD f):=by have he:=he.pe;exact⟨PS.imp (zrm he) λD J H hh=>LN.mono (LN.bind (f:=λ_ J M=>f J M) (k:=λ_ t J M1=>.ok (Fl.rt t) M1) (RB:=Rep X.K) hh) λv H1 h9=>by obtain⟨S,Jτ,a,e,m,ev,ra,Y⟩:=h9;rw[←e];exact Y S (.rt v) rfl (.refl m) (.rt ra.2)⟩
theorem zr(he:WE X XE e f)(hs:swapsWith e none pos.line X.env=pure false:=by rfl):WS X XE (.Expr e pos) (zB f):=by have he:=he.pe;exact⟨PS.imp (zpy he hs) λD J H hh=>LN.mono (LN.bind (f:=λ_ J M=>f J M) (k:=λ_ t J M1=>.ok (Fl.nx J) M1) (RB:=Rep X.K) hh) λv H1 h9=>by obtain⟨S,Jτ,a,e,m,ev,ra,Y⟩:=h9;show D.nx J H1;rw[←e];exact Y S (.nx J) rfl (.refl m) (.nx ev)⟩
theorem yx(hc:WT X XE c tf)(ha:WSs X XE sts p)(hb:WSs X XE rest q):WS X XE (.If c sts rest pos) (sIf tf p q):=by
 have hc:=hc.pe;have ha:=ha.pe;have hb:=hb.pe;exact⟨PS.imp (ztw hc ha hb) λD J H hh=>
  LN.mono (LN.bind (f:=λ_ J M=>tf J M) (k:=λ_ c J M1=>if c=true then p J M1 else q J M1) (RB:=EqR) hh) λc H1 h2=>by
   obtain⟨S,Jτ,a,e,m,ev,ra,Y⟩:=h2;have:a.2=c:=ra.2;subst this;replace Y:Fin XE (FlR X.K) X.K S (if a.2=true then p Jτ S.M else q Jτ S.M) (zJ D):=Y;cases q:a.2 with
   |true=>exact(QA rfl).mpr ⟨S,Jτ,(),e,m,ev,trivial,by rw[q]at Y;exact Y⟩
   | false=>exact(QB Q4).mpr ⟨S,Jτ,(),e,m,ev,trivial,by rw[q]at Y;exact Y⟩⟩
theorem zi(hN:X.N.Nodup)(hi:X.N[i]?=some x)(hx:Loc X.env.scope x)(he:WE X XE e f)(hs:swapsWith e (some (.Name x pos')) pos.line X.env=pure false:=by rfl)(hf:X.fn x=true\/X.env.scope.names.lookup x=some .local:=by first | exact .inl rfl | exact .inr rfl | assumption):WS X XE (.Assign [.Name x pos'] e pos) (zn i f):=by have he:=he.pe;exact⟨PS.imp (zrl hN hi hx he hs hf) λD J H hh=>LN.mono (LN.bind (f:=λ_ J M=>f J M) (k:=λ_ t J M1=>.ok (Fl.nx (J.set i (some t))) M1) (RB:=Rep X.K) hh) λv H1 h9=>by obtain⟨S,Jτ,a,e,m,ev,ra,Y⟩:=h9;show D.nx (J.set i (some v)) H1;rw[←e];exact Y S (.nx _) rfl (.refl m) (.nx (ev.set ra.2 i))⟩
theorem zo(h:PG X tg (ziv i)):WG X XE tg (qp i):=⟨PG.imp h λv J H Q h9=>by obtain⟨S,Jτ,t,e,m,ev,ra,Y⟩:=h9;show Q (J.set i (some v)) H;rw[←e];exact Y S _ rfl (.refl m) (ev.set ra i)⟩
theorem zbV:WGs X XE [] zd3:=⟨PGs.imp zpD λv J H Q h9=>by
 obtain⟨S,Jτ,t,e,m,ev,ra,Y⟩:=h9;cases t with
 |nil=>exact⟨ra.nilT,by rw[←e];exact Y S _ rfl (.refl m) ev⟩
 | cons t r=>exact Y.elim⟩
theorem yI(h:PGs X (e::es) (zlY (lG XE X.K bd) (lGs XE X.K bs))):WGs X XE (e::es) (yY bd bs):=⟨PGs.imp h λv J H Q h9=>by
 obtain⟨S,Jτ,t,e,m,ev,ra,Y⟩:=h9;cases t with
 |nil=>exact Y.elim|cons t r=>
  obtain⟨v1,vs,rfl,r1,r2⟩:=ra.consT;refine⟨v1,vs,rfl,?_⟩;replace Y:Fin XE (EvR X.K) X.K S ((bd t Jτ S.M).bind λJ1 M1=>bs r J1 M1) Q:=Y;refine⟨S,Jτ,t,e,m,ev,r1,?_⟩;show Fin XE (EvR X.K) X.K S (bd t Jτ S.M) _;cases o:bd t Jτ S.M with
  |bad=>rw[o]at Y;exact Y|exn C fs M'=>rw[o]at Y;exact Y|ok J1 M1=>rw[o]at Y;intro S1 cc e1 s1 ev1;exact⟨S1,J1,r,rfl,s1.mok,ev1,r2.grow m s1.toGrow,by rw[e1];exact Fin.later s1 Y⟩⟩
theorem zeH(h:PG X tg (zoy X.K n (lGs XE X.K bs))):WG X XE tg (zfX n bs):=⟨PG.imp h λv J H Q h9=>by
 obtain⟨S,Jτ,t,e,m,ev,ra,Y⟩:=h9;cases ra with
 |@tup ts p vs h l r=>
  replace Y:Fin XE (EvR X.K) X.K S (if ts.length=n then bs ts Jτ S.M else .bad) Q:=Y
  by_cases hn:ts.length=n
  .rw[QA hn]at Y;exact⟨p,vs,rfl,by rw[←e];exact h,by rw[←l];exact hn,S,Jτ,ts,e,m,ev,⟨l,r⟩,Y⟩
  .rw[QB hn]at Y;exact Y.elim
 | _=>exact Y.elim⟩
theorem yO(he:WE X XE e f)(hg:WG X XE tg bd)(hs:swapsWithSole [tg] e pos.line X.env=pure false:=by rfl)(hw:swappedStores [tg] e X.env=pure none:=by rfl)(h1:(assignEach [tg] X.env).map (·.2)=[assign tg X.env]:=by rfl):WS X XE (.Assign [tg] e pos) (zax f bd):=by have he:=he.pe;have hg:=hg.pe;exact⟨PS.imp (zrp he hg hs hw h1) λD J H hh=>LN.mono (LN.bind (f:=λ_ J M=>f J M) (k:=λ_ t J M1=>(bd t J M1).bind λJ1 M2=>.ok (Fl.nx J1) M2) (RB:=Rep X.K) hh) λv H1 ⟨S,Jτ,a,e,m,ev,ra,Y⟩=>ztM ⟨S,Jτ,a.2,e,m,ev,ra.2,Y⟩⟩
theorem zhx(hp:PassesOwn .(1) X.A X.env X.xe)(hc:WT X XE c tf)(hb:WSs X XE sts p):WS X XE (.While c sts [] pos) (zbJ tf p):=by
 have hc:=hc.pe;have hb:=hb.pe;exact⟨PS.imp (zn2 hp hc hb) λD J H hh=>by
  obtain⟨S,Jτ,_,e,m,ev,_,Y⟩:=hh;replace Y:Fin XE (FlR X.K) X.K S (zbJ tf p Jτ S.M) (zJ D):=Y;have ex:∃n,Fin XE (FlR X.K) X.K S (whileN tf p n Jτ S.M) (zJ D):=by
   unfold zbJ at Y;rw?
   .exact⟨_,Y⟩
   .simp?
  obtain⟨n,Y⟩:=ex;refine⟨λn J H=>∃S Jτ,S.H=H/\MemOk X.K S/\EvR X.K S Jτ J/\Fin XE (FlR X.K) X.K S (whileN tf p n Jτ S.M) (zJ D),⟨n,S,Jτ,e,m,ev,Y⟩,?_⟩;rintro n J1 H1 ⟨S1,Jτ1,e1,m1,ev1,fin1⟩;subst e1;cases n with
  |zero=>exact fin1.elim|succ n=>
   replace fin1:Fin XE (FlR X.K) X.K S1 ((tf Jτ1 S1.M).bind λb M1=>if b=true then(p Jτ1 M1).bind (zaj (whileN tf p n))else .ok (.nx Jτ1) M1) (zJ D):=fin1;refine⟨S1,Jτ1,(),rfl,m1,ev1,trivial,?_⟩;show Fin XE EqR X.K S1 (tf Jτ1 S1.M) _;cases o:tf Jτ1 S1.M with
   |bad=>rw[o]at fin1;exact fin1|exn C fs M'=>rw[o]at fin1;exact fin1|ok b M2=>
    rw[o]at fin1;intro S2 b2 e2 s2 eb;have eb':b=b2:=eb;subst eb';replace fin1:Fin XE (FlR X.K) X.K S1 (if b=true then(p Jτ1 M2).bind (zaj (whileN tf p n))else .ok (.nx Jτ1) M2) (zJ D):=fin1;cases b with
    |false=>exact(QB Q4).mpr (fin1 S2 (.nx J1) e2 s2 (.nx (Mo.mo m1 s2 ev1)))|true=>
     refine(QA rfl).mpr ⟨λJ' H'=>∃S Jτ,S.H=H'/\MemOk X.K S/\EvR X.K S Jτ J'/\Fin XE (FlR X.K) X.K S (whileN tf p n Jτ S.M) (zJ D),λJ' H' h=>⟨n,Nat.lt_succ_self _,h⟩,?_⟩;rw[QA rfl]at fin1;refine⟨S2,Jτ1,(),rfl,s2.mok,Mo.mo m1 s2 ev1,trivial,?_⟩;show Fin XE (FlR X.K) X.K S2 (p Jτ1 S2.M) _;rw[e2];cases o2:p Jτ1 M2 with
     |bad=>rw[o2]at fin1;exact fin1|exn C fs M'=>rw[o2]at fin1;exact Fin.later s2 fin1|ok fl M4=>
      rw[o2]at fin1;intro S4 fv e4 s4 r4;have s14:=s2.trans s4;cases r4 with
      |nx r4=>exact⟨S4,_,rfl,s4.mok,r4,by rw[e4];exact Fin.later s14 fin1⟩|ct r4=>exact⟨S4,_,rfl,s4.mok,r4,by rw[e4];exact Fin.later s14 fin1⟩|bk r4=>exact fin1 S4 (.nx _) e4 s14 (.nx r4)
      | rt r4=>exact fin1 S4 (.rt _) e4 s14 (.rt r4)⟩
end
section
variable      {p pos:Pos}    
theorem zh(C:CalT X.prog X.w X.K X.mg X.base k x ps F)(hr:Room k X.A)(hg:Gl X x)(ha:WA X XE (e::es) ga)(hdb:(x==("__debug__":Str))=false:=by decide)(he:noStar e=true:=by rfl)(hpl:es.all noStar=true:=by rfl):WE X XE (.Call (.Name x p) (e::es) [] pos) (yf F ga):=by
 have ha:=ha.pe;exact⟨PE.imp (zrA C.cal hr hg ha hdb (z5 he) (zbZ hpl)) λJ H Q hh=>
  LN.mono (LN.bind (f:=λ_ J M=>ga J M) (k:=λ_ ts J M1=>F ts M1) (RB:=Reps X.K) hh) λvs H1 h9=>by
   obtain⟨S,Jτ,a,e,m,ev,ra,Y⟩:=h9;rw[append_nil];refine⟨S,a.2,e,m,ra.2,?_⟩;show Fin E0 (Rep X.K) X.K S (F a.2 S.M) Q;replace Y:Fin XE (Rep X.K) X.K S (F a.2 S.M) Q:=Y;cases o:F a.2 S.M with
   |bad=>rw[o]at Y;exact Y|exn C' fs M'=>exact absurd o (C.nox _ _ _ _ _)
   | ok t M1=>rw[o]at Y;exact Y⟩
theorem Xa{m:Nat}(C:CalT X.prog X.w X.K X.mg X.base k x ps F)(hr:Room m X.A)(ha:WA X XE (e::es) ga)(hk:k<=m:=by decide)(hg:Gl X x:=by exact rfl)(hdb:(x==("__debug__":Str))=false:=by decide)(he:noStar e=true:=by rfl)(hpl:es.all noStar=true:=by rfl):WE X XE (.Call (.Name x p) (e::es) [] pos) (yf F ga):=zh C (hr.mono hk) hg ha hdb he hpl
theorem zk{id:String}(hc:yV X (.builtin id) (lRN XE X.K F))(hg:Gl X x)(hm:X.mg x=none)(hv:bootBuiltins x=some (.builtin id))(ha:WA X XE (e::es) ga)(hn:x ≠ "__name__":=by decide)(hdb:(x==("__debug__":Str))=false:=by decide)(he:noStar e=true:=by rfl)(hpl:es.all noStar=true:=by rfl):WE X XE (.Call (.Name x p) (e::es) [] pos) (yf F ga):=by have ha:=ha.pe;exact⟨PE.imp (zfB hc hg hm hv ha hn hdb (z5 he) (zbZ hpl)) λJ H Q hh=>LN.mono (LN.bind (f:=λ_ J M=>ga J M) (k:=λ_ ts J M1=>F ts M1) (RB:=Reps X.K) hh) λvs H1 ⟨S,Jτ,a,e,m,ev,ra,Y⟩=>⟨S,a.2,e,m,ra.2,Y⟩⟩
theorem zaE{id:String}(hc:yV X (.type id) (lRN XE X.K F))(hg:Gl X x)(hm:X.mg x=none)(hv:bootBuiltins x=some (.type id))(ha:WA X XE (e::es) ga)(hn:x ≠ "__name__":=by decide)(hdb:(x==("__debug__":Str))=false:=by decide)(he:noStar e=true:=by rfl)(hpl:es.all noStar=true:=by rfl):WE X XE (.Call (.Name x p) (e::es) [] pos) (yf F ga):=by have ha:=ha.pe;exact⟨PE.imp (zmF hc hg hm hv ha hn hdb (z5 he) (zbZ hpl)) λJ H Q hh=>LN.mono (LN.bind (f:=λ_ J M=>ga J M) (k:=λ_ ts J M1=>F ts M1) (RB:=Reps X.K) hh) λvs H1 ⟨S,Jτ,a,e,m,ev,ra,Y⟩=>⟨S,a.2,e,m,ra.2,Y⟩⟩
end
section
variable   {a b c e iter tg:Expr}   {pos p:Pos} 
def zas(he:WE X XE e f):WI X XE tg e (za6 f):=⟨zsq he.pe⟩
theorem qL(hg:Gl X "range")(hm:X.mg "range" = none)(ha:WA X XE [a] ga)(hs:starEach [a] X.env=[(false,eval a X.env)]:=by rfl):WI X XE tg (.Call (.Name "range" p) [a] [] pos) (qO ga):=by
 have ha:=ha.pe;exact⟨PI.imp (zmB hg hm ha hs) λJ H R hh=>
  LN.mono (LN.bind (f:=λ_ J M=>ga J M) (k:=λ_ ts J M1=>zbz ts M1) (RB:=Reps X.K) hh) λvs H1 h9=>by
   obtain⟨S,Jτ,a,e,m,ev,ra,Y⟩:=h9;obtain⟨u,ts⟩:=a;have rr:Reps X.K S ts vs:=ra.2;replace Y:Fin XE (zf1 X.K) X.K S (zbz ts S.M) R:=Y;unfold zbz at Y;rw?
   .rename_i j;obtain⟨v,vs',rfl,r1,r2⟩:=rr.consT;cases r1;rw[r2.nilT];rw?
    .rename_i hj;exact⟨j,rfl,hj.1,hj.2,by rw[←e];exact Y S _ rfl (.refl m) (zjn _ _ _ _)⟩
    .simp?
   .exact Y.elim⟩
theorem zlx(hg:Gl X "range")(hm:X.mg "range" = none)(ha:WA X XE [a,b] ga)(hs:starEach [a,b] X.env=[(false,eval a X.env),(false,eval b X.env)]:=by rfl)(hs2:starEach [b] X.env=[(false,eval b X.env)]:=by rfl):WI X XE tg (.Call (.Name "range" p) [a,b] [] pos) (zeV ga):=by
 have ha:=ha.pe;exact⟨PI.imp (zmA hg hm ha hs hs2) λJ H R hh=>
  LN.mono (LN.bind (f:=λ_ J M=>ga J M) (k:=λ_ ts J M1=>zej ts M1) (RB:=Reps X.K) hh) λvs H1 h9=>by
   obtain⟨S,Jτ,a,e,m,ev,ra,Y⟩:=h9;obtain⟨u,ts⟩:=a;have rr:Reps X.K S ts vs:=ra.2;replace Y:Fin XE (zf1 X.K) X.K S (zej ts S.M) R:=Y;unfold zej at Y;rw?
   .rename_i i j;obtain⟨v,vs',rfl,r1,r2⟩:=rr.consT;obtain⟨v2,vs2,rfl,r3,r4⟩:=r2.consT;cases r1;cases r3;rw[r4.nilT];rw?
    .rename_i hj;exact⟨i,j,rfl,⟨hj.1.1,hj.1.2,hj.2.1,hj.2.2⟩,by rw[←e];exact Y S _ rfl (.refl m) (zjn _ _ _ _)⟩
    .simp?
   .exact Y.elim⟩
end
section
def zam:PTs X [] (lT XE X.K yN):=zqd 
def zfs(h:WT X XE c tf):PTs X [c] (lT XE X.K tf):=zqc h.pe
end
section
theorem ziI(ho:OpR X (binaryOp op) (zlR XE X.K o))(ha:WE X XE a f)(hb:WE X XE b g):WL X XE (.BinOp a op b pos) (lOp o f g):=by have ha:=ha.pe;have hb:=hb.pe;exact⟨PE.imp (zoU ho ha hb) λJ H Q ⟨S,Jτ,e,m,ev,Y⟩=>LN.mono (LNL.bind (f:=λ(_:Unit) J M=>f J M) (k:=λ_ x J M1=>(g J M1).bind λy M2=>o x y M2) (RA:=UnR) (RB:=Rep X.K) ⟨S,Jτ,(),e,m,ev,trivial,Y⟩) λv H1 h1=>LN.mono (LN.env (f:=g) (LNL.bind (f:=λ_ J M=>g J M) (k:=λ(ax:Unit × T) y J M2=>o ax.2 y M2) (RB:=Rep X.K) h1)) λw H2 h2=>by obtain⟨S,Jτ,a,e,m,ev,ra,Y⟩:=h2;exact⟨S,(a.1.2,a.2),e,m,⟨ra.1.2,ra.2⟩,Y⟩⟩
end
section
theorem zat{st:T->T->T->Mem->Out Unit}(ho:WE X XE o f)(hi:WE X XE i g)(hs:zdw X (zfG XE X.K st))(ha:∀v,assign (.Subscript o i pos) X.env v=(do
   let ov ←holding [v] (eval o X.env)
   let iv ←holding [v,ov] (eval i X.env)
   standAt pos
   holding [v,ov,iv] (setItem ov iv v)
   release [v,ov,iv] []):=by intro _;rfl):WG X XE (.Subscript o i pos) (zaM st f g):=by
 have ho:=ho.pe;have hi:=hi.pe;exact⟨PG.imp (zrr ho hi hs ha) λv J H Q hh=>by
  have h1:LN XE (EvR X.K) X.K (Rep X.K) (λt J M=>(f J M).bind λo M1=>(g J M1).bind λi M2=>(st o i t M2).bind λ_ M3=>.ok J M3) v J H Q:=hh;refine LN.mono (LN.env (f:=f) (LN.bind (f:=λ_ J M=>f J M) (k:=λt o J M1=>(g J M1).bind λi M2=>(st o i t M2).bind λ_ M3=>.ok J M3) (RB:=Rep X.K) h1)) λov H1 h2=>?_;refine LN.mono (LN.env (f:=g) (LN.bind (f:=λ_ J M=>g J M) (k:=λ(to:T × T) i J M2=>(st to.2 i to.1 M2).bind λ_ M3=>.ok J M3) (RB:=Rep X.K) h2)) λiv H2 h3=>?_;obtain⟨S,Jτ,a,e,m,ev,ra,Y⟩:=h3;refine⟨S,((a.1.2,a.2),a.1.1),e,m,⟨⟨ra.1.2,ra.2⟩,ra.1.1⟩,?_⟩;show Fin XE UnR X.K S (st a.1.2 a.2 a.1.1 S.M) _;replace Y:Fin XE (EvR X.K) X.K S ((st a.1.2 a.2 a.1.1 S.M).bind λ_ M3=>.ok Jτ M3) Q:=Y;cases o:st a.1.2 a.2 a.1.1 S.M with
  |bad=>rw[o]at Y;exact Y|exn C fs M'=>rw[o]at Y;exact Y|ok b M1=>rw[o]at Y;intro S1 c e1 s1 _;exact Y S1 J e1 s1 (Mo.mo m s1 ev)⟩
theorem zN(h:PE X (.Call (.Attribute o "append" apos) [e] [] cpos) (tBM X.K "list" zg1 (lE XE X.K f) (lA XE X.K ga))):WE X XE (.Call (.Attribute o "append" apos) [e] [] cpos) (qS yP (eUn qG f) ga):=⟨PE.imp h λJ H Q hh=>by
 obtain⟨S,Jτ,_,e0,m,ev,_,Y⟩:=hh;replace Y:Fin XE (Rep X.K) X.K S (((f Jτ S.M).bind λx M1=>qG x M1).bind λx M1=>(ga Jτ M1).bind λts M2=>yP x ts M2) Q:=Y;refine⟨S,Jτ,(),e0,m,ev,trivial,?_⟩;show Fin XE (Rep X.K) X.K S (f Jτ S.M) _;cases o1:f Jτ S.M with
 |bad=>rw[o1]at Y;exact Y|exn C fs M'=>rw[o1]at Y;exact Y|ok x M1=>
  rw[o1]at Y;intro S1 v e1 s1 r1;replace Y:Fin XE (Rep X.K) X.K S ((qG x M1).bind λx M1=>(ga Jτ M1).bind λts M2=>yP x ts M2) Q:=Y;unfold qG at Y;cases q:zy x M1 with
  |none=>rw[q]at Y;exact Y.elim|some xs=>
   rw[q]at Y;replace Y:Fin XE (Rep X.K) X.K S ((ga Jτ M1).bind λts M2=>yP x ts M2) Q:=Y;obtain⟨p,vs,rfl,hq,_⟩:=yD s1.mok r1 (by rw[e1];exact q);refine⟨.inl ⟨rfl,vs,hq⟩,S1,Jτ,(),rfl,s1.mok,Mo.mo m s1 ev,trivial,?_⟩;show Fin XE (Reps X.K) X.K S1 (ga Jτ S1.M) _;rw[e1];cases o2:ga Jτ M1 with
   |bad=>rw[o2]at Y;exact Y|exn C fs M'=>rw[o2]at Y;exact Fin.later s1 Y|ok ts M2=>
    rw[o2]at Y;intro S2 ws e2 s2 r2;replace Y:Fin XE (Rep X.K) X.K S (yP x ts M2) Q:=Y;have fin2:=Fin.later (s1.trans s2) Y;unfold yP at fin2;split at fin2
    .split at fin2
     .rename_i a t _ ys qy;split at fin2
      .rename_i hz;obtain⟨w,ws',rfl,r3,r4⟩:=r2.consT;rw[r4.nilT];have r1':=r1.grow s1.mok s2.toGrow;cases r1' with
       |ref ha2=>
       obtain⟨us,q3,rs⟩:=s2.mok.cell a _ (by rw[e2];exact qy);refine⟨S2.α a,us,w,rfl,rfl,q3,by rw[←rs.1];exact hz,?_⟩;exact fin2 (S2.put a (.lst (us++[w])) (.lst (ys++[t]))) .non (by show S2.M.set a _=_;rw[e2]) (zeM s2.mok (by rw[e2];exact qy) (rs.app (.cons r3 .nil))) .non
      .exact fin2.elim
     .exact fin2.elim
    .exact fin2.elim⟩
end
section
theorem zbw:WO X XE none zcc:=⟨PO.imp zpC λJ H Q h9=>by obtain⟨S,Jτ,_,e,m,ev,_,Y⟩:=h9;show Q none H;rw[←e];exact Y S none rfl (.refl m) rfl⟩
theorem zaY(h:WE X XE e f):WO X XE (some e) (zbL f):=by
 have h:=h.pe;exact⟨PO.imp (zpB h) λJ H Q hh=>
  LN.mono (LN.bind (f:=λ_ J M=>f J M) (k:=λ_ x J M1=>zlU x M1) (RB:=Rep X.K) hh) λv H1 h9=>by
   obtain⟨S,Jτ,a,e,m,ev,ra,Y⟩:=h9;obtain⟨u,t⟩:=a;have r:Rep X.K S t v:=ra.2;replace Y:Fin XE EqR X.K S (zlU t S.M) Q:=Y;cases r with
   |int i=>exact⟨i,rfl,by rw[←e];exact Y S (some i) rfl (.refl m) rfl⟩
   | _=>exact Y.elim⟩
theorem zea{lo:Option Expr}(he:WE X XE e f)(hl:WO X XE lo p)(hu:WO X XE hi q):WE X XE (.Subscript e (.Slice lo hi none p2) pos) (eSl f p q):=by have he:=he.pe;have hl:=hl.pe;have hu:=hu.pe;exact⟨PE.imp (zi6 zq4 he hl hu) λJ H Q hh=>LN.mono (LN.bind (f:=λ_ J M=>f J M) (k:=λ_ x J M1=>(p J M1).bind λlo M2=>(q J M2).bind λhi M3=>zeC x lo hi M3) (RB:=Rep X.K) hh) λv H1 h1=>LN.mono (LN.env (f:=p) (LN.bind (f:=λ_ J M=>p J M) (k:=λ(ax:Unit × T) lo J M2=>(q J M2).bind λhi M3=>zeC ax.2 lo hi M3) (RB:=EqR) h1)) λl H2 h2=>LN.mono (LN.env (f:=q) (LN.bind (f:=λ_ J M=>q J M) (k:=λ(ax:(Unit × T) × Option Int) hi J M3=>zeC ax.1.2 ax.2 hi M3) (RB:=EqR) h2)) λw H3 h9=>by obtain⟨S,Jτ,a,e,m,ev,ra,Y⟩:=h9;have e1:a.1.2=l:=ra.1.2;have e2:a.2=w:=ra.2;exact⟨S,a.1.1.2,e,m,ra.1.1.2,by rw[←e1,←e2];exact Y⟩⟩
end
section
theorem znJ{get:X3}{st:T->T->T->Mem->Out Unit}(ho:WE X XE o f)(hi:WE X XE i g)(hg:zjZ X (lR2 XE X.K get))(he:WE X XE e h)(hp:PIp X bop (lR2 XE X.K op))(hs:zdw X (zfG XE X.K st))(ha:∀ov iv new,augStore i ov iv new=(do holding [new,ov,iv] (setItem ov iv new);release [new,ov,iv] [];pure .next):=by intros;rfl):WS X XE (.AugAssign (.Subscript o i tpos) bop e pos) (zis get op st f g h):=by
 have ho:=ho.pe;have hi:=hi.pe;have he:=he.pe;exact⟨PS.imp (zpz ho hi hg he hp hs ha) λD J H hh=>by
  refine LN.mono (LN.bind (f:=λ_ J M=>f J M) (k:=λ_ o J M1=>(g J M1).bind λi M2=>(get o i M2).bind λx M3=>(h J M3).bind λy M4=>(op x y M4).bind λz M5=>(st o i z M5).bind λ_ M6=>.ok (Fl.nx J) M6) (RB:=Rep X.K) hh) λov H1 h1=>?_;refine LN.mono (LN.env (f:=g) (LN.bind (f:=λ_ J M=>g J M) (k:=λ(a:Unit × T) i J M2=>(get a.2 i M2).bind λx M3=>(h J M3).bind λy M4=>(op x y M4).bind λz M5=>(st a.2 i z M5).bind λ_ M6=>.ok (Fl.nx J) M6) (RB:=Rep X.K) h1)) λiv H2 h2=>?_;have h3:=LN.bind (f:=λ(a:(Unit × T) × T) _ M=>get a.1.2 a.2 M) (k:=λa x J M3=>(h J M3).bind λy M4=>(op x y M4).bind λz M5=>(st a.1.2 a.2 z M5).bind λ_ M6=>.ok (Fl.nx J) M6) (RB:=Rep X.K) h2;obtain⟨S,a,e,m,ra,Y⟩:=LN.l0 (k:=λ(a:(Unit × T) × T) M=>get a.1.2 a.2 M) h3;refine⟨S,(a.1.2,a.2),e,m,⟨ra.1.2,ra.2⟩,Y.mono λxv H3 h4=>?_⟩;refine LN.mono (LN.env (f:=h) (LN.bind (f:=λ_ J M=>h J M) (k:=λ(a:((Unit × T) × T) × T) y J M4=>(op a.2 y M4).bind λz M5=>(st a.1.1.2 a.1.2 z M5).bind λ_ M6=>.ok (Fl.nx J) M6) (RB:=Rep X.K) h4)) λyv H4 h5=>?_;have h6:=LN.bind (f:=λ(a:(((Unit × T) × T) × T) × T) _ M=>op a.1.2 a.2 M) (k:=λa z J M5=>(st a.1.1.1.2 a.1.1.2 z M5).bind λ_ M6=>.ok (Fl.nx J) M6) (RB:=Rep X.K) h5;obtain⟨S5,a5,e5,m5,ra5,fin5⟩:=LN.l0 (k:=λ(a:(((Unit × T) × T) × T) × T) M=>op a.1.2 a.2 M) h6;refine⟨S5,(a5.1.2,a5.2),e5,m5,⟨ra5.1.2,ra5.2⟩,fin5.mono λzv H5 h7=>?_⟩;obtain⟨S6,Jτ,a6,e6,m6,ev6,ra6,fin6⟩:=h7;refine⟨S6,((a6.1.1.1.1.2,a6.1.1.1.2),a6.2),e6,m6,⟨⟨ra6.1.1.1.1.2,ra6.1.1.1.2⟩,ra6.2⟩,?_⟩;show Fin XE UnR X.K S6 (st a6.1.1.1.1.2 a6.1.1.1.2 a6.2 S6.M) _;replace fin6:Fin XE (FlR X.K) X.K S6 ((st a6.1.1.1.1.2 a6.1.1.1.2 a6.2 S6.M).bind λ_ M6=>.ok (Fl.nx Jτ) M6) (zJ D):=fin6;cases q:st a6.1.1.1.1.2 a6.1.1.1.2 a6.2 S6.M with
  |bad=>rw[q]at fin6;exact fin6|exn C fs M'=>rw[q]at fin6;exact fin6|ok b M1=>rw[q]at fin6;intro S7 c e7 s7 _;exact fin6 S7 (.nx J) e7 s7 (.nx (Mo.mo m6 s7 ev6))⟩
end
section
theorem zpa:WE X XE (.Dict [] [] pos) zlZ:=⟨PE.imp zn4 λJ H Q ⟨S,Jτ,_,e,m,ev,_,Y⟩ p hp=>by
 subst e;have s1:Stp X.K S (S.more p (.dK []) (.dic [])):=Stp.more m hp _ _ ⟨[],qA,.nil⟩;have r1:Rep X.K (S.more p (.dK []) (.dic [])) (.ref S.M.length) (.ref p):=by
  have h0:S.M.length<(S.M++[Cell.dic []]).length:=by simp
  have:=Rep.ref (K:=X.K) (S:=S.more p (.dK []) (.dic [])) (a:=S.M.length) h0;have e1:(S.more p (.dK []) (.dic [])).α S.M.length=p:=QA rfl;rw[e1]at this;exact this
 exact Y (S.more p (.dK []) (.dic [])) (.ref p) rfl s1 r1⟩
theorem zdH{Ty:String}(hc:∀{K:Frag} {S:Sit},MemOk K S->∀{t:T} {x:V},Rep K S t x->chk t S.M=true->tyV K Ty x S.H)(h:PE X (.Call (.Attribute o n apos) (e::es) [] cpos) (tBM X.K Ty (lMt XE X.K F) (lE XE X.K f) (lA XE X.K ga))):WE X XE (.Call (.Attribute o n apos) (e::es) [] cpos) (za8 chk F f ga):=⟨PE.imp h λJ H Q hh=>by
 obtain⟨S,Jτ,_,e0,m,ev,_,Y⟩:=hh;replace Y:Fin XE (Rep X.K) X.K S ((f Jτ S.M).bind λx M1=>if chk x M1=true then(ga Jτ M1).bind λts M2=>F x ts M2 else .bad) Q:=Y;refine⟨S,Jτ,(),e0,m,ev,trivial,?_⟩;show Fin XE (Rep X.K) X.K S (f Jτ S.M) _;cases o1:f Jτ S.M with
 |bad=>rw[o1]at Y;exact Y|exn C fs M'=>rw[o1]at Y;exact Y|ok x M1=>
  rw[o1]at Y;intro S1 v e1 s1 r1;replace Y:Fin XE (Rep X.K) X.K S (if chk x M1=true then(ga Jτ M1).bind λts M2=>F x ts M2 else .bad) Q:=Y;rw?
  .rename_i hk;refine⟨hc s1.mok r1 (by rw[e1];exact hk),S1,Jτ,(),rfl,s1.mok,Mo.mo m s1 ev,trivial,?_⟩;show Fin XE (Reps X.K) X.K S1 (ga Jτ S1.M) _;rw[e1];cases o2:ga Jτ M1 with
   |bad=>rw[o2]at Y;exact Y|exn C fs M'=>rw[o2]at Y;exact Fin.later s1 Y|ok ts M2=>rw[o2]at Y;intro S2 ws e2 s2 r2;replace Y:Fin XE (Rep X.K) X.K S (F x ts M2) Q:=Y;have fin2:=Fin.later (s1.trans s2) Y;exact⟨S2,(x,ts),rfl,s2.mok,⟨r1.grow s1.mok s2.toGrow,r2⟩,by show Fin XE (Rep X.K) X.K S2 (F x ts S2.M) Q;rw[e2];exact fin2⟩
  .exact Y.elim⟩
end
section
theorem ym(hC:∀C ∈ Cs,Cls X.K C/\NoAttr X.K C f)(he:WE X XE e g)(hb:attributeBase e f X.env (eval e X.env)=eval e X.env:=by rfl):WE X XE (.Attribute e f pos) (yo Cs f g):=by
 have he:=he.pe;exact⟨PE.imp (zrz he hb) λJ H Q hh=>
  LN.mono (LN.bind (f:=λ_ J M=>g J M) (k:=λ_ x J M1=>zaI Cs f x M1) (RB:=Rep X.K) hh) λv H1 h9=>by
   obtain⟨S,Jτ,a,e,m,ev,ra,Y⟩:=h9;obtain⟨u0,t⟩:=a;subst e;have rt:Rep X.K S t v:=ra.2;replace Y:Fin XE (Rep X.K) X.K S (zaI Cs f t S.M) Q:=Y;unfold zaI at Y;rw?
   .rename_i a;rw?
    .rename_i C fs q;rw?
     .rename_i hc;obtain⟨t,et,Y⟩:=zg4 Y;cases rt;obtain⟨dx,us,h1,rf⟩:=m.cell _ _ q;obtain⟨w,ew,rw'⟩:=rf.look f et;exact⟨S.α a,C,dx,us,w,rfl,h1,(hC C hc).1,(hC C hc).2,ew,Y S w rfl (.refl m) rw'⟩
     .simp?
    .simp?
   .exact Y.elim⟩
theorem yM(hC:∀C ∈ Cs,Cls X.K C/\NoAttr X.K C f)(ho:WE X XE o fo)(hv:WE X XE value fv)(hs:swapsWith value (some (.Attribute o f pos')) pos.line X.env=pure false:=by rfl):WS X XE (.Assign [.Attribute o f pos'] value pos) (zH Cs f fo fv):=by
 have ho:=ho.pe;have hv:=hv.pe;exact⟨PS.imp (zro ho hv hs) λD J H hh=>by
  refine LN.mono (LN.bind (f:=λ_ J M=>fv J M) (k:=λ_ y J M1=>(fo J M1).bind λx M2=>(zaT Cs f x y M2).bind λ_ M3=>.ok (Fl.nx J) M3) (RB:=Rep X.K) hh) λyv H1 h1=>?_;refine LN.mono (LN.env (f:=fo) (LN.bind (f:=λ_ J M=>fo J M) (k:=λ(a:Unit × T) x J M2=>(zaT Cs f x a.2 M2).bind λ_ M3=>.ok (Fl.nx J) M3) (RB:=Rep X.K) h1)) λxv H2 h2=>?_;obtain⟨S,Jτ,⟨⟨u0,y⟩,x⟩,e,m,ev,⟨⟨hu0,ry⟩,rx⟩,Y⟩:=h2;subst e;dsimp only at ry rx;replace Y:Fin XE (FlR X.K) X.K S ((zaT Cs f x y S.M).bind λ_ M3=>.ok (Fl.nx Jτ) M3) (zJ D):=Y;unfold zaT at Y;rw?
  .rename_i a;rw?
   .rename_i C fs q;rw?
    .rename_i hc;cases rx;obtain⟨dx,us,h3,rf⟩:=m.cell _ _ q;have ha:a<S.M.length:=(Qz.mp q).1;refine⟨S.α a,C,dx,us,rfl,h3,(hC C hc.1).1,(hC C hc.1).2,by rw[←rf.len];exact hc.2,?_⟩;have s1:=Stp.put m ha (.ins C dx (z9 f yv us)) (.ins C (zcT f y fs)) ⟨dx,_,qA,(rf.put f ry).grow m (Grow.put m ha _ _)⟩;exact Y (S.put a (.ins C dx (z9 f yv us)) (.ins C (zcT f y fs))) (.nx J) rfl s1 (.nx (Mo.mo m s1 ev))
    .simp?
   .simp?
  .exact Y.elim⟩
end
section
variable       {p pos:Pos}    
theorem ziK(M:MakT X.prog X.w X.K X.mg X.base k x C ps F)(hr:Room (k+1) X.A)(hg:Gl X x)(ha:WA X XE (e::es) ga)(hdb:(x==("__debug__":Str))=false:=by decide)(he:noStar e=true:=by rfl)(hpl:es.all noStar=true:=by rfl):WE X XE (.Call (.Name x p) (e::es) [] pos) (zde C F ga):=by
 have ha:=ha.pe;refine⟨?_⟩;obtain⟨fI,fd,Mk1,Fo,b,hm⟩:=M.ex;refine PE.imp (zpE Mk1 Fo hr hg hm b .nil zoV ha hdb (z5 he) (zbZ hpl)) λJ H Q hh=>?_;refine LN.mono (LN.bind (f:=λ_ J M=>ga J M) (k:=λ_ ts J M1=>(F (T.ref M1.length::ts) (M1++[Cell.ins C []])).bind λt M2=>zoa M1.length t M2) (RB:=Reps X.K) (R:=Rep X.K) hh) λvs H1 h9=>?_;obtain⟨S,Jτ,a,e,m,ev,ra,Y⟩:=h9;obtain⟨u0,ts⟩:=a;subst e;intro y dx hy hdx hne;rw[append_nil];replace ra:Reps X.K S ts vs:=ra.2;replace Y:Fin XE (Rep X.K) X.K S ((F (.ref S.M.length::ts) (S.M++[.ins C []])).bind λt M2=>zoa S.M.length t M2) Q:=Y;have s1:=Stp.new m hdx (.own y);have hy1:(upd S.H dx (.own y)) y=none:=by rw[yk (Ne.symm hne)];exact hy
 have s2:Stp X.K ⟨S.α,S.M,upd S.H dx (.own y),S.hid⟩ (Sit.more ⟨S.α,S.M,upd S.H dx (.own y),S.hid⟩ y (.ins C dx []) (.ins C [])):=Stp.more s1.mok hy1 _ _ ⟨dx,[],qA,.nil⟩;have s12:=s1.trans s2;have al:(Sit.more ⟨S.α,S.M,upd S.H dx (.own y),S.hid⟩ y (.ins C dx []) (.ins C [])).α S.M.length=y:=QA rfl;have h0:S.M.length<(S.M++[Cell.ins C []]).length:=by simp
 have r0:Rep X.K (Sit.more ⟨S.α,S.M,upd S.H dx (.own y),S.hid⟩ y (.ins C dx []) (.ins C [])) (.ref S.M.length) (.ref y):=by have:=Rep.ref (K:=X.K) (S:=Sit.more ⟨S.α,S.M,upd S.H dx (.own y),S.hid⟩ y (.ins C dx []) (.ins C [])) (a:=S.M.length) h0;rw[al]at this;exact this
 refine⟨_,.ref S.M.length::ts,rfl,s2.mok,(ra.grow m s12.toGrow).cons r0,?_⟩;show Fin E0 (Rep X.K) X.K _ (F (.ref S.M.length::ts) (S.M++[.ins C []])) _;cases o:F (.ref S.M.length::ts) (S.M++[.ins C []])with
 |bad=>rw[o]at Y;exact Y.elim|exn C' fs M'=>exact absurd o (M.nox _ _ _ _ _)|ok t M2=>
  rw[o]at Y;intro S3 c e3 s3 r3;cases t with
  |non=>cases r3;exact⟨rfl,Y S3 (.ref y) e3 (s12.trans s3) (r0.grow s2.mok s3.toGrow)⟩
  |_=>exact Y.elim
end
section
theorem ziH(hp:PassesOwn .(1) X.A X.env X.xe)(hc:X.calm=true)(hi:WIG X XE tg iter ga)(hg:WG X XE tg bd)(hb:WSs X XE sts p)(hs:∀x,foldedSetIterable iter X.env x=pure x:=by intro _;rfl):WS X XE (.For tg iter sts [] pos) (zcb ga bd p):=⟨zk3 hp hc hi.pe hg.pe hb.pe hs⟩
theorem zme{cond:X7}(hi:WIG X XE tg iter ga)(cb:CB X scope cl ζ)(hg:∀ex s0 H0,WG .(2) XE tg bd)(hif:∀ex s0 H0,PTs .(2) ifs (lT XE X.K cond))(hel:∀ex s0 H0,WE .(2) XE elt f)(hs:∀x,foldedSetIterable iter X.env x=pure x:=by intro _;rfl):WL X XE (.ListComp elt [⟨tg,iter,ifs,0⟩] scope pos) (zak ga bd cond f tgs ζ):=⟨zjs hi.pe cb (λex s0 H0=>(hg ex s0 H0).pe) hif (λex s0 H0=>(hel ex s0 H0).pe) hs⟩
theorem zif{spos:Pos}{cond:X7}(hi:WIG X XE tg iter ga)(cb:CB X scope cl ζ)(hg:∀ex s0 H0,WG .(2) XE tg bd)(hif:∀ex s0 H0,PTs .(2) ifs (lT XE X.K cond))(hel:∀ex s0 H0,WE .(2) XE elt f)(hN0:X.N.Nodup)(hi0:X.N[i0]?=some y0)(hx0:Loc X.env.scope y0)(hsw:swapsWith (.ListComp elt [⟨tg,iter,ifs,0⟩] scope pos) (some (.Name y0 py)) spos.line X.env=pure true:=by rfl)(hf0:X.fn y0=true\/X.env.scope.names.lookup y0=some .local:=by first | exact .inl rfl | exact .inr rfl | assumption)(hs:∀x,foldedSetIterable iter X.env x=pure x:=by intro _;rfl):WS X XE (.Assign [.Name y0 py] (.ListComp elt [⟨tg,iter,ifs,0⟩] scope pos) spos) (zn i0 (eFz (zak ga bd cond f tgs ζ))):=⟨zes hi.pe cb (λex s0 H0=>(hg ex s0 H0).pe) hif (λex s0 H0=>(hel ex s0 H0).pe) hN0 hi0 hx0 hsw hf0 hs⟩
theorem zX(hp:PassesOwn .(1) X.A X.env X.xe)(hc:X.calm=true)(hi:WI X XE tg iter ga)(hg:WG X XE tg bd)(hb:WSs X XE sts p)(hs:∀x,foldedSetIterable iter X.env x=pure x:=by intro _;rfl):WS X XE (.For tg iter sts [] pos) (zaw ga bd p):=by have hi:=hi.pe;have hg:=hg.pe;have hb:=hb.pe;refine⟨?_⟩;rw[←znS];exact zk3 hp hc (zjt hi) hg hb hs
theorem zan{cond:X7}(hi:WI X XE tg iter ga)(cb:CB X scope cl ζ)(hg:∀ex s0 H0,WG .(2) XE tg bd)(hif:∀ex s0 H0,PTs .(2) ifs (lT XE X.K cond))(hel:∀ex s0 H0,WE .(2) XE elt f)(hs:∀x,foldedSetIterable iter X.env x=pure x:=by intro _;rfl):WL X XE (.ListComp elt [⟨tg,iter,ifs,0⟩] scope pos) (zY ga bd cond f tgs ζ):=by have hi:=hi.pe;have hg:=λex s0 H0=>(hg ex s0 H0).pe;have hel:=λex s0 H0=>(hel ex s0 H0).pe;refine⟨?_⟩;rw[←zhN];exact zjs (zjt hi) cb hg hif hel hs
theorem ziG{spos:Pos}{cond:X7}(hi:WI X XE tg iter ga)(cb:CB X scope cl ζ)(hg:∀ex s0 H0,WG .(2) XE tg bd)(hif:∀ex s0 H0,PTs .(2) ifs (lT XE X.K cond))(hel:∀ex s0 H0,WE .(2) XE elt f)(hN0:X.N.Nodup)(hi0:X.N[i0]?=some y0)(hx0:Loc X.env.scope y0)(hsw:swapsWith (.ListComp elt [⟨tg,iter,ifs,0⟩] scope pos) (some (.Name y0 py)) spos.line X.env=pure true:=by rfl)(hf0:X.fn y0=true\/X.env.scope.names.lookup y0=some .local:=by first | exact .inl rfl | exact .inr rfl | assumption)(hs:∀x,foldedSetIterable iter X.env x=pure x:=by intro _;rfl):WS X XE (.Assign [.Name y0 py] (.ListComp elt [⟨tg,iter,ifs,0⟩] scope pos) spos) (zn i0 (eFz (zY ga bd cond f tgs ζ))):=by have hi:=hi.pe;have hg:=λex s0 H0=>(hg ex s0 H0).pe;have hel:=λex s0 H0=>(hel ex s0 H0).pe;refine⟨?_⟩;rw[←zhN];exact zes (zjt hi) cb hg hif hel hN0 hi0 hx0 hsw hf0 hs
end
section
theorem zft(he:WE X XE e f):WIG X XE tg e (zcD f):=by
 have he:=he.pe;exact⟨PI.imp (zg3 he) λJ H R hh=>
  LN.mono (LN.bind (f:=λ_ J M=>f J M) (k:=λ_ t J M1=>match zcW t M1 with | some g=>.ok g M1 | none=>.bad) (RB:=Rep X.K) hh) λv H1 h9=>by
   obtain⟨S,Jτ,a,e,m,ev,ra,Y⟩:=h9;obtain⟨u,t⟩:=a;subst e;have rt:Rep X.K S t v:=ra.2;replace Y:Fin XE (ItG X.K) X.K S (match zcW t S.M with | some g=>.ok g S.M | none=>.bad) R:=Y;cases q:zcW t S.M with
   |none=>rw[q]at Y;exact Y.elim|some g=>rw[q]at Y;obtain⟨xs,G⟩:=g;obtain⟨p,vs,rfl,h1,h2⟩:=zkW m rt q;refine⟨p,rfl,⟨vs,h1⟩,Y S _ rfl (.refl m) λS3 s3 gd=>?_⟩;obtain⟨vs3,g3,r3⟩:=h2 S3 s3 gd;refine⟨λi t et=>?_,λi hi=>⟨vs3,g3,by rw[←r3.1];exact hi⟩⟩;obtain⟨v2,ev3,rv⟩:=r3.get et;refine⟨⟨vs3,v2,g3,ev3⟩,λx H' hy=>?_⟩;obtain⟨ey,hy⟩:=hy;have:=hy vs3 g3;rw[ev3]at this;cases this;exact⟨S3,ey.symm,rfl,.refl s3.mok,rv⟩⟩
end
section
def znK(he:WE X XE e f):WIG X XE tg e (zgv f):=⟨zqo he.pe⟩
end
section
variable      {p pos pos2 np hp tp vp cpos:Pos}        
theorem zbW(c:CalX X.prog X.w X.K X.mg X.base k x ps F)(hr:Room k X.A)(hg:Gl X x)(hx:Passes (CXX X.prog X.w) X XE)(ha:WA X XE (e::es) ga)(hdb:(x==("__debug__":Str))=false:=by decide)(he:noStar e=true:=by rfl)(hpl:es.all noStar=true:=by rfl):WE X XE (.Call (.Name x p) (e::es) [] pos) (yf F ga):=by have ha:=ha.pe;refine⟨?_⟩;obtain⟨fa,fd,Fo,kp,b,gg⟩:=c.ex;exact PE.imp (zkL Fo hr hg gg kp b .nil hx ha hdb (z5 he) (zbZ hpl)) λJ H Q hh=>LN.mono (LN.bind (f:=λ_ J M=>ga J M) (k:=λ_ ts J M1=>F ts M1) (RB:=Reps X.K) hh) λvs H1 h9=>by obtain⟨S,Jτ,a,e,m,ev,ra,Y⟩:=h9;rw[append_nil];exact⟨S,a.2,e,m,ra.2,Y⟩
theorem zlv(O:XcF X.prog X.w X.K X.mg X.base x C)(hr:Room 2 X.A)(hg:Gl X x)(hst:X.stack=X.env::X.outer)(hf:X.env.frame=some X.env.locals)(hex:X.ex=[])(hxe:X.xe=λev s'=>wpAny .(1) X.A (leaving X.env ev) (λ_ s''=>CXX X.prog X.w X.outer X.H₀ X.s₀ XE ev s'') (λe' s''=>CXX X.prog X.w X.outer X.H₀ X.s₀ XE e' s'') s')(ha:WA X XE [e] ga)(hd:(x==("__debug__":Str))=false:=by decide)(he:noStar e=true:=by rfl):WS X XE (.Raise (some (.Call (.Name x np) [e] [] cpos)) none pos) (zck (zcP C) ga):=by
 have ha:=ha.pe;refine⟨?_⟩;obtain⟨f,fd,O1,Fo,hbd⟩:=O.ex;exact PS.imp (zmv O1 Fo hbd hr hg hst hf hex hxe ha hd (z5 he)) λD J H hh=>
  LN.mono (LN.bind (f:=λ_ J M=>ga J M) (k:=λ_ ts J M1=>zcP C ts M1) (RB:=Reps X.K) hh) λvs H1 h9=>by
   obtain⟨S,Jτ,a,e,m,ev,ra,Y⟩:=h9;obtain⟨u,ts⟩:=a;have r:Reps X.K S ts vs:=ra.2;replace Y:Fin XE (FlR X.K) X.K S (zcP C ts S.M) (zJ D):=Y;unfold zcP at Y;rw?
   .rename_i t;obtain⟨w,vs1,rfl,r1,r2⟩:=r.consT;have:=r2.nilT;subst this;refine⟨w,rfl,λd hd=>?_⟩;subst e;have s1:=Stp.new m hd (.xd [("at",w)]);exact Y ⟨S.α,S.M,upd S.H d (.xd [("at",w)]),S.hid⟩ (some d) rfl s1 (.inr ⟨d,_,rfl,qA,rfl,.cons (r1.grow m s1.toGrow) .nil⟩)
   .simp?
theorem zcM(c:CalX X.prog X.w X.K X.mg X.base k x ps F)(hr:Room k X.A)(hg:Gl X x)(ha:∀E1 XE,WA (X.wish E1) XE (e::es) ga)(hdb:(x==("__debug__":Str))=false:=by decide)(he:noStar e=true:=by rfl)(hpl:es.all noStar=true:=by rfl)(hsw:swapsWith (.Call (.Name x p) (e::es) [] pos) none pos2.line X.env=pure false:=by rfl):WX X [.Expr (.Call (.Name x p) (e::es) [] pos) pos2] (zB (yf F ga)):=by
 have ha:=λE1 XE=>(ha E1 XE).pe;refine⟨?_⟩;obtain⟨fa,fd,Fo,kp,b,gg⟩:=c.ex;intro E;have hp:=zpp (pos2:=pos2) (p:=p) (pos:=pos) (e:=e) (es:=es) (ta:=lA E X.K ga) Fo hr hg gg kp b (λE'=>ha E' E) hdb (z5 he) (zbZ hpl) hsw;intro ρ s J H D I q;refine hp E ρ s J H D I ?_;have h1:=LN.bind (f:=λ_ J M=>ga J M) (k:=λ_ ts J M1=>(F ts M1).bind λ_ M2=>.ok (Fl.nx J) M2) (RB:=Reps X.K) (XE:=E) (K:=X.K) (R:=FlR X.K) (RA:=UnR) (av:=()) (J:=J) (H:=H) (Q:=zJ D) (by
  obtain⟨S,Jτ,a,e,m,ev,ra,Y⟩:=q;refine⟨S,Jτ,a,e,m,ev,ra,?_⟩;have:(zB (yf F ga) Jτ S.M)=((ga Jτ S.M).bind λts M1=>(F ts M1).bind λ_ M2=>.ok (Fl.nx Jτ) M2):=by unfold zB yf;cases ga Jτ S.M<;>rfl
  show Fin E (FlR X.K) X.K S ((ga Jτ S.M).bind λts M1=>(F ts M1).bind λ_ M2=>.ok (Fl.nx Jτ) M2) (zJ D);rw[←this];exact Y)
 refine LN.mono h1 λvs H1 h9=>?_;obtain⟨S,Jτ,a,e,m,ev,ra,Y⟩:=h9;refine⟨S,a.2,e,m,ra.2,?_⟩;show Fin E (Rep X.K) X.K S (F a.2 S.M) _;replace Y:Fin E (FlR X.K) X.K S ((F a.2 S.M).bind λ_ M2=>.ok (Fl.nx Jτ) M2) (zJ D):=Y;cases o:F a.2 S.M with
 |bad=>rw[o]at Y;exact Y|exn C fs M'=>rw[o]at Y;exact Y|ok t M1=>rw[o]at Y;intro S1 w e1 s1 r1;exact Y S1 (.nx J) e1 s1 (.nx (Mo.mo m s1 ev))
def zeG{st:Stmt}:WS X XE st zgY:=⟨λ_ _ _ _ _ _ ⟨_,_,_,_,_,_,_,Y⟩=>Y.elim⟩
theorem ziF(hb:WX X sts g)(hS:∀C' ∈ cs,Sup X.K X.mg y C C')(hgy:Gl X y)(hst:X.stack=X.env::X.outer)(hf:X.env.frame=some X.env.locals)(hex:X.ex=[])(hN:X.N.Nodup)(hj:X.N[j]?=some nm)(hk:X.env.scope.names.lookup nm=some .local)(hs:∀ev,WSs (X.suite ev) E0 (b0::suite) gs)(hdy:(y==("__debug__":Str))=false:=by decide):WS X XE (.Try sts [.ExceptHandler (some (.Name y np)) (some nm) (b0::suite) hp] [] [] tp) (zeL j cs g gs):=by
 have hb:=hb.pe;have hs:=λev=>(hs ev).pe;exact⟨PS.imp (zpx (th:=lS E0 X.K gs) hb hgy hst hf hex hN hj hk hs hdy) λD J H h9=>by
  obtain⟨S,Jτ,a,e,m,ev,ra,Y⟩:=h9;refine⟨S,Jτ,a,e,m,ev,ra,?_⟩;show Fin _ (FlR X.K) X.K S (g Jτ S.M) (zJ D);replace Y:Fin XE (FlR X.K) X.K S (match g Jτ S.M with | .exn C fs M'=>if cs.contains C=true then(noX (gs (Jτ.set j (some (.exc C fs))) M')).bind (clr j)else .bad | o=>o) (zJ D):=Y;cases o:g Jτ S.M with
  |bad=>rw[o]at Y;exact Y|ok fl M1=>rw[o]at Y;exact Y|exn C' fs M'=>
   rw[o]at Y;intro S1 od e1 s1 xr;subst e1;replace Y:Fin XE (FlR X.K) X.K S (if cs.contains C'=true then(noX (gs (Jτ.set j (some (.exc C' fs))) S1.M)).bind (clr j)else .bad) (zJ D):=Y
   by_cases hc:cs.contains C'=true
   .rw[QA hc]at Y;refine⟨C',rfl,hS C' (contains_iff_mem.mp hc),λex hx=>?_⟩;have s2:=Stp.new s1.mok hx (.ext (ExO ex C' od));have rx:Rep X.K ⟨S1.α,S1.M,upd S1.H ex (.ext (ExO ex C' od)),S1.hid⟩ (.exc C' fs) (.ref ex):=by
     rcases xr with⟨rfl,rfl⟩ | ⟨d,us,rfl,hd,l,rr⟩
     .exact .exc (us:=[]) qA (.inl ⟨rfl,rfl⟩) rfl λi t v z=>by simp at z
     .exact .exc (us:=us) qA (.inr ⟨d,rfl,(yk (zF hd hx)).trans hd⟩) l (rr.grow s1.mok s2.toGrow).2
    refine⟨_,Jτ.set j (some (.exc C' fs)),(),rfl,s2.mok,(Mo.mo s1.mok s2 (Mo.mo m s1 ev)).set rx j,trivial,?_⟩;show Fin E0 (FlR X.K) X.K _ (gs (Jτ.set j (some (.exc C' fs))) S1.M) _;cases o2:gs (Jτ.set j (some (.exc C' fs))) S1.M with
    |bad=>rw[o2]at Y;exact Y|exn C2 fs2 M2=>rw[o2]at Y;exact Y.elim|ok fl M2=>rw[o2]at Y;intro S3 c e3 s3 r3;have st:=(s1.trans s2).trans s3;cases r3 with|nx r=>exact Y S3 (.nx _) e3 st (.nx (r.clr j))|rt r=>exact Y S3 (.rt _) e3 st (.rt r)|bk r=>exact Y S3 (.bk _) e3 st (.bk (r.clr j))|ct r=>exact Y S3 (.ct _) e3 st (.ct (r.clr j))
   .rw[QB hc]at Y;exact Y.elim⟩
theorem zo9(hS:∀C' ∈ cs,∃nm fI,XcAt X.K X.mg nm C' fI)(h:WE X XE e f)(hb:attributeBase e "at" X.env (eval e X.env)=eval e X.env:=by rfl):WE X XE (.Attribute e "at" pos) (eUn (xat cs) f):=by
 have h:=h.pe;exact⟨PE.imp (zrs h hb) λJ H Q hh=>
  LN.mono (LN.bind (f:=λ_ J M=>f J M) (k:=λ_ x J M1=>xat cs x M1) (RB:=Rep X.K) hh) λv H1 h9=>by
   obtain⟨S,Jτ,a,e,m,ev,ra,Y⟩:=h9;obtain⟨u,t⟩:=a;have r:Rep X.K S t v:=ra.2;replace Y:Fin XE (Rep X.K) X.K S (xat cs t S.M) Q:=Y;cases r with
   |@exc C fs us p od h hd l rr=>
    unfold xat at Y;dsimp only at Y
    by_cases hc:cs.contains C=true
    .rw[QA hc]at Y;rw?
     .rename_i w q;obtain⟨v,lv,rv⟩:=zhK l rr q;obtain⟨nm,fI,O⟩:=hS C (contains_iff_mem.mp hc);rcases hd with⟨rfl,rfl⟩ | ⟨d,rfl,hd⟩
      .simp at lv
      .subst e;exact⟨p,C,d,us,v,nm,fI,rfl,h,hd,O,lv,Y S v rfl (.refl m) rv⟩
     .simp?
    .rw[QB hc]at Y;exact Y.elim
   | _=>exact Y.elim⟩
end
section
theorem zqS{st:Expr}(he:WE X XE e f)(hs:WO X XE (some st) p):WE X XE (.Subscript e (.Slice none none (some st) p2) pos) (eRv f p):=by
 have he:=he.pe;have hs:=hs.pe;exact⟨PE.imp (zru he hs) λJ H Q hh=>
  LN.mono (LN.bind (f:=λ_ J M=>f J M) (k:=λ_ x J M1=>(p J M1).bind λl M2=>zgZ x l M2) (RB:=Rep X.K) hh) λv H1 h1=>
   LN.mono (LN.env (f:=p) (LN.bind (f:=λ_ J M=>p J M) (k:=λ(ax:Unit × T) l J M2=>zgZ ax.2 l M2) (RB:=EqR) h1)) λl H2 h9=>by
    obtain⟨S,Jτ,a,e,m,ev,ra,Y⟩:=h9;have e1:a.2=l:=ra.2;have r:Rep X.K S a.1.2 v:=ra.1.2;replace Y:Fin XE (Rep X.K) X.K S (zgZ a.1.2 a.2 S.M) Q:=Y;rw[e1]at Y;unfold zgZ rvX at Y;rw?
    .rename_i hl;rw?
     .rename_i xs q;obtain⟨b,vs,e2,h2,s2⟩:=yD m r q;subst e;refine⟨hl,b,vs,e2,h2,zg7 m Y ?_⟩;exact s2.rev
     .simp?
    .exact Y.elim⟩
end
section
variable   {K:Frag}  
theorem qv{st:Stmt}(D:Df K mg x st ps)(Sc:FnScope N ps (zg st))(hp:ps.length=p)(hn:N.length=n)
  (hb:∀(f:Addr) (cdv:Value) (A:Around) (outer:List PySem.Env) (s:Shared) (H:Hp) (E:XK),Room k (A.deeper (envOfC x (zg st) s.heap.objs.size f cdv))->WSs (zbD CX0 P w K mg base N x (zg st) f cdv A outer s H E).nox E0 (yH st) g) :
  CalT P w K mg base (k+1) x ps (zj p n g):=zny D Sc hp hn λf cdv A outer s H E hr=>(hb f cdv A outer s H E hr).pe
theorem zbx{st:Stmt}(D:Df K mg x st ps)(Sc:FnScope N ps (zg st))(hp:ps.length=p)(hn:N.length=n)
  (hb:∀(f:Addr) (cdv:Value) (A:Around) (outer:List PySem.Env) (s:Shared) (H:Hp) (E:XK),Room k (A.deeper (envOfC x (zg st) s.heap.objs.size f cdv))->WSs (zbD (CXX P w) P w K mg base N x (zg st) f cdv A outer s H E) E (yH st) g) :
  CalX P w K mg base (k+1) x ps (zT p n g):=zqH D Sc hp hn λf cdv A outer s H E hr=>(hb f cdv A outer s H E hr).pe
theorem zo8{st:Stmt}(F:Fun K x qual st f fd)(Sc:FnScope N ps (zg st))(hp:ps.length=p)(hn:N.length=n)
  (hb:∀(cdv:Value) (A:Around) (outer:List PySem.Env) (s:Shared) (H:Hp) (E:XK),Room k (A.deeper (envOfC qual (zg st) s.heap.objs.size f cdv))->WSs (zbD CX0 P w K mg base N qual (zg st) f cdv A outer s H E).nox E0 (yH st) g) :
  FnOk P w K mg base CX0 (k+1) f fd ps (spT K (zj p n g)):=zrW F Sc hp hn λcdv A outer s H E hr=>(hb cdv A outer s H E hr).pe
theorem zko{st:Stmt}(D:Di K mg x qual C st ps)(Sc:FnScope N ps (zg st))(hp:ps.length=p)(hn:N.length=n)
  (hb:∀(f:Addr) (cdv:Value) (A:Around) (outer:List PySem.Env) (s:Shared) (H:Hp) (E:XK),Room k (A.deeper (envOfC qual (zg st) s.heap.objs.size f cdv))->WSs (zbD CX0 P w K mg base N qual (zg st) f cdv A outer s H E).nox E0 (yH st) g) :
  MakT P w K mg base (k+1) x C ps (zj p n g):=zrS D Sc hp hn λf cdv A outer s H E hr=>(hb f cdv A outer s H E hr).pe
end
section
theorem zmg{ss:List Str}(hg:Gl X x)(hm:∃a,X.mg x=some (.ref a)/\KTu X.K a (ss.map .str))(hd:(x==("__debug__":Str))=false:=by decide):WE X XE (.Name x pos) (eC (.tup (ss.map .str))):=by refine⟨?_⟩;obtain⟨a,hm,o,its,n,h⟩:=hm;refine zb6 (zeO (v:=.ref a) hg hm rfl hd) λS=>.tup (.inr ⟨o,its,n,h⟩) (by simp) λi t v e1 e2=>?_;rw[Qb]at e1 e2;cases q:ss[i]? with|none=>rw[q]at e1;cases e1|some z=>rw[q]at e1 e2;cases e1;cases e2;exact .str _
theorem znI(hC:∀C ∈ Cs,Cls X.K C/\NoAttr X.K C f)(ho:WE X XE o fo):WS X XE (.AugAssign (.Attribute o f tpos) .Add (.Constant (.int n) j cpos) pos) (zgi Cs f fo n):=by
 have ho:=ho.pe;exact⟨PS.imp (zmx ho zmE zsc) λD J H hh=>by
  refine LN.mono (LN.bind (f:=λ_ J M=>fo J M) (k:=λ_ x J M1=>(zaI Cs f x M1).bind λv M2=>(zdv v (.int n) M2).bind λz M3=>(zaT Cs f x z M3).bind λ_ M4=>.ok (Fl.nx J) M4) (RB:=Rep X.K) hh) λxv H1 h1=>?_;obtain⟨S,Jτ,⟨u0,x⟩,e,m,ev,⟨hu0,rx⟩,Y⟩:=h1;subst e;dsimp only at rx;replace Y:Fin XE (FlR X.K) X.K S ((zaI Cs f x S.M).bind λv M2=>(zdv v (.int n) M2).bind λz M3=>(zaT Cs f x z M3).bind λ_ M4=>.ok (Fl.nx Jτ) M4) (zJ D):=Y;cases x with
  |ref a=>
   unfold zaI at Y;dsimp only at Y;cases q:S.M[a]? with
   |none=>rw[q]at Y;exact Y.elim|some c=>
    rw[q]at Y;cases c with
    |ins C fs=>
     dsimp only at Y
     by_cases hc:C ∈ Cs
     .rw[QA hc]at Y;cases l:fs.lookup f with
      |none=>rw[l]at Y;exact Y.elim|some v=>
       rw[l]at Y;replace Y:Fin XE (FlR X.K) X.K S ((zdv v (.int n) S.M).bind λz M3=>(zaT Cs f (.ref a) z M3).bind λ_ M4=>.ok (Fl.nx Jτ) M4) (zJ D):=Y;cases v with
       |int i=>
        replace Y:Fin XE (FlR X.K) X.K S ((zaT Cs f (.ref a) (.int (i+n)) S.M).bind λ_ M4=>.ok (Fl.nx Jτ) M4) (zJ D):=Y;unfold zaT at Y;simp only[q]at Y;rw?
        .rename_i hl;cases rx;obtain⟨dx,us,h3,rf⟩:=m.cell _ _ q;have ha:a<S.M.length:=(Qz.mp q).1;obtain⟨w,ew,rw'⟩:=rf.look f l;cases rw';refine⟨S.α a,C,dx,us,_,rfl,h3,(hC C hc).1,(hC C hc).2,ew,?_⟩;refine⟨i,n,rfl,rfl,dx,us,h3,by rw[←rf.len];exact hl.2,?_⟩;have s1:=Stp.put m ha (.ins C dx (z9 f (.int (i+n)) us)) (.ins C (zcT f (.int (i+n)) fs)) ⟨dx,_,qA,(rf.put f (.int _)).grow m (Grow.put m ha _ _)⟩;exact Y (S.put a (.ins C dx (z9 f (.int (i+n)) us)) (.ins C (zcT f (.int (i+n)) fs))) (.nx J) rfl s1 (.nx (Mo.mo m s1 ev))
        .simp?
       |_=>exact Y.elim
     .rw[QB hc]at Y;exact Y.elim
    |_=>exact Y.elim
  | _=>exact Y.elim⟩
end
theorem CalX.refine{K:Frag}(C:CalX P w K mg base k x ps g)(h:Refines f g)(nox:∀ts M C fs M',f ts M ≠ .exn C fs M'):CalT P w K mg base k x ps f:=by
 refine⟨?_,nox⟩;obtain⟨fa,fd,F,kp,b,gg⟩:=C.ex;have key:∀vs H Q E,spT K f vs H Q E->spT K g vs H Q λ_ _ _=>False:=by
  rintro vs H Q E ⟨S,ts,e,m,r,Y⟩;refine⟨S,ts,e,m,r,?_⟩;have wf:∀c ∈ S.M,Cell.lt S.M.length c:=λc hc=>by obtain⟨i,hi,rfl⟩:=getElem_of_mem hc;exact(m.cell i _ (by simp[hi])).lt
  cases o:f ts S.M with
  |bad=>rw[o]at Y;exact Y.elim|exn C' fs M'=>exact absurd o (nox _ _ _ _ _)|ok t' M1=>
   rw[o]at Y;obtain⟨t,M',eg,l1,l2,eM,hc,z⟩:=h ts S.M t' M1 wf o;rw[eg];intro S' v e1 s r1;have hl:∀(i:Nat) c,i<M1.length->S'.M[i]?=some c->Cell.lt M1.length c:=λi c hi ec=>by
    have e2:M1[i]?=some c:=by rw[eM,getElem?_take,QA hi,←e1];exact ec
    rcases hc i c e2 with q | q
    .exact(wf c (Qa q)).mono l1
    .exact q
   have sc:=s.cut l1 (by rw[e1];exact l2) hl;refine Y (S'.cut M1.length S.hid) v ?_ sc ?_
   .show S'.M.take M1.length=M1;rw[e1];exact eM.symm
   .exact Rep.fz s.mok (by rw[e1];exact l2) (λp h=>(s.hk p h).1) (by rw[e1];exact z) r1
 refine⟨⟨fa,fd,⟨λvs H Q E q=>F.len vs H Q _ (key _ _ _ _ q),?_⟩,kp,b,gg⟩⟩;intro A outer s H args us vs Q E hr h0 hb hv hq;refine codeAny_mono (F.run A outer s H args us vs Q _ hr h0 hb hv (key _ _ _ _ hq)) λr s' z=>?_;cases r with
 |ok v=>cases v<;>exact z|error e=>obtain⟨_,_,_,_,_,_,_,_,_,_,_,_,_,_,_,z⟩:=z;exact z.elim
end FT
namespace L2
open PySem PySem.Spec PyProof.Rows
section
theorem zlL:OpR X (binaryOp .Mult) (λx y H Q=>∃i n,x = .str i/\y = .int n/\MulOk i n/\Q (.str (Txt.mul i n)) H):=by
 infer_instance
 obtain⟨i,n,rfl,rfl,hk,q⟩:=h;obtain⟨t,rfl⟩:=rx;obtain⟨t',rfl⟩:=ry;exact SB.mul hk λt' k=>⟨.str _,H,I.tok _,⟨_,rfl⟩,q⟩
end
end L2
namespace FT
open PySem PySem.Spec PyProof.Rows L2
noncomputable def leU:X3:=λx y M=>match x,y with
 |.int i,.int j=>.ok (.bl (decide (i<=j))) M|.str i,.str j=>.ok (.bl (!decide (j.cps.toList<i.cps.toList))) M|_,_=>.bad
noncomputable def zg8:X3:=λx y M=>match x,y with
 |.str i,.int n=>@ite _ (MulOk i n) (Classical.propDecidable _) (.ok (.str (Txt.mul i n)) M) .bad|_,_=>.bad
def ixS:X3:=λx y M=>match x,y with
 |.str z,.int i=>match atI z.cps.toList i with
  |some c=>if z.length<=sizeLine then .ok (.str ⟨#[c]⟩) M else .bad|none=>.bad
 |_,_=>.bad
section
theorem zpM:OpR X (binaryOp .Mult) (lR2 XE X.K zg8):=by
 injections
 subst e;replace Y:Fin XE (Rep X.K) X.K S (zg8 tx ty S.M) Q:=Y;unfold zg8 at Y;rw?
 .cases r1;cases r2
  rw?
  .rename_i hk;exact zlL ρ s J S.H _ _ v u Q I rx ry ⟨_,_,rfl,rfl,hk,Y S _ rfl (.refl m) (.str _)⟩
  .simp?
 .simp?
theorem zol:IxR X (lR2 XE X.K ixS):=by
 rintro va sl ρ s J H x y v u Q I rx ry ⟨S,⟨tx,ty⟩,e,m,⟨r1,r2⟩,Y⟩ hs;subst e;replace Y:Fin XE (Rep X.K) X.K S (ixS tx ty S.M) Q:=Y;unfold ixS at Y;rw?
 .cases r1;cases r2
  rw?
  .rename_i c hc;rw?
   .rename_i hz;exact zmV va sl ρ s J S.H _ _ v u Q I rx ry ⟨_,_,c,rfl,rfl,hz,hc,Y S _ rfl (.refl m) (.str _)⟩ hs
   .simp?
  .simp?
 .simp?
end
end FT
namespace L2
open PySem PySem.Spec PyProof.Rows
section
theorem zq3:SlR X (λx lo hi H Q=>∃z,x = .str z/\z.length<=sizeLine/\Q (.str (Txt.slice z lo hi)) H):=by
 rintro ρ s J H x v vl vu lo hi sl Q I rx hs pl pu ⟨z,e,hz,q⟩;subst e;obtain⟨t,rfl⟩:=rx;have part:∀{v:Value} {o:Option Int},IsPart v o->∃p:Option (Int × Tok),v=partValue p/\p.map (·.1)=o:=λh=>by cases h with|none=>exact⟨none,rfl,rfl⟩|int i t=>exact⟨some (i,t),rfl,rfl⟩
 obtain⟨l,rfl,rfl⟩:=part pl;obtain⟨u,rfl,rfl⟩:=part pu;exact⟨"str",_,PySem.F.slot_str_getitem.lookup,typeIs_str _ _ _,wpAny_getItem_str_slice (st:=none) hs rfl (post_val_or_str ⟨Qj (Txt.slice_le z _ _) hz,λt' k=>⟨.str _,H,I.tok _,⟨_,rfl⟩,q⟩⟩)⟩
theorem ziM:∀{zs:List Str} {its:List Value},Vals (zs.map V.str) its->StrsAre its zs
 |[],its,r=>by cases r;exact .nil|z::zs,its,r=>by
  cases r with
  |cons a b=>obtain⟨t,rfl⟩:=a;exact .cons z t (ziM b)
theorem zpU:MtR X "str.join" (λx xs H Q=>∃z p zs,x = .str z/\xs=[.ref p]/\SqL X.K H p (zs.map V.str)/\(zs.map (·.length)).sum+zs.length*z.length<=16777216/\Q (.str (Txt.join z zs)) H):=by
 rintro ρ s J H x xs v us Q I rx rs ⟨z,p,zs,e1,e2,hq,hb,q⟩;subst e1;subst e2
 obtain⟨t,rfl⟩:=rx;obtain⟨u,rfl,ru⟩:=vals1 rs;cases ru;obtain⟨its,r,pl,hz⟩:=I.list hq;exact join_list pl.isList (ziM r) hb λt' k=>⟨.str _,H,I.tok _,⟨_,rfl⟩,q⟩
end
end L2
namespace FT
open PySem PySem.Spec PyProof.Rows L2
noncomputable def sgT(z:Str):List T:=z.cps.toList.map λc=>T.str ⟨#[c]⟩
def iTx(f:X9):X1:=λJ M=>(f J M).bind λt M1=>match t with
 |.str z=>.ok (sgT z) M1|_=>.bad
def zdr(x:T)(lo hi:Option Int)(M:Mem):Out T:=match x with
 |.str z=>if z.length<=sizeLine then .ok (.str (Txt.slice z lo hi)) M else .bad|x=>zeC x lo hi M
def zjH(f:X9)(p q:Ev->Mem->Out (Option Int)):X9:=λJ M=>(f J M).bind λx M1=>(p J M1).bind λlo M2=>(q J M2).bind λhi M3=>zdr x lo hi M3
noncomputable def zfz:List T->Option (List Str)
 |[]=>some []|.str z::ts=>(zfz ts).map (z :: ·)|_::_=>none
theorem ziN:∀{ts:List T} {zs:List Str},zfz ts=some zs->ts=zs.map .str
 |[],zs,h=>by cases h;rfl|t::ts,zs,h=>by
  unfold zfz at h;split at h
  .rename_i e;cases e
  .rename_i e;cases e;cases q:zfz ts with
   |none=>rw[q]at h;cases h|some ys=>rw[q]at h;cases h;rw[ziN q];rfl
  .cases h
noncomputable def isStr(t:T)(_:Mem):Bool:=match t with
 |.str _=>true|_=>false
def zeT(x:T)(ts:List T)(M:Mem):Out T:=match x,ts with
 |.str z,[t]=>match zy t M with
  |some xs=>match zfz xs with
   |some zs=>if(zs.map (·.length)).sum+zs.length*z.length<=16777216 then .ok (.str (Txt.join z zs)) M else .bad|none=>.bad
  |none=>.bad
 |_,_=>.bad
section
theorem ty_str{K:Frag}(_:MemOk K S){t:T}{x:V}(r:Rep K S t x)(h:isStr t S.M=true):tyV K "str" x S.H:=by cases r with|str z=>exact rfl|_=>cases h
theorem zoc:MtR X "str.join" (lMt XE X.K zeT):=by
 rintro ρ s J H x xs v us Q I rx rs ⟨S,⟨tx,ts⟩,e,m,⟨r1,r2⟩,Y⟩;subst e;replace r1:Rep X.K S tx x:=r1;replace r2:Reps X.K S ts xs:=r2;replace Y:Fin XE (Rep X.K) X.K S (zeT tx ts S.M) Q:=Y;unfold zeT at Y;rw?
 .rename_i z t;rw?
  .rename_i ys q;rw?
   .rename_i zs qz;rw?
    .rename_i hb;obtain⟨w1,ws,rfl,h1,h2⟩:=r2.consT;cases h2.nilT;obtain⟨p,vs,rfl,hq,rs'⟩:=yD m h1 q;cases r1;have e:=ziN qz;subst e;have ev:vs=zs.map V.str:=by
      refine ext_getElem? λi=>?_;have l:=rs'.1;rw[Qh]at l
      by_cases hi:i<zs.length
      .have a1:vs[i]?=some (vs[i]'⋯):=Q0 _;have a2:=rs'.2 i (.str zs[i]) _ (by rw[Qb,Q0 hi];rfl) a1;rw[a1,Qb,Q0 hi];generalize vs[i]'⋯=w at a2;cases a2;rfl
      .rw[getElem?_eq_none ⋯,getElem?_eq_none (by rw[Qh];symm)]
     rw[ev]at hq;exact zpU ρ s J S.H _ _ v us Q I rx rs ⟨z,p,zs,rfl,rfl,hq,hb,Y S _ rfl (.refl m) (.str _)⟩
    .simp?
   .simp?
  .simp?
 .simp?
end
end FT
namespace L2
open PySem PySem.Spec PyProof.Rows
section
variable        {np cpos pos:Pos}
theorem zmw(O:ExcAt X.K X.mg x C)(hr:Room 2 X.A)(hg:Gl X x)(hst:X.stack=X.env::X.outer)(hf:X.env.frame=some X.env.locals)(hex:X.ex=[])
  (hxe:X.xe=λev s'=>wpAny .(1) X.A (leaving X.env ev) (λ_ s''=>CXX X.prog X.w X.outer X.H₀ X.s₀ E ev s'') (λe' s''=>CXX X.prog X.w X.outer X.H₀ X.s₀ E e' s'') s')
  (ha:PA X [e] ta) (hd:(x==("__debug__":Str))=false:=by decide) (he:starEach [e] X.env=[(false,eval e X.env)]:=by rfl) :
  PS X (.Raise (some (.Call (.Name x np) [e] [] cpos)) none pos) (λ_ J H=>ta J H λvs H1=>vs.length<=sizeLine/\E (.ref C) none H1):=by
 intro ρ s J H D I h;obtain⟨bm,N,nm,q,bs,hdct,sn,sub,ab,col,dd,k0,k1,k2,k3,k5,mN,hC,hN,hni,T⟩:=O.obj X.base I.ok.mod.kin;refine zgl (C:=C) (nm:=nm) (q:=q) (N:=N) (bs:=bs) (bm:=bm) (hdct:=hdct) (sn:=sn) (sub:=sub) (ab:=ab) (col:=col) (dd:=dd) (k0:=k0) (k1:=k1) (k2:=k2) (k3:=k3) (k5:=k5) (T.hasType PySem.F.excBase_ValueError.hasBase) hr.hd (by rw[he];rfl) (zbG I hg O.bound ⟨rfl,?_⟩ hd);have hq:=ha cpos ρ s J H _ I h;rw[he]at hq ⊢;refine Calls.evalArgs_plain (Qg hq (λus s2 h9=>?_) λ_ _ y=>y);obtain⟨vs,H2,I2,r2,hl,hE⟩:=h9;have hC2:=I2.bk _ _ hC;refine⟨rfl,hC2,?_⟩;obtain⟨h2,g2,d2,t2,os2⟩:=s2;refine wpAny_call_exc_subT PySem.F.excBase_ValueError (T.keeps I2.bk) hC2 (hN.keeps I2.bk) hni (λh' ev hm=>?_) (by rw[←r2.length];exact hl);obtain⟨t,ge,_,_⟩:=hm.there;obtain⟨b1,b2,b3,b4,b5⟩:=I2.new0 hex hm.new;have I3:Inv X ρ J H2 ⟨h',g2,d2,t2,os2⟩:=I2.kept (t':=t2) hm.keeps;exact⟨ev,t,none,rfl,hm.keeps _ _ hC2,ge,zlf I3 hst hf hex hxe ge b2 b1 hE⟩
theorem zpf{K:Frag}(O:ExcAt K mg x C):Sup K mg x C C:=⟨O.bound,λh X=>by obtain⟨bm,N,nm,q,bs,hdct,sn,sub,ab,col,dd,k0,k1,k2,k3,k5,mN,hC,_,_,T⟩:=O.obj h X;exact⟨⟨bm,N,nm,q,bs,hdct,sn,sub,ab,col,dd,k0,k1,k2,k3,k5,hC,T.hasType PySem.F.excBase_ValueError.hasBase⟩,bm,N,nm,q,bs,hdct,sn,sub,ab,col,dd,k0,k1,k2,k3,k5,hC,by simp⟩⟩
end
end L2
namespace FT
open PySem PySem.Spec PyProof.Rows L2
theorem zqR{K:Frag}(X:K.In h)(G:h.Ns mainGlobals mg){x:Str}{C N W:Addr}{nm q:Str}{bs:List Value}{hdct:Bool}{sn:List Str}{sub:List Value}{ab:Bool}{col:Option Bool}{dd:Option Addr}{k0 k1 k2 k3 k5:Option Value}
  {c1 c2 c3:Value} {d1 d2 d3:Option Addr} {es es':Array DictEntry} {ep ep':Nat} {s1 s2 s3:Array (Option Value)} {cdw:ClassData}
  (a:PySem.W.nsIn K mainGlobals x=some (some (.ref C)))
  (l:K.lookup C=some (excClassObj nm q C N bs (.ref W::y4) hdct sn sub ab col dd k0 k1 k2 k3 k5 "ValueError.__new__"))
  (ln:K.lookup N=some ⟨c1,d1,.dict es ep,s1⟩) (sk:zaZ es=true) (q0:PySem.W.nsIn K N "__init__" = some none)
  (lw:K.lookup W=some ⟨c2,d2,.cls cdw,s2⟩) (lwn:K.lookup cdw.ns=some ⟨c3,d3,.dict es' ep',s3⟩) (sk':zaZ es'=true) (q1:PySem.W.nsIn K cdw.ns "__init__" = some none):ExcAt K mg x (qi K x):=by
 rw[zaf a];refine⟨PySem.W.mg_of X G a,λh' X'=>?_⟩;obtain⟨mN,hN,eN⟩:=zkQ X' ln sk q0;obtain⟨mW,hW,eW⟩:=zkQ X' lwn sk' q1;exact⟨_,N,nm,q,bs,hdct,sn,sub,ab,col,dd,k0,k1,k2,k3,k5,mN,X' _ _ l,hN,eN,.own (X' _ _ lw) hW eW .base⟩
def zuT(XE:XK)(K:Frag):V->Option Int->Option Int->Hp->VK->Prop:=λx lo hi H Q=>∃S t,S.H=H/\MemOk K S/\Rep K S t x/\Fin XE (Rep K) K S (zdr t lo hi S.M) Q
section
theorem zuB:SlR X (zuT XE X.K):=by
 rintro ρ s J H x v vl vu lo hi sl Q I rx hs pl pu ⟨S,t,e,m,r,Y⟩;unfold zdr at Y;rw?
 .cases r;rw?
  .rename_i hz;subst e;exact zq3 ρ s J S.H _ v vl vu lo hi sl Q I rx hs pl pu ⟨_,rfl,hz,Y S _ rfl (.refl m) (.str _)⟩
  .simp?
 .exact zq4 ρ s J H x v vl vu lo hi sl Q I rx hs pl pu ⟨S,_,e,m,r,Y⟩
end
section
theorem zlw{np cpos pos:Pos}(O:ExcAt X.K X.mg x C)(hr:Room 2 X.A)(hg:Gl X x)(hst:X.stack=X.env::X.outer)(hf:X.env.frame=some X.env.locals)(hex:X.ex=[])(hxe:X.xe=λev s'=>wpAny .(1) X.A (leaving X.env ev) (λ_ s''=>CXX X.prog X.w X.outer X.H₀ X.s₀ XE ev s'') (λe' s''=>CXX X.prog X.w X.outer X.H₀ X.s₀ XE e' s'') s')(ha:WA X XE [e] ga)(hd:(x==("__debug__":Str))=false:=by decide)(he:noStar e=true:=by rfl):WS X XE (.Raise (some (.Call (.Name x np) [e] [] cpos)) none pos) (zck (zcQ C) ga):=by
 have ha:=ha.pe;exact⟨
  PS.imp (zmw O hr hg hst hf hex hxe ha hd (z5 he)) λD J H hh=>
   LN.mono (LN.bind (f:=λ_ J M=>ga J M) (k:=λ_ ts J M1=>zcQ C ts M1) (RB:=Reps X.K) hh) λvs H1 h9=>by
    obtain⟨S,Jτ,a,e,m,ev,ra,Y⟩:=h9;obtain⟨u,ts⟩:=a;have r:Reps X.K S ts vs:=ra.2;replace Y:Fin XE (FlR X.K) X.K S (zcQ C ts S.M) (zJ D):=Y;unfold zcQ at Y;rw?
    .rename_i hl;subst e;exact⟨by rw[←r.1];exact hl,Y S none rfl (.refl m) (.inl ⟨rfl,rfl⟩)⟩
    .exact Y.elim⟩
theorem zkp{lo:Option Expr}(he:WE X XE e f)(hl:WO X XE lo p)(hu:WO X XE hi q):WE X XE (.Subscript e (.Slice lo hi none p2) pos) (zjH f p q):=by have he:=he.pe;have hl:=hl.pe;have hu:=hu.pe;exact⟨PE.imp (zi6 zuB he hl hu) λJ H Q hh=>LN.mono (LN.bind (f:=λ_ J M=>f J M) (k:=λ_ x J M1=>(p J M1).bind λlo M2=>(q J M2).bind λhi M3=>zdr x lo hi M3) (RB:=Rep X.K) hh) λv H1 h1=>LN.mono (LN.env (f:=p) (LN.bind (f:=λ_ J M=>p J M) (k:=λ(ax:Unit × T) lo J M2=>(q J M2).bind λhi M3=>zdr ax.2 lo hi M3) (RB:=EqR) h1)) λl H2 h2=>LN.mono (LN.env (f:=q) (LN.bind (f:=λ_ J M=>q J M) (k:=λ(ax:(Unit × T) × Option Int) hi J M3=>zdr ax.1.2 ax.2 hi M3) (RB:=EqR) h2)) λw H3 h9=>by obtain⟨S,Jτ,a,e,m,ev,ra,Y⟩:=h9;have e1:a.1.2=l:=ra.1.2;have e2:a.2=w:=ra.2;exact⟨S,a.1.1.2,e,m,ra.1.1.2,by rw[←e1,←e2];exact Y⟩⟩
end
end FT
namespace L2
open PySem PySem.Spec PyProof.Rows
structure XiAt (K:Frag) (D:Addr):Prop where
 ga:PySem.W.findIn K (.ref D) "__getattribute__" = some (some (.builtin "BaseException.__getattribute__"))
 gt:PySem.W.findIn K (.ref D) "__getattr__" = some none
 c:(PySem.W.clsIn K D).isSome=true
 a:PySem.W.findIn K (.ref D) "__class__" = some (some (.builtin "object.__class__"))
 n:PySem.W.specialIn K (.builtin "object.__class__") "__get__" = some (some (.builtin "getset_descriptor.__get__"))
 t:PySem.W.takesIn K (.builtin "object.__class__")=some true
 m:PySem.W.mroIn K D (.type "object")=some true
 be:PySem.W.mroIn K D (.type "BaseException")=some true
theorem zne{K:Frag}(hc:(PySem.W.clsIn K C).isSome=true)(ha:PySem.W.findIn K (.ref C) name=some (some a))(hg:PySem.W.specialIn K a "__get__" = some (some g))(ht:PySem.W.takesIn K a=some true):PySem.W.findObj K C od name=some (.bind g a):=by unfold PySem.W.findObj;cases h:PySem.W.clsIn K C with|none=>rw[h]at hc;cases hc|some cd=>simp only[Option.bind_some,ha,hg,ht]
section
variable      {K:Frag}   
theorem znH(Z:XiAt K D)(X:K.In s.heap)(I:PySem.W.InstAt s.heap x ox D odo)(hq:Q () s):
  wpAny (model prog w) A (checkBuiltinCall "BaseException.__getattribute__" ⟨[.ref x,u],[]⟩) Q E s:=by
 have hk:builtinKind "BaseException.__getattribute__" = some .slot:=by decide +kernel
 have hs:splitId "BaseException.__getattribute__" = some ("BaseException","__getattribute__"):=by decide +kernel
 have L:PySem.W.Looks (model prog w) s.heap (isInstance (.ref x) (.type "BaseException")) true:=(I.type (M:=model prog w)).andThen (PySem.W.looks_mroIn X Z.be);have ha:=PySem.F.args_bexc_ga (.ref x) u;obtain⟨h,g,d,t,os⟩:=s;simp only[checkBuiltinCall,hk,hs];refine Q1 (L.at ?_)
 repeat (any_goals (first | assumption | wp_step))
theorem znG(Z:XiAt K D)(X:K.In s.heap)(I:PySem.W.InstAt s.heap x ox D odo)(hq:Q (.done (.ret (.ref D))) s):
  wpAny (model prog w) A (Builtin.«object.__getattribute__» ⟨[.ref x,.str "__class__" tk],[]⟩) Q E s:=by
 have L0:=I.type (M:=model prog w);have L1:=PySem.W.looks_find (M:=model prog w) X I (zne Z.c Z.a Z.n Z.t);have cg:wpAny (model prog w) A (call (.builtin "getset_descriptor.__get__") [.builtin "object.__class__",.ref x,.ref D]) (λv s'=>Q (.done (.ret v)) s') E s:=wpAny_call (PySem.W.class_get (ox:=ox) (od:=odo) X I Z.m hq);obtain⟨h,g,d,t,os⟩:=s;unfold Builtin.«object.__getattribute__»;refine Q1 (Qf ?_);refine Q1 (Qf ?_);refine Q1 (L0.at (Q1 (L1.at ?_)));show wpAny _ _ (holding [.builtin "object.__class__"] (call (.builtin "getset_descriptor.__get__") [.builtin "object.__class__",.ref x,.ref D]) >>= ret) _ _ _;exact Q1 (wpAny_holding (Qg cg (λv s' z=>Qf z) λ_ _ z=>z))
theorem zul(Z:XiAt K D)(X:K.In s.heap)(I:PySem.W.InstAt s.heap x ox D odo)(hq:Q (some (.ref D)) { s with toks:=s.toks+1 }):wpAny (model prog w) A (getAttr? (.ref x) "__class__") Q E s:=by
 have f3:=PySem.F.excAttr_ValueError.ga.bind (.ref x);obtain⟨hh,g,d,t,os⟩:=s;have L0:=I.type (M:=model prog w);have L1:=PySem.W.looks_findIn (M:=model prog w) X Z.ga;have L2:=PySem.W.looks_findIn (M:=model prog w) X Z.gt;have hx2:(Value.builtin "BaseException.__getattribute__" == Value.builtin "object.__getattribute__")=false:=by decide +kernel
 have hx1:(onTheHeap (Value.ref D) && Value.builtin "BaseException.__getattribute__" == Value.builtin "object.__getattribute__")=false:=by rw[hx2];rfl
 unfold getAttr? getAttrBy? getAttrBy;refine Q1 (wpAny_mkText (Q1 (wpAny_attempt (wpAny_holding (Q1 (L0.at (Q1 (L1.at ?_))))))));simp only[hx1,Bool.false_eq_true,if_false];unfold getAttrByItsOwn hookBefore;refine Q1 (L2.at ?_);refine Q1 (wpAny_attempt (wpAny_holding ?_));unfold callGetattribute;rw[QB ∅];unfold boundAndCalled;rw[f3];refine Q1 (Qf (wpAny_call (codeAny_call_builtin PySem.F.excAttr_ValueError.ga.plain PySem.F.entry_bexc_ga (znH (s:=⟨hh,g,d,t+1,os⟩) Z X I (znG (s:=⟨hh,g,d,t+1,os⟩) Z X I ?_)))));exact Qg (PySem.W.handed_on (v:=.ref D) rfl hq) (λv s' z=>Qf z) λ_ _ z=>z
end
theorem zji{K:Frag}(Z:XiAt K D):PySem.W.KitX K (.ref x) (.ref D) (λh=>∃ox odo,PySem.W.InstAt h x ox D odo) where
 ty:=λM h X ⟨ox,odo,I⟩=>I.type
 it:=λM h X _=>by
  have z0:=Z.c;unfold PySem.W.clsIn at z0;split at z0
  .rename_i c' d' cd' sl' ho;intro A' Q' E' s' k q;unfold isType loadHead;exact Q1 (wpAny_loadPart (k _ _ (X _ _ ho)) (Qf q))
  .cases z0
 ne:=λh tp dd its n sl X ht=>by
  have z0:=Z.c;unfold PySem.W.clsIn at z0;split at z0
  .rename_i c' d' cd' sl' ho;refine Bool.eq_false_iff.mpr λq=>?_;have e:=Value.ref.inj (beq_iff_eq.mp q);have:=X _ _ ho;rw[e,ht]at this;cases this
  .cases z0
 ca:=λ{prog w A E Q s} X ⟨ox,odo,I⟩ hq=>zul Z X I hq
section
theorem zoI:yV X (.builtin "isinstance") (λxs H Q=>∃p D od v c b,xs=[.ref p,v]/\H p=some (.ext (ExO p D od))/\(od=none\/∃d us,od=some d/\H d=some (.xd us))/\XiAt X.K D/\(∀u,RelV v u->u=c)/\PySem.W.kitOne X.K (.ref D) c=some b/\Q (.bl b) H):=by
 intro ρ s J H xs us Q I r h;obtain⟨p,D,od,v,c,b,rfl,hp,ho,Z,hv,e,q⟩:=h;obtain⟨u,w',rfl,r1,r2⟩:=vals2 r;obtain rfl:u=Value.ref p:=r1;cases hv _ r2;obtain⟨⟨ob,g1,g2,g3,g4⟩,_,_⟩:=I.hok p _ hp;have nc:PySem.W.notCls ob=true:=by
  unfold PySem.W.notCls;split
  .rename_i cd z;exact absurd z (g4 cd)
  .rfl
 have hI:∃ox odo,PySem.W.InstAt s.heap p ox D odo:=by
  rcases ho with rfl | ⟨d,us,rfl,hd⟩
  .exact⟨ob,none,g1,g2,nc,by rw[g3];trivial⟩
  .obtain⟨od,e'⟩:=(I.hok d _ hd).there;exact⟨ob,some od,g1,g2,nc,by rw[g3];exact e'⟩
 exact PySem.W.kia_one (zji Z) I.kIn hI e (λz=>nomatch z) λtk=>⟨.bl b,H,I.tok tk,rfl,q⟩
end
end L2
namespace FT
open PySem PySem.Spec PyProof.Rows L2
noncomputable def isX(g:Addr->Option Bool)(t:T)(M:Mem):Out T:=match t with
 |.exc C _=>match g C with
  |some b=>.ok (.bl b) M|none=>.bad
 |_=>.bad
section
theorem zm9(pe:PE X (.Name y p2) (tC v))(hv:∀u,RelV v u->u=c)(hS:∀C b,g C=some b->XiAt X.K C/\PySem.W.kitOne X.K (.ref C) c=some b)(hg:Gl X "isinstance")(hm:X.mg "isinstance" = none)(hb:bootBuiltins "isinstance" = some (.builtin "isinstance"))
  (h:GE X XE e f) (he:starEach [e,.Name y p2] X.env=(false,eval e X.env)::starEach [.Name y p2] X.env:=by rfl):GE X XE (.Call (.Name "isinstance" p) [e,.Name y p2] [] pos) (eUn (isX g) f):=PE.imp (zfB zoI hg hm hb (zb1 h (zb1 pe zgp) he) ∅ ∅ he) λJ H Q hh=>
 LN.mono (LN.bind (f:=λ_ J M=>f J M) (k:=λ_ x J M1=>isX g x M1) (RB:=Rep X.K) hh) λvv H1 h9=>by
  obtain⟨S,Jτ,a,e,m,ev,ra,Y⟩:=h9;obtain⟨u,t⟩:=a;have r:Rep X.K S t vv:=ra.2;replace Y:Fin XE (Rep X.K) X.K S (isX g t S.M) Q:=Y;cases r with
  |@exc D fs us p od h hd l rr=>
   unfold isX at Y;dsimp only at Y;rw?
   .rename_i b hb;subst e;obtain⟨z1,z2⟩:=hS D b hb;exact⟨p,D,od,v,c,b,rfl,h,hd.imp (λz=>z.1) (λ⟨d,a,b⟩=>⟨d,us,a,b⟩),z1,hv,z2,Y S _ rfl (.refl m) (.bl _)⟩
   .simp?
  |_=>exact Y.elim
end
noncomputable def yE(ks:List Addr)(k C:Addr):Option Bool:=if ks.contains C=true then some (C==k)else none
noncomputable def zfy(ks:List Addr)(C:Addr):Option Bool:=if ks.contains C=true then some true else none
structure IsAt (K:Frag) (mg:Str->Option Value) (y:Str) (g:Addr->Option Bool):Prop where
 ex:∃(v:V) (c:Value),RelV v c/\(mg y=some c\/(mg y=none/\bootBuiltins y=some c))/\(∀u,RelV v u->u=c)/\∀C b,g C=some b->XiAt K C/\PySem.W.kitOne K (.ref C) c=some b
section
variable   {p pos p2:Pos}   
end
structure XmAt (K:Frag) (D W:Addr):Prop where
 ga:PySem.W.findIn K (.ref D) "__getattribute__" = some (some (.builtin "BaseException.__getattribute__"))
 gt:PySem.W.findIn K (.ref D) "__getattr__" = some none
 a:PySem.W.findIn K (.ref D) "__class__" = some (some (.builtin "object.__class__"))
 n:PySem.W.specialIn K (.builtin "object.__class__") "__get__" = some (some (.builtin "getset_descriptor.__get__"))
 t:PySem.W.takesIn K (.builtin "object.__class__")=some true
 mro:(PySem.W.clsIn K D).map (·.mro)=some (.ref D :: .ref W::y4)
 ty:PySem.W.typeIn K (.ref D)=some (.type "type")
section
variable {K:Frag}    
theorem XmAt.in(x:XmAt K D W)(base:Value):PySem.W.mroIn K D base=some ((Value.ref D :: .ref W::y4).contains base):=by obtain⟨cd,h,e⟩:=Option.map_eq_some_iff.mp x.mro;unfold PySem.W.mroIn;rw[h,Option.bind_some,e];rfl
theorem XmAt.cls(x:XmAt K D W):(PySem.W.clsIn K D).isSome=true:=by obtain⟨cd,h,e⟩:=Option.map_eq_some_iff.mp x.mro;rw[h];rfl
theorem za9(a b:Value)(l:List Value):(b::l).contains a=(a==b || l.contains a):=contains_cons
theorem XmAt.xi(x:XmAt K D W):XiAt K D:=⟨x.ga,x.gt,x.cls,x.a,x.n,x.t,by rw[x.in,za9,za9,show y4.contains (.type "object")=true by decide +kernel,Bool.or_true,Bool.or_true],by rw[x.in,za9,za9,show y4.contains (.type "BaseException")=true by decide +kernel,Bool.or_true,Bool.or_true]⟩
theorem no_ref(Yq:Addr):y4.contains (.ref Yq)=false:=by refine Bool.eq_false_iff.mpr λh=>?_;have h:=contains_iff_mem.mp h;unfold y4 at h;simp at h
theorem zok(x:XmAt K C W)(z:XmAt K Yq W)(ne:Yq ≠ W):PySem.W.kitOne K (.ref C) (.ref Yq)=some (C==Yq):=by
 unfold PySem.W.kitOne
 by_cases h:C=Yq
 .subst h;rw[QA (by simp)];simp
 .rw[QB (by simpa using h)];unfold PySem.W.kitCls;dsimp only;rw[QA (by rw[z.cls,z.ty];rfl)];show PySem.W.mroIn K C (.ref Yq)=_;rw[x.in,za9,za9,no_ref,show(Value.ref Yq==Value.ref C)=false by simpa using λq=>h q.symm,show(Value.ref Yq==Value.ref W)=false by simpa using ne,show(C==Yq)=false by simpa using h];rfl
theorem zr0(x:XmAt K C W):PySem.W.kitOne K (.ref C) (.type "ValueError")=some true:=by unfold PySem.W.kitOne;rw[QB (by simp)];unfold PySem.W.kitCls;dsimp only;rw[QA (by decide +kernel)];show PySem.W.mroIn K C (.type "ValueError")=_;rw[x.in,za9,za9,show y4.contains (.type "ValueError")=true by decide +kernel,Bool.or_true,Bool.or_true]
theorem zmY(b:mg y=some (.ref Yq))(xs:∀C ∈ ks,XmAt K C W)(hY:Yq ∈ ks)(ne:Yq ≠ W):IsAt K mg y (yE ks Yq):=⟨.ref Yq,.ref Yq,rfl,.inl b,λu r=>r,λC v e=>by
 unfold yE at e;split at e
 .rename_i hc;cases e;have x:=xs C (contains_iff_mem.mp hc);exact⟨x.xi,zok x (xs Yq hY) ne⟩
 .cases e⟩
theorem zp8(b:mg "ValueError" = none)(xs:∀C ∈ ks,XmAt K C W):IsAt K mg "ValueError" (zfy ks):=⟨.ty "ValueError",.type "ValueError",rfl,.inr ⟨b,by decide +kernel⟩,λu r=>r,λC v e=>by
 unfold zfy at e;split at e
 .rename_i hc;cases e;have x:=xs C (contains_iff_mem.mp hc);exact⟨x.xi,zr0 x⟩
 .cases e⟩
theorem zs4(a:PySem.W.nsIn K mainGlobals x=some (some (.ref D)))(b:PySem.W.nsIn K mainGlobals w=some (some (.ref W)))
  (l:K.lookup D=some (excClassObj nm q D N bs (.ref W::y4) hdct sn sub ab col dd k0 k1 k2 k3 k5 "ValueError.__new__"))
  (ga:PySem.W.findIn K (.ref D) "__getattribute__" = some (some (.builtin "BaseException.__getattribute__"))) (gt:PySem.W.findIn K (.ref D) "__getattr__" = some none) (c:PySem.W.findIn K (.ref D) "__class__" = some (some (.builtin "object.__class__")))
  (n:PySem.W.specialIn K (.builtin "object.__class__") "__get__" = some (some (.builtin "getset_descriptor.__get__"))) (t:PySem.W.takesIn K (.builtin "object.__class__")=some true):XmAt K (qi K x) (qi K w):=by
 rw[zaf a,zaf b];refine⟨ga,gt,c,n,t,?_,?_⟩
 .unfold PySem.W.clsIn;rw[l];rfl
 .show(K.lookup D).map (·.cls)=_;rw[l];rfl
theorem zs7(X:K.In h)(G:h.Ns mainGlobals mg){w:Str}{d2:Option Addr}{cdw:ClassData}{s2:Array (Option Value)}(b:PySem.W.nsIn K mainGlobals w=some (some (.ref W)))(l:K.lookup W=some ⟨.type "type",d2,.cls cdw,s2⟩) :
  mg w=some (.ref (qi K w))/\(PySem.W.clsIn K (qi K w)).isSome=true/\PySem.W.typeIn K (.ref (qi K w))=some (.type "type"):=by
 rw[zaf b];refine⟨PySem.W.mg_of X G b,?_,?_⟩
 .unfold PySem.W.clsIn;rw[l];rfl
 .show(K.lookup W).map (·.cls)=_;rw[l];rfl
end
section
variable   {p pos p2:Pos}   
theorem zkr(O:IsAt X.K X.mg y g)(hy:Gl X y)(hg:Gl X "isinstance")(hm:X.mg "isinstance" = none)(hb:bootBuiltins "isinstance" = some (.builtin "isinstance"))(h:WE X XE e f)(hn:y ≠ "__name__":=by decide)(hd:(y==("__debug__":Str))=false:=by decide)(he:starEach [e,.Name y p2] X.env=(false,eval e X.env)::starEach [.Name y p2] X.env:=by rfl):WE X XE (.Call (.Name "isinstance" p) [e,.Name y p2] [] pos) (eUn (isX g) f):=by
 have h:=h.pe;refine⟨?_⟩;obtain⟨v,c,r,m,u,t⟩:=O.ex;rcases m with m | ⟨m,m2⟩
 .exact zm9 (zeO hy m r hd) u t hg hm hb h he
 .exact zm9 (zkM hy m m2 r hn hd) u t hg hm hb h he
end
end FT
namespace L2
open PySem PySem.Spec PyProof.Rows
noncomputable def zuM(a:List Str)(x:Str):List Str:=if x ∈ a then a else a++[x]
def met(ss:List Str):List Str:=ss.foldl zuM []
section
theorem ztu(hc:∀E',PT (X.wish E') c tc)(h1':PX X b1 t1)(h2':PX X b2 t2):PX X [.If c b1 b2 pos] (λE=>zqY tc (t1 E) (t2 E)):=by
 intro E ρ s J H D I h;refine wpAny_execs_cons (Qg (Q:=SP X ρ D) (wpAny_If (thn (hc (λev s'=>∃H1 s1,Inv X ρ J H1 s1/\CXX X.prog X.w X.stack H1 s1 E ev s') ρ s J H _ (I.wish _) h) λd s1 h9=>?_)) (λfl s1 q=>?_) λ_ _ z=>z);obtain⟨H1,I1,q1⟩:=h9
 .cases d with
  |true=>rw[QA rfl];exact h1' E ρ s1 J H1 D I1.unwish q1
  |false=>rw[QB Q4];exact h2' E ρ s1 J H1 D I1.unwish q1
 .cases fl with|next=>exact wpAny_execs_nil q|brk=>exact q|cont=>exact q|ret u=>exact q
end
set_option maxRecDepth 100000 in
theorem zmP(l:Addr)(items:Array Value)(n:Nat)(x:Int)(u:Tok)(dd:Option Addr)(sl:Array (Option Value))(h1:¬(!Builtin.List.listFitsIndex x)=true)(h2:¬items.size*x.toNat > (2 ^ 63-1) / 8)(h3:¬Builtin.List.listTooLong (items.size*x.toNat)=true)
  (h4:¬(List.foldl (λx1 x2=>x1++x2) #[] (List.replicate (if items.isEmpty=true then 0 else x.toNat) items)).size > sizeLine) :
  Meets (Builtin.«list.__mul__» ⟨[.ref l,.int x u],[]⟩) λ_ R s=>s.heap.get? l=some ⟨.type "list",dd,.seq items n,sl⟩ /\
   R (.ok (.ret (.ref s.heap.objs.size))) { s with heap:=s.heap.push { cls:=.type "list",data:=.seq (List.foldl (λx1 x2=>x1++x2) #[] (List.replicate (if items.isEmpty=true then 0 else x.toNat) items)) } }:=by
 rintro prog w A R s ⟨e,q⟩;unfold Builtin.«list.__mul__»
 wp_delta
 obtain⟨h,g,d,t,os⟩:=s
 repeat (any_goals (first | assumption | wp_step))
 rw[QB h4]
 repeat (any_goals (first | assumption | wp_step))
set_option maxRecDepth 100000 in
theorem ztp(a:Int)(t:Tok)(l:Addr)(items:Array Value)(n:Nat)(dd:Option Addr)(sl:Array (Option Value)):
  Meets (Builtin.«int.__rmul__» ⟨[.int a t,.ref l],[]⟩) λ_ R s=>s.heap.get? l=some ⟨.type "list",dd,.seq items n,sl⟩/\R (.ok (.ret .notImplemented)) s:=by
 rintro prog w A R s ⟨e,q⟩;unfold Builtin.«int.__rmul__»;obtain⟨h,g,d,t,os⟩:=s
 repeat (any_goals (first | assumption | wp_step))
theorem zpH:OpR X (binaryOp .Mult) (λx y H Q=>∃l k xs,x = .ref l/\y = .int k/\SqL X.K H l xs/\-(2 ^ 63)<=k/\k<2 ^ 63/\xs.length*k.toNat<=sizeLine/\∀p,H p=none->Q (.ref p) (upd H p (.lst (List.replicate k.toNat xs).flatten))):=by
 infer_instance
 obtain⟨l,k,xs,rfl,rfl,hH,h1,h2,hz,q⟩:=h;cases rx;obtain⟨t,rfl⟩:=ry;obtain⟨its,r,pl,z⟩:=I.list hH;have hl:=r.length;obtain⟨⟨cls,dd,data,sl⟩,n,e,hc,hdi,hd⟩:=pl;simp only at hc hd;subst hc hd;have hlen:its.toArray.size*k.toNat<=sizeLine:=by rw[Qi,←hl];exact hz
 have hcap:¬its.toArray.size*k.toNat > (2 ^ 63-1) / 8:=by
  have:(sizeLine:Nat)<=(2 ^ 63-1) / 8:=by decide
  symm
 have hfit:¬(!Builtin.List.listFitsIndex k)=true:=by rw[fitsIndex_both h1 h2];exact Q4
 have hlong:¬Builtin.List.listTooLong (its.toArray.size*k.toNat)=true:=by rw[zi9 hlen];exact Q4
 have hnew:List.foldl (λx1 x2=>x1++x2) #[] (List.replicate (if its.toArray.isEmpty=true then 0 else k.toNat) its.toArray)=(List.replicate k.toNat its).flatten.toArray:=by
  have f0:∀m:Nat,List.foldl (λx1 x2=>x1++x2) #[] (List.replicate m its.toArray)=(List.replicate m its).flatten.toArray:=λm=>by have:=foldl_rep its m [];rw[nil_append]at this;exact this
  rw[f0];cases its with|nil=>simp|cons a r'=>rw[QB (by simp)]
 have hbig:¬(List.foldl (λx1 x2=>x1++x2) #[] (List.replicate (if its.toArray.isEmpty=true then 0 else k.toNat) its.toArray)).size > sizeLine:=by rw[hnew,Qi,len_rep,Nat.mul_comm];rw[Qi]at hlen;symm
 refine wpAny_binaryOp_repeat_ref (T:="list") (U:="int") ∅ ⟨_,e,rfl⟩ (λs'=>typeIs_int s' k t) noFill_list_mul F.fills_int_mul F.slot_int_rmul repeat_list F.slot_int_index.lookup
  (call_meets F.slot_int_rmul (typeIs_int s k t) F.entry_int_rmul (F.args_int_rmul_2 _ _) (ztp k t l its.toArray n dd sl)
   ⟨e,rfl,⟨_,e,rfl⟩,call_meets F.slot_list_mul ⟨_,e,rfl⟩ F.entry_list_mul (F.args_list_mul_2 _ _) (zmP l its.toArray n k t dd sl hfit hcap hlong hbig) ⟨e,?_⟩⟩)
 rw[hnew];exact⟨.ref _,_,I.lnew (t':=s.toks) (r.rep k.toNat) (by rw[len_rep,Nat.mul_comm];exact hz),rfl,q _ I.fresh⟩
end L2
namespace FT
open PySem PySem.Spec PyProof.Rows L2
def zg0:T->T->Mem->Out (List T):=λx y M=>match zy x M,y with
 |some xs,.int k=>if 0<=k/\k<=8/\xs.length<=1000 then .ok (List.replicate k.toNat xs).flatten M else .bad|_,_=>.bad
theorem zpI:OpR X (binaryOp .Mult) (zlR XE X.K zg0):=by
 injections
 subst e;replace Y:FinL XE X.K S (zg0 tx ty S.M) Q:=Y;unfold zg0 at Y;rw?
 .rename_i xs k q1;rw?
  .rename_i hz;obtain⟨p,vs,e1,h1,s1⟩:=yD m r1 q1;dsimp only at e1;subst e1;cases r2;refine zpH ρ s J S.H _ _ v u Q I rx ry ⟨p,k,vs,rfl,rfl,h1,⋯,⋯,?_,zjd m Y (s1.rep _)⟩;rw[←s1.1,sizeLine_eq];exact Qj (Nat.mul_le_mul hz.2.2 (show k.toNat<=8 by symm)) ∅
  .simp?
 .simp?
section
noncomputable def qV(g1 g2:Addr->Option Bool)(C:Addr):Option Bool:=match g1 C,g2 C with
 |some a,some b=>some (a || b)
 |_,_=>none
end
section
theorem ziE(hc:∀E1 XE,WT (X.wish E1) XE c tf)(h1:WX X b1 g1)(h2:WX X b2 g2):WX X [.If c b1 b2 pos] (sIf tf g1 g2):=by have hc:=λE1 XE=>(hc E1 XE).pe;have h1:=h1.pe;have h2:=h2.pe;refine⟨?_⟩;intro E;have hp:=ztu (X:=X) (c:=c) (tc:=lT E X.K tf) (pos:=pos) (λE'=>hc E' E) h1 h2;intro ρ s J H D I q;refine hp E ρ s J H D I ?_;refine LN.mono (LN.bind (f:=λ_ J M=>tf J M) (k:=λ_ c J M1=>if c=true then g1 J M1 else g2 J M1) (RB:=EqR) q) λc H1 h2=>?_;obtain⟨S,Jτ,a,e,m,ev,ra,Y⟩:=h2;have:a.2=c:=ra.2;subst this;replace Y:Fin E (FlR X.K) X.K S (if a.2=true then g1 Jτ S.M else g2 Jτ S.M) (zJ D):=Y;cases q:a.2 with|true=>exact(QA rfl).mpr ⟨S,Jτ,(),e,m,ev,trivial,by rw[q]at Y;exact Y⟩|false=>exact(QB Q4).mpr ⟨S,Jτ,(),e,m,ev,trivial,by rw[q]at Y;exact Y⟩
end
end FT
namespace L2
open PySem PySem.Spec PyProof.Rows
abbrev KJ(Jq:Addr->List Key->Prop)(H:Hp):List (List Key × V)->List (List Key × Addr × Value)->Prop:=Paired λp q=>p.1=q.1/\(H q.2.1=some (.tup (p.1.map kV))\/Jq q.2.1 p.1)/\RelV p.2 q.2.2
section
theorem KJ.val(r:KJ Jq H kvs xs)(k:List Key):RelO (zau kvs k) ((atKey xs k).map (·.2)):=by
 induction r with
 |nil=>exact True.intro|@cons p q ps qs h t ih=>
  obtain⟨h1,_,h2⟩:=h
  by_cases e:p.1=k
  .have e':q.1=k:=h1.symm.trans e;have b:atKey (q::qs) k=some q.2:=by simp[atKey,find?_cons,e']
   rw[zdI e,b];exact h2
  .have e':¬q.1=k:=λz=>e (h1.trans z);have b:atKey (q::qs) k=atKey qs k:=by simp[atKey,find?_cons,e']
   rw[zdJ e,b];exact ih
theorem KJ.repl(r:KJ Jq H kvs xs)(k:List Key){y:V}{u:Value}(ry:RelV y u):KJ Jq H (kvs.map λkv=>if kv.1=k then(kv.1,y)else kv) (xs.map (putAt k u)):=by
 induction r with
 |nil=>exact .nil|@cons p q ps qs h t ih=>
  rw[QG,QG];refine .cons ?_ ih;obtain⟨h1,h2,h3⟩:=h;unfold putAt
  by_cases e:p.1=k
  .rw[QA e,QA (h1.symm.trans e)];exact⟨h1,h2,ry⟩
  .rw[QB e,QB (λz=>e (h1.trans z))];exact⟨h1,h2,h3⟩
theorem KJ.put(r:KJ Jq H kvs xs)(k:List Key){b:Addr}{y:V}{u:Value}(hb:H b=some (.tup (k.map kV))\/Jq b k)(ry:RelV y u):KJ Jq H (putK kvs k y) (storedH xs k b u):=by
 have e:(kvs.any λkv=>decide (kv.1=k))=(atKey xs k).isSome:=by rw[zfv,(r.val k).isSome_eq,Option.isSome_map]
 unfold putK storedH;rw[e]
 by_cases q:(atKey xs k).isSome=true
 .rw[QA q,QA q];exact r.repl k ry
 .rw[QB q,QB q];exact Paired.snoc r ⟨rfl,hb,ry⟩
end
section
variable   {J:L2.St}   {a b:Addr}    
abbrev JK(K:Frag):Addr->List Key->Prop:=λb ks=>KTp K b (ks.map kV)
theorem zjj(I:Inv X ρ J H s)(e:SqT X.K H b (k.map kV)):(tupleKind (zR X.prog X.w)).is s.heap k b:=by obtain⟨its,r,⟨o,h1,h2,n,h3⟩,_⟩:=I.tuple e;exact⟨o,its.toArray,n,h1,h2,h3,by simpa using zer r⟩
theorem zo4(I:Inv X ρ J H s)(e:H a=some (.dJ (JK X.K) kvs)):kvs.length<=sizeLine/\(a==sysModules)=false/\∃xs,KJ (JK X.K) H kvs xs/\s.heap.DictOfH (tupleKind (zR X.prog X.w)) a xs:=by
 obtain⟨z,y,xs,r,o,es,ep,h1,h2,h3,h4,h5⟩:=I.hok a _ e;refine⟨z,y,xs,r,o,es,ep,h1,h2,h3,h4,λx hx=>?_,h5⟩;clear h4 h5 e z
 induction r with
 |nil=>exact nomatch hx|@cons p q ps qs hq t ih=>
  rcases QC.mp hx with e | hx
  .subst e;exact zjj I (by rw[←hq.1];exact hq.2.1)
  .exact ih hx
theorem zp5(hu:A.units+1<cLine)(I:Inv X ρ J H s)(e:H a=some (.dJ (JK X.K) kvs))(eb:SqT X.K H b (k.map kV))(h:∀s',Inv X ρ J H s'->Q (.bool (!(zau kvs k).isSome)) s'):wpAny .(1) A (compareOp .NotIn (.ref b) (.ref a)) Q E s:=by obtain⟨z,hd,xs,rel,dd⟩:=zo4 I e;refine wpAny_notIn_heap (tupleKind_room_in1 hu) (zjj I eb) hd dd ?_;have q:=(rel.val k).isSome_eq;rw[Option.isSome_map]at q;rw[←q];exact h _ (I.tok _)
theorem zmU(hu:A.units+1<cLine)(I:Inv X ρ J H s)(e:H a=some (.dJ (JK X.K) kvs))(eb:SqT X.K H b (k.map kV))(l:kvs.length<sizeLine)(rv:RelV v r)(h:∀s',Inv X ρ J (upd H a (.dJ (JK X.K) (putK kvs k v))) s'->Q () s'):wpAny .(1) A (setItem (.ref a) (.ref b) r) Q E s:=by
 obtain⟨z,hd,xs,rel,dd⟩:=zo4 I e;have hz:xs.length<=sizeLine:=by rw[←Paired.length rel];exact z
 have hl:(putK kvs k v).length<=sizeLine:=by have:=zdn kvs k v;symm
 refine wpAny_setItem_heap (hsz:=hz) (tupleKind_room_in1 hu) (zjj I eb) dd λh' dd' hs=>h _ ?_;obtain⟨q,es,ep,hq,h2,h3,h4,_,h5⟩:=dd';refine zhp I (by rw[e];exact True.intro) hs ⟨q,hq⟩ ⟨hl,hd,_,Paired.mapP (rel.put k eb rv) λp q z=>⟨z.1,z.2.1.imp (λec=>?_) λy=>y,z.2.2⟩,q,es,ep,hq,h2,h3,h4,h5⟩;rw[yk (zdP ec e (λz=>nomatch z))];exact ec
theorem zn5:PE X (.Dict [] [] pos) (λ_ H Q=>∀p,H p=none->Q (.ref p) (upd H p (.dJ (JK X.K) []))):=λρ s J H Q I h=>wpAny_Dict_empty ⟨.ref s.heap.objs.size,_,I.laid (a:=s.heap.objs.size) (o:=.dJ (JK X.K) []) (t':=s.toks) (λ_ _ q=>Q2 _ q) (Q3 _) ⟨Nat.zero_le _,beq_eq_false_iff_ne.mpr (Ne.symm (Qk I.big)),[],.nil,_,#[],0,Ql _ rfl,⟨rfl,rfl,rfl⟩,rfl,rfl,List.nodup_nil⟩,rfl,h _ (I.hok.fresh (Q3 _))⟩
end
end L2
namespace FT
open PySem PySem.Spec PyProof.Rows L2
def zlT:List T->Option (List Key)
 |[]=>some []|t::ts=>match zhc t,zlT ts with
  |some k,some ks=>some (k::ks)|_,_=>none
noncomputable def zix(t:T)(M:Mem):Option (List (List Key × T)):=match t with
 |.ref a=>match M[a]? with
  |some (.dtu kvs)=>some kvs|_=>none
 |_=>none
section
variable {K:Frag} 
theorem zjl:∀{ts:List T} {vs:List V} {ks:List Key},Reps K S ts vs->zlT ts=some ks->vs=ks.map kV
 |[],vs,ks,r,e=>by cases e;exact r.nilT|t::ts,vs,ks,r,e=>by
  unfold zlT at e;split at e
  .rename_i k ks' e1 e2;cases e;obtain⟨v,vs',rfl,r1,r2⟩:=r.consT;rw[zdQ r1 e1,zjl r2 e2];rfl
  .cases e
theorem znl(m:MemOk K S){t:T}{x:V}{kvs:List (List Key × T)}(r:Rep K S t x)(e:zix t S.M=some kvs):∃a us,t = .ref a/\S.M[a]?=some (.dtu kvs)/\x = .ref (S.α a)/\S.H (S.α a)=some (.dJ (JK K) us)/\RepK K S kvs us:=by
 unfold zix at e;split at e
 .split at e
  .rename_i a _ kvs' q;cases e;cases r;obtain⟨us,h1,h2⟩:=m.cell _ _ q;exact⟨a,us,rfl,q,rfl,h1,h2⟩
  .cases e
 .cases e
def zb5:T->Option (List Key)
 |.tup xs=>zlT xs|_=>none
theorem zjk(r:Rep K S t x)(e:zb5 t=some ks):∃p,x = .ref p/\SqT K S.H p (ks.map kV):=by cases r with|@tup ts p vs h l rr=>exact⟨p,rfl,by rw[←zjl ⟨l,rr⟩ e];exact h⟩|_=>cases e
end
section
def zen:X3:=λx y M=>match zix y M,zb5 x with
 |some kvs,some k=>.ok (.bl (!(qI kvs k).isSome)) M|_,_=>.bad
theorem zpK(hu:X.A.units+64<cLine):OpR X (compareOp .NotIn) (lR2 XE X.K zen):=by
 injections
 replace Y:Fin XE (Rep X.K) X.K S (zen tx ty S.M) Q:=Y;unfold zen at Y;rw?
 .subst e;rename_i kvs k q qk;obtain⟨a,us,_,_,e3,e4,rk⟩:=znl m r2 q;obtain⟨p,e5,sq⟩:=zjk r1 qk;dsimp only at e3 e5;subst e3 e5;cases (show u=Value.ref _ from ry);cases (show v=Value.ref p from rx);refine zp5 ⋯ I e4 sq λs' I'=>⟨.bl _,S.H,I',rfl,?_⟩;rw[rk.isSome k];exact Y S _ rfl (.refl m) (.bl _)
 .simp?
noncomputable def ziw:X9:=λ_ M=>.ok (.ref M.length) (M++[.dtu []])
def zgT(o i t:T)(M:Mem):Out Unit:=match o,zb5 i with
 |.ref a,some k=>match M[a]? with
  |some (.dtu kvs)=>if kvs.length<sizeLine then .ok () (M.set a (.dtu (zab kvs k t)))else .bad|_=>.bad
 |_,_=>.bad
theorem ztk(hu:X.A.units+64<cLine):zdw X (zfG XE X.K zgT):=by
 rintro ρ s J H o i v ov iv u Q I ro ri rv ⟨S,⟨⟨to,ti⟩,tv⟩,e,m,⟨⟨r1,r2⟩,r3⟩,Y⟩;replace Y:Fin XE UnR X.K S (zgT to ti tv S.M) (λ_ H'=>Q H'):=Y;unfold zgT at Y;rw?
 .split at Y
  .rename_i a k qk _ kvs q;rw?
   .rename_i hz;subst e;obtain⟨us,h4,rk⟩:=m.cell _ _ q;cases r1;cases (show ov=Value.ref (S.α a)from ro);obtain⟨p,e5,sq⟩:=zjk r2 qk;dsimp only at e5;subst e5;cases (show iv=Value.ref p from ri);refine zmU ⋯ I h4 sq (by rw[←rk.length];exact hz) rv λs' I'=>⟨_,I',?_⟩;have ha:a<S.M.length:=(Qz.mp q).1;exact Y (S.put a (.dJ (JK X.K) (putK us k v)) (.dtu (zab kvs k tv))) () rfl (Stp.put m ha _ _ ⟨_,qA,(rk.put k r3).grow m (Grow.put m ha _ _)⟩) trivial
   .simp?
  .simp?
 .simp?
end
section
theorem znL:WE X XE (.Dict [] [] pos) ziw:=⟨PE.imp zn5 λJ H Q ⟨S,Jτ,_,e,m,ev,_,Y⟩ p hp=>by
 subst e;have s1:Stp X.K S (S.more p (.dJ (JK X.K) []) (.dtu [])):=Stp.more m hp _ _ ⟨[],qA,.nil⟩;have r1:Rep X.K (S.more p (.dJ (JK X.K) []) (.dtu [])) (.ref S.M.length) (.ref p):=by
  have h0:S.M.length<(S.M++[Cell.dtu []]).length:=by simp
  have:=Rep.ref (K:=X.K) (S:=S.more p (.dJ (JK X.K) []) (.dtu [])) (a:=S.M.length) h0;have e1:(S.more p (.dJ (JK X.K) []) (.dtu [])).α S.M.length=p:=QA rfl;rw[e1]at this;exact this
 exact Y (S.more p (.dJ (JK X.K) []) (.dtu [])) (.ref p) rfl s1 r1⟩
end
end FT
namespace L2
open PySem PySem.Spec PyProof.Rows
section
theorem zfw(hh:A.handled=none)(hl:s.heap.IsList l items)(hQ:∀h':Heap,Heap.ExtBut s.heap.objs.size s.heap h'->Q items.toList { s with heap:=h' }):
  wpAny (model prog w) A (unpackItems (.ref l) items.size none) Q E s:=by
 have hT:s.TypeIs (.ref l) "list":=by obtain⟨o,ho,hc,_⟩:=hl;exact⟨o,ho,hc⟩
 have hlt:l<s.heap.objs.size:=by obtain⟨o,ho,_⟩:=hl;exact Qe ho
 unfold unpackItems;refine Q1 ?_;unfold notIterableAtAll;refine Q1 (wpAny_specialOf hT PySem.F.slot_list_iter.lookup (Qf ?_));simp only[Bool.false_eq_true,if_false];refine Q1 (wpAny_holding (wpAny_pyIter_list hl ?_));have hl1:(s.heap.push { cls:=Value.type "list_iterator",data:=Data.fields #[Value.ref l,Value.int 0 0] }).IsList l items:=by obtain⟨o,ho,r⟩:=hl;exact⟨o,Q2 _ ho,r⟩
 refine Q1 (wpAny_holding (W.kun_draw (it:=s.heap.objs.size) (l:=l) (items:=items) (Qk hlt) items.size 0 _ _ ⟨_,Ql _ rfl,rfl,rfl⟩ hl1 ⋯ λh1 i1 sb=>?_));have e1:List.take items.size (List.drop 0 items.toList)=items.toList:=by rw[drop_zero,take_of_length_le (by simp)]
 rw[e1];rw[QB (by simp)];have hl2:h1.IsList l items:=by obtain⟨o,ho,r⟩:=hl1;exact⟨o,by rw[sb.2 l (Qk hlt)];exact ho,r⟩
 rw[QL]at i1;refine Q1 (wpAny_holding (wpAny_pyNext_list_end hh i1 hl2 (by simp) λh2 x2=>?_));simp only[Option.isSome_none,Bool.false_eq_true,if_false];exact Qf (hQ h2 λb o hb e=>x2 b o hb (by rw[sb.2 b hb];exact Q2 _ e))
end
section
variable  {pos:Pos}
noncomputable def zlX(K:Frag)(n:Nat)(t:TGs):TG:=λv J H Q=>∃a xs,v = .ref a/\SqL K H a xs/\xs.length=n/\t xs J H Q
theorem zkK{k:Nat}(hc:X.calm=true)(h:PGs X es t)
  (hn:(assignEach es X.env).length=n:=by rfl) (hst:(assignEach es X.env).findIdx? (·.1)=none:=by rfl):PG X (.Tuple es k pos) (zlX X.K n t):=by
 intro ρ s J H v u Q I r hw;obtain⟨a,xs,e1,hq,hl,hw⟩:=hw;subst e1;cases r;obtain⟨its,rv,ht,hz⟩:=I.list hq;rw[assign_Tuple];refine Q1 (wpAny_standAt ?_);unfold unpack;rw[hst,show(assignEach es X.env).length=its.toArray.size by rw[hn,←hl,rv.length,Qi]];refine Q1 (wpAny_holding (zfw (I.ok.hd hc) ht.isList λh' hx=>?_));have I1:Inv X ρ J H { s with heap:=h' }:=I.kept (t':=s.toks) λb o e=>hx b o (Qk (Qe e)) e;exact h ρ _ J H xs _ Q I1 (by simpa using rv) hw
end
end L2
namespace FT
open PySem PySem.Spec PyProof.Rows L2
def zd2(n:Nat)(bs:List T->X8):T->X8:=λt J M=>match zy t M with
 |some xs=>if xs.length=n then bs xs J M else .bad|none=>.bad
section
end
section
theorem ziJ(h:PG X tg (zlX X.K n (lGs XE X.K bs))):WG X XE tg (zd2 n bs):=⟨PG.imp h λv J H Q h9=>by
 obtain⟨S,Jτ,t,e,m,ev,ra,Y⟩:=h9;replace Y:Fin XE (EvR X.K) X.K S (match zy t S.M with
  |some xs=>if xs.length=n then bs xs Jτ S.M else .bad
  | none=>.bad) Q:=Y
 cases q:zy t S.M with
 |none=>rw[q]at Y;exact Y.elim|some ts=>
  rw[q]at Y;obtain⟨p,vs,rfl,h1,rs⟩:=yD m ra q;dsimp only at Y
  by_cases hn:ts.length=n
  .rw[QA hn]at Y;exact⟨p,vs,rfl,by rw[←e];exact h1,by rw[←rs.1];exact hn,S,Jτ,ts,e,m,ev,rs,Y⟩
  .rw[QB hn]at Y;exact Y.elim⟩
end
end FT
namespace L2
open PySem PySem.Spec PyProof.Rows
section
theorem znx:yV X (.builtin "isinstance") (λxs H Q=>∃p D od tp vs cs b,xs=[.ref p,.ref tp]/\H p=some (.ext (ExO p D od))/\(od=none\/∃d us,od=some d/\H d=some (.xd us))/\XiAt X.K D/\H tp=some (.tup vs)/\(∀us,Vals vs us->us=cs)/\PySem.W.kitAny X.K (.ref D) cs=some b/\Q (.bl b) H):=by
 intro ρ s J H xs us Q I r h;obtain⟨p,D,od,tp,vs,cs,b,rfl,hp,ho,Z,ht,hv,e,q⟩:=h;obtain⟨u,w',rfl,r1,r2⟩:=vals2 r;obtain rfl:u=Value.ref p:=r1;obtain rfl:w'=Value.ref tp:=r2;obtain⟨⟨ob,g1,g2,g3,g4⟩,_,_⟩:=I.hok p _ hp;have nc:PySem.W.notCls ob=true:=by
  unfold PySem.W.notCls;split
  .rename_i cd z;exact absurd z (g4 cd)
  .rfl
 have hI:∃ox odo,PySem.W.InstAt s.heap p ox D odo:=by
  rcases ho with rfl | ⟨d,us,rfl,hd⟩
  .exact⟨ob,none,g1,g2,nc,by rw[g3];trivial⟩
  .obtain⟨od,e'⟩:=(I.hok d _ hd).there;exact⟨ob,some od,g1,g2,nc,by rw[g3];exact e'⟩
 obtain⟨_,its,rv,⟨o,h1,h2,n,h3⟩,_⟩:=I.hok tp _ ht;obtain rfl:=hv _ rv;obtain⟨oc,odi,oda,osl⟩:=o;have h2:oc=Value.type "tuple":=h2;have h3:oda=Data.seq _ n:=h3;subst h2 h3;exact PySem.W.kia_tup (zji Z) I.kIn hI h1 e (λz=>nomatch z) λtk=>⟨.bl b,H,I.tok tk,rfl,q⟩
end
end L2
namespace FT
open PySem PySem.Spec PyProof.Rows L2
structure IsTu (X:Cx) (es:List Expr) (g:Addr->Option Bool):Prop where
 ex:∃(vs:List V) (cs:List Value) (t:TA),PA X es t/\(∀J H (Q:List V->Hp->Prop),Q vs H->t J H Q)/\vs.length<=es.length/\(∀us,Vals vs us->us=cs)/\∀C b,g C=some b->XiAt X.K C/\PySem.W.kitAny X.K (.ref C) cs=some b
section
variable      {p:Pos}
theorem zjo(O:IsAt X.K X.mg y g)(hy:Gl X y)(m:bootBuiltins y=none:=by decide +kernel)(hd:(y==("__debug__":Str))=false:=by decide):IsTu X [.Name y p] g:=by
 obtain⟨v,c,r,n,u,t⟩:=O.ex;have n:X.mg y=some c:=n.resolve_right λz=>by rw[m]at z;cases z.2
 refine⟨[v],[c],_,zb1 (zeO hy n r hd) zgp,λJ H Q h=>h,Q3 _,λws rw'=>?_,λC b e=>?_⟩
 .cases rw' with|cons r1 r2=>cases r2;rw[u _ r1]
 .obtain⟨z,e1⟩:=t C b e;refine⟨z,?_⟩;unfold PySem.W.kitAny;rw[e1];cases b<;>rfl
theorem yW(O:IsAt X.K X.mg y g)(hy:Gl X y)(W:IsTu X es g')(m:bootBuiltins y=none:=by decide +kernel)(hd:(y==("__debug__":Str))=false:=by decide):IsTu X (.Name y p::es) (qV g g'):=by
 obtain⟨v,c,r,n,u,t⟩:=O.ex;have n:X.mg y=some c:=n.resolve_right λz=>by rw[m]at z;cases z.2
 obtain⟨vs,cs,ta,pa,q,l,us,k⟩:=W.ex;refine⟨v::vs,c::cs,_,zb1 (zeO hy n r hd) pa,λJ H Q h=>q J H _ h,Nat.succ_le_succ l,λws rw'=>?_,λC b e=>?_⟩
 .cases rw' with|cons r1 r2=>rw[u _ r1,us _ r2]
 .unfold qV at e;split at e
  .rename_i a1 a2 e1 e2;cases e;obtain⟨z,k1⟩:=t C a1 e1;obtain⟨_,k2⟩:=k C a2 e2;refine⟨z,?_⟩;unfold PySem.W.kitAny;rw[k1];cases a1 with|true=>rfl|false=>exact k2
  .cases e
theorem zkq{pos p3:Pos}{x1:Nat}(W:IsTu X es g)(hg:Gl X "isinstance")(hm:X.mg "isinstance" = none)(hb:bootBuiltins "isinstance" = some (.builtin "isinstance"))
  (h:WE X XE e f) (hl:es.length<=1000:=by decide) (he:starEach [e,.Tuple es x1 p3] X.env=(false,eval e X.env)::starEach [.Tuple es x1 p3] X.env:=by rfl) :
  WE X XE (.Call (.Name "isinstance" p) [e,.Tuple es x1 p3] [] pos) (eUn (isX g) f):=by
 obtain⟨vs,cs,ta,pa,qt,l,us,k⟩:=W.ex;refine⟨PE.imp (zfB znx hg hm hb (zb1 h.pe (zb1 (zmD pa) zgp) he) ∅ ∅ he) λJ H Q hh=>LN.mono (LN.bind (f:=λ_ J M=>f J M) (k:=λ_ x J M1=>isX g x M1) (RB:=Rep X.K) hh) λvv H1 ⟨S,Jτ,a,e,m,ev,ra,Y⟩=>?_⟩
 obtain⟨u,t⟩:=a;have r:Rep X.K S t vv:=ra.2;replace Y:Fin XE (Rep X.K) X.K S (isX g t S.M) Q:=Y;cases r with
 |@exc D fs ws p od h hd l' rr=>
  unfold isX at Y;dsimp only at Y;rw?
  .rename_i b hb;subst e;obtain⟨z1,k1⟩:=k D b hb;refine qt _ _ _ ⟨by rw[sizeLine_eq];symm,λq hq=>?_⟩;have s1:=Stp.new m hq (.tup vs);have nq:∀{b o},S.H b=some o->upd S.H q (.tup vs) b=some o:=λe=>(yk (zF e hq)).trans e;exact⟨p,D,od,q,vs,cs,b,rfl,nq h,hd.imp (λz=>z.1) (λ⟨d,a,b⟩=>⟨d,ws,a,nq b⟩),z1,qA,us,k1,Y ⟨S.α,S.M,upd S.H q (.tup vs),S.hid⟩ _ rfl s1 (.bl _)⟩
  .simp?
 |_=>exact Y.elim
end
section
variable {K:Frag}            
theorem zqQ(X:K.In h)(G:h.Ns mainGlobals mg)(a:PySem.W.nsIn K mainGlobals x=some (some (.ref D)))(b:PySem.W.nsIn K mainGlobals w=some (some (.ref W)))
  (l:K.lookup D=some (excClassObj nm q D N bs (.ref W::y4) hdct sn sub ab col dd k0 k1 k2 k3 k5 "ValueError.__new__"))
  (ga:PySem.W.findIn K (.ref D) "__getattribute__" = some (some (.builtin "BaseException.__getattribute__"))) (gt:PySem.W.findIn K (.ref D) "__getattr__" = some none) (c:PySem.W.findIn K (.ref D) "__class__" = some (some (.builtin "object.__class__")))
  (n:PySem.W.specialIn K (.builtin "object.__class__") "__get__" = some (some (.builtin "getset_descriptor.__get__"))) (t:PySem.W.takesIn K (.builtin "object.__class__")=some true):mg x=some (.ref (qi K x))/\XmAt K (qi K x) (qi K w)/\qi K x=D:=by
 refine⟨?_,zs4 a b l ga gt c n t,zaf a⟩;rw[zaf a];exact PySem.W.mg_of X G a
def zQ(b:mg y=some (.ref Yq))(xs:∀C ∈ ks,XmAt K C W)(nw:W ∉ ks)(hY:Yq ∈ ks):IsAt K mg y (yE ks Yq):=zmY b xs hY λz=>nw (z ▸ hY)
theorem zq1(X:K.In h)(G:h.Ns mainGlobals mg)(a:PySem.W.nsIn K mainGlobals x=some (some (.ref D)))(b:PySem.W.nsIn K mainGlobals w=some (some (.ref W)))
  (l:K.lookup D=some (excClassObj nm q D N bs (.ref W::y4) hdct sn sub ab col dd k0 k1 k2 k3 k5 "ValueError.__new__"))
  (lw:K.lookup W=some (excClassObj nm' q' W N' bs' y4 hdct' sn' sub' ab' col' dd' j0 j1 j2 j3 j5 "ValueError.__new__")):∃C,Sup K mg w C (qi K x):=by
 rw[zaf a];exact⟨W,PySem.W.mg_of X G b,λh' X'=>⟨⟨_,_,_,_,_,_,_,_,_,_,_,_,_,_,_,_,X' _ _ lw,by decide +kernel⟩,_,_,_,_,_,_,_,_,_,_,_,_,_,_,_,_,X' _ _ l,by simp⟩⟩
end
noncomputable abbrev Cn{β γ:Type}(_:β->Mem->Out γ):Type:=Out γ
def bK(k:β->Mem->Out γ)(o:Out β):Cn k:=o.bind k
def blK(k:Bool->Mem->Out γ)(t:T)(M:Mem):Cn k:=blT t M k
section
variable  {k:β->Mem->Out γ}  {g:Bool->Mem->Out β}
def toK:o.bind k=bK k o:=rfl
def toB:blT t M g=blK g t M:=rfl
def zwg:bK k (.ok b M)=k b M:=rfl
def zwa:bK k .bad = .bad:=rfl
theorem zwb{o:Out α}:bK k (bK f o)=bK (λa M=>bK k (f a M)) o:=by cases o<;>rfl
theorem zv8[Decidable p]:bK k (if p then x else y)=if p then bK k x else bK k y:=by split<;>rfl
def zv7:blK g (.bl b) M=g b M:=rfl
theorem zv9:bK k (blK g t M)=blK (λb M=>bK k (g b M)) t M:=by cases t<;>rfl
end
def zvl(g h:X5)(J:Ev)(M:Mem):yh g h J M=bK (zbt h) (g J M):=rfl
def zvm(f:X9)(J:Ev)(M:Mem):qD f J M=bK (λt M1=>.ok (.rt t) M1) (f J M):=rfl
def zvk(i:Nat)(f:X9)(J:Ev)(M:Mem):zn i f J M=bK (λt M1=>.ok (.nx (J.set i (some t))) M1) (f J M):=rfl
def zvL(c:X7)(g h:X5)(J:Ev)(M:Mem):sIf c g h J M=bK (λb M1=>if b=true then g J M1 else h J M1) (c J M):=rfl
def zvp(f:X9)(J:Ev)(M:Mem):zB f J M=bK (λ_ M1=>.ok (.nx J) M1) (f J M):=rfl
def zvq(f:X9)(b:T->X8)(J:Ev)(M:Mem):zax f b J M=bK (λt M1=>bK (λJ1 M2=>.ok (.nx J1) M2) (b t J M1)) (f J M):=rfl
def zvn(J:Ev)(M:Mem):zI J M = .ok (.nx J) M:=rfl
def zvo(it:X1)(bd:T->X8)(body:X5)(J:Ev)(M:Mem):zaw it bd body J M=bK (λxs M1=>forL bd body xs J M1) (it J M):=rfl
theorem zvy(i:Nat)(J:Ev)(M:Mem):Z i J M=match J[i]? with
 |some (some t)=>.ok t M|_=>.bad:=rfl
def zwf(t:T)(z0:Ev)(M:Mem):eC t z0 M = .ok t M:=rfl
def zv1(o:X3)(f g:X9)(J:Ev)(M:Mem):eOp o f g J M=bK (λx M1=>bK (λy M2=>o x y M2) (g J M1)) (f J M):=rfl
def zvX(o:T->Mem->Out T)(f:X9)(J:Ev)(M:Mem):eUn o f J M=bK (λx M1=>o x M1) (f J M):=rfl
def zvC(f g:X9)(J:Ev)(M:Mem):zfO f g J M=bK (λx M1=>blK (λb M2=>if b=true then g J M2 else .ok (.bl false) M2) x M1) (f J M):=rfl
def zv0(f g:X9)(J:Ev)(M:Mem):eOr f g J M=bK (λx M1=>blK (λb M2=>if b=true then .ok (.bl true) M2 else g J M2) x M1) (f J M):=rfl
def zvA(f:X9)(J:Ev)(M:Mem):zhn f J M=bK (λx M1=>blK (λb M2=>.ok (.bl (!b)) M2) x M1) (f J M):=rfl
def zv2(c:X7)(f g:X9)(J:Ev)(M:Mem):eIf c f g J M=bK (λb M1=>if b=true then f J M1 else g J M1) (c J M):=rfl
def zu6(f:X4)(g:X1)(J:Ev)(M:Mem):yf f g J M=bK (λts M1=>f ts M1) (g J M):=rfl
def zvz(g:X1)(J:Ev)(M:Mem):yA g J M=bK (λxs M1=>if xs.length<=sizeLine then .ok (.tup xs) M1 else .bad) (g J M):=rfl
def zv3(g:X1)(J:Ev)(M:Mem):eFz g J M=bK (λxs M1=>.ok (.lst xs) M1) (g J M):=rfl
def zvY(g:X1)(J:Ev)(M:Mem):eTk g J M=bK (λxs M1=>.ok (.ref M1.length) (M1++[.lst xs])) (g J M):=rfl
def zuV(g:X1)(J:Ev)(M:Mem):zu g J M=bK (λxs M1=>if xs.length<=sizeLine then .ok xs M1 else .bad) (g J M):=rfl
def zuX(F:List T->Mem->Out (List T))(g:X1)(J:Ev)(M:Mem):ztN F g J M=bK (λts M1=>F ts M1) (g J M):=rfl
def zui(o o':X3)(f g h:X9)(J:Ev)(M:Mem):zeA o o' f g h J M=bK (λx M1=>bK (λy M2=>bK (λz M3=>blK (λb M4=>if b=true then bK (λw M5=>o' y w M5) (h J M4)else .ok (.bl false) M4) z M3) (o x y M2)) (g J M1)) (f J M):=rfl
def zvR(o:T->T->Mem->Out (List T))(f g:X9)(J:Ev)(M:Mem):lOp o f g J M=bK (λx M1=>bK (λy M2=>o x y M2) (g J M1)) (f J M):=rfl
def zvZ(f:X9)(p q:Ev->Mem->Out (Option Int))(J:Ev)(M:Mem):eSl f p q J M=bK (λx M1=>bK (λlo M2=>bK (λhi M3=>zeC x lo hi M3) (q J M2)) (p J M1)) (f J M):=rfl
def zuK(z0:Ev)(M:Mem):zcc z0 M = .ok none M:=rfl
def zuJ(f:X9)(J:Ev)(M:Mem):zbL f J M=bK zlU (f J M):=rfl
def zug(J:Ev)(M:Mem):zq6 J M = .ok (.bk J) M:=rfl
def zuE(J:Ev)(M:Mem):ztl J M = .ok (.ct J) M:=rfl
def zu5(F:T->X4)(f:X9)(g:X1)(J:Ev)(M:Mem):qS F f g J M=bK (λx M1=>bK (λts M2=>F x ts M2) (g J M1)) (f J M):=rfl
def zvK(z0:Ev)(M:Mem):ze z0 M = .ok [] M:=rfl
def zve(f:X9)(g:X1)(J:Ev)(M:Mem):zb f g J M=bK (λx M1=>bK (λxs M2=>.ok (x::xs) M2) (g J M1)) (f J M):=rfl
def zvh(f:X9)(J:Ev)(M:Mem):yq f J M=bK (λx M1=>blK (λb M2=>.ok b M2) x M1) (f J M):=rfl
def zuz(f g:X7)(J:Ev)(M:Mem):zaF f g J M=bK (λc M1=>if c=true then g J M1 else .ok false M1) (f J M):=rfl
def zvi(f g:X7)(J:Ev)(M:Mem):zby f g J M=bK (λc M1=>if c=true then .ok true M1 else g J M1) (f J M):=rfl
def zut(f:X7)(J:Ev)(M:Mem):zaW f J M=bK (λc M1=>.ok (!c) M1) (f J M):=rfl
def zvb(i:Nat)(t:T)(J:Ev)(M:Mem):qp i t J M = .ok (J.set i (some t)) M:=rfl
def zvH(st:T->T->T->Mem->Out Unit)(f g:X9)(t:T)(J:Ev)(M:Mem):zaM st f g t J M=bK (λo M1=>bK (λi M2=>bK (λ_ M3=>.ok J M3) (st o i t M2)) (g J M1)) (f J M):=rfl
theorem zvG(n:Nat)(bs:List T->X8)(t:T)(J:Ev)(M:Mem):zfX n bs t J M=match t with
 |.tup xs=>if xs.length=n then bs xs J M else .bad|_=>.bad:=rfl
theorem zvc(b:T->X8)(bs:List T->X8)(ts:List T)(J:Ev)(M:Mem):yY b bs ts J M=match ts with
 |t::r=>bK (λJ1 M1=>bs r J1 M1) (b t J M)|_=>.bad:=rfl
theorem zvI(ts:List T)(J:Ev)(M:Mem):zd3 ts J M=match ts with
 |[]=>.ok J M|_=>.bad:=rfl
theorem zvx(f:X9)(J:Ev)(M:Mem):za6 f J M=bK (λt M1=>match zfA t with
 |some xs=>.ok xs M1
 | none=>.bad) (f J M):=rfl
def ztT(f:X1)(J:Ev)(M:Mem):qO f J M=bK (λts M1=>zbz ts M1) (f J M):=rfl
def ztS(f:X1)(J:Ev)(M:Mem):zeV f J M=bK (λts M1=>zej ts M1) (f J M):=rfl
def zvS(x:T)(y:T)(M:Mem):ixT x y M=zem (zhh M x y) M:=rfl
def zuW(it:X1)(bd:T->X8)(cond:X7)(el:X9)(tgs:List Str)(ζ:List (Str × Nat))(J:Ev)(M:Mem):zY it bd cond el tgs ζ J M=bK (λxs M1=>qF bd cond el xs (zds tgs ζ J) M1 []) (it J M):=rfl
def zvg(z0:Ev)(M:Mem):yN z0 M = .ok true M:=rfl
def zvB(Cs:List Addr)(f:Str)(g:X9)(J:Ev)(M:Mem):yo Cs f g J M=bK (λx M1=>zaI Cs f x M1) (g J M):=rfl
def zuC(Cs:List Addr)(f:Str)(fo fv:X9)(J:Ev)(M:Mem):zH Cs f fo fv J M=bK (λy M1=>bK (λx M2=>bK (λ_ M3=>.ok (.nx J) M3) (zaT Cs f x y M2)) (fo J M1)) (fv J M):=rfl
def zuh(chk:T->Mem->Bool)(F:T->X4)(f:X9)(g:X1)(J:Ev)(M:Mem):za8 chk F f g J M=bK (λx M1=>if chk x M1=true then bK (λts M2=>F x ts M2) (g J M1)else .bad) (f J M):=rfl
def Ok(o:Out β)(Q:β->Mem->Prop):Prop:=∃b M,o = .ok b M/\Q b M
def Ok.ret{Q:β->Mem->Prop}(h:Q b M):Ok (.ok b M) Q:=⟨b,M,rfl,h⟩
def Ok.of{Q:β->Mem->Prop}(e:o = .ok b M)(h:Q b M):Ok o Q:=⟨b,M,e,h⟩
theorem Ok.bind{P:β->Mem->Prop}{Q:γ->Mem->Prop}(h:Ok o P)(g:∀b M,P b M->Ok (k b M) Q):Ok (o.bind k) Q:=by obtain⟨b,M,e,p⟩:=h;rw[e];exact g b M p
theorem Ok.mono{Q:β->Mem->Prop}(h:Ok o P)(g:∀b M,P b M->Q b M):Ok o Q:=by obtain⟨b,M,e,p⟩:=h;exact⟨b,M,e,g b M p⟩
theorem zoL{o:Out β}{l:γ->Mem->Out δ}:(o.bind k).bind l=o.bind λb M=>(k b M).bind l:=by cases o<;>rfl
theorem zu9[Decidable p]{y:Out β}{k:β->Mem->Out γ}:(if p then x else y).bind k=if p then x.bind k else y.bind k:=by split<;>rfl
theorem zu8{l:β->Mem->Out γ}:(blT t M k).bind l=blT t M λb M=>(k b M).bind l:=by cases t<;>rfl
noncomputable def zbK(fl:Fl)(M:Mem):Out T:=match fl with
 |.rt t=>.ok t M|.nx _=>.ok .non M|_=>.bad
def zvr:zbK (.rt t) M = .ok t M:=rfl
def zvs:zbK (.nx J) M = .ok .non M:=rfl
theorem zA(h:ts.length=p)(k:Ok ((g (startT n ts) M).bind zbK) Q):Ok (zj p n g ts M) Q:=by
 obtain⟨b,M1,e,q⟩:=k;refine⟨b,M1,?_,q⟩;rw[zms h];cases r:g (startT n ts) M with
 |bad=>rw[r]at e;cases e|exn C fs M'=>rw[r]at e;cases e|ok fl M'=>rw[r]at e;cases fl with|rt t=>exact e|nx J=>exact e|bk J=>cases e|ct J=>cases e
def Fr(S:List Nat)(M M':Mem):Prop:=M.length<=M'.length/\∀i,i<M.length->i ∉ S->M'[i]?=M[i]?
def Fr.refl(S:List Nat)(M:Mem):Fr S M M:=⟨Q3 _,λ_ _ _=>rfl⟩
theorem Fr.trans(h:Fr S A B)(g:Fr S B C):Fr S A C:=⟨Qj h.1 g.1,λi hi hs=>by rw[g.2 i (Q5 hi h.1) hs,h.2 i hi hs]⟩
theorem Fr.tr(h:Fr S A B)(g:Fr S' B C)(s:∀i ∈ S',i ∈ S\/A.length<=i):Fr S A C:=⟨Qj h.1 g.1,λi hi hs=>by rw[g.2 i (Q5 hi h.1) (λz=>by rcases s i z with a | a;exact hs a;symm),h.2 i hi hs]⟩
theorem Fr.get(h:Fr S M M'){i:Nat}{c:Cell}(e:M[i]?=some c)(hs:i ∉ S):M'[i]?=some c:=by rw[h.2 i (Qz.mp e).1 hs];exact e
theorem Fr.get0(h:Fr [] M M'){i:Nat}{c:Cell}(e:M[i]?=some c):M'[i]?=some c:=h.get e (by simp)
theorem Fr.sub(h:Fr S M M')(s:∀i ∈ S,i ∈ S'\/M.length<=i):Fr S' M M':=⟨h.1,λi hi hs=>h.2 i hi λz=>by
 rcases s i z with a | a
 .exact hs a
 .symm⟩
theorem Fr.app(M:Mem)(l:List Cell):Fr [] M (M++l):=⟨by simp,λi hi _=>by rw[Q6 hi]⟩
theorem Fr.set(M:Mem)(a:Nat)(c:Cell):Fr [a] M (M.set a c):=⟨by simp,λi _ hs=>by rw[Qc,QB (by simp at hs;symm)]⟩
theorem Fr.mono(h:Fr [] M M'):Fr S M M':=h.sub (λi hi=>by simp at hi)
def yC{M:Mem}(e:M[i]?=some c):i<M.length:=(Qz.mp e).1
def zP{M:Mem}:(M++[c])[M.length]?=some c:=List.getElem?_concat_length
theorem get_set{M:Mem}(e:M[a]?=some c):(M.set a c')[a]?=some c':=by rw[Qc,QA rfl,QA (yC e)]
theorem Ok.loop{α:Type}{r:α->T}(P:Nat->Ev->Mem->Prop){R:T->Mem->Prop}:∀(xs:List α) (i:Nat) {J:Ev} {M:Mem},
  P i J M->(∀(k:Nat) x J M,xs[k]?=some x->P (i+k) J M->Ok ((bd (r x) J M).bind λJ1 M1=>body J1 M1) λfl M'=>(∃J',(fl = .nx J'\/fl = .ct J')/\P (i+k+1) J' M')\/(∃J',fl = .bk J'/\P (i+xs.length) J' M')\/∃t,fl = .rt t/\R t M')->
  Ok (forL bd body (xs.map r) J M) λfl M'=>(∃J',fl = .nx J'/\P (i+xs.length) J' M')\/∃t,fl = .rt t/\R t M'
 |[],i,J,M,h,_=>⟨.nx J,M,rfl,.inl ⟨J,rfl,h⟩⟩|x::xs,i,J,M,h,t=>by
  obtain⟨fl,M1,e1,h1⟩:=t 0 x J M rfl h;rw[QG,zc8];cases q:bd (r x) J M with
  |bad=>rw[q]at e1;cases e1|exn C fs M'=>rw[q]at e1;cases e1|ok J3 M3=>
   rw[q]at e1;replace e1:body J3 M3 = .ok fl M1:=e1;show Ok ((body J3 M3).bind (zaj (forL bd body (xs.map r)))) _;rw[e1];have go:∀J1,P (i+1) J1 M1->Ok (forL bd body (xs.map r) J1 M1) λfl M'=>(∃J',fl = .nx J'/\P (i+(x::xs).length) J' M')\/∃t,fl = .rt t/\R t M':=λJ1 h1=>by
    have ih:=Ok.loop (R:=R) P xs (i+1) (bd:=bd) (body:=body) h1 (λk y J M hk hp=>by have:=t (k+1) y J M (by simpa using hk) (by rw[show i+(k+1)=i+1+k by symm];exact hp);rw[show i+(k+1)+1=i+1+k+1 by symm,Qp,show i+(xs.length+1)=i+1+xs.length by symm]at this;exact this)
    rw[Qp,show i+(xs.length+1)=i+1+xs.length by symm];exact ih
   rcases h1 with⟨J1,h1 | h1,h2⟩ | ⟨J1,h1,h2⟩ | ⟨u,h1,h2⟩
   .rw[h1];exact go J1 h2
   .rw[h1];exact go J1 h2
   .rw[h1];exact⟨.nx J1,M1,rfl,.inl ⟨J1,rfl,h2⟩⟩
   .rw[h1];exact⟨.rt u,M1,rfl,.inr ⟨u,rfl,h2⟩⟩
theorem Ok.for{α:Type}{r:α->T}(P:Nat->Ev->Mem->Prop){xs:List α}{J:Ev}{M:Mem}
  (h:P 0 J M) (t:∀(k:Nat) x J M,xs[k]?=some x->P k J M->Ok ((bd (r x) J M).bind λJ1 M1=>body J1 M1) λfl M'=>∃J',fl = .nx J'/\P (k+1) J' M') :
  Ok (forL bd body (xs.map r) J M) λfl M'=>∃J',fl = .nx J'/\P xs.length J' M':=by
 refine(Ok.loop (R:=λ_ _=>False) P xs 0 h (λk x J M hk hp=>?_)).mono ?_
 .rw[QL]at hp;refine(t k x J M hk hp).mono ?_;rintro fl M' ⟨J',e,q⟩;exact .inl ⟨J',.inl e,by rw[QL];exact q⟩
 .rintro fl M' (⟨J',e,q⟩ | ⟨t,_,f⟩)
  .exact⟨J',e,by rw[QL]at q;exact q⟩
  .exact f.elim
theorem Ok.comp{bd:T->X8}{cond:X7}{α:Type}{r:α->T}(P:Nat->List T->Ev->Mem->Prop):∀(xs:List α) {J:Ev} {M:Mem} (i:Nat) (acc:List T),
  P i acc J M->acc.length+xs.length<=sizeLine->(∀(k:Nat) x J M acc,xs[k]?=some x->P (i+k) acc J M->Ok ((bd (r x) J M).bind λJ1 M1=>(cond J1 M1).bind λb M2=>if b=true then(el J1 M2).bind λt M3=>.ok (some t,J1) M3 else .ok (none,J1) M2) λo M'=>P (i+k+1) (match o.1 with | some t=>acc++[t] | none=>acc) o.2 M')->
  Ok (qF bd cond el (xs.map r) J M acc) λts M'=>∃J',P (i+xs.length) ts J' M'
 |[],J,M,i,acc,h,_,_=>⟨acc,M,by simp[qF],J,h⟩|x::xs,J,M,i,acc,h,hl,t=>by
  obtain⟨o,M1,e1,h1⟩:=t 0 x J M acc rfl h;rw[Qp]at hl;rw[QG];unfold qF;have go:∀acc J1 M1,acc.length+xs.length<=sizeLine->P (i+1) acc J1 M1->Ok (qF bd cond el (xs.map r) J1 M1 acc) λts M'=>∃J',P (i+(x::xs).length) ts J' M':=λacc J1 M1 hl h1=>by
   have ih:=Ok.comp P xs (i+1) acc (bd:=bd) (cond:=cond) (el:=el) h1 hl (λk y J M acc hk hp=>by have:=t (k+1) y J M acc (by simpa using hk) (by rw[show i+(k+1)=i+1+k by symm];exact hp);rw[show i+(k+1)+1=i+1+k+1 by symm]at this;exact this)
   rw[Qp,show i+(xs.length+1)=i+1+xs.length by symm];exact ih
  cases q:bd (r x) J M with
  |bad=>rw[q]at e1;cases e1|exn C fs M'=>rw[q]at e1;cases e1|ok J3 M3=>
   rw[q]at e1;replace e1:((cond J3 M3).bind λb M2=>if b=true then(el J3 M2).bind λt M3=>.ok (some t,J3) M3 else .ok (none,J3) M2) = .ok o M1:=e1;show Ok ((cond J3 M3).bind _) _;cases q2:cond J3 M3 with
   |bad=>rw[q2]at e1;cases e1|exn C fs M'=>rw[q2]at e1;cases e1|ok b M4=>
    rw[q2]at e1;cases b with
    |false=>replace e1:(Out.ok (none,J3) M4:Out (Option T × Ev)) = .ok o M1:=e1;cases e1;exact go acc J3 _ ⋯ h1
    |true=>
     replace e1:((el J3 M4).bind λt M3=>.ok (some t,J3) M3) = .ok o M1:=e1;show Ok ((el J3 M4).bind _) _;cases q3:el J3 M4 with
     |bad=>rw[q3]at e1;cases e1|exn C fs M'=>rw[q3]at e1;cases e1|ok u M5=>rw[q3]at e1;replace e1:(Out.ok (some u,J3) M5:Out (Option T × Ev)) = .ok o M1:=e1;cases e1;show Ok (if acc.length<sizeLine then _ else _) _;rw[QA ⋯];exact go (acc++[u]) J3 _ (by rw[Qn,Qp,length_nil];symm) h1
theorem Ok.whileN(P:Ev->Mem->Prop)(μ:Ev->Mem->Nat){Q:Ev->Mem->Prop}{R:T->Mem->Prop}
  (t:∀J M,P J M->Ok (c J M) λb M1=>(b=true/\Ok (body J M1) λfl M2=>(∃J',(fl = .nx J'\/fl = .ct J')/\P J' M2/\μ J' M2<μ J M)\/(∃J',fl = .bk J'/\Q J' M2)\/∃t,fl = .rt t/\R t M2)\/(b=false/\Q J M1)) :
  ∀(n:Nat) (J:Ev) (M:Mem),μ J M<n->P J M->Ok (whileN c body n J M) λfl M'=>(∃J',fl = .nx J'/\Q J' M')\/∃t,fl = .rt t/\R t M'
 |0,_,_,hn,_=>absurd hn ⋯|n+1,J,M,hn,h=>by
  obtain⟨b,M1,e,r⟩:=t J M h;unfold FT.whileN;rw[e];rcases r with⟨rfl,fl,M2,e2,r⟩ | ⟨rfl,q⟩
  .show Ok ((body J M1).bind _) _;rw[e2];rcases r with⟨J1,h1 | h1,h2,h3⟩ | ⟨J1,h1,h2⟩ | ⟨u,h1,h2⟩
   .rw[h1];exact Ok.whileN P μ t n J1 M2 ⋯ h2
   .rw[h1];exact Ok.whileN P μ t n J1 M2 ⋯ h2
   .rw[h1];exact⟨.nx J1,M2,rfl,.inl ⟨J1,rfl,h2⟩⟩
   .rw[h1];exact⟨.rt u,M2,rfl,.inr ⟨u,rfl,h2⟩⟩
  .exact⟨.nx J,M1,rfl,.inl ⟨J,rfl,q⟩⟩
theorem Ok.while(P:Ev->Mem->Prop)(μ:Ev->Mem->Nat){Q:Ev->Mem->Prop}{R:T->Mem->Prop}(h:P J M)
  (t:∀J M,P J M->Ok (c J M) λb M1=>(b=true/\Ok (body J M1) λfl M2=>(∃J',(fl = .nx J'\/fl = .ct J')/\P J' M2/\μ J' M2<μ J M)\/(∃J',fl = .bk J'/\Q J' M2)\/∃t,fl = .rt t/\R t M2)\/(b=false/\Q J M1)) :
  Ok (zbJ c body J M) λfl M'=>(∃J',fl = .nx J'/\Q J' M')\/∃t,fl = .rt t/\R t M':=by
 obtain⟨fl,M',e,r⟩:=Ok.whileN P μ t (μ J M+1) J M ⋯ h;exact⟨fl,M',zmr _ e (by simp),r⟩
noncomputable def rgI(n:Nat):List Int:=(List.range n).map λ(k:Nat)=>(k:Int)
theorem zaR(n:Nat):(rgI n).length=n:=by simp[rgI]
theorem zaS{x:Int}(h:(rgI n)[k]?=some x):k<n/\x=k:=by
 unfold rgI at h;rw[Qb]at h;cases q:(List.range n)[k]? with
 |none=>rw[q]at h;cases h|some j=>
  rw[q]at h;have hk:k<n:=by have:=(Qz.mp q).1;simpa using this
  rw[getElem?_range hk]at q;cases q;exact⟨hk,(Qd h).symm⟩
theorem znV(n:Nat):zdj 0 n=(rgI n).map .int:=by unfold zdj rgI;rw[map_map];congr 1;funext k;simp
theorem qX(h:-(2 ^ 62)<=j/\j<2 ^ 62):zbz [.int j] M = .ok ((rgI j.toNat).map .int) M:=by rw[zra h,znV]
noncomputable def rgF(lo:Int)(n:Nat):List Int:=(List.range n).map λ(k:Nat)=>lo+(k:Int)
theorem zpn(lo:Int)(n:Nat):(rgF lo n).length=n:=by simp[rgF]
theorem zpo{lo:Int}(h:(rgF lo n)[k]?=some x):k<n/\x=lo+k:=by
 unfold rgF at h;rw[Qb]at h;cases q:(List.range n)[k]? with
 |none=>rw[q]at h;cases h|some j=>
  rw[q]at h;have hk:k<n:=by have:=(Qz.mp q).1;simpa using this
  rw[getElem?_range hk]at q;cases q;exact⟨hk,(Qd h).symm⟩
theorem zpm(h:(-(2 ^ 62)<=i/\i<2 ^ 62)/\(-(2 ^ 62)<=j/\j<2 ^ 62)):zej [.int i,.int j] M = .ok ((rgF i (j-i).toNat).map .int) M:=by rw[show zej [.int i,.int j] M = .ok (zdj i (j-i).toNat) M from QA h];unfold zdj rgF;rw[map_map];rfl
theorem zr8{n:Nat}{x:Int}(h:0<=x/\x<n):ixN n x=some x.toNat:=by
 unfold ixN;rw[QA ⋯];simp
 try symm
theorem Ok.filt{cond:X7}{α:Type}{r:α->T}(I:Ev->Prop)(c:α->Bool)(f:α->T){xs:List α}{J:Ev}(h:I J)(hl:xs.length<=1000000)
  (t:∀x J,x ∈ xs->I J->∃J1,bd (r x) J M = .ok J1 M/\I J1/\cond J1 M = .ok (c x) M/\(c x=true->el J1 M = .ok (f x) M)):qF bd cond el (xs.map r) J M [] = .ok ((xs.filter c).map f) M:=by
 have key:∀(xs:List α) (J:Ev) (acc:List T),(∀x J,x ∈ xs->I J->∃J1,bd (r x) J M = .ok J1 M/\I J1/\cond J1 M = .ok (c x) M/\(c x=true->el J1 M = .ok (f x) M))->I J->acc.length+xs.length<=sizeLine->qF bd cond el (xs.map r) J M acc = .ok (acc++(xs.filter c).map f) M:=by
  intro xs
  induction xs with
  |nil=>intro J acc _ _ _;simp[qF]|cons x xs ih=>
   intro J acc t h hl;obtain⟨J1,e1,h1,e2,e3⟩:=t x J (.head _) h;rw[Qp]at hl;rw[QG];unfold qF;rw[e1];show((cond J1 M).bind _)=_;rw[e2];cases hc:c x with
   |true=>have ih:=ih J1 (acc++[f x]) (λy J hy=>t y J (.tail _ hy)) h1 (by rw[Qn,Qp,length_nil];symm);show((el J1 M).bind _)=_;rw[e3 hc];show(if acc.length<sizeLine then qF bd cond el (xs.map r) J1 M (acc++[f x])else .bad)=_;rw[QA ⋯,ih,List.filter_cons_of_pos hc];simp
   |false=>have ih:=ih J1 acc (λy J hy=>t y J (.tail _ hy)) h1 ⋯;show qF bd cond el (xs.map r) J1 M acc=_;rw[ih,List.filter_cons_of_neg (by rw[hc];exact Q4)]
 have:=key xs J [] t h (by rw[length_nil,QL];exact Qj hl ∅);rw[this,nil_append]
theorem Ok.mapc{α:Type}{r:α->T}(I:Ev->Prop)(f:α->T){xs:List α}{J:Ev}(h:I J)(hl:xs.length<=1000000)
  (t:∀x J,x ∈ xs->I J->∃J1,bd (r x) J M = .ok J1 M/\I J1/\el J1 M = .ok (f x) M):qF bd yN el (xs.map r) J M [] = .ok (xs.map f) M:=by
 have:=Ok.filt (cond:=yN) I (λ_=>true) f h hl (λx J hx hs=>by obtain⟨J1,a,b,c⟩:=t x J hx hs;exact⟨J1,a,b,rfl,λ_=>c⟩)
 rw[this,List.filter_eq_self.mpr (λ_ _=>rfl)]
theorem zaC(e:M[a]?=some (.lst xs)):zy (.ref a) M=some xs:=by unfold zy;simp only[e]
theorem zld{G:Gd}:∀{xs:List T} {J:Ev} {M:Mem},G=[]->forG G bd body xs J M=forL bd body xs J M
 |[],J,M,e=>by subst e;unfold forG forL;exact zaP (zbC M)|x::xs,J,M,e=>by
  subst e;rw[zc8];unfold forG;rw[zaP (zbC M)];have:forG [] bd body xs=forL bd body xs:=by funext J M;exact zld rfl
  rw[this]
theorem Ok.loopG{α:Type}{r:α->T}(P:Nat->Ev->Mem->Prop){R:T->Mem->Prop}(hG:∀i J M,P i J M->zaV G M):∀(xs:List α) (i:Nat) {J:Ev} {M:Mem},
  P i J M->(∀(k:Nat) x J M,xs[k]?=some x->P (i+k) J M->Ok ((bd (r x) J M).bind λJ1 M1=>body J1 M1) λfl M'=>(∃J',(fl = .nx J'\/fl = .ct J')/\P (i+k+1) J' M')\/(∃J',fl = .bk J'/\P (i+xs.length) J' M')\/∃t,fl = .rt t/\R t M')->
  Ok (forG G bd body (xs.map r) J M) λfl M'=>(∃J',fl = .nx J'/\P (i+xs.length) J' M')\/∃t,fl = .rt t/\R t M'
 |[],i,J,M,h,_=>⟨.nx J,M,by rw[map_nil];unfold forG;exact zaP (hG _ _ _ h),.inl ⟨J,rfl,h⟩⟩|x::xs,i,J,M,h,t=>by
  obtain⟨fl,M1,e1,h1⟩:=t 0 x J M rfl h;rw[QG];unfold forG;rw[zaP (hG _ _ _ h)];cases q:bd (r x) J M with
  |bad=>rw[q]at e1;cases e1|exn C fs M'=>rw[q]at e1;cases e1|ok J3 M3=>
   rw[q]at e1;replace e1:body J3 M3 = .ok fl M1:=e1;show Ok ((body J3 M3).bind (zaj (forG G bd body (xs.map r)))) _;rw[e1];have go:∀J1,P (i+1) J1 M1->Ok (forG G bd body (xs.map r) J1 M1) λfl M'=>(∃J',fl = .nx J'/\P (i+(x::xs).length) J' M')\/∃t,fl = .rt t/\R t M':=λJ1 h1=>by
    have ih:=Ok.loopG (R:=R) P hG xs (i+1) (bd:=bd) (body:=body) h1 (λk y J M hk hp=>by have:=t (k+1) y J M (by simpa using hk) (by rw[show i+(k+1)=i+1+k by symm];exact hp);rw[show i+(k+1)+1=i+1+k+1 by symm,Qp,show i+(xs.length+1)=i+1+xs.length by symm]at this;exact this)
    rw[Qp,show i+(xs.length+1)=i+1+xs.length by symm];exact ih
   rcases h1 with⟨J1,h1 | h1,h2⟩ | ⟨J1,h1,h2⟩ | ⟨u,h1,h2⟩
   .rw[h1];exact go J1 h2
   .rw[h1];exact go J1 h2
   .rw[h1];exact⟨.nx J1,M1,rfl,.inl ⟨J1,rfl,h2⟩⟩
   .rw[h1];exact⟨.rt u,M1,rfl,.inr ⟨u,rfl,h2⟩⟩
theorem Ok.forG{α:Type}{r:α->T}(P:Nat->Ev->Mem->Prop){xs:List α}{J:Ev}{M:Mem}(hG:∀i J M,P i J M->zaV G M)
  (h:P 0 J M) (t:∀(k:Nat) x J M,xs[k]?=some x->P k J M->Ok ((bd (r x) J M).bind λJ1 M1=>body J1 M1) λfl M'=>∃J',fl = .nx J'/\P (k+1) J' M') :
  Ok (forG G bd body (xs.map r) J M) λfl M'=>∃J',fl = .nx J'/\P xs.length J' M':=by
 refine(Ok.loopG (R:=λ_ _=>False) P hG xs 0 h (λk x J M hk hp=>?_)).mono ?_
 .rw[QL]at hp;refine(t k x J M hk hp).mono ?_;rintro fl M' ⟨J',e,q⟩;exact .inl ⟨J',.inl e,by rw[QL];exact q⟩
 .rintro fl M' (⟨J',e,q⟩ | ⟨t,_,f⟩)
  .exact⟨J',e,by rw[QL]at q;exact q⟩
  .exact f.elim
def OkX(o:Out β)(Q:β->Mem->Prop)(E:Addr->List (Str × T)->Mem->Prop):Prop:=match o with
 |.ok b M=>Q b M|.exn C fs M=>E C fs M|.bad=>False
theorem OkX.ok{Q:β->Mem->Prop}(h:Ok o Q):OkX o Q E:=by obtain⟨b,M,rfl,q⟩:=h;exact q
theorem OkX.bind{P:β->Mem->Prop}{Q:γ->Mem->Prop}(h:OkX o P E)(g:∀b M,P b M->OkX (k b M) Q E):OkX (o.bind k) Q E:=by cases o with|ok b M=>exact g b M h|exn C fs M=>exact h|bad=>exact h.elim
theorem OkX.mono{Q:β->Mem->Prop}(h:OkX o P D)(g:∀b M,P b M->Q b M)(g':∀C fs M,D C fs M->E C fs M):OkX o Q E:=by cases o with|ok b M=>exact g b M h|exn C fs M=>exact g' C fs M h|bad=>exact h.elim
theorem OkX.toOk{Q:β->Mem->Prop}(h:OkX o Q λ_ _ _=>False):Ok o Q:=by cases o with|ok b M=>exact⟨b,M,rfl,h⟩|exn C fs M=>exact h.elim|bad=>exact h.elim
theorem zO(h:ts.length=p)(k:OkX ((g (startT n ts) M).bind zbK) Q E):OkX (zT p n g ts M) Q E:=by
 unfold zT;rw[QA h];cases r:g (startT n ts) M with
 |bad=>rw[r]at k;exact k.elim|exn C fs M'=>rw[r]at k;exact k|ok fl M'=>rw[r]at k;cases fl with|rt t=>exact k|nx J=>exact k|bk J=>exact k.elim|ct J=>exact k.elim
theorem Ok.tryN(h:OkX (g J M) Q λC fs M'=>cs.contains C=true/\Ok ((gs (J.set j (some (.exc C fs))) M').bind (clr j)) Q):Ok (zeL j cs g gs J M) Q:=by
 unfold zeL;cases r:g J M with
 |ok b M1=>rw[r]at h;exact⟨b,M1,rfl,h⟩|bad=>rw[r]at h;exact h.elim|exn C fs M1=>rw[r]at h;obtain⟨hc,h⟩:=h;show Ok (if cs.contains C=true then _ else _) _;rw[QA hc];cases q:gs (J.set j (some (.exc C fs))) M1 with|ok b M2=>rw[q]at h;exact h|bad=>rw[q]at h;obtain⟨_,_,h,_⟩:=h;cases h|exn _ _ _=>rw[q]at h;obtain⟨_,_,h,_⟩:=h;cases h
end FT
namespace My
open PySem L2 FT
noncomputable section
def top(i:Nat):Stmt:=PySem.Challenge.pw_tryweir_k38_events_refused.main.body.getD i (.Pass ⟨0,0,0,0⟩)
abbrev zgX:Stmt:=inClass (top 12) 0
abbrev ziY:Stmt:=top 56
abbrev zhE:Stmt:=top 57
abbrev zi0:Stmt:=top 58
abbrev zkB:Stmt:=top 59
abbrev zkE:Stmt:=top 55
abbrev ziZ:Stmt:=top 54
abbrev zhD:Stmt:=top 60
abbrev zhH:Stmt:=top 66
abbrev zkC:Stmt:=top 67
abbrev zhF:Stmt:=top 61
abbrev zhG:Stmt:=top 62
abbrev zhI:Stmt:=top 63
abbrev zkz:Stmt:=top 64
abbrev zkD:Stmt:=top 65
abbrev zmp:Stmt:=top 68
abbrev zgc:Stmt:=top 69
abbrev zgd:Stmt:=top 14
abbrev zff:Stmt:=top 16
abbrev zd5:Stmt:=top 20
abbrev zgh:Stmt:=inClass (top 24) 0
abbrev zhJ:Stmt:=top 25
abbrev zd4:Stmt:=top 34
abbrev zcO:Stmt:=top 35
abbrev zcz:Stmt:=top 37
abbrev zfd:Stmt:=top 18
abbrev zf9:Stmt:=top 26
abbrev zei:Stmt:=top 27
abbrev zef:Stmt:=top 28
abbrev zge:Stmt:=top 36
abbrev zfg:Stmt:=top 38
abbrev zgf:Stmt:=top 39
abbrev zd6:Stmt:=top 44
abbrev zgg:Stmt:=top 19
abbrev zd7:Stmt:=inClass (top 23) 0
abbrev zfh:Stmt:=top 30
abbrev zdA:Stmt:=top 31
abbrev zeh:Stmt:=top 32
abbrev zmq:Stmt:=top 33
abbrev zmo:Stmt:=top 40
abbrev zfc:Stmt:=top 29
abbrev zfb:Stmt:=top 41
abbrev zkF:Stmt:=top 42
abbrev zgb:Stmt:=top 43
abbrev ziW:Stmt:=top 45
abbrev zf8:Stmt:=top 48
abbrev zeg:Stmt:=top 72
abbrev zkA:Stmt:=top 70
abbrev zhC:Stmt:=top 46
abbrev zoR:Stmt:=top 47
abbrev zga:Stmt:=top 49
abbrev ziX:Stmt:=top 52
abbrev zfe:Stmt:=top 71
abbrev zlI:Stmt:=top 73
end
structure Txt (P:Program) (w:World) (K:Frag) (mg:Str->Option Value) (base:Heap) (I O ZT ZX ZZ ZU ZQ ZR ZS ZW ZV ZY kN:Addr):Prop where
 cls_Errand:Cls K I
 cls_Run:Cls K O
 na_Errand_asked:NoAttr K I "asked"
 na_Errand_caller:NoAttr K I "caller"
 na_Errand_house:NoAttr K I "house"
 na_Errand_is_lost:NoAttr K I "is_lost"
 na_Errand_state:NoAttr K I "state"
 na_Errand_stood:NoAttr K I "stood"
 na_Run_came:NoAttr K O "came"
 na_Run_errands:NoAttr K O "errands"
 na_Run_net:NoAttr K O "net"
 na_Run_payments:NoAttr K O "payments"
 na_Run_puts:NoAttr K O "puts"
 na_Run_taken:NoAttr K O "taken"
 n_range:mg "range" = none
 n_len:mg "len" = none
 n_min:mg "min" = none
 n_int:mg "int" = none
 n_tuple:mg "tuple" = none
 n_max:mg "max" = none
 n_isinstance:mg "isinstance" = none
 n_bool:mg "bool" = none
 c_FRESH:∃a,mg "FRESH" = some (.ref a)/\KTu K a [.str "fresh"]
 D_l_next:Df K mg "_law_next" ziY ["pool","base"]
 D_l_words:Df K mg "_law_words" zhE ["pool","many"]
 D_l_asks:Df K mg "_law_asks" zi0 ["pool","later","purses","most"]
 D_l_net:Df K mg "_law_net" zkB ["pool"]
 D_l_dig:Df K mg "_law_dig" zkE ["cell"]
 D_l_cell:Df K mg "_law_cell" ziZ ["script","k"]
 D_l_world:Df K mg "_law_world" zhD ["net"]
 D_l_coins:Df K mg "_law_coins" zhH ["net","world","ask"]
 D_l_may:Df K mg "_law_may" zkC ["net","world"]
 D_l_share:Df K mg "_law_share" zhF ["net","world","ask","first","errand"]
 D_l_house:Df K mg "_law_house" zhG ["net","name"]
 D_l_begin:Df K mg "_law_begin" zhI ["net","world","house","caller"]
 D_l_try:Df K mg "_law_try" zkz ["net","world","number","at","tries"]
 D_l_end:Df K mg "_law_end" zkD ["net","world","number","word"]
 D_l_do:Df K mg "_law_do" zmp ["net","world","event"]
 D_l_events:Df K mg "_law_events" zgc ["script","net","most"]
 D_is_whole:Df K mg "is_whole" zgd ["thing"]
 D_is_within:Df K mg "is_within" zff ["thing","low","high"]
 D_check_house:Df K mg "check_house" zd5 ["net","house"]
 D_Run_init:Di K mg "Run" "Run.__init__" O zgh ["self","net"]
 D_asks_of:Df K mg "asks_of" zhJ ["run","number"]
 D_may_be_lost:Df K mg "may_be_lost" zd4 ["run","number"]
 D_has_tries_left:Df K mg "has_tries_left" zcO ["run","number"]
 D_events_by_tries:Df K mg "events_by_tries" zcz ["run","number"]
 D_number_of:Df K mg "number_of" zfd ["named","name"]
 D_purse_of:Df K mg "purse_of" zf9 ["run","ask"]
 D_coins_made:Df K mg "coins_made" zei ["run","purse"]
 D_purse_told:Df K mg "purse_told" zef ["run","purse"]
 D_has_coin:Df K mg "has_coin" zge ["run","number"]
 D_events_at:Df K mg "events_at" zfg ["run","number"]
 D_can_come:Df K mg "can_come" zgf ["run","event"]
 D_check_event:Df K mg "check_event" zd6 ["run","event"]
 D_asked_by:Df K mg "asked_by" zgg ["net","ask"]
 D_Errand_init:Di K mg "Errand" "Errand.__init__" I zd7 ["self","house","caller"]
 D_begin_try:Df K mg "begin_try" zfh ["run","number","at","tried"]
 D_begin_errand:Df K mg "begin_errand" zdA ["run","house","caller"]
 D_end_errand:Df K mg "end_errand" zeh ["run","number","word"]
 D_hear:Df K mg "hear" zmq ["run","caller","word"]
 D_lose:Df K mg "lose" zmo ["run","number"]
 D_take_coin:Df K mg "take_coin" zfc ["run","purse"]
 D_try_again:Df K mg "try_again" zfb ["run","number"]
 D_go_up:Df K mg "go_up" zkF ["run","number"]
 D_let_come:Df K mg "let_come" zgb ["run","event"]
 D_run_of:Df K mg "run_of" ziW ["net","events"]
 D_run_load:Df K mg "run_load" zf8 ["net","events","house"]
 D_l_no_house:Df K mg "_law_no_house" zeg ["net","house","events"]
 D_l_odd:Df K mg "_law_odd" zkA ["net","world","pool"]
 D_told_of:Df K mg "told_of" zhC ["run"]
 D_ran:Df K mg "ran" zoR ["net","events"]
 D_may_come:Df K mg "may_come" zga ["net","events"]
 D_ledger:Df K mg "ledger" ziX ["net","events"]
 D_l_refused:Df K mg "_law_refused" zfe ["way","net","events"]
 x_NoHouse:ExcAt K mg "NoHouse" ZX
 x_NoEvent:XcF P w K mg base "NoEvent" kN
 i_NoAsk:IsAt K mg "NoAsk" (yE [ZT,ZX,ZZ,ZU,ZQ,ZR,ZS,ZW,ZV,ZY,kN] ZZ)
 i_NoDeed:IsAt K mg "NoDeed" (yE [ZT,ZX,ZZ,ZU,ZQ,ZR,ZS,ZW,ZV,ZY,kN] ZY)
 i_NoEvent:IsAt K mg "NoEvent" (yE [ZT,ZX,ZZ,ZU,ZQ,ZR,ZS,ZW,ZV,ZY,kN] kN)
 i_NoHouse:IsAt K mg "NoHouse" (yE [ZT,ZX,ZZ,ZU,ZQ,ZR,ZS,ZW,ZV,ZY,kN] ZX)
 i_NoNet:IsAt K mg "NoNet" (yE [ZT,ZX,ZZ,ZU,ZQ,ZR,ZS,ZW,ZV,ZY,kN] ZW)
 i_NoPast:IsAt K mg "NoPast" (yE [ZT,ZX,ZZ,ZU,ZQ,ZR,ZS,ZW,ZV,ZY,kN] ZV)
 i_NoPurse:IsAt K mg "NoPurse" (yE [ZT,ZX,ZZ,ZU,ZQ,ZR,ZS,ZW,ZV,ZY,kN] ZU)
 i_NoRatio:IsAt K mg "NoRatio" (yE [ZT,ZX,ZZ,ZU,ZQ,ZR,ZS,ZW,ZV,ZY,kN] ZT)
 i_NoRow:IsAt K mg "NoRow" (yE [ZT,ZX,ZZ,ZU,ZQ,ZR,ZS,ZW,ZV,ZY,kN] ZS)
 i_NoText:IsAt K mg "NoText" (yE [ZT,ZX,ZZ,ZU,ZQ,ZR,ZS,ZW,ZV,ZY,kN] ZR)
 i_TooMany:IsAt K mg "TooMany" (yE [ZT,ZX,ZZ,ZU,ZQ,ZR,ZS,ZW,ZV,ZY,kN] ZQ)
 i_ValueError:IsAt K mg "ValueError" (zfy [ZT,ZX,ZZ,ZU,ZQ,ZR,ZS,ZW,ZV,ZY,kN])
 u_NoEvent:∃C,Sup K mg "WeirError" C kN
theorem boot_range:bootBuiltins "range" = some (.type "range"):=by decide +kernel
theorem boot_len:bootBuiltins "len" = some (.builtin "len"):=by decide +kernel
theorem boot_min:bootBuiltins "min" = some (.builtin "min"):=by decide +kernel
theorem boot_int:bootBuiltins "int" = some (.type "int"):=by decide +kernel
theorem boot_tuple:bootBuiltins "tuple" = some (.type "tuple"):=by decide +kernel
theorem boot_max:bootBuiltins "max" = some (.builtin "max"):=by decide +kernel
theorem boot_isinstance:bootBuiltins "isinstance" = some (.builtin "isinstance"):=by decide +kernel
theorem boot_bool:bootBuiltins "bool" = some (.type "bool"):=by decide +kernel
end My
theorem FT.nc_l{k:PySem.NameKind}{P:Prop}(e:(k == .cell || k == .free)=false)(h:k = .cell\/k = .free):P:=by
 rcases h with rfl | rfl
 .exact absurd e ∅
 .exact absurd e ∅
open PySem L2 FT in
local macro_rules | `(tactic| bv_omega) => `(tactic| exact ⟨rfl, rfl, by decide +kernel, rfl, by decide +kernel, by first | exact (λ_ _ h => h) | exact zjh (by repeat (first | exact True.intro | refine ⟨rfl, ?_⟩)), λ_ => zsd (by repeat (first | exact True.intro | (refine ⟨?_, ?_⟩; first | exact (λ_ => ⟨_, rfl⟩) | exact nc_l rfl | exact (λh => h.elim (λh => nomatch h) (λh => nomatch h))))), by repeat (first | exact forall_mem_nil _ | refine forall_mem_cons.mpr ⟨⟨rfl, rfl, by first | exact .inl rfl | exact .inr rfl⟩, ?_⟩)⟩)
namespace My
open PySem L2 FT
abbrev ja:=eOp ixT
abbrev jc:=eOp yF
def zjw(I O:Addr):X5:=
 (yh (sIf (yq (eOp gtI (ja (Z 0) j4) j4)) (yh (zn 2 (eOp zb3 (ja (Z 0) j4) (Z 1)))
 (yh (zax (eOp zeB (ja (Z 0) j4) (Z 1)) (zaM za0 (Z 0) j4))
 (qD (Z 2)))) zI)
 (yh (zax (jc (ja (Z 0) j7) j6) (zaM za0 (Z 0) j7))
 (yh (zn 3 (eOp zb3 (jc (ja (Z 0) j6) (eOp zW (eC (.int 7919)) (ja (Z 0) j7))) (eC (.int 1000000007))))
 (yh (zn 4 (eOp zb3 (eOp zW (jc (Z 3) (eC (.int 11))) (jc (Z 3) (eC (.int 48271)))) (eC (.int 998244353))))
 (qD (eOp zb3 (eOp zeB (eOp zb3 (eOp zW (Z 4) (Z 4)) (eC (.int 2147483647))) (eC (.int 8))) (Z 1)))))))
def yB(I O:Addr):X2:=zj 2 5 (zjw I O)
theorem zc7:FnScope ["pool","base","digit","mark","stir"] ["pool","base"] (zg ziY):=by ac_rfl
def zgJ(I O:Addr):X5:=
 (yh (zn 8 (jc (jc (zjH (Z 3) zcc (zbL (Z 4))) (eOp ixS (Z 2) (eOp zb3 (jc (Z 5) (eOp zW (eC (.int 5)) (Z 7))) (eC (.int 26))))) (zjH (Z 3) (zbL (Z 4)) zcc)))
 (zB (qS yP (eUn qG (Z 6)) (zb (jc (Z 8) (eOp zg8 (eOp ixS (Z 2) (Z 5)) (eOp zb3 (Z 7) j7))) ze))))
def zhR(I O:Addr):X5:=
 (yh (zn 2 (eC (.str "abcdefghijklmnopqrstuvwxyz")))
 (yh (zn 3 (za8 isStr zeT (eC (.str "")) (zb (eFz (zY (qO (zb (yf (yB I O) (zb (Z 0) (zb (eC (.int 7)) ze))) ze)) (qp 0) yN (eOp ixS (Z 1) (yf (yB I O) (zb (Z 2) (zb (eC (.int 26)) ze)))) ["k"] [("abc",2),("pool",0)])) ze)))
 (yh (zn 4 (yf (yB I O) (zb (Z 0) (zb (jc (yf (yw zx) (zb (Z 3) ze)) j6) ze))))
 (yh (zn 5 (yf (yB I O) (zb (Z 0) (zb (eC (.int 26)) ze))))
 (yh (zn 6 (eTk (zu ze)))
 (yh (zaw (qO (zb (Z 1) ze)) (qp 7) (zgJ I O))
 (qD (Z 6))))))))
def zdb(I O:Addr):X2:=zj 2 9 (zhR I O)
theorem zah:FnScope ["pool","many","abc","base","at","first","found","k","name"] ["pool","many"] (zg zhE):=by ac_rfl
abbrev jb:=eOp eqA
def zie(I O:Addr):X5:=
 (yh (zn 6 (ja (Z 1) (yf (yB I O) (zb (Z 0) (zb (yf (yw zx) (zb (Z 1) ze)) ze)))))
 (yh (zn 7 (ja (eFz (zu (zb j6 (zb j7 (zb j7 (zb j8 (zb j9 (zb j4 (zb j4 (zb j6 ze)))))))))) (yf (yB I O) (zb (Z 0) (zb (eC (.int 8)) ze)))))
 (yh (zn 8 (ja (eFz (lOp zeD (eFz (zu (zb (eC .non) ze))) (eFz (lOp zg0 (Z 2) j7)))) (yf (yB I O) (zb (Z 0) (zb (jc j6 (eOp zW j7 (yf (yw zx) (zb (Z 2) ze)))) ze)))))
 (yh (zn 9 (ja (eFz (zu (zb (eC (.str "bad")) (zb (eC (.str "bad")) (zb (eC (.str "spent")) ze))))) (yf (yB I O) (zb (Z 0) (zb j8 ze)))))
 (zB (qS yP (eUn qG (Z 4)) (zb (yA (zb (Z 6) (zb (Z 7) (zb (Z 8) (zb (Z 9) (zb (jb (yf (yB I O) (zb (Z 0) (zb j7 ze))) j4) (zb (jb (yf (yB I O) (zb (Z 0) (zb j8 ze))) j4) ze))))))) ze)))))))
def zjy(I O:Addr):X5:=
 (yh (zn 4 (eTk (zu ze)))
 (yh (zaw (qO (zb (eOp zW (yf (call2 zha) (zb (Z 3) (zb (ja (eFz (zu (zb j6 (zb j6 (zb j7 (zb j7 (zb j8 (zb j4 (zb j7 (zb j6 ze)))))))))) (yf (yB I O) (zb (Z 0) (zb (eC (.int 8)) ze)))) ze))) (yf (yw zfH) (zb (eOp neA (Z 1) (eFz (zu ze))) ze))) ze)) (qp 5) (zie I O))
 (qD (yf (yw z8) (zb (Z 4) ze)))))
def zfL(I O:Addr):X2:=zj 4 10 (zjy I O)
theorem za2:FnScope ["pool","later","purses","most","found","k","to","tries","purse","word"] ["pool","later","purses","most"] (zg zi0):=by ac_rfl
def zf0(I O:Addr):X5:=
 (yh (zn 6 (yf (zfL I O) (zb (Z 0) (zb (eSl (Z 1) (zbL (jc (Z 5) j6)) zcc) (zb (Z 2) (zb (yf (call2 zha) (zb j8 (zb (Z 4) ze))) ze))))))
 (yh (zn 4 (eOp zbY (Z 4) (yf (yw zx) (zb (Z 6) ze))))
 (zB (qS yP (eUn qG (Z 3)) (zb (yA (zb (ja (Z 1) (Z 5)) (zb (Z 6) ze))) ze)))))
def zfZ(I O:Addr):X5:=
 (yh (zn 9 (ja (eFz (zu (zb (eC (.str "first")) (zb (eC (.str "any")) ze)))) (yf (yB I O) (zb (Z 0) (zb j7 ze)))))
 (zB (qS yP (eUn qG (Z 7)) (zb (yA (zb (Z 8) (zb (Z 9) (zb (ja (eFz (zu (zb j6 (zb j6 (zb j7 (zb j8 (zb (jc j6 (yf (yB I O) (zb (Z 0) (zb (eC (.int 9)) ze)))) ze))))))) (yf (yB I O) (zb (Z 0) (zb (eC (.int 5)) ze)))) ze)))) ze))))
def zk6(I O:Addr):X5:=
 (yh (zn 1 (yf (zdb I O) (zb (Z 0) (zb (ja (eFz (zu (zb j7 (zb j8 (zb j8 (zb j9 (zb j9 (zb j8 (zb j7 (zb j6 ze)))))))))) (yf (yB I O) (zb (Z 0) (zb (eC (.int 8)) ze)))) ze))))
 (yh (zn 2 (yf (zdb I O) (zb (Z 0) (zb (ja (eFz (zu (zb j4 (zb j6 (zb j6 (zb j7 ze)))))) (yf (yB I O) (zb (Z 0) (zb j9 ze)))) ze))))
 (yh (sIf (yq (jb (yf (yB I O) (zb (Z 0) (zb (eC (.int 8)) ze))) j4)) (zn 2 (eSl (eRv (Z 1) (zbL (eUn zdm j6))) zcc (zbL (yf (yw zx) (zb (Z 2) ze))))) zI)
 (yh (zn 3 (eTk (zu ze)))
 (yh (zn 4 (eC (.int 6)))
 (yh (zaw (qO (zb (yf (yw zx) (zb (Z 1) ze)) ze)) (qp 5) (zf0 I O))
 (yh (zn 7 (eTk (zu ze)))
 (yh (zcb (zcD (Z 2)) (qp 8) (zfZ I O))
 (qD (yA (zb (yf (yw z8) (zb (Z 3) ze)) (zb (yf (yw z8) (zb (Z 7) ze)) ze))))))))))))
def zhj(I O:Addr):X2:=zj 1 10 (zk6 I O)
theorem zZ:FnScope ["pool","houses","purses","some","room","k","asks","rows","name","which"] ["pool"] (zg zkB):=by ac_rfl
def zk9(I O:Addr):X5:=
 (qD (eTk (zu (zb (yf (call2 zjf) (zb j4 (zb (eOp zbY (Z 0) (eOp zg2 (eC (.int 10)) (eC (.int 18)))) ze))) (zb (eOp zb3 (Z 0) (eOp zg2 (eC (.int 10)) (eC (.int 18)))) (zb j4 ze))))))
def zcK(I O:Addr):X2:=zj 1 1 (zk9 I O)
theorem znQ:FnScope ["cell"] ["cell"] (zg zkE):=by ac_rfl
def zjx(I O:Addr):X5:=
 (yh (sIf (yq (eOp ltI (Z 1) (yf (yw zx) (zb (Z 0) ze)))) (qD (ja (Z 0) (Z 1))) zI)
 (qD (jc (eOp zW (eOp zW (eC (.int 7919)) (Z 1)) (Z 1)) (eOp zW (eC (.int 31)) (Z 1)))))
def zb7(I O:Addr):X2:=zj 2 2 (zjx I O)
theorem zmn:FnScope ["script","k"] ["script","k"] (zg ziZ):=by ac_rfl
def zhQ(I O:Addr):X5:=
 (qD (eTk (zu (zb (eTk (zu ze)) (zb zlZ (zb (eTk (zY (za6 (ja (Z 0) j6)) (qp 0) yN (eTk (zu (zb (eTk (zu ze)) (zb (eTk (zu ze)) (zb j4 ze))))) ["purse"] [])) (zb (eTk (zu ze)) ze)))))))
def zda(I O:Addr):X2:=zj 1 1 (zhQ I O)
theorem zlF:FnScope ["net"] ["net"] (zg zhD):=by ac_rfl
def zgL(I O:Addr):X5:=
 (sIf (yq (jb (ja (ja (ja (Z 0) j6) (Z 3)) j4) (ja (Z 2) j7))) (qD (eOp zbY (yf (yw zx) (zb (ja (ja (ja (Z 1) j7) (Z 3)) j6) ze)) (ja (ja (ja (Z 1) j7) (Z 3)) j7))) zI)
def zhU(I O:Addr):X5:=
 (yh (zaw (qO (zb (yf (yw zx) (zb (ja (Z 0) j6) ze)) ze)) (qp 3) (zgL I O))
 (qD j6))
def zez(I O:Addr):X2:=zj 3 4 (zhU I O)
theorem zf7:FnScope ["net","world","ask","k"] ["net","world","ask"] (zg zhH):=by ac_rfl
def zjX(I O:Addr):X5:=
 (yh (zax (ja (ja (Z 1) j4) (Z 3)) (zd2 3 (yY (qp 4) (yY (qp 5) (yY (qp 6) zd3)))))
 (yh (sIf (yq (jb (ja (Z 6) j4) (eC (.str "works")))) (zn 2 (eTk (lOp zeD (Z 2) (eFz (zY (za6 (eFz (zu (zb (eC (.str "bad")) (zb (eC (.str "spent")) (zb (eC (.str "well")) ze)))))) (qp 0) yN (yA (zb (eC (.str "ends")) (zb (Z 1) (zb (Z 0) ze)))) ["word"] [("number",3)]))))) zI)
 (yh (sIf (zaF (yq (eOp neA (ja (Z 6) j4) (eC (.str "ended")))) (zaF (yq (eOp zaa (Z 5) (eC .non))) (yq (eOp zfD (Z 3) (ja (Z 1) j6))))) (sIf (zaW (yq (ja (ja (ja (ja (ja (Z 0) j4) (ja (ja (ja (Z 1) j4) (ja (Z 5) j4)) j4)) j6) (ja (Z 5) j6)) (eC (.int 5))))) (zB (qS yP (eUn qG (Z 2)) (zb (yA (zb (eC (.str "lost")) (zb (Z 3) ze))) ze))) zI) zI)
 (sIf (yq (jb (ja (Z 6) j4) (eC (.str "stands")))) (yh (zn 7 (ja (ja (ja (ja (Z 0) j4) (Z 4)) j6) (ja (Z 6) j6)))
 (yh (sIf (zaF (zby (yq (jb (ja (Z 7) j6) j4)) (yq (eOp ltI (ja (Z 6) j7) (ja (Z 7) j6)))) (yq (eOp gtI (yf (zez I O) (zb (Z 0) (zb (Z 1) (zb (Z 7) ze)))) j4))) (zB (qS yP (eUn qG (Z 2)) (zb (yA (zb (eC (.str "again")) (zb (Z 3) ze))) ze))) zI)
 (zB (qS yP (eUn qG (Z 2)) (zb (yA (zb (eC (.str "up")) (zb (Z 3) ze))) ze))))) zI))))
def zk7(I O:Addr):X5:=
 (yh (zn 2 (eTk (zu (zb (yA (zb (eC (.str "fresh")) ze)) ze))))
 (yh (zaw (qO (zb (yf (yw zx) (zb (ja (Z 1) j4) ze)) ze)) (qp 3) (zjX I O))
 (qD (Z 2))))
def zhk(I O:Addr):X2:=zj 2 8 (zk7 I O)
def zcJ(I O:Addr):X2:=zex (zhk I O)
theorem za1:FnScope ["net","world","found","number","house","caller","state","ask"] ["net","world"] (zg zkC):=by ac_rfl
def zgK(I O:Addr):X5:=
 (yh (zax (ja (ja (Z 0) j6) (Z 5)) (zfX 3 (yY (qp 6) (yY (qp 7) (yY (qp 8) zd3)))))
 (sIf (zaF (yq (jb (Z 6) (ja (Z 2) j7))) (zby (yq (Z 3)) (yq (jb (Z 7) (eC (.str "any")))))) (yh (zn 9 (ja (ja (Z 1) j7) (Z 5)))
 (yh (zB (qS yP (eUn qG (ja (Z 9) j4)) (zb (Z 4) ze)))
 (sIf (yq (jb (yf (yw zx) (zb (ja (Z 9) j4) ze)) (Z 8))) (yh (zB (qS yP (eUn qG (ja (Z 9) j6)) (zb (yf (yw z8) (zb (ja (Z 9) j4) ze)) ze)))
 (zax (eTk (zu ze)) (zaM za0 (Z 9) j4))) zI))) zI))
def zhS(I O:Addr):X5:=
 (zaw (qO (zb (yf (yw zx) (zb (ja (Z 0) j6) ze)) ze)) (qp 5) (zgK I O))
def zdc(I O:Addr):X2:=zj 5 10 (zhS I O)
theorem zbd:FnScope ["net","world","ask","first","errand","k","name","which","per","purse"] ["net","world","ask","first","errand"] (zg zhF):=by ac_rfl
def zhT(I O:Addr):X5:=
 (qD (za8 zce zdR (eFz (zY (za6 (ja (Z 0) j4)) (qp 0) yN (ja (Z 0) j4) ["house"] [])) (zb (Z 1) ze)))
def zcq(I O:Addr):X2:=zj 2 2 (zhT I O)
theorem zlG:FnScope ["net","name"] ["net","name"] (zg zhG):=by ac_rfl
def zgM(I O:Addr):X5:=
 (yh (zn 5 (yf (yw zx) (zb (ja (Z 1) j4) ze)))
 (yh (zn 4 (ja (ja (ja (Z 0) j4) (Z 2)) j6))
 (yh (zB (qS yP (eUn qG (ja (Z 1) j4)) (zb (eTk (zu (zb (Z 2) (zb (Z 3) (zb (yA (zb (eC (.str "works")) ze)) ze))))) ze)))
 (sIf (yq (eOp neA (Z 4) (yA ze))) (yh (zax (yA (zb (eC (.str "waits")) (zb j4 (zb j6 ze)))) (zaM za0 (ja (ja (Z 1) j4) (Z 5)) j7))
 (yh (zB (yf (zdc I O) (zb (Z 0) (zb (Z 1) (zb (ja (Z 4) j4) (zb (eC (.bl true)) (zb (jc (Z 5) j6) ze)))))))
 (yh (zn 3 (yA (zb (Z 5) (zb j4 (zb j6 ze)))))
 (zn 2 (yf (zcq I O) (zb (Z 0) (zb (ja (ja (Z 4) j4) j4) ze))))))) zI))))
def zbU(I O:Addr):X7:=
 (yq (eOp neA (Z 4) (yA ze)))
def zhV(I O:Addr):X5:=
 (yh (zn 4 (yA (zb (eC .non) ze)))
 (zbJ (zbU I O) (zgM I O)))
def zcr(I O:Addr):X2:=zj 4 6 (zhV I O)
theorem zbf:FnScope ["net","world","house","caller","asks","number"] ["net","world","house","caller"] (zg zhI):=by ac_rfl
def zk4(I O:Addr):X5:=
 (yh (zn 5 (ja (ja (ja (ja (Z 0) j4) (ja (ja (ja (Z 1) j4) (Z 2)) j4)) j6) (Z 3)))
 (yh (zax (yA (zb (eC (.str "waits")) (zb (Z 3) (zb (Z 4) ze)))) (zaM za0 (ja (ja (Z 1) j4) (Z 2)) j7))
 (yh (zB (yf (zdc I O) (zb (Z 0) (zb (Z 1) (zb (Z 5) (zb (jb (Z 4) j6) (zb (yf (yw zx) (zb (ja (Z 1) j4) ze)) ze)))))))
 (zB (yf (zcr I O) (zb (Z 0) (zb (Z 1) (zb (yf (zcq I O) (zb (Z 0) (zb (ja (Z 5) j4) ze))) (zb (yA (zb (Z 2) (zb (Z 3) (zb (Z 4) ze)))) ze)))))))))
def zeY(I O:Addr):X2:=zj 5 6 (zk4 I O)
theorem ziT:FnScope ["net","world","number","at","tries","ask"] ["net","world","number","at","tries"] (zg zkz):=by ac_rfl
def zjY(I O:Addr):X5:=
 (yh (zax (yA (zb (eC (.str "ended")) (zb (Z 3) ze))) (zaM zdi (ja (ja (Z 1) j4) (Z 2)) j7))
 (yh (zn 5 (ja (ja (ja (Z 1) j4) (Z 2)) j6))
 (yh (zn 4 (zfO (eOp zaa (Z 5) (eC .non)) (eOp zfD (Z 2) (ja (Z 1) j6))))
 (sIf (yq (Z 4)) (yh (zax (Z 5) (zfX 3 (yY (qp 2) (yY (qp 6) (yY (qp 7) zd3)))))
 (yh (zn 8 (ja (ja (ja (Z 0) j4) (ja (ja (ja (Z 1) j4) (Z 2)) j4)) j6))
 (sIf (zaF (yq (jb (Z 3) (eC (.str "well")))) (yq (eOp ltI (jc (Z 6) j6) (yf (yw zx) (zb (Z 8) ze))))) (yh (zB (yf (zeY I O) (zb (Z 0) (zb (Z 1) (zb (Z 2) (zb (jc (Z 6) j6) (zb j6 ze)))))))
 (zn 4 (eC (.bl false)))) (sIf (zaF (yq (eOp neA (Z 3) (eC (.str "well")))) (zaW (zaF (yq (jb (Z 3) (eC (.str "spent")))) (yq (ja (ja (Z 8) (Z 6)) j9))))) (yh (zax (yA (zb (eC (.str "stands")) (zb (Z 6) (zb (Z 7) ze)))) (zaM zdi (ja (ja (Z 1) j4) (Z 2)) j7))
 (zn 4 (eC (.bl false)))) zI)))) zI))))
noncomputable def zc4(I O:Addr):X7:=
 (yq (Z 4))
def zk8(I O:Addr):X5:=
 (yh (zn 4 (eC (.bl true)))
 (zbJ (zc4 I O) (zjY I O)))
def zeZ(I O:Addr):X2:=zj 4 9 (zk8 I O)
theorem zao:FnScope ["net","world","number","word","going","caller","at","tries","asks"] ["net","world","number","word"] (zg zkD):=by ac_rfl
def zlo(I O:Addr):X5:=
 (sIf (yq (jb (ja (ja (ja (Z 0) j6) (Z 10)) j4) (ja (Z 9) j7))) (yh (zB (qS yP (eUn qG (ja (Z 1) j8)) (zb (yA (zb (yf (yw zx) (zb (ja (Z 1) j4) ze)) (zb (Z 10) (zb (ja (ja (ja (Z 1) j7) (Z 10)) j7) ze)))) ze)))
 (zax (jc (ja (ja (ja (Z 1) j7) (Z 10)) j7) j6) (zaM zdi (ja (ja (Z 1) j7) (Z 10)) j7))) zI)
def znc(I O:Addr):X5:=
 (yh (sIf (yq (jb (ja (Z 2) j4) (eC (.str "fresh")))) (zB (yf (zcr I O) (zb (Z 0) (zb (Z 1) (zb j4 (zb (eC .non) ze)))))) zI)
 (yh (sIf (yq (jb (ja (Z 2) j4) (eC (.str "ends")))) (zB (yf (zeZ I O) (zb (Z 0) (zb (Z 1) (zb (ja (Z 2) j6) (zb (ja (Z 2) j7) ze)))))) zI)
 (yh (sIf (yq (jb (ja (Z 2) j4) (eC (.str "lost")))) (yh (zax (eC (.bl true)) (zaM zdi (ja (Z 1) j6) (ja (Z 2) j6)))
 (yh (zax (ja (ja (ja (Z 1) j4) (ja (Z 2) j6)) j6) (zfX 3 (yY (qp 3) (yY (qp 4) (yY (qp 5) zd3)))))
 (zax (yA (zb (eC (.str "stands")) (zb (Z 4) (zb (Z 5) ze)))) (zaM zdi (ja (ja (Z 1) j4) (Z 3)) j7)))) zI)
 (sIf (yq (eOp inD (ja (Z 2) j4) (eFz (zu (zb (eC (.str "again")) (zb (eC (.str "up")) ze)))))) (yh (zax (ja (ja (Z 1) j4) (ja (Z 2) j6)) (zd2 3 (yY (qp 6) (yY (qp 7) (yY (qp 8) zd3)))))
 (yh (zn 9 (ja (ja (ja (ja (Z 0) j4) (Z 6)) j6) (ja (Z 8) j6)))
 (sIf (yq (jb (ja (Z 2) j4) (eC (.str "up")))) (zB (yf (zeZ I O) (zb (Z 0) (zb (Z 1) (zb (ja (Z 2) j6) (zb (ja (Z 9) j8) ze)))))) (yh (zaw (qO (zb (yf (yw zx) (zb (ja (Z 0) j6) ze)) ze)) (qp 10) (zlo I O))
 (zB (yf (zeY I O) (zb (Z 0) (zb (Z 1) (zb (ja (Z 2) j6) (zb (ja (Z 8) j6) (zb (jc (ja (Z 8) j7) j6) ze))))))))))) zI))))
def zey(I O:Addr):X2:=zj 3 11 (znc I O)
theorem zbe:FnScope ["net","world","event","number","at","tries","house","caller","state","ask","k"] ["net","world","event"] (zg zmp):=by ac_rfl
def zdu(I O:Addr):X5:=
 (yh (zn 8 (yf (zcJ I O) (zb (Z 1) (zb (Z 3) ze))))
 (yh (sIf (zaF (yq (eOp gtI (yf (yw zx) (zb (Z 8) ze)) j6)) (yq (eOp gtI (yf (yB I O) (zb (Z 6) (zb j9 ze))) j4))) (zn 8 (eSl (Z 8) (zbL j6) zcc)) zI)
 (yh (zn 9 (ja (Z 8) (yf (yB I O) (zb (Z 6) (zb (yf (yw zx) (zb (Z 8) ze)) ze)))))
 (yh (zB (qS yP (eUn qG (Z 4)) (zb (Z 9) ze)))
 (zB (yf (zey I O) (zb (Z 1) (zb (Z 3) (zb (Z 9) ze)))))))))
def zfr(I O:Addr):X5:=
 (yh (zn 6 (yf (zcK I O) (zb (jc (yf (zb7 I O) (zb (Z 0) (zb (Z 5) ze))) (Z 5)) ze)))
 (zaw (qO (zb (jc j6 (yf (yB I O) (zb (Z 6) (zb (Z 2) ze)))) ze)) (qp 7) (zdu I O)))
def zgA(I O:Addr):X5:=
 (yh (zn 3 (yf (zda I O) (zb (Z 1) ze)))
 (yh (zn 4 (eTk (zu ze)))
 (yh (zaw (zeV (zb j6 (zb (yf (call2 zjf) (zb (eC (.int 12)) (zb (yf (call2 zha) (zb (eC (.int 63)) (zb (yf (yw zx) (zb (Z 0) ze)) ze))) ze))) ze))) (qp 5) (zfr I O))
 (qD (yA (zb (Z 4) (zb (Z 3) ze)))))))
def zdW(I O:Addr):X2:=zj 3 10 (zgA I O)
theorem qT:FnScope ["script","net","most","world","events","k","pool","turn","some","event"] ["script","net","most"] (zg zgc):=by ac_rfl
def zcE(I O:Addr):X5:=
 (qD (zfO (yf (call2 z6) (zb (Z 0) (zb (eC (.ty "int")) ze))) (zhn (yf (call2 z6) (zb (Z 0) (zb (eC (.ty "bool")) ze))))))
def zal(I O:Addr):X2:=zj 1 1 (zcE I O)
theorem zj3:FnScope ["thing"] ["thing"] (zg zgd):=by ac_rfl
def zcf(I O:Addr):X5:=
 (qD (zfO (yf (zal I O) (zb (Z 0) ze)) (zeA leI leI (Z 1) (Z 0) (Z 2))))
def yU(I O:Addr):X2:=zj 3 3 (zcf I O)
theorem ziU:FnScope ["thing","low","high"] ["thing","low","high"] (zg zff):=by ac_rfl
def zcw(I O ZX:Addr):X5:=
 (sIf (zaW (yq (yf (yU I O) (zb (Z 1) (zb j4 (zb (eOp zbY (yf (yw zx) (zb (ja (Z 0) j4) ze)) j6) ze)))))) (zck (zcQ ZX) (zb (eC (.str "no house has this number")) ze)) zI)
def zad(I O ZX:Addr):X2:=zT 2 2 (zcw I O ZX)
theorem zgU:FnScope ["net","house"] ["net","house"] (zg zd5):=by ac_rfl
def zgD(I O:Addr):X5:=
 (yh (zH [O] "net" (Z 0) (Z 1))
 (yh (zH [O] "came" (Z 0) j4)
 (yh (zH [O] "errands" (Z 0) (eTk (zu ze)))
 (yh (zH [O] "puts" (Z 0) (eTk (zY (za6 (ja (Z 1) j6)) (qp 0) yN (eTk (zu ze)) ["purse"] [])))
 (yh (zH [O] "payments" (Z 0) (eTk (zu ze)))
 (zH [O] "taken" (Z 0) (eTk (zY (za6 (ja (Z 1) j6)) (qp 0) yN j4 ["purse"] []))))))))
def zbS(I O:Addr):X2:=zj 2 2 (zgD I O)
theorem zj6:FnScope ["self","net"] ["self","net"] (zg zgh):=by ac_rfl
def zhW(I O:Addr):X5:=
 (qD (ja (ja (ja (yo [O] "net" (Z 0)) j4) (yo [I] "house" (ja (yo [O] "errands" (Z 0)) (Z 1)))) j6))
def qW(I O:Addr):X2:=zj 2 2 (zhW I O)
theorem zlH:FnScope ["run","number"] ["run","number"] (zg zhJ):=by ac_rfl
def zd8(I O:Addr):X5:=
 (yh (zn 2 (ja (yo [O] "errands" (Z 0)) (Z 1)))
 (yh (sIf (zby (yq (eOp isN (yo [I] "caller" (Z 2)) (eC .non))) (zby (yq (yo [I] "is_lost" (Z 2))) (yq (jb (ja (yo [I] "state" (Z 2)) j4) (eC (.str "ended")))))) (qD (eC (.bl false))) zI)
 (qD (zhn (ja (ja (yf (qW I O) (zb (Z 0) (zb (ja (yo [I] "caller" (Z 2)) j4) ze))) (ja (yo [I] "caller" (Z 2)) j6)) (eC (.int 5)))))))
def zbv(I O:Addr):X2:=zj 2 3 (zd8 I O)
theorem zdy:FnScope ["run","number","errand"] ["run","number"] (zg zd4):=by ac_rfl
def zcZ(I O:Addr):X5:=
 (yh (zn 2 (yo [I] "state" (ja (yo [O] "errands" (Z 0)) (Z 1))))
 (yh (sIf (yq (eOp neA (ja (Z 2) j4) (eC (.str "stands")))) (qD (eC (.bl false))) zI)
 (yh (zn 3 (ja (ja (yf (qW I O) (zb (Z 0) (zb (Z 1) ze))) (ja (Z 2) j6)) j6))
 (qD (eOr (jb (Z 3) j4) (eOp ltI (ja (Z 2) j7) (Z 3)))))))
def zaL(I O:Addr):X2:=zj 2 4 (zcZ I O)
theorem zbl:FnScope ["run","number","state","tries"] ["run","number"] (zg zcO):=by ac_rfl
def zcA(I O:Addr):X5:=
 (yh (zn 2 (ja (yo [I] "state" (ja (yo [O] "errands" (Z 0)) (Z 1))) j4))
 (yh (zn 3 (eTk (zu ze)))
 (yh (sIf (yq (jb (Z 2) (eC (.str "works")))) (zB (za8 zce zfM (Z 3) (zb (eFz (zu (zb (yA (zb (eC (.str "ends")) (zb (Z 1) (zb (eC (.str "bad")) ze)))) (zb (yA (zb (eC (.str "ends")) (zb (Z 1) (zb (eC (.str "spent")) ze)))) (zb (yA (zb (eC (.str "ends")) (zb (Z 1) (zb (eC (.str "well")) ze)))) ze))))) ze))) zI)
 (yh (sIf (yq (yf (zbv I O) (zb (Z 0) (zb (Z 1) ze)))) (zB (qS yP (eUn qG (Z 3)) (zb (yA (zb (eC (.str "lost")) (zb (Z 1) ze))) ze))) zI)
 (yh (sIf (yq (yf (zaL I O) (zb (Z 0) (zb (Z 1) ze)))) (zB (qS yP (eUn qG (Z 3)) (zb (yA (zb (eC (.str "again")) (zb (Z 1) ze))) ze))) zI)
 (yh (sIf (yq (jb (Z 2) (eC (.str "stands")))) (zB (qS yP (eUn qG (Z 3)) (zb (yA (zb (eC (.str "up")) (zb (Z 1) ze))) ze))) zI)
 (qD (Z 3))))))))
def zbm(I O:Addr):X2:=zj 2 4 (zcA I O)
def zaq(I O:Addr):X2:=zex (zbm I O)
theorem za3:FnScope ["run","number","word","events"] ["run","number"] (zg zcz):=by ac_rfl
def zfm(I O:Addr):X5:=
 (qD (za8 zce zdR (eFz (zY (za6 (Z 0)) (qp 0) yN (ja (Z 0) j4) ["one"] [])) (zb (Z 1) ze)))
def zbp(I O:Addr):X2:=zj 2 2 (zfm I O)
theorem ziS:FnScope ["named","name"] ["named","name"] (zg zfd):=by ac_rfl
def zgx(I O:Addr):X5:=
 (qD (eIf (yq (eOp isN (ja (Z 1) j7) (eC .non))) (eC .non) (yf (zbp I O) (zb (ja (yo [O] "net" (Z 0)) j6) (zb (ja (Z 1) j7) ze)))))
def zbj(I O:Addr):X2:=zj 2 2 (zgx I O)
theorem zj1:FnScope ["run","ask"] ["run","ask"] (zg zf9):=by ac_rfl
def zew(I O:Addr):X5:=
 (qD (eOp zeB (yf (yw zx) (zb (ja (yo [O] "puts" (Z 0)) (Z 1)) ze)) (ja (ja (ja (yo [O] "net" (Z 0)) j6) (Z 1)) j7)))
def zbQ(I O:Addr):X2:=zj 2 2 (zew I O)
theorem zik:FnScope ["run","purse"] ["run","purse"] (zg zei):=by ac_rfl
def zet(I O:Addr):X5:=
 (qD (yA (zb (eOp zb3 (yf (yw zx) (zb (ja (yo [O] "puts" (Z 0)) (Z 1)) ze)) (ja (ja (ja (yo [O] "net" (Z 0)) j6) (Z 1)) j7)) (zb (eOp zbY (yf (zbQ I O) (zb (Z 0) (zb (Z 1) ze))) (ja (yo [O] "taken" (Z 0)) (Z 1))) ze))))
def zaA(I O:Addr):X2:=zj 2 2 (zet I O)
theorem zij:FnScope ["run","purse"] ["run","purse"] (zg zef):=by ac_rfl
def zgB(I O:Addr):X5:=
 (yh (zn 2 (yf (zbj I O) (zb (Z 0) (zb (ja (yf (qW I O) (zb (Z 0) (zb (Z 1) ze))) (ja (yo [I] "state" (ja (yo [O] "errands" (Z 0)) (Z 1))) j6)) ze))))
 (qD (eOr (eOp isN (Z 2) (eC .non)) (eOp gtI (ja (yf (zaA I O) (zb (Z 0) (zb (Z 2) ze))) j6) j4))))
def zbO(I O:Addr):X2:=zj 2 3 (zgB I O)
theorem zfa:FnScope ["run","number","purse"] ["run","number"] (zg zge):=by ac_rfl
def zfo(I O:Addr):X5:=
 (qD (eFz (zY (za6 (yf (zaq I O) (zb (Z 0) (zb (Z 1) ze)))) (qp 0) (zby (yq (eOp neA (ja (Z 0) j4) (eC (.str "again")))) (yq (yf (zbO I O) (zb (Z 1) (zb (Z 2) ze))))) (Z 0) ["event"] [("run",0),("number",1)])))
def zcg(I O:Addr):X2:=zj 2 2 (zfo I O)
theorem ziV:FnScope ["run","number"] ["run","number"] (zg zfg):=by ac_rfl
def zcF(I O:Addr):X5:=
 (yh (sIf (yq (jb (Z 1) (eC (.tup [.str "fresh"])))) (qD (eC (.bl true))) zI)
 (yh (sIf (zby (zaW (yq (yf (call2 z6) (zb (Z 1) (zb (eC (.ty "tuple")) ze))))) (zby (yq (eOp ltI (yf (yw zx) (zb (Z 1) ze)) j7)) (zaW (yq (yf (yU I O) (zb (ja (Z 1) j6) (zb j4 (zb (eOp zbY (yf (yw zx) (zb (yo [O] "errands" (Z 0)) ze)) j6) ze)))))))) (qD (eC (.bl false))) zI)
 (qD (eOp inN (Z 1) (yf (zcg I O) (zb (Z 0) (zb (ja (Z 1) j6) ze)))))))
def qU(I O:Addr):X2:=zj 2 2 (zcF I O)
theorem zj4:FnScope ["run","event"] ["run","event"] (zg zgf):=by ac_rfl
def zcx(I O kN:Addr):X5:=
 (sIf (zaW (yq (yf (qU I O) (zb (Z 0) (zb (Z 1) ze))))) (zck (zcP kN) (zb (yo [O] "came" (Z 0)) ze)) zI)
def yR(I O kN:Addr):X2:=zT 2 2 (zcx I O kN)
theorem zgV:FnScope ["run","event"] ["run","event"] (zg zd6):=by ac_rfl
def zgC(I O:Addr):X5:=
 (qD (yf (zbp I O) (zb (ja (Z 0) j4) (zb (ja (Z 1) j4) ze))))
def zbR(I O:Addr):X2:=zj 2 2 (zgC I O)
theorem zj5:FnScope ["net","ask"] ["net","ask"] (zg zgg):=by ac_rfl
def zd9(I O:Addr):X5:=
 (yh (zH [I] "house" (Z 0) (Z 1))
 (yh (zH [I] "caller" (Z 0) (Z 2))
 (yh (zH [I] "state" (Z 0) (yA (zb (eC (.str "works")) ze)))
 (yh (zH [I] "is_lost" (Z 0) (eC (.bl false)))
 (yh (zH [I] "asked" (Z 0) (eC .non))
 (zH [I] "stood" (Z 0) (eC .non)))))))
def zaQ(I O:Addr):X2:=zj 3 3 (zd9 I O)
theorem zgW:FnScope ["self","house","caller"] ["self","house","caller"] (zg zd7):=by ac_rfl
def zbo(I O:Addr)(q_begin_try q_begin_errand:X2):X5:=
 (yh (zn 4 (ja (yf (qW I O) (zb (Z 0) (zb (Z 1) ze))) (Z 2)))
 (yh (zn 5 (yf (yw zx) (zb (yo [O] "errands" (Z 0)) ze)))
 (yh (zH [I] "state" (ja (yo [O] "errands" (Z 0)) (Z 1)) (yA (zb (eC (.str "waits")) (zb (Z 2) (zb (Z 3) ze)))))
 (yh (zH [I] "asked" (ja (yo [O] "errands" (Z 0)) (Z 1)) (Z 5))
 (yh (zn 6 (yf (zbj I O) (zb (Z 0) (zb (Z 4) ze))))
 (yh (sIf (zaF (yq (eOp zaa (Z 6) (eC .non))) (zby (yq (jb (Z 3) j6)) (yq (jb (ja (ja (ja (yo [O] "net" (Z 0)) j6) (Z 6)) j6) (eC (.str "any")))))) (zB (qS yP (eUn qG (ja (yo [O] "puts" (Z 0)) (Z 6))) (zb (Z 5) ze))) zI)
 (zB (yf q_begin_errand (zb (Z 0) (zb (yf (zbR I O) (zb (yo [O] "net" (Z 0)) (zb (Z 4) ze))) (zb (yA (zb (Z 1) (zb (Z 2) (zb (Z 3) ze)))) ze)))))))))))
theorem za4:FnScope ["run","number","at","tried","ask","begun","purse"] ["run","number","at","tried"] (zg zfh):=by ac_rfl
def zbi(I O:Addr)(q_begin_try q_begin_errand:X2):X5:=
 (yh (zB (qS yP (eUn qG (yo [O] "errands" (Z 0))) (zb (zde I (zaQ I O) (zb (Z 1) (zb (Z 2) ze))) ze)))
 (yh (zn 3 (eOp zbY (yf (yw zx) (zb (yo [O] "errands" (Z 0)) ze)) j6))
 (sIf (yq (eOp gtI (yf (yw zx) (zb (yf (qW I O) (zb (Z 0) (zb (Z 3) ze))) ze)) j4)) (zB (yf q_begin_try (zb (Z 0) (zb (Z 3) (zb j4 (zb j6 ze)))))) zI)))
theorem zbI:FnScope ["run","house","caller","number"] ["run","house","caller"] (zg zdA):=by ac_rfl
def yn(I O:Addr):Nat->(X2) × (X2)
 |0=>(λ_ _=>.bad,λ_ _=>.bad)|n+1=>(zj 4 7 (zbo I O (yn I O n).1 (yn I O n).2),zj 3 4 (zbi I O (yn I O n).1 (yn I O n).2))
def zbq(I O:Addr):X2:=(yn I O 12).1
def zb8(I O:Addr):X2:=(yn I O 12).2
def zbM(I O:Addr)(q_end_errand q_hear:X2):X5:=
 (yh (zn 3 (ja (yo [O] "errands" (Z 0)) (Z 1)))
 (yh (zH [I] "state" (Z 3) (yA (zb (eC (.str "ended")) (zb (Z 2) ze))))
 (sIf (zaF (yq (eOp zaa (yo [I] "caller" (Z 3)) (eC .non))) (zaW (yq (yo [I] "is_lost" (Z 3))))) (zB (yf q_hear (zb (Z 0) (zb (yo [I] "caller" (Z 3)) (zb (Z 2) ze))))) zI)))
theorem zct:FnScope ["run","number","word","errand"] ["run","number","word"] (zg zeh):=by ac_rfl
def zev(I O:Addr)(q_end_errand q_hear:X2):X5:=
 (yh (zn 3 (ja (Z 1) j4))
 (yh (zn 4 (ja (Z 1) j6))
 (yh (zn 5 (yf (qW I O) (zb (Z 0) (zb (Z 3) ze))))
 (sIf (zaF (yq (jb (Z 2) (eC (.str "well")))) (yq (eOp ltI (jc (Z 4) j6) (yf (yw zx) (zb (Z 5) ze))))) (zB (yf (zbq I O) (zb (Z 0) (zb (Z 3) (zb (jc (Z 4) j6) (zb j6 ze)))))) (sIf (zby (yq (jb (Z 2) (eC (.str "well")))) (zaF (yq (jb (Z 2) (eC (.str "spent")))) (yq (ja (ja (Z 5) (Z 4)) j9)))) (zB (yf q_end_errand (zb (Z 0) (zb (Z 3) (zb (Z 2) ze))))) (yh (zH [I] "state" (ja (yo [O] "errands" (Z 0)) (Z 3)) (yA (zb (eC (.str "stands")) (zb (Z 4) (zb (ja (Z 1) j7) ze)))))
 (zH [I] "stood" (ja (yo [O] "errands" (Z 0)) (Z 3)) (yo [O] "came" (Z 0)))))))))
theorem zdz:FnScope ["run","caller","word","number","at","asks"] ["run","caller","word"] (zg zmq):=by ac_rfl
def yy(I O:Addr):Nat->(X2) × (X2)
 |0=>(λ_ _=>.bad,λ_ _=>.bad)|n+1=>(zj 3 4 (zbM I O (yy I O n).1 (yy I O n).2),zj 3 6 (zev I O (yy I O n).1 (yy I O n).2))
def zbP(I O:Addr):X2:=(yy I O 12).1
def zjB(I O:Addr):X2:=(yy I O 12).2
def znb(I O:Addr):X5:=
 (yh (zn 2 (ja (yo [O] "errands" (Z 0)) (Z 1)))
 (yh (zH [I] "is_lost" (Z 2) (eC (.bl true)))
 (zB (yf (zjB I O) (zb (Z 0) (zb (yo [I] "caller" (Z 2)) (zb (eC (.str "bad")) ze)))))))
def zjA(I O:Addr):X2:=zj 2 3 (znb I O)
theorem zky:FnScope ["run","number","errand"] ["run","number"] (zg zmo):=by ac_rfl
def zfl(I O:Addr):X5:=
 (yh (zB (qS yP (eUn qG (yo [O] "payments" (Z 0))) (zb (yA (zb (yf (yw zx) (zb (yo [O] "errands" (Z 0)) ze)) (zb (Z 1) (zb (ja (yo [O] "taken" (Z 0)) (Z 1)) ze)))) ze)))
 (zis getL zdv za0 (yo [O] "taken" (Z 0)) (Z 1) j6))
def zdp(I O:Addr):X2:=zj 2 2 (zfl I O)
theorem ziR:FnScope ["run","purse"] ["run","purse"] (zg zfc):=by ac_rfl
def zfk(I O:Addr):X5:=
 (yh (zn 2 (yo [I] "state" (ja (yo [O] "errands" (Z 0)) (Z 1))))
 (yh (zn 3 (yf (zbj I O) (zb (Z 0) (zb (ja (yf (qW I O) (zb (Z 0) (zb (Z 1) ze))) (ja (Z 2) j6)) ze))))
 (yh (sIf (yq (eOp zaa (Z 3) (eC .non))) (zB (yf (zdp I O) (zb (Z 0) (zb (Z 3) ze)))) zI)
 (zB (yf (zbq I O) (zb (Z 0) (zb (Z 1) (zb (ja (Z 2) j6) (zb (jc (ja (Z 2) j7) j6) ze)))))))))
def zdo(I O:Addr):X2:=zj 2 4 (zfk I O)
theorem zcN:FnScope ["run","number","state","purse"] ["run","number"] (zg zfb):=by ac_rfl
def zla(I O:Addr):X5:=
 (zB (yf (zbP I O) (zb (Z 0) (zb (Z 1) (zb (ja (ja (yf (qW I O) (zb (Z 0) (zb (Z 1) ze))) (ja (yo [I] "state" (ja (yo [O] "errands" (Z 0)) (Z 1))) j6)) j8) ze)))))
def zhl(I O:Addr):X2:=zj 2 2 (zla I O)
theorem znR:FnScope ["run","number"] ["run","number"] (zg zkF):=by ac_rfl
def zgz(I O:Addr):X5:=
 (yh (sIf (yq (jb (ja (Z 1) j4) (eC (.str "fresh")))) (zB (yf (zb8 I O) (zb (Z 0) (zb j4 (zb (eC .non) ze))))) (sIf (yq (jb (ja (Z 1) j4) (eC (.str "ends")))) (zB (yf (zbP I O) (zb (Z 0) (zb (ja (Z 1) j6) (zb (ja (Z 1) j7) ze))))) (sIf (yq (jb (ja (Z 1) j4) (eC (.str "lost")))) (zB (yf (zjA I O) (zb (Z 0) (zb (ja (Z 1) j6) ze)))) (sIf (yq (jb (ja (Z 1) j4) (eC (.str "again")))) (zB (yf (zdo I O) (zb (Z 0) (zb (ja (Z 1) j6) ze)))) (zB (yf (zhl I O) (zb (Z 0) (zb (ja (Z 1) j6) ze))))))))
 (zgi [O] "came" (Z 0) 1))
def zcG(I O:Addr):X2:=zj 2 2 (zgz I O)
theorem zj2:FnScope ["run","event"] ["run","event"] (zg zgb):=by ac_rfl
def zdf(I O kN:Addr):X5:=
 (yh (zB (yf (yR I O kN) (zb (Z 2) (zb (Z 3) ze))))
 (zB (yf (zcG I O) (zb (Z 2) (zb (Z 3) ze)))))
def zfI(I O kN:Addr):X5:=
 (yh (zn 2 (zde O (zbS I O) (zb (Z 0) ze)))
 (yh (zcb (zgv (Z 1)) (qp 3) (zdf I O kN))
 (qD (Z 2))))
def zaK(I O kN:Addr):X2:=zT 2 4 (zfI I O kN)
theorem zee:FnScope ["net","events","run","event"] ["net","events"] (zg ziW):=by ac_rfl
def zdU(I O ZX kN:Addr):X5:=
 (yh (zB (yf (zad I O ZX) (zb (Z 0) (zb (Z 2) ze))))
 (qD (yf (yw zx) (zb (eFz (zak (zcD (yo [O] "errands" (yf (zaK I O kN) (zb (Z 0) (zb (Z 1) ze))))) (qp 0) (yq (jb (yo [I] "house" (Z 0)) (Z 1))) (Z 0) ["errand"] [("house",2)])) ze))))
def zbN(I O ZX kN:Addr):X2:=zT 3 3 (zdU I O ZX kN)
theorem zj0:FnScope ["net","events","house"] ["net","events","house"] (zg zf8):=by ac_rfl
def zeu(I O ZT ZX ZZ ZU ZQ ZR ZS ZW ZV ZY kN:Addr):X5:=
 (yh (zn 3 (eC (.bl false)))
 (yh (zeL 4 [ZX] (zB (yf (zbN I O ZX kN) (zb (Z 0) (zb (Z 2) (zb (Z 1) ze))))) (zn 3 (zhn (eUn (isX (qV (yE [ZT,ZX,ZZ,ZU,ZQ,ZR,ZS,ZW,ZV,ZY,kN] kN) (qV (yE [ZT,ZX,ZZ,ZU,ZQ,ZR,ZS,ZW,ZV,ZY,kN] ZZ) (yE [ZT,ZX,ZZ,ZU,ZQ,ZR,ZS,ZW,ZV,ZY,kN] ZU)))) (Z 4)))))
 (qD (Z 3))))
def zc0(I O ZT ZX ZZ ZU ZQ ZR ZS ZW ZV ZY kN:Addr):X2:=zj 3 5 (zeu I O ZT ZX ZZ ZU ZQ ZR ZS ZW ZV ZY kN)
def za5(I O ZT ZX ZZ ZU ZQ ZR ZS ZW ZV ZY kN:Addr):X2:=zci (zc0 I O ZT ZX ZZ ZU ZQ ZR ZS ZW ZV ZY kN)
theorem zbu:FnScope ["net","house","events","right","e"] ["net","house","events"] (zg zeg):=by ac_rfl
def zjW(I O:Addr):X5:=
 (zax (eC (.bl true)) (zaM zgT (Z 6) (Z 7)))
def zfY(I O:Addr):X5:=
 (yh (zn 9 (yf (yB I O) (zb (Z 2) (zb (Z 3) ze))))
 (yh (zn 10 (eFz (zY (za6 (eFz (zu (zb (eC (.str "bad")) (zb (eC (.str "spent")) (zb (eC (.str "well")) ze)))))) (qp 0) yN (yA (zb (eC (.str "ends")) (zb (Z 1) (zb (Z 0) ze)))) ["word"] [("number",9)])))
 (yh (zn 10 (jc (Z 10) (eFz (zu (zb (yA (zb (eC (.str "lost")) (zb (Z 9) ze))) (zb (yA (zb (eC (.str "again")) (zb (Z 9) ze))) (zb (yA (zb (eC (.str "up")) (zb (Z 9) ze))) ze)))))))
 (zn 5 (jc (Z 5) (eFz (zY (za6 (Z 10)) (qp 0) (yq (eOp zen (Z 0) (Z 1))) (Z 0) ["event"] [("may",6)])))))))
def zk5(I O:Addr):X5:=
 (yh (zn 3 (yf (yw zx) (zb (ja (Z 1) j4) ze)))
 (yh (zn 4 (yf (yB I O) (zb (Z 2) (zb (eOp zg2 (eC (.int 10)) (eC (.int 59))) ze))))
 (yh (zn 5 (eFz (zu (zb (yA (zb (eC (.str "ends")) (zb (Z 3) (zb (eC (.str "well")) ze)))) (zb (yA (zb (eC (.str "ends")) (zb (eUn zdm j6) (zb (eC (.str "bad")) ze)))) (zb (yA (zb (eC (.str "lost")) (zb (jc (Z 3) (Z 4)) ze))) (zb (yA (zb (eC (.str "again")) (zb (eOp zbY (eUn zdm j6) (Z 4)) ze))) (zb (yA (zb (eC (.str "up")) (zb (Z 3) ze))) ze))))))))
 (yh (zn 5 (jc (Z 5) (eFz (zu (zb (yA (zb (eC (.str "ends")) (zb (eOp zbY (Z 3) j6) (zb (eC (.str "gone")) ze)))) (zb (yA (zb (eC (.str "ends")) (zb (eOp zbY (Z 3) j6) (zb (eC (.str "")) ze)))) (zb (yA (zb (eC (.str "up")) (zb (eOp zbY (eUn zdm (Z 3)) j6) ze))) ze)))))))
 (yh (zn 6 ziw)
 (yh (zaw (za6 (yf (zcJ I O) (zb (Z 0) (zb (Z 1) ze)))) (qp 7) (zjW I O))
 (yh (zaw (qO (zb (eOp zW j9 (yf (yw zfH) (zb (eOp gtI (Z 3) j4) ze))) ze)) (qp 8) (zfY I O))
 (qD (Z 5)))))))))
def zhi(I O:Addr):X2:=zj 3 11 (zk5 I O)
theorem qY:FnScope ["net","world","pool","many","far","found","may","event","k","number","some"] ["net","world","pool"] (zg zkA):=by ac_rfl
def zhP(I O:Addr):X5:=
 (yh (zn 1 (eFz (zak (zcD (yo [O] "errands" (Z 0))) (qp 0) yN (yA (zb (yo [I] "house" (Z 0)) (zb (yo [I] "caller" (Z 0)) (zb (yo [I] "state" (Z 0)) ze)))) ["errand"] [])))
 (qD (yA (zb (Z 1) (zb (eFz (zY (qO (zb (yf (yw zx) (zb (ja (yo [O] "net" (Z 0)) j6) ze)) ze)) (qp 0) yN (yf (zaA I O) (zb (Z 1) (zb (Z 0) ze))) ["purse"] [("run",0)])) ze)))))
def zc9(I O:Addr):X2:=zj 1 2 (zhP I O)
theorem zf6:FnScope ["run","errands"] ["run"] (zg zhC):=by ac_rfl
def zlW(I O kN:Addr):X5:=
 (qD (yf (zc9 I O) (zb (yf (zaK I O kN) (zb (Z 0) (zb (Z 1) ze))) ze)))
def zgF(I O kN:Addr):X2:=zT 2 2 (zlW I O kN)
def zgm(I O kN:Addr):X2:=zci (zgF I O kN)
theorem zq5:FnScope ["net","events"] ["net","events"] (zg zoR):=by ac_rfl
def zgy(I O kN:Addr):X5:=
 (yh (zn 2 (yf (zaK I O kN) (zb (Z 0) (zb (Z 1) ze))))
 (yh zgY
 (yh zgY
 zgY)))
def zdV(I O kN:Addr):X2:=zT 2 5 (zgy I O kN)
theorem ze9:FnScope ["net","events","run","told","number"] ["net","events"] (zg zga):=by ac_rfl
def zjv(I O kN:Addr):X5:=
 (yh (zn 2 (yf (zaK I O kN) (zb (Z 0) (zb (Z 1) ze))))
 zgY)
def zfK(I O kN:Addr):X2:=zT 2 3 (zjv I O kN)
theorem zhB:FnScope ["net","events","run"] ["net","events"] (zg ziX):=by ac_rfl
def zfn(I O ZT ZX ZZ ZU ZQ ZR ZS ZW ZV ZY kN:Addr):X5:=
 (yh (zn 3 (eC .non))
 (yh (zeL 4 [kN] (sIf (yq (jb (Z 0) j4)) (zB (yf (zgF I O kN) (zb (Z 1) (zb (Z 2) ze)))) (sIf (yq (jb (Z 0) j6)) (zB (yf (zbN I O ZX kN) (zb (Z 1) (zb (Z 2) (zb j4 ze))))) (sIf (yq (jb (Z 0) j7)) (zB (yf (zdV I O kN) (zb (Z 1) (zb (Z 2) ze)))) (zB (yf (zfK I O kN) (zb (Z 1) (zb (Z 2) ze))))))) (zn 3 (Z 4)))
 (yh (sIf (zby (zaW (yq (eUn (isX (yE [ZT,ZX,ZZ,ZU,ZQ,ZR,ZS,ZW,ZV,ZY,kN] kN)) (Z 3)))) (zaW (yq (eUn (isX (zfy [ZT,ZX,ZZ,ZU,ZQ,ZR,ZS,ZW,ZV,ZY,kN])) (Z 3))))) (qD (eC .non)) zI)
 (yh (sIf (yq (eUn (isX (qV (yE [ZT,ZX,ZZ,ZU,ZQ,ZR,ZS,ZW,ZV,ZY,kN] ZY) (qV (yE [ZT,ZX,ZZ,ZU,ZQ,ZR,ZS,ZW,ZV,ZY,kN] ZX) (qV (yE [ZT,ZX,ZZ,ZU,ZQ,ZR,ZS,ZW,ZV,ZY,kN] ZZ) (qV (yE [ZT,ZX,ZZ,ZU,ZQ,ZR,ZS,ZW,ZV,ZY,kN] ZU) (qV (yE [ZT,ZX,ZZ,ZU,ZQ,ZR,ZS,ZW,ZV,ZY,kN] ZQ) (qV (yE [ZT,ZX,ZZ,ZU,ZQ,ZR,ZS,ZW,ZV,ZY,kN] ZR) (qV (yE [ZT,ZX,ZZ,ZU,ZQ,ZR,ZS,ZW,ZV,ZY,kN] ZT) (qV (yE [ZT,ZX,ZZ,ZU,ZQ,ZR,ZS,ZW,ZV,ZY,kN] ZS) (qV (yE [ZT,ZX,ZZ,ZU,ZQ,ZR,ZS,ZW,ZV,ZY,kN] ZW) (yE [ZT,ZX,ZZ,ZU,ZQ,ZR,ZS,ZW,ZV,ZY,kN] ZV))))))))))) (Z 3))) (qD (eC .non)) zI)
 (qD (eUn (xat [kN]) (Z 3)))))))
def zdq(I O ZT ZX ZZ ZU ZQ ZR ZS ZW ZV ZY kN:Addr):X2:=zj 3 5 (zfn I O ZT ZX ZZ ZU ZQ ZR ZS ZW ZV ZY kN)
def zbn(I O ZT ZX ZZ ZU ZQ ZR ZS ZW ZV ZY kN:Addr):X2:=zci (zdq I O ZT ZX ZZ ZU ZQ ZR ZS ZW ZV ZY kN)
theorem zbH:FnScope ["way","net","events","caught","e"] ["way","net","events"] (zg zfe):=by ac_rfl
def znE(I O ZT ZX ZZ ZU ZQ ZR ZS ZW ZV ZY kN:Addr):X5:=
 (sIf (zby (zaW (yq (yf (za5 I O ZT ZX ZZ ZU ZQ ZR ZS ZW ZV ZY kN) (zb (Z 1) (zb (Z 4) (zb (Z 2) ze)))))) (zaW (yq (yf (za5 I O ZT ZX ZZ ZU ZQ ZR ZS ZW ZV ZY kN) (zb (Z 1) (zb (Z 4) (zb (jc (Z 2) (eFz (zu (zb (yA (zb (eC (.str "up")) (zb (eUn zdm j6) ze))) ze)))) ze))))))) (qD (eC (.bl false))) zI)
def zjV(I O ZT ZX ZZ ZU ZQ ZR ZS ZW ZV ZY kN:Addr):X5:=
 (yh (zn 8 (ja (Z 4) (yf (yB I O) (zb (Z 5) (zb (yf (yw zx) (zb (Z 4) ze)) ze)))))
 (yh (zn 9 (ja (eFz (zu (zb (eSl (Z 2) (zbL (Z 6)) zcc) (zb (eFz (zu ze)) (zb (eFz (zu (zb (Z 8) ze))) (zb (eFz (zu (zb (yA (zb (eC (.str "fresh")) ze)) ze))) ze)))))) (yf (yB I O) (zb (Z 5) (zb j9 ze)))))
 (sIf (yq (eOp neA (yf (zbn I O ZT ZX ZZ ZU ZQ ZR ZS ZW ZV ZY kN) (zb (yf (yB I O) (zb (Z 5) (zb j9 ze))) (zb (Z 1) (zb (jc (jc (eSl (Z 2) zcc (zbL (Z 6))) (eFz (zu (zb (Z 8) ze)))) (Z 9)) ze)))) (Z 6))) (qD (eC (.bl false))) zI)))
def znD(I O ZT ZX ZZ ZU ZQ ZR ZS ZW ZV ZY kN:Addr):X5:=
 (yh (zn 4 (yf (zhi I O) (zb (Z 1) (zb (Z 3) (zb (Z 5) ze)))))
 (yh (zaw (qO (zb j7 ze)) (qp 7) (zjV I O ZT ZX ZZ ZU ZQ ZR ZS ZW ZV ZY kN))
 (zB (yf (zey I O) (zb (Z 1) (zb (Z 3) (zb (ja (Z 2) (Z 6)) ze)))))))
def zo0(I O ZT ZX ZZ ZU ZQ ZR ZS ZW ZV ZY kN:Addr):X5:=
 (yh (zn 1 (yf (zhj I O) (zb (yf (zcK I O) (zb (yf (zb7 I O) (zb (Z 0) (zb j4 ze))) ze)) ze)))
 (yh (zax (yf (zdW I O) (zb (Z 0) (zb (Z 1) (zb j7 ze)))) (zfX 2 (yY (qp 2) (yY (qp 3) zd3))))
 (yh (zaw (za6 (eFz (zu (zb (eUn zdm j6) (zb (yf (yw zx) (zb (ja (Z 1) j4) ze)) (zb (jc (yf (yw zx) (zb (ja (Z 1) j4) ze)) (eOp zW (yf (yw zx) (zb (Z 2) ze)) (eOp zg2 (eC (.int 10)) (eC (.int 40))))) ze)))))) (qp 4) (znE I O ZT ZX ZZ ZU ZQ ZR ZS ZW ZV ZY kN))
 (yh (zn 3 (yf (zda I O) (zb (Z 1) ze)))
 (yh (zn 5 (yf (zcK I O) (zb (jc (yf (zb7 I O) (zb (Z 0) (zb j6 ze))) (yf (yw zx) (zb (Z 2) ze))) ze)))
 (yh (zaw (qO (zb (yf (yw zx) (zb (Z 2) ze)) ze)) (qp 6) (znD I O ZT ZX ZZ ZU ZQ ZR ZS ZW ZV ZY kN))
 (qD (zfO (jb (yf (zbn I O ZT ZX ZZ ZU ZQ ZR ZS ZW ZV ZY kN) (zb j6 (zb (Z 1) (zb (eFz (zu (zb (yA (zb (eC (.str "up")) (zb j4 ze))) ze))) ze)))) j4) (jb (yf (zgm I O kN) (zb (Z 1) (zb (Z 2) ze))) (yf (zgm I O kN) (zb (Z 1) (zb (yf (yw z8) (zb (Z 2) ze)) ze))))))))))))
def zeX(I O ZT ZX ZZ ZU ZQ ZR ZS ZW ZV ZY kN:Addr):X2:=zj 1 10 (zo0 I O ZT ZX ZZ ZU ZQ ZR ZS ZW ZV ZY kN)
def zgG(I O ZT ZX ZZ ZU ZQ ZR ZS ZW ZV ZY kN:Addr):X2:=if[ZT,ZX,ZZ,ZU,ZQ,ZR,ZS,ZW,ZV,ZY,kN].Nodup then zeX I O ZT ZX ZZ ZU ZQ ZR ZS ZW ZV ZY kN else λ_ M=>.ok (.bl true) M
theorem zaN:FnScope ["script","net","events","world","odd","pool","at","k","bad","behind"] ["script"] (zg zlI):=by ac_rfl
section
variable       (T:Txt P w K mg base I O ZT ZX ZZ ZU ZQ ZR ZS ZW ZV ZY kN)
include T
theorem zD:CalT P w K mg base 1 "_law_next" ["pool","base"] (yB I O):=
 qv T.D_l_next zc7 rfl rfl (λf cdv A outer s H E hr=>(yd (yx (zl zcU (qd zf .(0) yc) yc (zm _)) (yd (zi (i:=2) zc7.nd rfl (Or.inl rfl) (yj zbh (qd zf .(0) yc) .(4)))
  (yd (yO (yj zg6 (qd zf .(0) yc) .(4)) (zat .(0) yc zc6))
  (ye (yt (ya (pv 2)))))) yu)
  (yd (yO (yj zC (qd zf .(0) yc) yc) (zat .(0) yc zc6))
  (yd (zi (i:=3) zc7.nd rfl (Or.inl rfl) (yj zbh (yj zC (qd zf .(0) yc) (yj zaz yc (qd zf .(0) yc))) yc))
  (yd (zi (i:=4) zc7.nd rfl (Or.inl rfl) (yj zbh (yj zaz (yj zC (ya (pv 3)) yc) (yj zC (ya (pv 3)) yc)) yc))
  (ye (yt (yj zbh (yj zg6 (yj zbh (yj zaz (ya (pv 4)) (ya (pv 4))) yc) yc) .(4)))))))))
theorem zh6:CalT P w K mg base 2 "_law_words" ["pool","many"] (zdb I O):=
 qv T.D_l_words zah rfl rfl (λf cdv A outer s H E hr=>(yd (zi (i:=2) zah.nd rfl (Or.inr rfl) yi)
  (yd (zi (i:=3) zah.nd rfl (Or.inl rfl) (zdH ty_str (yS PySem.F.plainAttrs_str PySem.F.slot_str_join PySem.F.type_str_join zoc (WE.pe yi) (WA.pe (za (qC (zan (tgs:=["k"]) (ζ:=[("abc",2),("pool",0)]) (qL rfl T.n_range (za (zh (zD T) .(6) rfl (za .(0) (za yc zd))) zd)) (by bv_omega) (λ_ _ _=>(zo (yr (i:=0) (show(["k","abc","pool"]:List Str).Nodup by decide +kernel) rfl (by and_intros)))) (λ_ _ _=>zam) (λ_ _ _=>(qd zol .(4) (zh (zD T) .(6) rfl (za (ya (pv 2)) (za yc zd))))))) zd)))))
  (yd (zi (i:=4) zah.nd rfl (Or.inl rfl) (zh (zD T) .(6) rfl (za .(0) (za (yj zC (zk yp rfl T.n_len boot_len (za (ya (pv 3)) zd)) yc) zd))))
  (yd (zi (i:=5) zah.nd rfl (Or.inl rfl) (zh (zD T) .(6) rfl (za .(0) (za yc zd))))
  (yd (zi (i:=6) zah.nd rfl (Or.inl rfl) (qJ (zq zd)))
  (yd (zX PassesOwn.never rfl (qL rfl T.n_range (za .(4) zd)) (zo (yr (i:=7) zah.nd rfl (by and_intros))) (yd (zi (i:=8) zah.nd rfl (Or.inl rfl) (yj zC (yj zC (zkp (ya (pv 3)) zbw (zaY (ya (pv 4)))) (qd zol (ya (pv 2)) (yj zbh (yj zC (ya (pv 5)) (yj zaz yc (ya (pv 7)))) yc))) (zkp (ya (pv 3)) (zaY (ya (pv 4))) zbw)))
  (ye (zr (zN (yS QD QF QE yG (WE.pe (ya (pv 6))) (WA.pe (za (yj zC (ya (pv 8)) (yj zpM (qd zol (ya (pv 2)) (ya (pv 5))) (yj zbh (ya (pv 7)) yc))) zd))))))))
  (ye (yt (ya (pv 6)))))))))))
theorem zoK:CalT P w K mg base 2 "_law_asks" ["pool","later","purses","most"] (zfL I O):=
 qv T.D_l_asks za2 rfl rfl (λf cdv A outer s H E hr=>(yd (zi (i:=4) za2.nd rfl (Or.inl rfl) (qJ (zq zd)))
  (yd (zX PassesOwn.never rfl (qL rfl T.n_range (za (yj zaz (zk (zeE rfl) rfl T.n_min boot_min (za (ya (pv 3)) (za (qd zf (qC (zq (za yc (za yc (za yc (za yc (za yc (za yc (za yc (za yc zd)))))))))) (zh (zD T) .(6) rfl (za .(0) (za yc zd)))) zd))) (zaE zh4 rfl T.n_int boot_int (za (yX (zcm hr.units) .(4) (qC (zq zd)) (zm _)) zd))) zd)) (zo (yr (i:=5) za2.nd rfl (by and_intros))) (yd (zi (i:=6) za2.nd rfl (Or.inl rfl) (qd zf .(4) (zh (zD T) .(6) rfl (za .(0) (za (zk yp rfl T.n_len boot_len (za .(4) zd)) zd)))))
  (yd (zi (i:=7) za2.nd rfl (Or.inl rfl) (qd zf (qC (zq (za yc (za yc (za yc (za yc (za yc (za yc (za yc (za yc zd)))))))))) (zh (zD T) .(6) rfl (za .(0) (za yc zd)))))
  (yd (zi (i:=8) za2.nd rfl (Or.inl rfl) (qd zf (qC (ziI zkP (qC (zq (za qM zd))) (qC (ziI zpI (ya (pv 2)) yc)))) (zh (zD T) .(6) rfl (za .(0) (za (yj zC yc (yj zaz yc (zk yp rfl T.n_len boot_len (za (ya (pv 2)) zd)))) zd)))))
  (yd (zi (i:=9) za2.nd rfl (Or.inl rfl) (qd zf (qC (zq (za yi (za yi (za yi zd))))) (zh (zD T) .(6) rfl (za .(0) (za yc zd)))))
  (ye (zr (zN (yS QD QF QE yG (WE.pe (ya (pv 4))) (WA.pe (za (qo (za (ya (pv 6)) (za (ya (pv 7)) (za (ya (pv 8)) (za (ya (pv 9)) (za (yX (qB hr.units) (zh (zD T) .(6) rfl (za .(0) (za yc zd))) yc (zm _)) (za (yX (qB hr.units) (zh (zD T) .(6) rfl (za .(0) (za yc zd))) yc (zm _)) zd))))))) zd)))))))))))
  (ye (yt (zaE zbr rfl T.n_tuple boot_tuple (za (ya (pv 4)) zd)))))))
theorem zqJ:CalT P w K mg base 3 "_law_net" ["pool"] (zhj I O):=
 qv T.D_l_net zZ rfl rfl (λf cdv A outer s H E hr=>(yd (zi (i:=1) zZ.nd rfl (Or.inl rfl) (zh (zh6 T) .(6) rfl (za .(0) (za (qd zf (qC (zq (za yc (za yc (za yc (za yc (za yc (za yc (za yc (za yc zd)))))))))) (zh (zD T) .(6) rfl (za .(0) (za yc zd)))) zd))))
  (yd (zi (i:=2) zZ.nd rfl (Or.inl rfl) (zh (zh6 T) .(6) rfl (za .(0) (za (qd zf (qC (zq (za yc (za yc (za yc (za yc zd)))))) (zh (zD T) .(6) rfl (za .(0) (za yc zd)))) zd))))
  (yd (yx (zl (qB hr.units) (zh (zD T) .(6) rfl (za .(0) (za yc zd))) yc (zm _)) (ye (zi (i:=2) zZ.nd rfl (Or.inl rfl) (zea (zqS .(4) (zaY (zdx zcI yc))) zbw (zaY (zk yp rfl T.n_len boot_len (za (ya (pv 2)) zd)))))) yu)
  (yd (zi (i:=3) zZ.nd rfl (Or.inl rfl) (qJ (zq zd)))
  (yd (zi (i:=4) zZ.nd rfl (Or.inl rfl) yc)
  (yd (zX PassesOwn.never rfl (qL rfl T.n_range (za (zk yp rfl T.n_len boot_len (za .(4) zd)) zd)) (zo (yr (i:=5) zZ.nd rfl (by and_intros))) (yd (zi (i:=6) zZ.nd rfl (Or.inl rfl) (zh (zoK T) .(6) rfl (za .(0) (za (zea .(4) (zaY (yj zC (ya (pv 5)) yc)) zbw) (za (ya (pv 2)) (za (zk (zeE rfl) rfl T.n_min boot_min (za yc (za (ya (pv 4)) zd))) zd))))))
  (yd (zi (i:=4) zZ.nd rfl (Or.inl rfl) (yj zay (ya (pv 4)) (zk yp rfl T.n_len boot_len (za (ya (pv 6)) zd))))
  (ye (zr (zN (yS QD QF QE yG (WE.pe (ya (pv 3))) (WA.pe (za (qo (za (qd zf .(4) (ya (pv 5))) (za (ya (pv 6)) zd))) zd)))))))))
  (yd (zi (i:=7) zZ.nd rfl (Or.inl rfl) (qJ (zq zd)))
  (yd (ziH PassesOwn.never rfl (zft (ya (pv 2))) (zo (yr (i:=8) zZ.nd rfl (by and_intros))) (yd (zi (i:=9) zZ.nd rfl (Or.inl rfl) (qd zf (qC (zq (za yi (za yi zd)))) (zh (zD T) .(6) rfl (za .(0) (za yc zd)))))
  (ye (zr (zN (yS QD QF QE yG (WE.pe (ya (pv 7))) (WA.pe (za (qo (za (ya (pv 8)) (za (ya (pv 9)) (za (qd zf (qC (zq (za yc (za yc (za yc (za yc (za (yj zC yc (zh (zD T) .(6) rfl (za .(0) (za yc zd)))) zd))))))) (zh (zD T) .(6) rfl (za .(0) (za yc zd)))) zd)))) zd))))))))
  (ye (yt (qo (za (zaE zbr rfl T.n_tuple boot_tuple (za (ya (pv 3)) zd)) (za (zaE zbr rfl T.n_tuple boot_tuple (za (ya (pv 7)) zd)) zd))))))))))))))
theorem zhs:CalT P w K mg base 1 "_law_dig" ["cell"] (zcK I O):=
 qv T.D_l_dig znQ rfl rfl (λf cdv A outer s H E hr=>(ye (yt (qJ (zq (za (zk (zh3 rfl) rfl T.n_max boot_max (za yc (za (yj zay .(0) (yj zeP yc yc)) zd))) (za (yj zbh .(0) (yj zeP yc yc)) (za yc zd))))))))
theorem zfU:CalT P w K mg base 1 "_law_cell" ["script","k"] (zb7 I O):=
 qv T.D_l_cell zmn rfl rfl (λf cdv A outer s H E hr=>(yd (yx (zl zdC .(4) (zk yp rfl T.n_len boot_len (za .(0) zd)) (zm _)) (ye (yt (qd zf .(0) .(4)))) yu)
  (ye (yt (yj zC (yj zaz (yj zaz yc .(4)) .(4)) (yj zaz yc .(4)))))))
theorem zh5:CalT P w K mg base 1 "_law_world" ["net"] (zda I O):=
 qv T.D_l_world zlF rfl rfl (λf cdv A outer s H E hr=>(ye (yt (qJ (zq (za (qJ (zq zd)) (za zpa (za (qJ (zan (tgs:=["purse"]) (ζ:=[]) (zas (qd zf .(0) yc)) (by bv_omega) (λ_ _ _=>(zo (yr (i:=0) (show(["purse"]:List Str).Nodup by decide +kernel) rfl (by and_intros)))) (λ_ _ _=>zam) (λ_ _ _=>(qJ (zq (za (qJ (zq zd)) (za (qJ (zq zd)) (za yc zd)))))))) (za (qJ (zq zd)) zd)))))))))
theorem znB:CalT P w K mg base 1 "_law_coins" ["net","world","ask"] (zez I O):=
 qv T.D_l_coins zf7 rfl rfl (λf cdv A outer s H E hr=>(yd (zX PassesOwn.never rfl (qL rfl T.n_range (za (zk yp rfl T.n_len boot_len (za (qd zf .(0) yc) zd)) zd)) (zo (yr (i:=3) zf7.nd rfl (by and_intros))) (ye (yx (zl (qB hr.units) (qd zf (qd zf (qd zf .(0) yc) (ya (pv 3))) yc) (qd zf (ya (pv 2)) yc) (zm _)) (ye (yt (yj zay (zk yp rfl T.n_len boot_len (za (qd zf (qd zf (qd zf .(4) yc) (ya (pv 3))) yc) zd)) (qd zf (qd zf (qd zf .(4) yc) (ya (pv 3))) yc)))) yu)))
  (ye (yt yc))))
theorem zqK:CalT P w K mg base 2 "_law_may" ["net","world"] (zhk I O):=
 qv T.D_l_may za1 rfl rfl (λf cdv A outer s H E hr=>(yd (zi (i:=2) za1.nd rfl (Or.inl rfl) (qJ (zq (za (qo (za yi zd)) zd))))
  (yd (zX PassesOwn.never rfl (qL rfl T.n_range (za (zk yp rfl T.n_len boot_len (za (qd zf .(4) yc) zd)) zd)) (zo (yr (i:=3) za1.nd rfl (by and_intros))) (yd (yO (qd zf (qd zf .(4) yc) (ya (pv 3))) (ziJ (zkK rfl (WGs.pe (yI (yK (WG.pe (zo (yr (i:=4) za1.nd rfl (by and_intros)))) (WGs.pe (yI (yK (WG.pe (zo (yr (i:=5) za1.nd rfl (by and_intros)))) (WGs.pe (yI (yK (WG.pe (zo (yr (i:=6) za1.nd rfl (by and_intros)))) (WGs.pe zbV)))))))))))))
  (yd (yx (zl (qB hr.units) (qd zf (ya (pv 6)) yc) yi (zm _)) (ye (zi (i:=2) za1.nd rfl (Or.inl rfl) (qJ (ziI zkP (ya (pv 2)) (qC (zan (tgs:=["word"]) (ζ:=[("number",3)]) (zas (qC (zq (za yi (za yi (za yi zd)))))) (by bv_omega) (λ_ _ _=>(zo (yr (i:=0) (show(["word","number"]:List Str).Nodup by decide +kernel) rfl (by and_intros)))) (λ_ _ _=>zam) (λ_ _ _=>(qo (za yi (za .(4) (za .(0) zd))))))))))) yu)
  (yd (yx (WW.gt (zac (zl (zcm hr.units) (qd zf (ya (pv 6)) yc) yi (zm _)) (zac (zl zcn (ya (pv 5)) qM (zm _)) (y6 (zl (zkN hr.units) (ya (pv 3)) (qd zf .(4) yc) rfl))))) (ye (yx (zar (yJ (qd zf (qd zf (qd zf (qd zf (qd zf .(0) yc) (qd zf (qd zf (qd zf .(4) yc) (qd zf (ya (pv 5)) yc)) yc)) yc) (qd zf (ya (pv 5)) yc)) yc))) (ye (zr (zN (yS QD QF QE yG (WE.pe (ya (pv 2))) (WA.pe (za (qo (za yi (za (ya (pv 3)) zd))) zd)))))) yu)) yu)
  (ye (yx (zl (qB hr.units) (qd zf (ya (pv 6)) yc) yi (zm _)) (yd (zi (i:=7) za1.nd rfl (Or.inl rfl) (qd zf (qd zf (qd zf (qd zf .(0) yc) (ya (pv 4))) yc) (qd zf (ya (pv 6)) yc)))
  (yd (yx (WW.gt (zac (WW.gt (zaX (zl (qB hr.units) (qd zf (ya (pv 7)) yc) yc (zm _)) (zbb (zl zdC (qd zf (ya (pv 6)) yc) (qd zf (ya (pv 7)) yc) (zm _))))) (y6 (zl zcU (zh (znB T) .(6) rfl (za .(0) (za .(4) (za (ya (pv 7)) zd)))) yc (zm _))))) (ye (zr (zN (yS QD QF QE yG (WE.pe (ya (pv 2))) (WA.pe (za (qo (za yi (za (ya (pv 3)) zd))) zd)))))) yu)
  (ye (zr (zN (yS QD QF QE yG (WE.pe (ya (pv 2))) (WA.pe (za (qo (za yi (za (ya (pv 3)) zd))) zd)))))))) yu))))))
  (ye (yt (ya (pv 2)))))))
def zkw:CalT P w K mg base 2 "_law_may" ["net","world"] (zcJ I O):=CalT.refine (zqK T) (zlb _) (zlc _)
theorem zh7:CalT P w K mg base 1 "_law_share" ["net","world","ask","first","errand"] (zdc I O):=
 qv T.D_l_share zbd rfl rfl (λf cdv A outer s H E hr=>(ye (zX PassesOwn.never rfl (qL rfl T.n_range (za (zk yp rfl T.n_len boot_len (za (qd zf .(0) yc) zd)) zd)) (zo (yr (i:=5) zbd.nd rfl (by and_intros))) (yd (yO (qd zf (qd zf .(0) yc) (ya (pv 5))) (zeH (zgo rfl (WGs.pe (yI (yK (WG.pe (zo (yr (i:=6) zbd.nd rfl (by and_intros)))) (WGs.pe (yI (yK (WG.pe (zo (yr (i:=7) zbd.nd rfl (by and_intros)))) (WGs.pe (yI (yK (WG.pe (zo (yr (i:=8) zbd.nd rfl (by and_intros)))) (WGs.pe zbV)))))))))))))
  (ye (yx (WW.gt (zac (zl (qB hr.units) (ya (pv 6)) (qd zf (ya (pv 2)) yc) (zm _)) (y6 (WW.gt (zaX (yJ (ya (pv 3))) (zbb (zl (qB hr.units) (ya (pv 7)) yi (zm _)))))))) (yd (zi (i:=9) zbd.nd rfl (Or.inl rfl) (qd zf (qd zf .(4) yc) (ya (pv 5))))
  (yd (zr (zN (yS QD QF QE yG (WE.pe (qd zf (ya (pv 9)) yc)) (WA.pe (za (ya (pv 4)) zd)))))
  (ye (yx (zl (qB hr.units) (zk yp rfl T.n_len boot_len (za (qd zf (ya (pv 9)) yc) zd)) (ya (pv 8)) (zm _)) (yd (zr (zN (yS QD QF QE yG (WE.pe (qd zf (ya (pv 9)) yc)) (WA.pe (za (zaE zbr rfl T.n_tuple boot_tuple (za (qd zf (ya (pv 9)) yc) zd)) zd)))))
  (ye (yO (qJ (zq zd)) (zat (ya (pv 9)) yc zc6)))) yu)))) yu))))))
theorem zh8:CalT P w K mg base 1 "_law_house" ["net","name"] (zcq I O):=
 qv T.D_l_house zlG rfl rfl (λf cdv A outer s H E hr=>(ye (yt (zdH ziL (yS QD PySem.F.slot_list_index PySem.F.type_list_index (zmM hr.units) (WE.pe (qC (zan (tgs:=["house"]) (ζ:=[]) (zas (qd zf .(0) yc)) (by bv_omega) (λ_ _ _=>(zo (yr (i:=0) (show(["house"]:List Str).Nodup by decide +kernel) rfl (by and_intros)))) (λ_ _ _=>zam) (λ_ _ _=>(qd zf .(0) yc))))) (WA.pe (za .(4) zd)))))))
theorem zh9:CalT P w K mg base 2 "_law_begin" ["net","world","house","caller"] (zcr I O):=
 qv T.D_l_begin zbf rfl rfl (λf cdv A outer s H E hr=>(yd (zi (i:=4) zbf.nd rfl (Or.inl rfl) (qo (za qM zd)))
  (ye (zhx PassesOwn.never (zl (zcm hr.units) (ya (pv 4)) (qo zd) (zm _)) (yd (zi (i:=5) zbf.nd rfl (Or.inl rfl) (zk yp rfl T.n_len boot_len (za (qd zf .(4) yc) zd)))
  (yd (zi (i:=4) zbf.nd rfl (Or.inl rfl) (qd zf (qd zf (qd zf .(0) yc) (ya (pv 2))) yc))
  (yd (zr (zN (yS QD QF QE yG (WE.pe (qd zf .(4) yc)) (WA.pe (za (qJ (zq (za (ya (pv 2)) (za (ya (pv 3)) (za (qo (za yi zd)) zd))))) zd)))))
  (ye (yx (zl (zcm hr.units) (ya (pv 4)) (qo zd) (zm _)) (yd (yO (qo (za yi (za yc (za yc zd)))) (zat (qd zf (qd zf .(4) yc) (ya (pv 5))) yc zc6))
  (yd (zr (zh (zh7 T) .(6) rfl (za .(0) (za .(4) (za (qd zf (ya (pv 4)) yc) (za z7 (za (yj zC (ya (pv 5)) yc) zd)))))))
  (yd (zi (i:=3) zbf.nd rfl (Or.inl rfl) (qo (za (ya (pv 5)) (za yc (za yc zd)))))
  (ye (zi (i:=2) zbf.nd rfl (Or.inl rfl) (zh (zh8 T) .(6) rfl (za .(0) (za (qd zf (qd zf (ya (pv 4)) yc) yc) zd)))))))) yu)))))))))
theorem zlj:CalT P w K mg base 3 "_law_try" ["net","world","number","at","tries"] (zeY I O):=
 qv T.D_l_try ziT rfl rfl (λf cdv A outer s H E hr=>(yd (zi (i:=5) ziT.nd rfl (Or.inl rfl) (qd zf (qd zf (qd zf (qd zf .(0) yc) (qd zf (qd zf (qd zf .(4) yc) (ya (pv 2))) yc)) yc) (ya (pv 3))))
  (yd (yO (qo (za yi (za (ya (pv 3)) (za (ya (pv 4)) zd)))) (zat (qd zf (qd zf .(4) yc) (ya (pv 2))) yc zc6))
  (yd (zr (zh (zh7 T) .(6) rfl (za .(0) (za .(4) (za (ya (pv 5)) (za (yX (qB hr.units) (ya (pv 4)) yc (zm _)) (za (zk yp rfl T.n_len boot_len (za (qd zf .(4) yc) zd)) zd)))))))
  (ye (zr (zh (zh9 T) .(6) rfl (za .(0) (za .(4) (za (zh (zh8 T) .(6) rfl (za .(0) (za (qd zf (ya (pv 5)) yc) zd))) (za (qo (za (ya (pv 2)) (za (ya (pv 3)) (za (ya (pv 4)) zd)))) zd)))))))))))
theorem zlk:CalT P w K mg base 4 "_law_end" ["net","world","number","word"] (zeZ I O):=
 qv T.D_l_end zao rfl rfl (λf cdv A outer s H E hr=>(yd (zi (i:=4) zao.nd rfl (Or.inl rfl) z7)
  (ye (zhx PassesOwn.never (yJ (ya (pv 4))) (yd (yO (qo (za yi (za (ya (pv 3)) zd))) (zat (qd zf (qd zf .(4) yc) (ya (pv 2))) yc (zf5 hr.units)))
  (yd (zi (i:=5) zao.nd rfl (Or.inl rfl) (qd zf (qd zf (qd zf .(4) yc) (ya (pv 2))) yc))
  (yd (zi (i:=4) zao.nd rfl (Or.inl rfl) (zeI (yX zcn (ya (pv 5)) qM (zm _)) (zcH (yX (zkN hr.units) (ya (pv 2)) (qd zf .(4) yc) rfl))))
  (ye (yx (yJ (ya (pv 4))) (yd (yO (ya (pv 5)) (zeH (zgo rfl (WGs.pe (yI (yK (WG.pe (zo (yr (i:=2) zao.nd rfl (by and_intros)))) (WGs.pe (yI (yK (WG.pe (zo (yr (i:=6) zao.nd rfl (by and_intros)))) (WGs.pe (yI (yK (WG.pe (zo (yr (i:=7) zao.nd rfl (by and_intros)))) (WGs.pe zbV)))))))))))))
  (yd (zi (i:=8) zao.nd rfl (Or.inl rfl) (qd zf (qd zf (qd zf .(0) yc) (qd zf (qd zf (qd zf .(4) yc) (ya (pv 2))) yc)) yc))
  (ye (yx (WW.gt (zac (zl (qB hr.units) (ya (pv 3)) yi (zm _)) (y6 (zl zdC (yj zC (ya (pv 6)) yc) (zk yp rfl T.n_len boot_len (za (ya (pv 8)) zd)) (zm _))))) (yd (zr (zh (zlj T) .(6) rfl (za .(0) (za .(4) (za (ya (pv 2)) (za (yj zC (ya (pv 6)) yc) (za yc zd)))))))
  (ye (zi (i:=4) zao.nd rfl (Or.inl rfl) z7))) (ye (yx (WW.gt (zac (zl (zcm hr.units) (ya (pv 3)) yi (zm _)) (y6 (zar (WW.gt (zac (zl (qB hr.units) (ya (pv 3)) yi (zm _)) (y6 (yJ (qd zf (qd zf (ya (pv 8)) (ya (pv 6))) yc))))))))) (yd (yO (qo (za yi (za (ya (pv 6)) (za (ya (pv 7)) zd)))) (zat (qd zf (qd zf .(4) yc) (ya (pv 2))) yc (zf5 hr.units)))
  (ye (zi (i:=4) zao.nd rfl (Or.inl rfl) z7))) yu)))))) yu)))))))))
theorem znA:CalT P w K mg base 5 "_law_do" ["net","world","event"] (zey I O):=
 qv T.D_l_do zbe rfl rfl (λf cdv A outer s H E hr=>(yd (yx (zl (qB hr.units) (qd zf (ya (pv 2)) yc) yi (zm _)) (ye (zr (zh (zh9 T) .(6) rfl (za .(0) (za .(4) (za yc (za qM zd))))))) yu)
  (yd (yx (zl (qB hr.units) (qd zf (ya (pv 2)) yc) yi (zm _)) (ye (zr (zh (zlk T) .(6) rfl (za .(0) (za .(4) (za (qd zf (ya (pv 2)) yc) (za (qd zf (ya (pv 2)) yc) zd))))))) yu)
  (yd (yx (zl (qB hr.units) (qd zf (ya (pv 2)) yc) yi (zm _)) (yd (yO z7 (zat (qd zf .(4) yc) (qd zf (ya (pv 2)) yc) (zf5 hr.units)))
  (yd (yO (qd zf (qd zf (qd zf .(4) yc) (qd zf (ya (pv 2)) yc)) yc) (zeH (zgo rfl (WGs.pe (yI (yK (WG.pe (zo (yr (i:=3) zbe.nd rfl (by and_intros)))) (WGs.pe (yI (yK (WG.pe (zo (yr (i:=4) zbe.nd rfl (by and_intros)))) (WGs.pe (yI (yK (WG.pe (zo (yr (i:=5) zbe.nd rfl (by and_intros)))) (WGs.pe zbV)))))))))))))
  (ye (yO (qo (za yi (za (ya (pv 4)) (za (ya (pv 5)) zd)))) (zat (qd zf (qd zf .(4) yc) (ya (pv 3))) yc (zf5 hr.units)))))) yu)
  (ye (yx (zl (zrG hr.units) (qd zf (ya (pv 2)) yc) (qC (zq (za yi (za yi zd)))) rfl) (yd (yO (qd zf (qd zf .(4) yc) (qd zf (ya (pv 2)) yc)) (ziJ (zkK rfl (WGs.pe (yI (yK (WG.pe (zo (yr (i:=6) zbe.nd rfl (by and_intros)))) (WGs.pe (yI (yK (WG.pe (zo (yr (i:=7) zbe.nd rfl (by and_intros)))) (WGs.pe (yI (yK (WG.pe (zo (yr (i:=8) zbe.nd rfl (by and_intros)))) (WGs.pe zbV)))))))))))))
  (yd (zi (i:=9) zbe.nd rfl (Or.inl rfl) (qd zf (qd zf (qd zf (qd zf .(0) yc) (ya (pv 6))) yc) (qd zf (ya (pv 8)) yc)))
  (ye (yx (zl (qB hr.units) (qd zf (ya (pv 2)) yc) yi (zm _)) (ye (zr (zh (zlk T) .(6) rfl (za .(0) (za .(4) (za (qd zf (ya (pv 2)) yc) (za (qd zf (ya (pv 9)) yc) zd))))))) (yd (zX PassesOwn.never rfl (qL rfl T.n_range (za (zk yp rfl T.n_len boot_len (za (qd zf .(0) yc) zd)) zd)) (zo (yr (i:=10) zbe.nd rfl (by and_intros))) (ye (yx (zl (qB hr.units) (qd zf (qd zf (qd zf .(0) yc) (ya (pv 10))) yc) (qd zf (ya (pv 9)) yc) (zm _)) (yd (zr (zN (yS QD QF QE yG (WE.pe (qd zf .(4) yc)) (WA.pe (za (qo (za (zk yp rfl T.n_len boot_len (za (qd zf .(4) yc) zd)) (za (ya (pv 10)) (za (qd zf (qd zf (qd zf .(4) yc) (ya (pv 10))) yc) zd)))) zd)))))
  (ye (yO (yj zC (qd zf (qd zf (qd zf .(4) yc) (ya (pv 10))) yc) yc) (zat (qd zf (qd zf .(4) yc) (ya (pv 10))) yc (zf5 hr.units))))) yu)))
  (ye (zr (zh (zlj T) .(6) rfl (za .(0) (za .(4) (za (qd zf (ya (pv 2)) yc) (za (qd zf (ya (pv 8)) yc) (za (yj zC (qd zf (ya (pv 8)) yc) yc) zd))))))))))))) yu))))))
theorem zl7:CalT P w K mg base 6 "_law_events" ["script","net","most"] (zdW I O):=
 qv T.D_l_events qT rfl rfl (λf cdv A outer s H E hr=>(yd (zi (i:=3) qT.nd rfl (Or.inl rfl) (zh (zh5 T) .(6) rfl (za .(4) zd)))
  (yd (zi (i:=4) qT.nd rfl (Or.inl rfl) (qJ (zq zd)))
  (yd (zX PassesOwn.never rfl (zlx rfl T.n_range (za yc (za (zk (zh3 rfl) rfl T.n_max boot_max (za yc (za (zk (zeE rfl) rfl T.n_min boot_min (za yc (za (zk yp rfl T.n_len boot_len (za .(0) zd)) zd))) zd))) zd))) (zo (yr (i:=5) qT.nd rfl (by and_intros))) (yd (zi (i:=6) qT.nd rfl (Or.inl rfl) (zh (zhs T) .(6) rfl (za (yj zC (zh (zfU T) .(6) rfl (za .(0) (za (ya (pv 5)) zd))) (ya (pv 5))) zd)))
  (ye (zX PassesOwn.never rfl (qL rfl T.n_range (za (yj zC yc (zh (zD T) .(6) rfl (za (ya (pv 6)) (za (ya (pv 2)) zd)))) zd)) (zo (yr (i:=7) qT.nd rfl (by and_intros))) (yd (zi (i:=8) qT.nd rfl (Or.inl rfl) (zh (zkw T) .(6) rfl (za .(4) (za (ya (pv 3)) zd))))
  (yd (yx (WW.gt (zac (zl zcU (zk yp rfl T.n_len boot_len (za (ya (pv 8)) zd)) yc (zm _)) (y6 (zl zcU (zh (zD T) .(6) rfl (za (ya (pv 6)) (za yc zd))) yc (zm _))))) (ye (zi (i:=8) qT.nd rfl (Or.inl rfl) (zea (ya (pv 8)) (zaY yc) zbw))) yu)
  (yd (zi (i:=9) qT.nd rfl (Or.inl rfl) (qd zf (ya (pv 8)) (zh (zD T) .(6) rfl (za (ya (pv 6)) (za (zk yp rfl T.n_len boot_len (za (ya (pv 8)) zd)) zd)))))
  (yd (zr (zN (yS QD QF QE yG (WE.pe (ya (pv 4))) (WA.pe (za (ya (pv 9)) zd)))))
  (ye (zr (zh (znA T) .(6) rfl (za .(4) (za (ya (pv 3)) (za (ya (pv 9)) zd))))))))))))))
  (ye (yt (qo (za (ya (pv 4)) (za (ya (pv 3)) zd)))))))))
theorem zl8:CalT P w K mg base 1 "is_whole" ["thing"] (zal I O):=
 qv T.D_is_whole zj3 rfl rfl (λf cdv A outer s H E hr=>(ye (yt (zeI (zk zc2 rfl T.n_isinstance boot_isinstance (za .(0) (za (zfu rfl T.n_int boot_int) zd))) (zcH (zgN (zk zc2 rfl T.n_isinstance boot_isinstance (za .(0) (za (zfu rfl T.n_bool boot_bool) zd)))))))))
theorem zfq:CalT P w K mg base 2 "is_within" ["thing","low","high"] (yU I O):=
 qv T.D_is_within ziU rfl rfl (λf cdv A outer s H E hr=>(ye (yt (zeI (zh (zl8 T) .(6) rfl (za .(0) zd)) (zcH (zmh zmG zmG .(4) .(0) (ya (pv 2))))))))
theorem zin:CalX P w K mg base 3 "check_house" ["net","house"] (zad I O ZX):=
 zbx T.D_check_house zgU rfl rfl (λf cdv A outer s H E hr=>(ye (yx (zar (yJ (zh (zfq T) .(6) rfl (za .(4) (za yc (za (yj zay (zk yp rfl T.n_len boot_len (za (qd zf .(0) yc) zd)) yc) zd)))))) (ye (zlw T.x_NoHouse .(6) rfl rfl rfl rfl rfl (za yi zd))) yu)))
theorem ztI:MakT P w K mg base 1 "Run" O ["self","net"] (zbS I O):=
 zko T.D_Run_init zj6 rfl rfl (λf cdv A outer s H E hr=>(yd (yM (qg ⟨T.cls_Run,T.na_Run_net⟩ qh) .(0) .(4))
  (yd (yM (qg ⟨T.cls_Run,T.na_Run_came⟩ qh) .(0) yc)
  (yd (yM (qg ⟨T.cls_Run,T.na_Run_errands⟩ qh) .(0) (qJ (zq zd)))
  (yd (yM (qg ⟨T.cls_Run,T.na_Run_puts⟩ qh) .(0) (qJ (zan (tgs:=["purse"]) (ζ:=[]) (zas (qd zf .(4) yc)) (by bv_omega) (λ_ _ _=>(zo (yr (i:=0) (show(["purse"]:List Str).Nodup by decide +kernel) rfl (by and_intros)))) (λ_ _ _=>zam) (λ_ _ _=>(qJ (zq zd))))))
  (yd (yM (qg ⟨T.cls_Run,T.na_Run_payments⟩ qh) .(0) (qJ (zq zd)))
  (ye (yM (qg ⟨T.cls_Run,T.na_Run_taken⟩ qh) .(0) (qJ (zan (tgs:=["purse"]) (ζ:=[]) (zas (qd zf .(4) yc)) (by bv_omega) (λ_ _ _=>(zo (yr (i:=0) (show(["purse"]:List Str).Nodup by decide +kernel) rfl (by and_intros)))) (λ_ _ _=>zam) (λ_ _ _=>yc)))))))))))
theorem zaD:CalT P w K mg base 1 "asks_of" ["run","number"] (qW I O):=
 qv T.D_asks_of zlH rfl rfl (λf cdv A outer s H E hr=>(ye (yt (qd zf (qd zf (qd zf (ym (qg ⟨T.cls_Run,T.na_Run_net⟩ qh) .(0)) yc) (ym (qg ⟨T.cls_Errand,T.na_Errand_house⟩ qh) (qd zf .(7) .(4)))) yc))))
theorem zim:CalT P w K mg base 2 "may_be_lost" ["run","number"] (zbv I O):=
 qv T.D_may_be_lost zdy rfl rfl (λf cdv A outer s H E hr=>(yd (zi (i:=2) zdy.nd rfl (Or.inl rfl) (qd zf .(7) .(4)))
  (yd (yx (WW.gt (zaX (zl zg5 (ym (qg ⟨T.cls_Errand,T.na_Errand_caller⟩ qh) (ya (pv 2))) qM (zm _)) (zaX (yJ (ym (qg ⟨T.cls_Errand,T.na_Errand_is_lost⟩ qh) (ya (pv 2)))) (zbb (zl (qB hr.units) (qd zf (ym (qg ⟨T.cls_Errand,T.na_Errand_state⟩ qh) (ya (pv 2))) yc) yi (zm _)))))) (ye (yt z7)) yu)
  (ye (yt (zgN (qd zf (qd zf (zh (zaD T) .(6) rfl (za .(0) (za (qd zf (ym (qg ⟨T.cls_Errand,T.na_Errand_caller⟩ qh) (ya (pv 2))) yc) zd))) (qd zf (ym (qg ⟨T.cls_Errand,T.na_Errand_caller⟩ qh) (ya (pv 2))) yc)) yc)))))))
theorem zfV:CalT P w K mg base 2 "has_tries_left" ["run","number"] (zaL I O):=
 qv T.D_has_tries_left zbl rfl rfl (λf cdv A outer s H E hr=>(yd (zi (i:=2) zbl.nd rfl (Or.inl rfl) (ym (qg ⟨T.cls_Errand,T.na_Errand_state⟩ qh) (qd zf .(7) .(4))))
  (yd (yx (zl (zcm hr.units) (qd zf (ya (pv 2)) yc) yi (zm _)) (ye (yt z7)) yu)
  (yd (zi (i:=3) zbl.nd rfl (Or.inl rfl) (qd zf (qd zf (zh (zaD T) .(6) rfl (za .(0) (za .(4) zd))) (qd zf (ya (pv 2)) yc)) yc))
  (ye (yt (zmf (yX (qB hr.units) (ya (pv 3)) yc (zm _)) (zcH (yX zdC (qd zf (ya (pv 2)) yc) (ya (pv 3)) (zm _))))))))))
theorem ze6:CalT P w K mg base 3 "events_by_tries" ["run","number"] (zbm I O):=
 qv T.D_events_by_tries za3 rfl rfl (λf cdv A outer s H E hr=>(yd (zi (i:=2) za3.nd rfl (Or.inl rfl) (qd zf (ym (qg ⟨T.cls_Errand,T.na_Errand_state⟩ qh) (qd zf .(7) .(4))) yc))
  (yd (zi (i:=3) za3.nd rfl (Or.inl rfl) (qJ (zq zd)))
  (yd (yx (zl (qB hr.units) (ya (pv 2)) yi (zm _)) (ye (zr (zdH ziL (yS QD PySem.F.slot_list_extend PySem.F.type_list_extend zpV (WE.pe (ya (pv 3))) (WA.pe (za (qC (zq (za (qo (za yi (za .(4) (za yi zd)))) (za (qo (za yi (za .(4) (za yi zd)))) (za (qo (za yi (za .(4) (za yi zd)))) zd))))) zd)))))) yu)
  (yd (yx (yJ (zh (zim T) .(6) rfl (za .(0) (za .(4) zd)))) (ye (zr (zN (yS QD QF QE yG (WE.pe (ya (pv 3))) (WA.pe (za (qo (za yi (za .(4) zd))) zd)))))) yu)
  (yd (yx (yJ (zh (zfV T) .(6) rfl (za .(0) (za .(4) zd)))) (ye (zr (zN (yS QD QF QE yG (WE.pe (ya (pv 3))) (WA.pe (za (qo (za yi (za .(4) zd))) zd)))))) yu)
  (yd (yx (zl (qB hr.units) (ya (pv 2)) yi (zm _)) (ye (zr (zN (yS QD QF QE yG (WE.pe (ya (pv 3))) (WA.pe (za (qo (za yi (za .(4) zd))) zd)))))) yu)
  (ye (yt (ya (pv 3)))))))))))
def ze5:CalT P w K mg base 3 "events_by_tries" ["run","number"] (zaq I O):=CalT.refine (ze6 T) (zlb _) (zlc _)
theorem zfp:CalT P w K mg base 1 "number_of" ["named","name"] (zbp I O):=
 qv T.D_number_of ziS rfl rfl (λf cdv A outer s H E hr=>(ye (yt (zdH ziL (yS QD PySem.F.slot_list_index PySem.F.type_list_index (zmM hr.units) (WE.pe (qC (zan (tgs:=["one"]) (ζ:=[]) (zas .(0)) (by bv_omega) (λ_ _ _=>(zo (yr (i:=0) (show(["one"]:List Str).Nodup by decide +kernel) rfl (by and_intros)))) (λ_ _ _=>zam) (λ_ _ _=>(qd zf .(0) yc))))) (WA.pe (za .(4) zd)))))))
theorem zd1:CalT P w K mg base 2 "purse_of" ["run","ask"] (zbj I O):=
 qv T.D_purse_of zj1 rfl rfl (λf cdv A outer s H E hr=>(ye (yt (zqT (zl zg5 (qd zf .(4) yc) qM (zm _)) qM (zh (zfp T) .(6) rfl (za (qd zf (ym (qg ⟨T.cls_Run,T.na_Run_net⟩ qh) .(0)) yc) (za (qd zf .(4) yc) zd)))))))
theorem zjR:CalT P w K mg base 1 "coins_made" ["run","purse"] (zbQ I O):=
 qv T.D_coins_made zik rfl rfl (λf cdv A outer s H E hr=>(ye (yt (yj zg6 (zk yp rfl T.n_len boot_len (za (qd zf (ym (qg ⟨T.cls_Run,T.na_Run_puts⟩ qh) .(0)) .(4)) zd)) (qd zf (qd zf (qd zf (ym (qg ⟨T.cls_Run,T.na_Run_net⟩ qh) .(0)) yc) .(4)) yc)))))
theorem zeF:CalT P w K mg base 2 "purse_told" ["run","purse"] (zaA I O):=
 qv T.D_purse_told zij rfl rfl (λf cdv A outer s H E hr=>(ye (yt (qo (za (yj zbh (zk yp rfl T.n_len boot_len (za (qd zf (ym (qg ⟨T.cls_Run,T.na_Run_puts⟩ qh) .(0)) .(4)) zd)) (qd zf (qd zf (qd zf (ym (qg ⟨T.cls_Run,T.na_Run_net⟩ qh) .(0)) yc) .(4)) yc)) (za (yj zay (zh (zjR T) .(6) rfl (za .(0) (za .(4) zd))) (qd zf (ym (qg ⟨T.cls_Run,T.na_Run_taken⟩ qh) .(0)) .(4))) zd))))))
theorem zl9:CalT P w K mg base 3 "has_coin" ["run","number"] (zbO I O):=
 qv T.D_has_coin zfa rfl rfl (λf cdv A outer s H E hr=>(yd (zi (i:=2) zfa.nd rfl (Or.inl rfl) (zh (zd1 T) .(6) rfl (za .(0) (za (qd zf (zh (zaD T) .(6) rfl (za .(0) (za .(4) zd))) (qd zf (ym (qg ⟨T.cls_Errand,T.na_Errand_state⟩ qh) (qd zf .(7) .(4))) yc)) zd))))
  (ye (yt (zmf (yX zg5 (ya (pv 2)) qM (zm _)) (zcH (yX zcU (qd zf (zh (zeF T) .(6) rfl (za .(0) (za (ya (pv 2)) zd))) yc) yc (zm _))))))))
theorem zkk:CalT P w K mg base 4 "events_at" ["run","number"] (zcg I O):=
 qv T.D_events_at ziV rfl rfl (λf cdv A outer s H E hr=>(ye (yt (qC (zan (tgs:=["event"]) (ζ:=[("run",0),("number",1)]) (zas (zh (ze5 T) .(6) rfl (za .(0) (za .(4) zd)))) (by bv_omega) (λ_ _ _=>(zo (yr (i:=0) (show(["event","run","number"]:List Str).Nodup by decide +kernel) rfl (by and_intros)))) (λ_ _ _=>(zfs (WW.gt (zaX (zl (zcm hr.units) (qd zf .(0) yc) yi (zm _)) (zbb (yJ (zh (zl9 T) .(6) rfl (za .(4) (za (ya (pv 2)) zd))))))))) (λ_ _ _=>.(0)))))))
theorem zma:CalT P w K mg base 5 "can_come" ["run","event"] (qU I O):=
 qv T.D_can_come zj4 rfl rfl (λf cdv A outer s H E hr=>(yd (yx (zl (qB hr.units) .(4) (zmg (ss:=["fresh"]) rfl T.c_FRESH) (zm _)) (ye (yt z7)) yu)
  (yd (yx (WW.gt (zaX (zar (yJ (zk zc2 rfl T.n_isinstance boot_isinstance (za .(4) (za (zfu rfl T.n_tuple boot_tuple) zd))))) (zaX (zl zdC (zk yp rfl T.n_len boot_len (za .(4) zd)) yc (zm _)) (zbb (zar (yJ (zh (zfq T) .(6) rfl (za (qd zf .(4) yc) (za yc (za (yj zay (zk yp rfl T.n_len boot_len (za .(7) zd)) yc) zd)))))))))) (ye (yt z7)) yu)
  (ye (yt (yX (zrF hr.units) .(4) (zh (zkk T) .(6) rfl (za .(0) (za (qd zf .(4) yc) zd))) rfl))))))
theorem zio:CalX P w K mg base 6 "check_event" ["run","event"] (yR I O kN):=
 zbx T.D_check_event zgV rfl rfl (λf cdv A outer s H E hr=>(ye (yx (zar (yJ (zh (zma T) .(6) rfl (za .(0) (za .(4) zd))))) (ye (zlv T.x_NoEvent .(6) rfl rfl rfl rfl rfl (za (ym (qg ⟨T.cls_Run,T.na_Run_came⟩ qh) .(0)) zd))) yu)))
theorem zmb:CalT P w K mg base 2 "asked_by" ["net","ask"] (zbR I O):=
 qv T.D_asked_by zj5 rfl rfl (λf cdv A outer s H E hr=>(ye (yt (zh (zfp T) .(6) rfl (za (qd zf .(0) yc) (za (qd zf .(4) yc) zd))))))
theorem zof:MakT P w K mg base 1 "Errand" I ["self","house","caller"] (zaQ I O):=
 zko T.D_Errand_init zgW rfl rfl (λf cdv A outer s H E hr=>(yd (yM (qg ⟨T.cls_Errand,T.na_Errand_house⟩ qh) .(0) .(4))
  (yd (yM (qg ⟨T.cls_Errand,T.na_Errand_caller⟩ qh) .(0) (ya (pv 2)))
  (yd (yM (qg ⟨T.cls_Errand,T.na_Errand_state⟩ qh) .(0) (qo (za yi zd)))
  (yd (yM (qg ⟨T.cls_Errand,T.na_Errand_is_lost⟩ qh) .(0) z7)
  (yd (yM (qg ⟨T.cls_Errand,T.na_Errand_asked⟩ qh) .(0) qM)
  (ye (yM (qg ⟨T.cls_Errand,T.na_Errand_stood⟩ qh) .(0) qM))))))))
theorem zdt(hL:2<=L)(zb9:CalT P w K mg base L "begin_errand" ["run","house","caller"] q_begin_errand):CalT P w K mg base (L+1) "begin_try" ["run","number","at","tried"] (zj 4 7 (zbo I O q_begin_try q_begin_errand)):=
 qv T.D_begin_try za4 rfl rfl (λf cdv A outer s H E hr=>(yd (zi (i:=4) za4.nd rfl (Or.inl rfl) (qd zf (zh (zaD T) (hr.mono ⋯) rfl (za .(0) (za .(4) zd))) (ya (pv 2))))
  (yd (zi (i:=5) za4.nd rfl (Or.inl rfl) (zk yp rfl T.n_len boot_len (za .(7) zd)))
  (yd (yM (qg ⟨T.cls_Errand,T.na_Errand_state⟩ qh) (qd zf .(7) .(4)) (qo (za yi (za (ya (pv 2)) (za (ya (pv 3)) zd)))))
  (yd (yM (qg ⟨T.cls_Errand,T.na_Errand_asked⟩ qh) (qd zf .(7) .(4)) (ya (pv 5)))
  (yd (zi (i:=6) za4.nd rfl (Or.inl rfl) (zh (zd1 T) (hr.mono ⋯) rfl (za .(0) (za (ya (pv 4)) zd))))
  (yd (yx (WW.gt (zac (zl zcn (ya (pv 6)) qM (zm _)) (y6 (WW.gt (zaX (zl (qB hr.units) (ya (pv 3)) yc (zm _)) (zbb (zl (qB hr.units) (qd zf (qd zf (qd zf (ym (qg ⟨T.cls_Run,T.na_Run_net⟩ qh) .(0)) yc) (ya (pv 6))) yc) yi (zm _)))))))) (ye (zr (zN (yS QD QF QE yG (WE.pe (qd zf (ym (qg ⟨T.cls_Run,T.na_Run_puts⟩ qh) .(0)) (ya (pv 6)))) (WA.pe (za (ya (pv 5)) zd)))))) yu)
  (ye (zr (zh zb9 (hr.mono ⋯) rfl (za .(0) (za (zh (zmb T) (hr.mono ⋯) rfl (za (ym (qg ⟨T.cls_Run,T.na_Run_net⟩ qh) .(0)) (za (ya (pv 4)) zd))) (za (qo (za .(4) (za (ya (pv 2)) (za (ya (pv 3)) zd)))) zd)))))))))))))
theorem zb9(hL:2<=L)(zdt:CalT P w K mg base L "begin_try" ["run","number","at","tried"] q_begin_try):CalT P w K mg base (L+1) "begin_errand" ["run","house","caller"] (zj 3 4 (zbi I O q_begin_try q_begin_errand)):=
 qv T.D_begin_errand zbI rfl rfl (λf cdv A outer s H E hr=>(yd (zr (zN (yS QD QF QE yG (WE.pe .(7)) (WA.pe (za (ziK (zof T) (hr.mono ⋯) rfl (za .(4) (za (ya (pv 2)) zd))) zd)))))
  (yd (zi (i:=3) zbI.nd rfl (Or.inl rfl) (yj zay (zk yp rfl T.n_len boot_len (za .(7) zd)) yc))
  (ye (yx (zl zcU (zk yp rfl T.n_len boot_len (za (zh (zaD T) (hr.mono ⋯) rfl (za .(0) (za (ya (pv 3)) zd))) zd)) yc (zm _)) (ye (zr (zh zdt (hr.mono ⋯) rfl (za .(0) (za (ya (pv 3)) (za yc (za yc zd))))))) yu)))))
theorem z4:∀n,CalT P w K mg base (2+n+1) "begin_try" ["run","number","at","tried"] (yn I O n).1/\CalT P w K mg base (2+n+1) "begin_errand" ["run","house","caller"] (yn I O n).2
 |0=>⟨CalT.bad T.D_begin_try za4,CalT.bad T.D_begin_errand zbI⟩|n+1=>by have ih:=z4 n;exact⟨zdt T ⋯ ih.2,zb9 T ⋯ ih.1⟩
def ze8:CalT P w K mg base 15 "begin_try" ["run","number","at","tried"] (zbq I O):=(z4 T 12).1
def zgR:CalT P w K mg base 15 "begin_errand" ["run","house","caller"] (zb8 I O):=(z4 T 12).2
theorem zc3(hL:15<=L)(zjQ:CalT P w K mg base L "hear" ["run","caller","word"] q_hear):CalT P w K mg base (L+1) "end_errand" ["run","number","word"] (zj 3 4 (zbM I O q_end_errand q_hear)):=
 qv T.D_end_errand zct rfl rfl (λf cdv A outer s H E hr=>(yd (zi (i:=3) zct.nd rfl (Or.inl rfl) (qd zf .(7) .(4)))
  (yd (yM (qg ⟨T.cls_Errand,T.na_Errand_state⟩ qh) (ya (pv 3)) (qo (za yi (za (ya (pv 2)) zd))))
  (ye (yx (WW.gt (zac (zl zcn (ym (qg ⟨T.cls_Errand,T.na_Errand_caller⟩ qh) (ya (pv 3))) qM (zm _)) (y6 (zar (yJ (ym (qg ⟨T.cls_Errand,T.na_Errand_is_lost⟩ qh) (ya (pv 3)))))))) (ye (zr (zh zjQ (hr.mono ⋯) rfl (za .(0) (za (ym (qg ⟨T.cls_Errand,T.na_Errand_caller⟩ qh) (ya (pv 3))) (za (ya (pv 2)) zd)))))) yu)))))
theorem zjQ(hL:15<=L)(zc3:CalT P w K mg base L "end_errand" ["run","number","word"] q_end_errand):CalT P w K mg base (L+1) "hear" ["run","caller","word"] (zj 3 6 (zev I O q_end_errand q_hear)):=
 qv T.D_hear zdz rfl rfl (λf cdv A outer s H E hr=>(yd (zi (i:=3) zdz.nd rfl (Or.inl rfl) (qd zf .(4) yc))
  (yd (zi (i:=4) zdz.nd rfl (Or.inl rfl) (qd zf .(4) yc))
  (yd (zi (i:=5) zdz.nd rfl (Or.inl rfl) (zh (zaD T) (hr.mono ⋯) rfl (za .(0) (za (ya (pv 3)) zd))))
  (ye (yx (WW.gt (zac (zl (qB hr.units) (ya (pv 2)) yi (zm _)) (y6 (zl zdC (yj zC (ya (pv 4)) yc) (zk yp rfl T.n_len boot_len (za (ya (pv 5)) zd)) (zm _))))) (ye (zr (zh (ze8 T) (hr.mono ⋯) rfl (za .(0) (za (ya (pv 3)) (za (yj zC (ya (pv 4)) yc) (za yc zd))))))) (ye (yx (WW.gt (zaX (zl (qB hr.units) (ya (pv 2)) yi (zm _)) (zbb (WW.gt (zac (zl (qB hr.units) (ya (pv 2)) yi (zm _)) (y6 (yJ (qd zf (qd zf (ya (pv 5)) (ya (pv 4))) yc)))))))) (ye (zr (zh zc3 (hr.mono ⋯) rfl (za .(0) (za (ya (pv 3)) (za (ya (pv 2)) zd)))))) (yd (yM (qg ⟨T.cls_Errand,T.na_Errand_state⟩ qh) (qd zf .(7) (ya (pv 3))) (qo (za yi (za (ya (pv 4)) (za (qd zf .(4) yc) zd)))))
  (ye (yM (qg ⟨T.cls_Errand,T.na_Errand_stood⟩ qh) (qd zf .(7) (ya (pv 3))) (ym (qg ⟨T.cls_Run,T.na_Run_came⟩ qh) .(0)))))))))))))
theorem zba:∀n,CalT P w K mg base (15+n+1) "end_errand" ["run","number","word"] (yy I O n).1/\CalT P w K mg base (15+n+1) "hear" ["run","caller","word"] (yy I O n).2
 |0=>⟨CalT.bad T.D_end_errand zct,CalT.bad T.D_hear zdz⟩|n+1=>by have ih:=zba n;exact⟨zc3 T ⋯ ih.2,zjQ T ⋯ ih.1⟩
def zec:CalT P w K mg base 28 "end_errand" ["run","number","word"] (zbP I O):=(zba T 12).1
def zqW:CalT P w K mg base 28 "hear" ["run","caller","word"] (zjB I O):=(zba T 12).2
theorem zsY:CalT P w K mg base 29 "lose" ["run","number"] (zjA I O):=
 qv T.D_lose zky rfl rfl (λf cdv A outer s H E hr=>(yd (zi (i:=2) zky.nd rfl (Or.inl rfl) (qd zf .(7) .(4)))
  (yd (yM (qg ⟨T.cls_Errand,T.na_Errand_is_lost⟩ qh) (ya (pv 2)) z7)
  (ye (zr (zh (zqW T) .(6) rfl (za .(0) (za (ym (qg ⟨T.cls_Errand,T.na_Errand_caller⟩ qh) (ya (pv 2))) (za yi zd)))))))))
theorem zki:CalT P w K mg base 1 "take_coin" ["run","purse"] (zdp I O):=
 qv T.D_take_coin ziR rfl rfl (λf cdv A outer s H E hr=>(yd (zr (zN (yS QD QF QE yG (WE.pe (ym (qg ⟨T.cls_Run,T.na_Run_payments⟩ qh) .(0))) (WA.pe (za (qo (za (zk yp rfl T.n_len boot_len (za .(7) zd)) (za .(4) (za (qd zf (ym (qg ⟨T.cls_Run,T.na_Run_taken⟩ qh) .(0)) .(4)) zd)))) zd)))))
  (ye (znJ (ym (qg ⟨T.cls_Run,T.na_Run_taken⟩ qh) .(0)) .(4) ztZ yc zp9 zc6))))
theorem zkh:CalT P w K mg base 16 "try_again" ["run","number"] (zdo I O):=
 qv T.D_try_again zcN rfl rfl (λf cdv A outer s H E hr=>(yd (zi (i:=2) zcN.nd rfl (Or.inl rfl) (ym (qg ⟨T.cls_Errand,T.na_Errand_state⟩ qh) (qd zf .(7) .(4))))
  (yd (zi (i:=3) zcN.nd rfl (Or.inl rfl) (zh (zd1 T) .(6) rfl (za .(0) (za (qd zf (zh (zaD T) .(6) rfl (za .(0) (za .(4) zd))) (qd zf (ya (pv 2)) yc)) zd))))
  (yd (yx (zl zcn (ya (pv 3)) qM (zm _)) (ye (zr (zh (zki T) .(6) rfl (za .(0) (za (ya (pv 3)) zd))))) yu)
  (ye (zr (zh (ze8 T) .(6) rfl (za .(0) (za .(4) (za (qd zf (ya (pv 2)) yc) (za (yj zC (qd zf (ya (pv 2)) yc) yc) zd)))))))))))
theorem zqL:CalT P w K mg base 29 "go_up" ["run","number"] (zhl I O):=
 qv T.D_go_up znR rfl rfl (λf cdv A outer s H E hr=>(ye (zr (zh (zec T) .(6) rfl (za .(0) (za .(4) (za (qd zf (qd zf (zh (zaD T) .(6) rfl (za .(0) (za .(4) zd))) (qd zf (ym (qg ⟨T.cls_Errand,T.na_Errand_state⟩ qh) (qd zf .(7) .(4))) yc)) yc) zd)))))))
theorem zl6:CalT P w K mg base 30 "let_come" ["run","event"] (zcG I O):=
 qv T.D_let_come zj2 rfl rfl (λf cdv A outer s H E hr=>(yd (yx (zl (qB hr.units) (qd zf .(4) yc) yi (zm _)) (ye (zr (zh (zgR T) .(6) rfl (za .(0) (za yc (za qM zd)))))) (ye (yx (zl (qB hr.units) (qd zf .(4) yc) yi (zm _)) (ye (zr (zh (zec T) .(6) rfl (za .(0) (za (qd zf .(4) yc) (za (qd zf .(4) yc) zd)))))) (ye (yx (zl (qB hr.units) (qd zf .(4) yc) yi (zm _)) (ye (zr (zh (zsY T) .(6) rfl (za .(0) (za (qd zf .(4) yc) zd))))) (ye (yx (zl (qB hr.units) (qd zf .(4) yc) yi (zm _)) (ye (zr (zh (zkh T) .(6) rfl (za .(0) (za (qd zf .(4) yc) zd))))) (ye (zr (zh (zqL T) .(6) rfl (za .(0) (za (qd zf .(4) yc) zd))))))))))))
  (ye (znI (qg ⟨T.cls_Run,T.na_Run_came⟩ qh) .(0)))))
theorem zd0:CalX P w K mg base 31 "run_of" ["net","events"] (zaK I O kN):=
 zbx T.D_run_of zee rfl rfl (λf cdv A outer s H E hr=>(yd (zi (i:=2) zee.nd rfl (Or.inl rfl) (ziK (ztI T) .(6) rfl (za .(0) zd)))
  (yd (ziH PassesOwn.leaving rfl (znK .(4)) (zo (yr (i:=3) zee.nd rfl (by and_intros))) (yd (zr (zbW (zio T) .(6) rfl (zdB rfl rfl rfl rfl) (za (ya (pv 2)) (za (ya (pv 3)) zd))))
  (ye (zr (zh (zl6 T) .(6) rfl (za (ya (pv 2)) (za (ya (pv 3)) zd)))))))
  (ye (yt (ya (pv 2)))))))
theorem zgI:CalX P w K mg base 32 "run_load" ["net","events","house"] (zbN I O ZX kN):=
 zbx T.D_run_load zj0 rfl rfl (λf cdv A outer s H E hr=>(yd (zr (zbW (zin T) .(6) rfl (zdB rfl rfl rfl rfl) (za .(0) (za (ya (pv 2)) zd))))
  (ye (yt (zk yp rfl T.n_len boot_len (za (qC (zme (tgs:=["errand"]) (ζ:=[("house",2)]) (zft (ym (qg ⟨T.cls_Run,T.na_Run_errands⟩ qh) (zbW (zd0 T) .(6) rfl (zdB rfl rfl rfl rfl) (za .(0) (za .(4) zd))))) (by bv_omega) (λ_ _ _=>(zo (yr (i:=0) (show(["errand","house"]:List Str).Nodup by decide +kernel) rfl (by and_intros)))) (λ_ _ _=>(zfs (zl (qB hr.units) (ym (qg ⟨T.cls_Errand,T.na_Errand_house⟩ qh) .(0)) .(4) (zm _)))) (λ_ _ _=>.(0)))) zd))))))
theorem zjP:CalT P w K mg base 33 "_law_no_house" ["net","house","events"] (zc0 I O ZT ZX ZZ ZU ZQ ZR ZS ZW ZV ZY kN):=
 qv T.D_l_no_house zbu rfl rfl (λf cdv A outer s H E hr=>(yd (zi (i:=3) zbu.nd rfl (Or.inl rfl) z7)
  (yd (ziF (cs:=[ZX]) (j:=4) (zcM (zgI T) .(6) rfl (λ_ _=>(za .(0) (za (ya (pv 2)) (za .(4) zd))))) (forall_mem_cons.mpr ⟨zpf T.x_NoHouse,forall_mem_nil _⟩) rfl rfl rfl rfl zbu.nd rfl rfl (λ_=>(ye (zi (i:=3) zbu.nd rfl (Or.inl rfl) (zgN (zkq (yW T.i_NoEvent rfl (yW T.i_NoAsk rfl (zjo T.i_NoPurse rfl))) rfl T.n_isinstance boot_isinstance (ya (pv 4))))))))
  (ye (yt (ya (pv 3)))))))
def zeb:CalT P w K mg base 33 "_law_no_house" ["net","house","events"] (za5 I O ZT ZX ZZ ZU ZQ ZR ZS ZW ZV ZY kN):=CalT.refine (zjP T) (zfP _) (zfQ _)
theorem zqI:CalT P w K mg base 3 "_law_odd" ["net","world","pool"] (zhi I O):=
 qv T.D_l_odd qY rfl rfl (λf cdv A outer s H E hr=>(yd (zi (i:=3) qY.nd rfl (Or.inl rfl) (zk yp rfl T.n_len boot_len (za (qd zf .(4) yc) zd)))
  (yd (zi (i:=4) qY.nd rfl (Or.inl rfl) (zh (zD T) .(6) rfl (za (ya (pv 2)) (za (yj zeP yc yc) zd))))
  (yd (zi (i:=5) qY.nd rfl (Or.inl rfl) (qC (zq (za (qo (za yi (za (ya (pv 3)) (za yi zd)))) (za (qo (za yi (za (zdx zcI yc) (za yi zd)))) (za (qo (za yi (za (yj zC (ya (pv 3)) (ya (pv 4))) zd))) (za (qo (za yi (za (yj zay (zdx zcI yc) (ya (pv 4))) zd))) (za (qo (za yi (za (ya (pv 3)) zd))) zd))))))))
  (yd (zi (i:=5) qY.nd rfl (Or.inl rfl) (yj zC (ya (pv 5)) (qC (zq (za (qo (za yi (za (yj zay (ya (pv 3)) yc) (za yi zd)))) (za (qo (za yi (za (yj zay (ya (pv 3)) yc) (za yi zd)))) (za (qo (za yi (za (yj zay (zdx zcI (ya (pv 3))) yc) zd))) zd)))))))
  (yd (zi (i:=6) qY.nd rfl (Or.inr rfl) znL)
  (yd (zX PassesOwn.never rfl (zas (zh (zkw T) .(6) rfl (za .(0) (za .(4) zd)))) (zo (yr (i:=7) qY.nd rfl (by and_intros))) (ye (yO z7 (zat (ya (pv 6)) (ya (pv 7)) (ztk hr.units)))))
  (yd (zX PassesOwn.never rfl (qL rfl T.n_range (za (yj zaz yc (zaE zh4 rfl T.n_int boot_int (za (yX zcU (ya (pv 3)) yc (zm _)) zd))) zd)) (zo (yr (i:=8) qY.nd rfl (by and_intros))) (yd (zi (i:=9) qY.nd rfl (Or.inr rfl) (zh (zD T) .(6) rfl (za (ya (pv 2)) (za (ya (pv 3)) zd))))
  (yd (ziG (i0:=10) (tgs:=["word"]) (ζ:=[("number",9)]) (zas (qC (zq (za yi (za yi (za yi zd)))))) (by bv_omega) (λ_ _ _=>(zo (yr (i:=0) (show(["word","number"]:List Str).Nodup by decide +kernel) rfl (by and_intros)))) (λ_ _ _=>zam) (λ_ _ _=>(qo (za yi (za .(4) (za .(0) zd))))) qY.nd rfl (Or.inl rfl))
  (yd (zi (i:=10) qY.nd rfl (Or.inl rfl) (yj zC (ya (pv 10)) (qC (zq (za (qo (za yi (za (ya (pv 9)) zd))) (za (qo (za yi (za (ya (pv 9)) zd))) (za (qo (za yi (za (ya (pv 9)) zd))) zd)))))))
  (ye (zi (i:=5) qY.nd rfl (Or.inl rfl) (yj zC (ya (pv 5)) (qC (zan (tgs:=["event"]) (ζ:=[("may",6)]) (zas (ya (pv 10))) (by bv_omega) (λ_ _ _=>(zo (yr (i:=0) (show(["event","may"]:List Str).Nodup by decide +kernel) rfl (by and_intros)))) (λ_ _ _=>(zfs (zl (zpK hr.units) .(0) .(4) rfl))) (λ_ _ _=>.(0)))))))))))
  (ye (yt (ya (pv 5))))))))))))
theorem znz:CalT P w K mg base 3 "told_of" ["run"] (zc9 I O):=
 qv T.D_told_of zf6 rfl rfl (λf cdv A outer s H E hr=>(yd (zif (i0:=1) (tgs:=["errand"]) (ζ:=[]) (zft .(7)) (by bv_omega) (λ_ _ _=>(zo (yr (i:=0) (show(["errand"]:List Str).Nodup by decide +kernel) rfl (by and_intros)))) (λ_ _ _=>zam) (λ_ _ _=>(qo (za (ym (qg ⟨T.cls_Errand,T.na_Errand_house⟩ qh) .(0)) (za (ym (qg ⟨T.cls_Errand,T.na_Errand_caller⟩ qh) .(0)) (za (ym (qg ⟨T.cls_Errand,T.na_Errand_state⟩ qh) .(0)) zd))))) zf6.nd rfl (Or.inl rfl))
  (ye (yt (qo (za .(4) (za (qC (zan (tgs:=["purse"]) (ζ:=[("run",0)]) (qL rfl T.n_range (za (zk yp rfl T.n_len boot_len (za (qd zf (ym (qg ⟨T.cls_Run,T.na_Run_net⟩ qh) .(0)) yc) zd)) zd)) (by bv_omega) (λ_ _ _=>(zo (yr (i:=0) (show(["purse","run"]:List Str).Nodup by decide +kernel) rfl (by and_intros)))) (λ_ _ _=>zam) (λ_ _ _=>(zh (zeF T) .(6) rfl (za .(4) (za .(0) zd)))))) zd)))))))
theorem zo6:CalX P w K mg base 32 "ran" ["net","events"] (zgF I O kN):=
 zbx T.D_ran zq5 rfl rfl (λf cdv A outer s H E hr=>(ye (yt (zh (znz T) .(6) rfl (za (zbW (zd0 T) .(6) rfl (zdB rfl rfl rfl rfl) (za .(0) (za .(4) zd))) zd)))))
def zoP:CalT P w K mg base 32 "ran" ["net","events"] (zgm I O kN):=CalX.refine (zo6 T) (zfP _) (zfQ _)
theorem zl5:CalX P w K mg base 32 "may_come" ["net","events"] (zdV I O kN):=
 zbx T.D_may_come ze9 rfl rfl (λf cdv A outer s H E hr=>(yd (zi (i:=2) ze9.nd rfl (Or.inl rfl) (zbW (zd0 T) .(6) rfl (zdB rfl rfl rfl rfl) (za .(0) (za .(4) zd))))
  (yd zeG
  (yd zeG
  (ye zeG)))))
theorem zoJ:CalX P w K mg base 32 "ledger" ["net","events"] (zfK I O kN):=
 zbx T.D_ledger zhB rfl rfl (λf cdv A outer s H E hr=>(yd (zi (i:=2) zhB.nd rfl (Or.inr rfl) (zbW (zd0 T) .(6) rfl (zdB rfl rfl rfl rfl) (za .(0) (za .(4) zd))))
  (ye zeG)))
theorem zkj:CalT P w K mg base 33 "_law_refused" ["way","net","events"] (zdq I O ZT ZX ZZ ZU ZQ ZR ZS ZW ZV ZY kN):=
 T.u_NoEvent.elim λ_ uu=>qv T.D_l_refused zbH rfl rfl (λf cdv A outer s H E hr=>(yd (zi (i:=3) zbH.nd rfl (Or.inl rfl) qM)
  (yd (ziF (cs:=[kN]) (j:=4) (ziE (λ_ _=>(zl (qB hr.units) .(0) yc (zm _))) (zcM (zo6 T) .(6) rfl (λ_ _=>(za .(4) (za (ya (pv 2)) zd)))) (ziE (λ_ _=>(zl (qB hr.units) .(0) yc (zm _))) (zcM (zgI T) .(6) rfl (λ_ _=>(za .(4) (za (ya (pv 2)) (za yc zd))))) (ziE (λ_ _=>(zl (qB hr.units) .(0) yc (zm _))) (zcM (zl5 T) .(6) rfl (λ_ _=>(za .(4) (za (ya (pv 2)) zd)))) (zcM (zoJ T) .(6) rfl (λ_ _=>(za .(4) (za (ya (pv 2)) zd))))))) (forall_mem_cons.mpr ⟨uu,forall_mem_nil _⟩) rfl rfl rfl rfl zbH.nd rfl rfl (λ_=>(ye (zi (i:=3) zbH.nd rfl (Or.inl rfl) (ya (pv 4))))))
  (yd (yx (WW.gt (zaX (zar (yJ (zkr T.i_NoEvent rfl rfl T.n_isinstance boot_isinstance (ya (pv 3))))) (zbb (zar (yJ (zkr T.i_ValueError rfl rfl T.n_isinstance boot_isinstance (ya (pv 3)))))))) (ye (yt qM)) yu)
  (yd (yx (yJ (zkq (yW T.i_NoDeed rfl (yW T.i_NoHouse rfl (yW T.i_NoAsk rfl (yW T.i_NoPurse rfl (yW T.i_TooMany rfl (yW T.i_NoText rfl (yW T.i_NoRatio rfl (yW T.i_NoRow rfl (yW T.i_NoNet rfl (zjo T.i_NoPast rfl)))))))))) rfl T.n_isinstance boot_isinstance (ya (pv 3)))) (ye (yt qM)) yu)
  (ye (yt (zo9 (forall_mem_cons.mpr ⟨T.x_NoEvent.at,forall_mem_nil _⟩) (ya (pv 3))))))))))
def ze7:CalT P w K mg base 33 "_law_refused" ["way","net","events"] (zbn I O ZT ZX ZZ ZU ZQ ZR ZS ZW ZV ZY kN):=CalT.refine (zkj T) (zfP _) (zfQ _)
theorem zrK(D:Fun K "law" "law" zlI f fd):FnOk P w K mg base CX0 34 f fd ["script"] (spT K (zeX I O ZT ZX ZZ ZU ZQ ZR ZS ZW ZV ZY kN)):=
 zo8 D zaN rfl rfl (λcdv A outer s H E hr=>(yd (zi (i:=1) zaN.nd rfl (Or.inl rfl) (zh (zqJ T) .(6) rfl (za (zh (zhs T) .(6) rfl (za (zh (zfU T) .(6) rfl (za .(0) (za yc zd))) zd)) zd)))
  (yd (yO (zh (zl7 T) .(6) rfl (za .(0) (za .(4) (za yc zd)))) (zeH (zgo rfl (WGs.pe (yI (yK (WG.pe (zo (yr (i:=2) zaN.nd rfl (by and_intros)))) (WGs.pe (yI (yK (WG.pe (zo (yr (i:=3) zaN.nd rfl (by and_intros)))) (WGs.pe zbV))))))))))
  (yd (zX PassesOwn.never rfl (zas (qC (zq (za (zdx zcI yc) (za (zk yp rfl T.n_len boot_len (za (qd zf .(4) yc) zd)) (za (yj zC (zk yp rfl T.n_len boot_len (za (qd zf .(4) yc) zd)) (yj zaz (zk yp rfl T.n_len boot_len (za (ya (pv 2)) zd)) (yj zeP yc yc))) zd)))))) (zo (yr (i:=4) zaN.nd rfl (by and_intros))) (ye (yx (WW.gt (zaX (zar (yJ (zh (zeb T) .(6) rfl (za .(4) (za (ya (pv 4)) (za (ya (pv 2)) zd)))))) (zbb (zar (yJ (zh (zeb T) .(6) rfl (za .(4) (za (ya (pv 4)) (za (yj zC (ya (pv 2)) (qC (zq (za (qo (za yi (za (zdx zcI yc) zd))) zd)))) zd))))))))) (ye (yt z7)) yu)))
  (yd (zi (i:=3) zaN.nd rfl (Or.inl rfl) (zh (zh5 T) .(6) rfl (za .(4) zd)))
  (yd (zi (i:=5) zaN.nd rfl (Or.inl rfl) (zh (zhs T) .(6) rfl (za (yj zC (zh (zfU T) .(6) rfl (za .(0) (za yc zd))) (zk yp rfl T.n_len boot_len (za (ya (pv 2)) zd))) zd)))
  (yd (zX PassesOwn.never rfl (qL rfl T.n_range (za (zk yp rfl T.n_len boot_len (za (ya (pv 2)) zd)) zd)) (zo (yr (i:=6) zaN.nd rfl (by and_intros))) (yd (zi (i:=4) zaN.nd rfl (Or.inl rfl) (zh (zqI T) .(6) rfl (za .(4) (za (ya (pv 3)) (za (ya (pv 5)) zd)))))
  (yd (zX PassesOwn.never rfl (qL rfl T.n_range (za yc zd)) (zo (yr (i:=7) zaN.nd rfl (by and_intros))) (yd (zi (i:=8) zaN.nd rfl (Or.inl rfl) (qd zf (ya (pv 4)) (zh (zD T) .(6) rfl (za (ya (pv 5)) (za (zk yp rfl T.n_len boot_len (za (ya (pv 4)) zd)) zd)))))
  (yd (zi (i:=9) zaN.nd rfl (Or.inl rfl) (qd zf (qC (zq (za (zea (ya (pv 2)) (zaY (ya (pv 6))) zbw) (za (qC (zq zd)) (za (qC (zq (za (ya (pv 8)) zd))) (za (qC (zq (za (qo (za yi zd)) zd))) zd)))))) (zh (zD T) .(6) rfl (za (ya (pv 5)) (za yc zd)))))
  (ye (yx (zl (zcm hr.units) (zh (ze7 T) .(6) rfl (za (zh (zD T) .(6) rfl (za (ya (pv 5)) (za yc zd))) (za .(4) (za (yj zC (yj zC (zea (ya (pv 2)) zbw (zaY (ya (pv 6)))) (qC (zq (za (ya (pv 8)) zd)))) (ya (pv 9))) zd)))) (ya (pv 6)) (zm _)) (ye (yt z7)) yu)))))
  (ye (zr (zh (znA T) .(6) rfl (za .(4) (za (ya (pv 3)) (za (qd zf (ya (pv 2)) (ya (pv 6))) zd)))))))))
  (ye (yt (zeI (yX (qB hr.units) (zh (ze7 T) .(6) rfl (za yc (za .(4) (za (qC (zq (za (qo (za yi (za yc zd))) zd))) zd)))) yc (zm _)) (zcH (yX (qB hr.units) (zh (zoP T) .(6) rfl (za .(4) (za (ya (pv 2)) zd))) (zh (zoP T) .(6) rfl (za .(4) (za (zaE zbr rfl T.n_tuple boot_tuple (za (ya (pv 2)) zd)) zd))) (zm _)))))))))))))
end
end My
open Lean in
local macro_rules | `(tactic| erw [$rs,*]) => do
  let xs<-rs.getElems.mapM λr=>match r with
   |`(Lean.Parser.Tactic.rwRule| ← $t)=>`(Lean.Parser.Tactic.simpLemma| ← $t)
   |`(Lean.Parser.Tactic.rwRule| $t:term)=>`(Lean.Parser.Tactic.simpLemma| $t:term)
   |_=>Lean.Macro.throwUnsupported
  let ids := ("FT.zms FT.zvt FT.zvu FT.startT FT.zvl FT.zvm FT.zvk FT.zvL FT.zvp FT.zvq FT.zvn FT.zvo FT.zvy FT.zwf FT.zv1 FT.zvX FT.zvC FT.zv0 FT.zvA FT.zv2 FT.zu6 FT.zvz FT.zv3 FT.zvY FT.zuV FT.zuX FT.zui FT.zvR FT.zvZ FT.zuK FT.zuJ FT.zlU FT.zeC FT.zug FT.zuE FT.zu5 FT.zvK FT.zve FT.zvh FT.zuz FT.zvi FT.zut FT.zv7 FT.zwg FT.zwa FT.qf FT.zum FT.zuo FT.zun FT.zuO FT.zuN FT.zuQ FT.zuP FT.zvb FT.zvH FT.zvG FT.zvc FT.zvI FT.zvx FT.ztT FT.ztS FT.zfA FT.zvS FT.zem FT.zhh FT.zo7 FT.zuf FT.zue FT.zud FT.zuW FT.zds FT.zvg Option.join_some Option.join_none FT.zuS FT.zoh FT.za0 FT.zwe FT.zwd FT.zwc QG map_nil Qp length_nil cons_append nil_append List.getElem?_cons_zero getElem?_cons_succ List.set_cons_zero List.set_cons_succ List.replicate QL Nat.reduceAdd Nat.reduceSub FT.zvE FT.zvD FT.zvJ Int.reduceBEq Int.reduceLT FT.zvj FT.zvP FT.zvQ FT.zvU FT.zvV FT.zvN FT.zvw FT.zvW FT.zvO FT.zvT FT.zuZ Bool.false_eq_true reduceIte Nat.reduceEqDiff Nat.succ.injEq Bool.not_true Bool.not_false FT.zkT FT.zvv FT.zv4 Int.reduceToNat Int.reducePow ne_eq Int.reduceEq not_false_eq_true Int.reduceNeg Bool.bne_true Bool.bne_false Bool.true_bne Bool.false_bne decide_true decide_false FT.zwb FT.zv8 FT.zv9 FT.zvr FT.zvs FT.zvB FT.zuC FT.zuh FT.toK FT.toB".splitOn " ").toArray.map λs => Lean.mkIdent s.toName
  `(tactic| simp (config := {decide := true, dsimp := false}) only [$[$ids:term],*, $xs,*])
open Lean in
local macro_rules | `(tactic| simp_all_arith [$xs,*]) => do
  let ids := ("FT.zms FT.zvt FT.zvu FT.startT FT.yh FT.qD FT.zn FT.sIf FT.zB FT.zax FT.zI FT.zaw FT.Z FT.eC FT.eOp FT.eUn FT.zfO FT.eOr FT.zhn FT.eIf FT.yf FT.yA FT.eFz FT.eTk FT.zu FT.ztN FT.zeA FT.lOp FT.eSl FT.zcc FT.zbL FT.zlU FT.zeC FT.zq6 FT.ztl FT.qS FT.ze FT.zb FT.yq FT.zaF FT.zby FT.zaW FT.zv6 FT.zvF FT.zva FT.qf FT.zum FT.zuo FT.zun FT.zuO FT.zuN FT.zuQ FT.zuP FT.qp FT.zaM FT.zfX FT.yY FT.zd3 FT.za6 FT.qO FT.zeV FT.zfA FT.ixT FT.zem FT.zhh FT.zo7 FT.zuf FT.zue FT.zud FT.zY FT.zds FT.yN Option.join_some Option.join_none FT.zuS FT.zoh FT.za0 FT.zwe FT.zwd FT.zwc QG map_nil Qp length_nil cons_append nil_append List.getElem?_cons_zero getElem?_cons_succ List.set_cons_zero List.set_cons_succ List.replicate QL Nat.reduceAdd Nat.reduceSub FT.zvE FT.zvD FT.zvJ Int.reduceBEq Int.reduceLT FT.zvj FT.zvP FT.zvQ FT.zvU FT.zvV FT.zvN FT.zvw FT.zvW FT.zvO FT.zvT FT.zuZ Bool.false_eq_true reduceIte Nat.reduceEqDiff Nat.succ.injEq Bool.not_true Bool.not_false FT.zkT FT.zvv FT.zv4 Int.reduceToNat Int.reducePow ne_eq Int.reduceEq not_false_eq_true Int.reduceNeg Bool.bne_true Bool.bne_false Bool.true_bne Bool.false_bne decide_true decide_false FT.zoL FT.zu9 FT.zu8 FT.zvr FT.zvs FT.yo FT.zH FT.za8 FT.bK FT.blK".splitOn " ").toArray.map λs => Lean.mkIdent s.toName
  `(tactic| simp (config := {decide := true}) only [$[$ids:term],*, $xs,*])
namespace My
open PySem L2 FT
structure Ask where
 to:Str
 tries:Int
 purse:Option Str
 word:Str
 hears:Bool
 sure:Bool
structure Hs where
 name:Str
 asks:List Ask
structure Pu where
 name:Str
 earns:Str
 per:Int
structure Net where
 hs:List Hs
 ps:List Pu
noncomputable section
def opS(o:Option Str):FT.T:=o.elim .non .str
def yz(a:Ask):FT.T:=.tup [.str a.to,.int a.tries,opS a.purse,.str a.word,.bl a.hears,.bl a.sure]
def hsT(h:Hs):FT.T:=.tup [.str h.name,.tup (h.asks.map yz)]
def puT(p:Pu):FT.T:=.tup [.str p.name,.str p.earns,.int p.per]
def yg(n:Net):FT.T:=.tup [.tup (n.hs.map hsT),.tup (n.ps.map puT)]
end
inductive Ph where
 |works
 |waits (a t:Nat)
 |stands (a t:Nat)
 |ended (w:Str)
noncomputable def phT:Ph->FT.T
 |.works=>.tup [.str "works"]|.waits a t=>.tup [.str "waits",.int (a:Int),.int (t:Int)]|.stands a t=>.tup [.str "stands",.int (a:Int),.int (t:Int)]|.ended w=>.tup [.str "ended",.str w]
structure Er where
 house:Nat
 caller:Option (Nat × Nat × Nat)
 ph:Ph
 lost:Bool
 asked:Option Nat
 stood:Option Nat
noncomputable section
abbrev nT(n:Nat):FT.T:=.int (n:Int)
def clT(o:Option (Nat × Nat × Nat)):FT.T:=o.elim .non λc=>.tup [nT c.1,nT c.2.1,nT c.2.2]
def onT(o:Option Nat):FT.T:=o.elim .non nT
def erF(e:Er):List (Str × FT.T):=[("house",nT e.house),("caller",clT e.caller),("state",phT e.ph),("is_lost",.bl e.lost),("asked",onT e.asked),("stood",onT e.stood)]
end
structure Run where
 came:Nat
 es:List Er
 puts:List (List Nat)
 pays:List (Nat × Nat × Nat)
 taken:List Nat
noncomputable def zbA(p:Nat × Nat × Nat):FT.T:=.tup [nT p.1,nT p.2.1,nT p.2.2]
structure Lay where
 a:Nat
 p:Nat
 q:Nat
 t:Nat
 es:List Nat
 ps:List Nat
noncomputable def zb0(nt:FT.T)(l:Lay)(R:Run):List (Str × FT.T):=[("net",nt),("came",nT R.came),("errands",.ref l.a),("puts",.ref l.p),("payments",.ref l.q),("taken",.ref l.t)]
section
variable (I O:Addr)
noncomputable def ezC(es:List Nat)(rs:List Er):List (Nat × Cell):=List.zipWith (λx e=>(x,Cell.ins I (erF e))) es rs
noncomputable def pzC(ps:List Nat)(us:List (List Nat)):List (Nat × Cell):=List.zipWith (λx u=>(x,Cell.lst (u.map nT))) ps us
def cells(nt:FT.T)(r:Nat)(l:Lay)(R:Run):List (Nat × Cell):=
 (r,.ins O (zb0 nt l R))::(l.a,.lst (l.es.map .ref))::(l.p,.lst (l.ps.map .ref))::(l.q,.lst (R.pays.map zbA))::(l.t,.lst (R.taken.map nT))::(ezC I l.es R.es++pzC l.ps R.puts)
def Holds(M:Mem)(L:List (Nat × Cell)):Prop:=∀p ∈ L,M[p.1]?=some p.2
theorem Holds.set(h:Holds M L)(nd:(L.map (·.1)).Nodup){k:Nat}{p:Nat × Cell}(hk:L[k]?=some p)(c:Cell):Holds (M.set p.1 c) (L.set k (p.1,c)):=by
 intro q hq;have hkl:=(Qz.mp hk).1;obtain⟨i,hi⟩:=mem_iff_getElem?.mp hq;rw[Qc]at hi
 by_cases e:k=i
 .rw[QA e,QA hkl]at hi;cases hi;exact get_set (h p (Qa hk))
 .rw[QB e]at hi;have hne:p.1 ≠ q.1:=λz=>by
   have h1:(L.map (·.1))[k]?=some p.1:=by rw[Qb,hk];rfl
   have h2:(L.map (·.1))[i]?=some q.1:=by rw[Qb,hi];rfl
   exact e ((List.getElem?_inj (by simpa using hkl) nd).mp (h1.trans (by rw[h2,z])))
  rw[Qc,QB hne];exact h q (Qa hi)
structure RunAt (nt:FT.T) (b r:Nat) (l:Lay) (M:Mem) (R:Run):Prop where
 ho:Holds M (cells I O nt r l R)
 nd:((cells I O nt r l R).map (·.1)).Nodup
 lo:∀p ∈ cells I O nt r l R,b<=p.1
 el:l.es.length=R.es.length
 pl:l.ps.length=R.puts.length
 tl:R.taken.length=R.puts.length
def Kp(b:Nat)(M M':Mem):Prop:=M.length<=M'.length/\∀i,i<b->M'[i]?=M[i]?
def Kp.refl(b:Nat)(M:Mem):Kp b M M:=⟨Q3 _,λ_ _=>rfl⟩
theorem Kp.trans(h:Kp b A B)(g:Kp b B C):Kp b A C:=⟨Qj h.1 g.1,λi hi=>by rw[g.2 i hi,h.2 i hi]⟩
theorem Kp.set(M:Mem)(c:Cell)(hx:b<=x):Kp b M (M.set x c):=⟨by simp,λi hi=>by rw[Qc,QB ⋯]⟩
theorem Kp.app(M:Mem)(cs:List Cell)(hb:b<=M.length):Kp b M (M++cs):=⟨by simp,λi hi=>Q6 ⋯⟩
variable {I O}
theorem zip_get{α β γ:Type}{f:α->β->γ}{as:List α}{bs:List β}{i:Nat}{x:α}{y:β}(h1:as[i]?=some x)(h2:bs[i]?=some y):(List.zipWith f as bs)[i]?=some (f x y):=by rw[List.getElem?_zipWith,h1,h2]
def RunAt.run(h:RunAt I O nt b r l M R):M[r]?=some (.ins O (zb0 nt l R)):=h.ho (r,_) (.head _)
def RunAt.er(h:RunAt I O nt b r l M R):M[l.a]?=some (.lst (l.es.map .ref)):=h.ho (l.a,_) (.tail _ (.head _))
def RunAt.pu(h:RunAt I O nt b r l M R):M[l.p]?=some (.lst (l.ps.map .ref)):=h.ho (l.p,_) (.tail _ (.tail _ (.head _)))
def RunAt.py(h:RunAt I O nt b r l M R):M[l.q]?=some (.lst (R.pays.map zbA)):=h.ho (l.q,_) (.tail _ (.tail _ (.tail _ (.head _))))
def RunAt.tk(h:RunAt I O nt b r l M R):M[l.t]?=some (.lst (R.taken.map nT)):=h.ho (l.t,_) (.tail _ (.tail _ (.tail _ (.tail _ (.head _)))))
def zsH{i:Nat}(h1:es[i]?=some x)(h2:rs[i]?=some e):(ezC I es rs)[i]?=some (x,.ins I (erF e)):=zip_get h1 h2
def zrf{i:Nat}(h1:ps[i]?=some x)(h2:us[i]?=some u):(pzC ps us)[i]?=some (x,.lst (u.map nT)):=zip_get h1 h2
theorem zdE(h:RunAt I O nt b r l M R):(ezC I l.es R.es).length=R.es.length:=by unfold ezC;rw[List.length_zipWith,h.el,Nat.min_self]
theorem zns(h:RunAt I O nt b r l M R){i x:Nat}{e:Er}(h1:l.es[i]?=some x)(h2:R.es[i]?=some e):(cells I O nt r l R)[5+i]?=some (x,.ins I (erF e)):=by have hi:=(Qz.mp h2).1;rw[Nat.add_comm];show(ezC I l.es R.es++pzC l.ps R.puts)[i]?=_;rw[Q6 (by rw[zdE h];exact hi)];exact zsH h1 h2
theorem znr(h:RunAt I O nt b r l M R){i x:Nat}{u:List Nat}(h1:l.ps[i]?=some x)(h2:R.puts[i]?=some u):(cells I O nt r l R)[5+(R.es.length+i)]?=some (x,.lst (u.map nT)):=by rw[Nat.add_comm 5];show(ezC I l.es R.es++pzC l.ps R.puts)[R.es.length+i]?=_;rw[Q8 (by rw[zdE h];symm),zdE h,show R.es.length+i-R.es.length=i by symm];exact zrf h1 h2
theorem RunAt.at_e(h:RunAt I O nt b r l M R){i:Nat}{e:Er}(h2:R.es[i]?=some e):∃x,l.es[i]?=some x/\M[x]?=some (.ins I (erF e)):=by have hi:=(Qz.mp h2).1;refine⟨l.es[i]'(by rw[h.el];exact hi),Q0 _,?_⟩;exact h.ho _ (Qa (zns h (Q0 (by rw[h.el];exact hi)) h2))
theorem RunAt.at_p(h:RunAt I O nt b r l M R){i:Nat}{u:List Nat}(h2:R.puts[i]?=some u):∃x,l.ps[i]?=some x/\M[x]?=some (.lst (u.map nT)):=by have hi:=(Qz.mp h2).1;refine⟨l.ps[i]'(by rw[h.pl];exact hi),Q0 _,?_⟩;exact h.ho _ (Qa (znr h (Q0 (by rw[h.pl];exact hi)) h2))
theorem RunAt.write(h:RunAt I O nt b r l M R){k x:Nat}{c0 c:Cell}(hk:(cells I O nt r l R)[k]?=some (x,c0)){R':Run}(e:cells I O nt r l R'=(cells I O nt r l R).set k (x,c))(h1:R'.es.length=R.es.length)(h2:R'.puts.length=R.puts.length)(h3:R'.taken.length=R.taken.length):RunAt I O nt b r l (M.set x c) R'/\b<=x:=by
 have em:(cells I O nt r l R').map (·.1)=(cells I O nt r l R).map (·.1):=by
  rw[e,List.map_set];refine ext_getElem? λi=>?_;rw[Qc]
  by_cases z:k=i
  .subst z;have:=(Qz.mp hk).1;rw[QA rfl,QA (by simpa using this),Qb,hk];rfl
  .rw[QB z]
 refine⟨⟨by rw[e];exact h.ho.set h.nd hk c,by rw[em];exact h.nd,λp hp=>?_,by rw[h1];exact h.el,by rw[h2];exact h.pl,by rw[h3,h2];exact h.tl⟩,h.lo _ (Qa hk)⟩;have:p.1 ∈ (cells I O nt r l R').map (·.1):=mem_map.mpr ⟨p,hp,rfl⟩;rw[em]at this;obtain⟨q,hq,eq⟩:=mem_map.mp this;rw[←eq];exact h.lo q hq
theorem zgS{α β γ:Type}{f:α->β->γ}:∀{as:List α} {bs:List β} {i:Nat} {x:α} (y:β),as[i]?=some x->List.zipWith f as (bs.set i y)=(List.zipWith f as bs).set i (f x y)
 |[],_,_,_,_,h=>by simp at h|a::as,[],i,x,y,h=>by simp|a::as,b::bs,0,x,y,h=>by simp at h;simp[h]|a::as,b::bs,i+1,x,y,h=>by simp at h;simp[zgS y h]
noncomputable def Run.setE(R:Run)(i:Nat)(e:Er):Run:={ R with es:=R.es.set i e }
theorem RunAt.setE(h:RunAt I O nt b r l M R){i x:Nat}{e:Er}(h1:l.es[i]?=some x)(h2:R.es[i]?=some e)(e':Er):RunAt I O nt b r l (M.set x (.ins I (erF e'))) (R.setE i e')/\b<=x:=by refine h.write (zns h h1 h2) ?_ (by simp[Run.setE]) rfl rfl;have hi:=(Qz.mp h2).1;rw[Nat.add_comm 5];show _=_::_::_::_::_::(ezC I l.es R.es++pzC l.ps R.puts).set i (x,.ins I (erF e'));rw[List.set_append_left _ _ (by rw[zdE h];exact hi),show(ezC I l.es R.es).set i (x,.ins I (erF e'))=ezC I l.es (R.es.set i e')from(zgS e' h1).symm];rfl
noncomputable def Run.setP(R:Run)(i:Nat)(u:List Nat):Run:={ R with puts:=R.puts.set i u }
theorem RunAt.setP(h:RunAt I O nt b r l M R){i x:Nat}{u:List Nat}(h1:l.ps[i]?=some x)(h2:R.puts[i]?=some u)(u':List Nat):RunAt I O nt b r l (M.set x (.lst (u'.map nT))) (R.setP i u')/\b<=x:=by refine h.write (znr h h1 h2) ?_ rfl (by simp[Run.setP]) rfl;rw[Nat.add_comm 5];show _=_::_::_::_::_::(ezC I l.es R.es++pzC l.ps R.puts).set (R.es.length+i) (x,.lst (u'.map nT));rw[set_append_right _ _ (by rw[zdE h];symm),zdE h,show R.es.length+i-R.es.length=i by symm,show(pzC l.ps R.puts).set i (x,.lst (u'.map nT))=pzC l.ps (R.puts.set i u')from(zgS u' h1).symm];rfl
def RunAt.setCame(h:RunAt I O nt b r l M R)(n:Nat):RunAt I O nt b r l (M.set r (.ins O (zb0 nt l { R with came:=n }))) { R with came:=n }/\b<=r:=h.write (k:=0) rfl rfl rfl rfl rfl
def RunAt.setPays(h:RunAt I O nt b r l M R)(ps:List (Nat × Nat × Nat)):RunAt I O nt b r l (M.set l.q (.lst (ps.map zbA))) { R with pays:=ps }/\b<=l.q:=h.write (k:=3) rfl rfl rfl rfl rfl
def RunAt.setTaken(h:RunAt I O nt b r l M R)(ts:List Nat)(ht:ts.length=R.taken.length):RunAt I O nt b r l (M.set l.t (.lst (ts.map nT))) { R with taken:=ts }/\b<=l.t:=h.write (k:=4) rfl rfl rfl rfl ht
def RunAt.kept(h:RunAt I O nt b r l M R){M':Mem}(k:∀(i:Nat) c,M[i]?=some c->M'[i]?=some c):RunAt I O nt b r l M' R:=⟨λp hp=>k _ _ (h.ho p hp),h.nd,h.lo,h.el,h.pl,h.tl⟩
theorem RunAt.app(h:RunAt I O nt b r l M R)(cs:List Cell):RunAt I O nt b r l (M++cs) R:=h.kept λi c e=>by rw[Q6 (yC e)];exact e
noncomputable def Run.push(R:Run)(e:Er):Run:={ R with es:=R.es++[e] }
theorem RunAt.push(h:RunAt I O nt b r l M R)(hb:b<=M.length)(e:Er):RunAt I O nt b r { l with es:=l.es++[M.length] } ((M++[Cell.ins I (erF e)]).set l.a (.lst ((l.es++[M.length]).map .ref))) (R.push e):=by
 have ez:ezC I (l.es++[M.length]) (R.es++[e])=ezC I l.es R.es++[(M.length,.ins I (erF e))]:=by unfold ezC;rw[List.zipWith_append h.el];rfl
 have fresh:∀p ∈ cells I O nt r l R,p.1<M.length:=λp hp=>yC (h.ho p hp);have hm:∀p,p ∈ cells I O nt r { l with es:=l.es++[M.length] } (R.push e)->p=(l.a,.lst ((l.es++[M.length]).map .ref))\/p=(M.length,.ins I (erF e))\/(p ∈ cells I O nt r l R/\p.1 ≠ l.a):=by
  intro p hp;have nd:=h.nd;have na:∀q ∈ ezC I l.es R.es++pzC l.ps R.puts,q.1 ≠ l.a:=λq hq z=>by have h2:=(QK.mp (QK.mp nd).2).1;exact h2 (mem_map.mpr ⟨q,.tail _ (.tail _ (.tail _ hq)),z⟩)
  have n0:r ≠ l.a:=λz=>(QK.mp nd).1 (mem_map.mpr ⟨(l.a,_),.head _,z.symm⟩);have n2:l.p ≠ l.a:=λz=>(QK.mp (QK.mp nd).2).1 (mem_map.mpr ⟨(l.p,_),.head _,z⟩);have n3:l.q ≠ l.a:=λz=>(QK.mp (QK.mp nd).2).1 (mem_map.mpr ⟨(l.q,_),.tail _ (.head _),z⟩);have n4:l.t ≠ l.a:=λz=>(QK.mp (QK.mp nd).2).1 (mem_map.mpr ⟨(l.t,_),.tail _ (.tail _ (.head _)),z⟩);unfold cells at hp;rcases QC.mp hp with rfl | hp
  .exact .inr (.inr ⟨.head _,n0⟩)
  rcases QC.mp hp with rfl | hp
  .exact .inl rfl
  rcases QC.mp hp with rfl | hp
  .exact .inr (.inr ⟨.tail _ (.tail _ (.head _)),n2⟩)
  rcases QC.mp hp with rfl | hp
  .exact .inr (.inr ⟨.tail _ (.tail _ (.tail _ (.head _))),n3⟩)
  rcases QC.mp hp with rfl | hp
  .exact .inr (.inr ⟨.tail _ (.tail _ (.tail _ (.tail _ (.head _)))),n4⟩)
  replace hp:p ∈ ezC I (l.es++[M.length]) (R.es++[e])++pzC l.ps R.puts:=hp;rw[ez]at hp;rcases mem_append.mp hp with hp | hp
  .rcases mem_append.mp hp with hp | hp
   .exact .inr (.inr ⟨.tail _ (.tail _ (.tail _ (.tail _ (.tail _ (mem_append_left _ hp))))),na p (mem_append_left _ hp)⟩)
   .exact .inr (.inl (QJ.mp hp))
  .exact .inr (.inr ⟨.tail _ (.tail _ (.tail _ (.tail _ (.tail _ (Qm _ hp))))),na p (Qm _ hp)⟩)
 have la:=h.er;have hla:=yC la;refine⟨λp hp=>?_,?_,λp hp=>?_,by simp[Run.push,h.el],h.pl,h.tl⟩
 .rcases hm p hp with rfl | rfl | ⟨hp,hne⟩
  .exact get_set (by rw[Q6 hla];exact la)
  .show(List.set _ _ _)[M.length]?=_;rw[Qc,QB ⋯];exact zP
  .rw[Qc,QB (Ne.symm hne),Q6 (fresh p hp)];exact h.ho p hp
 .have e2:(cells I O nt r { l with es:=l.es++[M.length] } (R.push e)).map (·.1)=r::l.a::l.p::l.q::l.t::((ezC I l.es R.es).map (·.1)++[M.length]++(pzC l.ps R.puts).map (·.1)):=by show _::_::_::_::_::(ezC I (l.es++[M.length]) (R.es++[e])++pzC l.ps R.puts).map (·.1)=_;rw[ez];simp
  have e1:(cells I O nt r l R).map (·.1)=r::l.a::l.p::l.q::l.t::((ezC I l.es R.es).map (·.1)++(pzC l.ps R.puts).map (·.1)):=by show _::_::_::_::_::(ezC I l.es R.es++pzC l.ps R.puts).map (·.1)=_;rw[Qq]
  have pm:List.Perm ((cells I O nt r { l with es:=l.es++[M.length] } (R.push e)).map (·.1)) (M.length::(cells I O nt r l R).map (·.1)):=by
   rw[e2,e1];have:List.Perm ((ezC I l.es R.es).map (·.1)++[M.length]++(pzC l.ps R.puts).map (·.1)) (M.length::((ezC I l.es R.es).map (·.1)++(pzC l.ps R.puts).map (·.1))):=by rw[append_assoc];exact List.perm_middle
   refine((((((this.cons _).cons _).cons _).cons _).cons _).trans ?_);have sw:∀(x y:Nat) (L:List Nat),List.Perm (x::y::L) (y::x::L):=λx y L=>List.Perm.swap y x L;refine((((sw _ _ _).cons _).cons _).cons _).cons _ |>.trans ?_;refine(((sw _ _ _).cons _).cons _).cons _ |>.trans ?_;refine((sw _ _ _).cons _).cons _ |>.trans ?_;refine(sw _ _ _).cons _ |>.trans ?_;exact sw _ _ _
  refine pm.nodup_iff.mpr (QK.mpr ⟨λz=>?_,h.nd⟩);obtain⟨q,hq,eq⟩:=mem_map.mp z;have:=fresh q hq;symm
 .rcases hm p hp with rfl | rfl | ⟨hp,_⟩
  .exact h.lo (l.a,.lst (l.es.map .ref)) (.tail _ (.head _))
  .exact hb
  .exact h.lo p hp
end
noncomputable def zcv(s:Str):List Str->Nat->Option Nat
 |[],_=>none|y::ys,k=>if(y==s)=true then some k else zcv s ys (k+1)
theorem zjp(s:Str):∀(ys:List Str) (k:Nat),zhe (.str s) (ys.map .str) k=zcv s ys k
 |[],_=>rfl|y::ys,k=>by show(if(y==s)=true then some k else zhe (.str s) (ys.map .str) (k+1))=_;rw[zjp s ys (k+1)];rfl
theorem zhf:∀{ys:List Str} {k n:Nat},zcv s ys k=some n->k<=n/\n<k+ys.length
 |[],_,_,h=>by cases h|y::ys,k,n,h=>by
  unfold zcv at h;split at h
  .cases h;simp
  .have:=zhf h;rw[Qp];symm
noncomputable section
def Net.hix(n:Net)(s:Str):Nat:=(zcv s (n.hs.map (·.name)) 0).getD 0
def Net.pix(n:Net)(s:Str):Nat:=(zcv s (n.ps.map (·.name)) 0).getD 0
def Net.asks(n:Net)(h:Nat):List Ask:=((n.hs[h]?).map (·.asks)).getD []
def Net.pof(n:Net)(a:Ask):Option Nat:=a.purse.map n.pix
end
structure WA (n:Net) (i:Nat) (a:Ask):Prop where
 to:zcv a.to (n.hs.map (·.name)) 0=some (n.hix a.to)
 up:i<n.hix a.to
 pu:∀s,a.purse=some s->zcv s (n.ps.map (·.name)) 0=some (n.pix s)
 tr:0<=a.tries
structure WN (n:Net):Prop where
 hl:n.hs.length<=4
 h1:0<n.hs.length
 pl:n.ps.length<=100
 al:∀h ∈ n.hs,h.asks.length<=100
 as:∀i a,a ∈ n.asks i->WA n i a
 pr:∀p ∈ n.ps,1<=p.per/\p.per<=1000000
theorem WA.lt(h:WA n i a):n.hix a.to<n.hs.length:=by have:=zhf h.to;simp at this;exact this
theorem WA.plt(h:WA n i a){k:Nat}(e:n.pof a=some k):k<n.ps.length:=by
 unfold Net.pof at e;cases q:a.purse with
 |none=>rw[q]at e;cases e|some s=>rw[q]at e;cases e;have:=zhf (h.pu s q);simp at this;exact this
section
variable (I O:Addr)
theorem zhM{α:Type}(xs:List α)(nm:α->Str)(tl:α->List FT.T){s:Str}{n:Nat}(h:zcv s (xs.map nm) 0=some n)(hl:xs.length<=1000)(M:Mem):zbp I O [.tup (xs.map λx=>.tup (.str (nm x)::tl x)),.str s] M = .ok (nT n) M:=by
 unfold zbp zfm;have c:qF (qp 0) yN (ja (Z 0) j4) (xs.map λx=>FT.T.tup (.str (nm x)::tl x)) [none] M [] = .ok ((xs.map nm).map .str) M:=by rw[map_map];exact Ok.mapc (r:=λx=>FT.T.tup (.str (nm x)::tl x)) (λJ=>∃o,J=[o]) _ ⟨_,rfl⟩ ⋯ (by rintro x J hx ⟨o,rfl⟩;exact⟨[some (.tup (.str (nm x)::tl x))],rfl,⟨_,rfl⟩,by simp_arith;rfl⟩)
 have k:zdR (.lst ((xs.map nm).map .str)) [.str s] M = .ok (nT n) M:=by
  unfold zdR zy;dsimp only;rw[QA,zjp,h]
  .rw[Qs];refine⟨rfl,all_eq_true.mpr λt ht=>?_⟩;obtain⟨y,_,rfl⟩:=mem_map.mp ht;rfl
 have i1:zce (.lst ((xs.map nm).map .str)) M=true:=rfl;erw[c,za8,i1,k]
variable {I O}
theorem zoN(wn:WN n){i:Nat}{a:Ask}(w:WA n i a)(M:Mem):zbR I O [yg n,yz a] M = .ok (nT (n.hix a.to)) M:=by unfold zbR zgC yg yz;have h:=λM=>zhM I O n.hs (·.name) (λh=>[.tup (h.asks.map yz)]) w.to (by have:=wn.hl;symm) M;rw[show(n.hs.map λh=>FT.T.tup (.str h.name::[.tup (h.asks.map yz)]))=n.hs.map hsT from rfl]at h;erw[h]
theorem qN(h:M[x]?=some (.ins k fs))(e:fs.lookup f=some t):zaI [k] f (.ref x) M = .ok t M:=by unfold zaI;simp only[h];rw[QA (by simp),e];rfl
theorem zbc(h:M[x]?=some (.ins k fs))(e:zcT f y fs=fs')(hl:fs.length<1000):zaT [k] f (.ref x) y M = .ok () (M.set x (.ins k fs')):=by unfold zaT;simp only[h];rw[QA ⟨by simp,hl⟩,e]
theorem RunAt.net(h:RunAt I O (yg n) b r l M R):zaI [O] "net" (.ref r) M = .ok (yg n) M:=qN h.run rfl
theorem RunAt.came(h:RunAt I O (yg n) b r l M R):zaI [O] "came" (.ref r) M = .ok (nT R.came) M:=qN h.run rfl
theorem RunAt.errands(h:RunAt I O (yg n) b r l M R):zaI [O] "errands" (.ref r) M = .ok (.ref l.a) M:=qN h.run rfl
def RunAt.putsF(h:RunAt I O (yg n) b r l M R):zaI [O] "puts" (.ref r) M = .ok (.ref l.p) M:=qN h.run rfl
def RunAt.payF(h:RunAt I O (yg n) b r l M R):zaI [O] "payments" (.ref r) M = .ok (.ref l.q) M:=qN h.run rfl
def RunAt.takenF(h:RunAt I O (yg n) b r l M R):zaI [O] "taken" (.ref r) M = .ok (.ref l.t) M:=qN h.run rfl
theorem qu{α:Type}{f:α->FT.T}{xs:List α}{i:Nat}{x:α}(e:xs[i]?=some x):atI (xs.map f) (i:Int)=some (f x):=by rw[FT.zaB,Qb,e];rfl
theorem zV(h:RunAt I O (yg n) b r l M R){i:Nat}{e:Er}(he:R.es[i]?=some e)(hh:e.house<n.hs.length):qW I O [.ref r,nT i] M = .ok (.tup (.(5).map yz)) M:=by
 unfold qW zhW;obtain⟨x,hx,hc⟩:=h.at_e he;have h1:=qN (f:="house") hc rfl;have hn:n.hs[e.house]?=some n.hs[e.house]:=Q0 hh;have h2:=qu (f:=hsT) hn;have h3:n.asks e.house=(n.hs[e.house]).asks:=by unfold Net.asks;rw[hn];rfl
 rw[h3];have hnt:=h.net;unfold yg at hnt;erw[yo,hnt,h.errands,h.er,qu (f:=FT.T.ref) hx,h1,h2];rw[show hsT n.hs[e.house] = .tup [.str n.hs[e.house].name,.tup (n.hs[e.house].asks.map yz)]from rfl];simp_arith
theorem zdl(h:RunAt I O (yg n) b r l M R)(wn:WN n){i:Nat}{a:Ask}(w:WA n i a):zbj I O [.ref r,yz a] M = .ok (onT (n.pof a)) M:=by
 unfold zbj zgx yz;have hnt:=h.net;unfold yg at hnt;cases q:a.purse with
 |none=>
  have i1:∀M,isN (opS none) .non M = .ok (.bl true) M:=λ_=>rfl;have e1:n.pof a=none:=by unfold Net.pof;rw[q];rfl
  rw[e1];erw[eIf,i1];rfl
 |some s=>
  have i1:∀M,isN (opS (some s)) .non M = .ok (.bl false) M:=λ_=>rfl;have e1:n.pof a=some (n.pix s):=by unfold Net.pof;rw[q];rfl
  rw[e1];have hk:=zhM I O n.ps (·.name) (λp=>[.str p.earns,.int p.per]) (w.pu s q) (by have:=wn.pl;symm) M;rw[show(n.ps.map λp=>FT.T.tup (.str p.name::[.str p.earns,.int p.per]))=n.ps.map puT from rfl,show FT.T.str s=opS (some s)from rfl]at hk;erw[eIf,i1,yo,hnt,hk];rfl
noncomputable def Run.told(R:Run)(n:Net)(k:Nat):Int × Int:=((((R.puts.getD k []).length:Int) % (n.ps.getD k ⟨"","",1⟩).per),((R.puts.getD k []).length:Int) / (n.ps.getD k ⟨"","",1⟩).per-(R.taken.getD k 0:Nat))
theorem zkv(h:RunAt I O (yg n) b r l M R)(wn:WN n)(hp:R.puts.length=n.ps.length){k:Nat}(hk:k<n.ps.length):zaA I O [.ref r,nT k] M = .ok (.tup [.int (R.told n k).1,.int (R.told n k).2]) M:=by
 unfold zaA zet;have hpe:n.ps[k]?=some n.ps[k]:=Q0 hk;have hu:R.puts[k]?=some (R.puts[k]'⋯):=Q0 _;obtain⟨x,hx,hc⟩:=h.at_p hu;have ht:R.taken[k]?=some (R.taken[k]'(by have:=h.tl;symm)):=Q0 _;have hper:=wn.pr n.ps[k] (getElem_mem _);have hnt:=h.net;unfold yg at hnt;have h2:atI (n.ps.map puT) (k:Int)=some (.tup [.str n.ps[k].name,.str n.ps[k].earns,.int n.ps[k].per]):=qu (f:=puT) hpe;have ln:zx (.ref x) M = .ok (.int (((R.puts[k]'⋯).length:Nat):Int)) M:=by unfold zx qR zy;simp only[hc];simp
 have dv:∀i M,zeB (.int i) (.int n.ps[k].per) M = .ok (.int (i.fdiv n.ps[k].per)) M:=λi M=>zho (zo3 100 ∅ ⋯ (by refine Nat.lt_of_le_of_lt (show n.ps[k].per.natAbs<=10 ^ 7 from by simp only[Nat.reducePow];symm) (Nat.pow_lt_pow_right ∅ ∅)))
 have md:∀i M,zb3 (.int i) (.int n.ps[k].per) M = .ok (.int (i.fmod n.ps[k].per)) M:=λi M=>zkT ⋯;have cm:zbQ I O [.ref r,nT k] M = .ok (.int ((((R.puts[k]'⋯).length:Nat):Int).fdiv n.ps[k].per)) M:=by unfold zbQ zew;erw[yo,h.putsF,h.pu,qu (f:=FT.T.ref) hx,ln,hnt,h2,dv]
 erw[yo,h.putsF,h.pu,qu (f:=FT.T.ref) hx,ln,hnt,h2,md,cm,h.takenF,h.tk,qu (f:=nT) ht];unfold Run.told;rw[Q7,Q7,Q7,hu,hpe,ht,Q9 _ ⋯,Int.fdiv_eq_ediv_of_nonneg _ ⋯];rfl
end
noncomputable def qr(h:Nat)(c:Option (Nat × Nat × Nat)):Er:=⟨h,c,.works,false,none,none⟩
noncomputable def Net.any(n:Net)(k:Nat):Bool:=(n.ps.getD k ⟨"","",1⟩).earns==("any":Str)
def Run.share(R:Run)(n:Net)(a:Ask)(tr x:Nat):Run:=match n.pof a with
 |none=>R|some k=>if tr=1\/n.any k=true then R.setP k (R.puts.getD k []++[x])else R
def y8(n:Net)(g:Run->Nat->Option (Nat × Nat × Nat)->Run)(R:Run)(num at' tr:Nat):Run:=match R.es[num]? with
 |none=>R|some e=>match (n.asks e.house)[at']? with
  |none=>R|some a=>g (.(3).share n a tr R.es.length) (n.hix a.to) (some (num,at',tr))
def qE(n:Net):Nat->Run->Nat->Option (Nat × Nat × Nat)->Run
 |0,R,_,_=>R|f+1,R,h,c=>if n.asks h=[]then R.push (qr h c)else y8 n (qE n f) (R.push (qr h c)) R.es.length 0 1
structure SB (B:Nat) (R:Run):Prop where
 es:R.es.length<=B
 pu:∀u ∈ R.puts,u.length<=B
 py:R.pays.length<=B
 tk:∀v ∈ R.taken,v<=B
def SB.mono(h:SB B R)(hc:B<=C):SB C R:=⟨Qj h.es hc,λu hu=>Qj (h.pu u hu) hc,Qj h.py hc,λv hv=>Qj (h.tk v hv) hc⟩
theorem SB.push(h:SB B R)(e:Er):SB (B+1) (R.push e):=⟨by simp[Run.push];exact h.es,λu hu=>QM (h.pu u hu),QM h.py,λv hv=>QM (h.tk v hv)⟩
theorem SB.setE(h:SB B R)(i:Nat)(e:Er):SB B (R.setE i e):=⟨by simp[Run.setE];exact h.es,h.pu,h.py,h.tk⟩
theorem mem_set{α:Type}{xs:List α}{y v:α}(h:v ∈ xs.set k y):v ∈ xs\/v=y:=by
 obtain⟨i,hi⟩:=mem_iff_getElem?.mp h;rw[Qc]at hi;split at hi
 .split at hi
  .exact .inr (by cases hi;rfl)
  .cases hi
 .exact .inl (Qa hi)
theorem SB.share(h:SB B R)(n:Net)(a:Ask)(tr x:Nat):SB (B+1) (R.share n a tr x):=by
 unfold Run.share;split
 .exact h.mono ⋯
 .rename_i k _;split
  .refine⟨QM h.es,λu hu=>?_,QM h.py,λv hv=>QM (h.tk v hv)⟩;rcases mem_set hu with hu | rfl
   .exact QM (h.pu u hu)
   .rw[Qn,Qu]
    by_cases hk:k<R.puts.length
    .have:=h.pu (R.puts.getD k []) (by rw[Q7,Q0 hk];exact getElem_mem _);symm
    .rw[Q7,getElem?_eq_none ⋯];simp
  .exact h.mono ⋯
theorem zbE(R:Run)(n:Net)(a:Ask)(tr x:Nat):(R.share n a tr x).es=R.es/\(R.share n a tr x).puts.length=R.puts.length/\(R.share n a tr x).taken=R.taken/\(R.share n a tr x).pays=R.pays/\(R.share n a tr x).came=R.came:=by
 unfold Run.share;split
 .exact⟨rfl,rfl,rfl,rfl,rfl⟩
 .split
  .exact⟨rfl,by simp[Run.setP],rfl,rfl,rfl⟩
  .exact⟨rfl,rfl,rfl,rfl,rfl⟩
section
variable  {n:Net} 
noncomputable def Lv(I O:Addr)(n:Net)(b r:Nat)(R':Run)(M:Mem):FT.T->Mem->Prop:=λt M'=>t = .non/\Kp b M M'/\∃l',RunAt I O (yg n) b r l' M' R'
theorem any_eq(h:n.ps[k]?=some p)(M:Mem):eqA (.str p.earns) (.str "any") M = .ok (.bl (n.any k)) M:=by unfold Net.any;rw[Q7,h];rfl
theorem zmj(wn:WN n){q1 q2:X2}{g:Run->Nat->Option (Nat × Nat × Nat)->Run}{B:Nat}(hB:B<100000){num at' tr:Nat}{e:Er}{a:Ask}{l:Lay}{M:Mem}{R:Run}
  (h:RunAt I O (yg n) b r l M R) (sb:SB B R) (hp:R.puts.length=n.ps.length) (he:R.es[num]?=some e) (hh:e.house<n.hs.length) (ha:.(5)[at']?=some a)
  (hg:∀(l:Lay) (M:Mem) (R':Run),R'=.(3).share n a tr R.es.length->RunAt I O (yg n) b r l M R'->Ok (q2 [.ref r,nT (n.hix a.to),clT (some (num,at',tr))] M) (Lv I O n b r (g R' (n.hix a.to) (some (num,at',tr))) M)) :
  Ok (zj 4 7 (zbo I O q1 q2) [.ref r,nT num,nT at',nT tr] M) (Lv I O n b r (y8 n g R num at' tr) M):=by
 have w:=wn.as e.house a (Qa ha);have e0:y8 n g R num at' tr=g (.(3).share n a tr R.es.length) (n.hix a.to) (some (num,at',tr)):=by unfold y8;rw[he];dsimp only;rw[ha]
 rw[e0];refine zA rfl ?_;unfold zbo;obtain⟨x,hx,hc⟩:=h.at_e he;have ln:zx (.ref l.a) M = .ok (nT R.es.length) M:=by unfold zx qR zy;simp only[h.er];simp[h.el]
 obtain⟨h1,bx⟩:=h.setE hx he { e with ph:=.waits at' tr };have s1:=zbc (f:="state") (y:=.tup [.str "waits",nT at',nT tr]) (fs':=erF { e with ph:=.waits at' tr }) hc rfl (by simp[erF]);have he1:(R.setE num { e with ph:=.waits at' tr }).es[num]?=some { e with ph:=.waits at' tr }:=by show(R.es.set num _)[num]?=_;rw[Qc,QA rfl,QA (Qz.mp he).1]
 obtain⟨h2,_⟩:=h1.setE hx he1 { e with ph:=.waits at' tr,asked:=some R.es.length };have ss:(R.setE num { e with ph:=.waits at' tr }).setE num { e with ph:=.waits at' tr,asked:=some R.es.length }=R.setE num { e with ph:=.waits at' tr,asked:=some R.es.length }:=by show({ R with es:=(R.es.set num _).set num _ }:Run)=_;rw[List.set_set];rfl
 rw[ss]at h2;have hc1:(M.set x (.ins I (erF { e with ph:=.waits at' tr })))[x]?=some (.ins I (erF { e with ph:=.waits at' tr })):=get_set hc;have s2:=zbc (f:="asked") (y:=nT R.es.length) (fs':=erF { e with ph:=.waits at' tr,asked:=some R.es.length }) hc1 rfl (by simp[erF]);erw[zV h he hh,qu (f:=yz) ha,yo,h.errands,ln,zH,h.er,qu (f:=FT.T.ref) hx,s1,h1.errands,h1.er,s2,zdl h2 wn w];generalize hM2:(M.set x (.ins I (erF { e with ph:=.waits at' tr }))).set x (.ins I (erF { e with ph:=.waits at' tr,asked:=some R.es.length }))=M2 at h2 ⊢;have k2:Kp b M M2:=by rw[←hM2];exact(Kp.set _ _ bx).trans (Kp.set _ _ bx)
 have hnt:=h2.net;have Y:∀(l3:Lay) (M3:Mem),Kp b M M3->RunAt I O (yg n) b r l3 M3 (.(3).share n a tr R.es.length)->
   Ok ((zbR I O [yg n,yz a] M3).bind λy M=>(q2 [.ref r,y,.tup [nT num,nT at',nT tr]] M).bind λ_ M=>.ok .non M) (Lv I O n b r (g (.(3).share n a tr R.es.length) (n.hix a.to) (some (num,at',tr))) M):=by
  intro l3 M3 k3 h3;rw[zoN wn w];simp_arith;refine Ok.bind (hg l3 M3 _ rfl h3) ?_;rintro t M4 ⟨rfl,k4,l4,h4⟩
  try simp_arith
  exact Ok.ret ⟨rfl,k3.trans k4,l4,h4⟩
 cases q:n.pof a with
 |none=>
  have i1:∀M,zaa (onT none) .non M = .ok (.bl false) M:=λ_=>rfl;have e1:.(3).share n a tr R.es.length=R.setE num { e with ph:=.waits at' tr,asked:=some R.es.length }:=by unfold Run.share;rw[q]
  simp_all_arith [i1,hnt]
  exact Y l M2 k2 (by rw[e1];exact h2)
 |some k=>
  have hk:=w.plt q;rw[show onT (some k) = .int (k:Int)from rfl];have i1:∀M,zaa (.int (k:Int)) .non M = .ok (.bl true) M:=λ_=>rfl;have hu:.(3).puts[k]?=some (R.puts[k]'⋯):=Q0 (show k<R.puts.length by symm);obtain⟨y,hy,hcy⟩:=h2.at_p hu;have gd:R.puts.getD k []=R.puts[k]'⋯:=by rw[Q7,Q0 (show k<R.puts.length by symm)];rfl
  obtain⟨h3,by3⟩:=h2.setP hy hu (R.puts.getD k []++[R.es.length]);have ap:=qQ (t:=nT R.es.length) hcy (by rw[Qh,sizeLine_eq];have:=sb.pu _ (getElem_mem (show k<R.puts.length by symm));symm);have hps:n.ps[k]?=some n.ps[k]:=Q0 hk;have hpa:atI (n.ps.map puT) (k:Int)=some (.tup [.str n.ps[k].name,.str n.ps[k].earns,.int n.ps[k].per]):=qu (f:=puT) hps;have lc:qG (.ref y) M2 = .ok (.ref y) M2:=qH hcy;unfold yg at hnt
  by_cases hs:tr=1\/n.any k=true
  .have e1:.(3).share n a tr R.es.length=.(3).setP k (R.puts.getD k []++[R.es.length]):=by unfold Run.share;rw[q];dsimp only;rw[QA hs];rfl
   have h3':RunAt I O (yg n) b r l (M2.set y (.lst (((R.puts[k]'⋯).map nT)++[nT R.es.length]))) (.(3).share n a tr R.es.length):=by rw[e1,gd];rw[gd,Qq]at h3;exact h3
   have k3:Kp b M (M2.set y (.lst (((R.puts[k]'⋯).map nT)++[nT R.es.length]))):=k2.trans (Kp.set _ _ by3);have fn:=Y l _ k3 h3';have hn3:=h3'.net
   by_cases z:tr=1
   .have zt:((tr:Int)==1)=true:=by rw[z];rfl
    simp_all_arith [i1,zt,h2.putsF,h2.pu,qu (f:=FT.T.ref) hy,lc,ap,hn3]
    exact fn
   .have zt:((tr:Int)==1)=false:=by simp;symm
    have ha':n.any k=true:=hs.resolve_left z
    simp_all_arith [i1,zt,hnt,hpa,any_eq hps,ha',h2.putsF,h2.pu,qu (f:=FT.T.ref) hy,lc,ap,hn3]
    exact fn
  .have e1:.(3).share n a tr R.es.length=R.setE num { e with ph:=.waits at' tr,asked:=some R.es.length }:=by unfold Run.share;rw[q];dsimp only;rw[QB hs]
   have zt:((tr:Int)==1)=false:=by have:¬tr=1:=λz=>hs (.inl z);simp;symm
   have ha':n.any k=false:=by cases z:n.any k with|false=>rfl|true=>exact absurd (.inr z) hs
   have fn:=Y l M2 k2 (by rw[e1];exact h2);unfold yg at fn
   simp_all_arith [i1,zt,hnt,hpa,any_eq hps,ha']
   exact fn
def zbg(R:Run)(e:Er):(R.push e).es[R.es.length]?=some e:=List.getElem?_concat_length
theorem zjU(wn:WN n):∀(f m:Nat),2*f<=m->∀{B:Nat} {h:Nat} {c:Option (Nat × Nat × Nat)} {l:Lay} {M:Mem} {R:Run},B+2*f<100000->RunAt I O (yg n) b r l M R->b<=M.length->SB B R->R.puts.length=n.ps.length->h<n.hs.length->n.hs.length<=h+f->
  Ok ((yn I O m).2 [.ref r,nT h,clT c] M) (Lv I O n b r (qE n f R h c) M)
 |0,m,_,B,h,c,l,M,R,_,_,_,_,_,hh,hf=>absurd hh ⋯|f+1,0,hm,B,h,c,l,M,R,_,_,_,_,_,hh,hf=>absurd hm ⋯|f+1,m+1,hm,B,h,c,l,M,R,hB,ra,hbM,sb,hp,hh,hf=>by
  show Ok (zj 3 4 (zbi I O (yn I O m).1 (yn I O m).2) [.ref r,nT h,clT c] M) _;refine zA rfl ?_;unfold zbi;have i0:zaQ I O [.ref M.length,nT h,clT c] (M++[.ins I []]) = .ok .non (M++[.ins I (erF (qr h c))]):=by
   unfold zaQ zd9;have st:∀(fs fs':List (Str × FT.T)) (f:Str) (y:FT.T),zcT f y fs=fs'->fs.length<1000->zaT [I] f (.ref M.length) y (M++[.ins I fs]) = .ok () (M++[.ins I fs']):=λfs fs' f y e hl=>by rw[zbc (x:=M.length) zP e hl];congr 1;rw[set_append_right _ _ (Q3 _),Qv];rfl
   erw[zH,st [] [("house",nT h)] "house" (nT h) rfl (by simp),st [("house",nT h)] [("house",nT h),("caller",clT c)] "caller" (clT c) rfl (by simp),st [("house",nT h),("caller",clT c)] [("house",nT h),("caller",clT c),("state",.tup [.str "works"])] "state" (.tup [.str "works"]) rfl (by simp),st [("house",nT h),("caller",clT c),("state",.tup [.str "works"])] [("house",nT h),("caller",clT c),("state",.tup [.str "works"]),("is_lost",.bl false)] "is_lost" (.bl false) rfl (by simp),st [("house",nT h),("caller",clT c),("state",.tup [.str "works"]),("is_lost",.bl false)] [("house",nT h),("caller",clT c),("state",.tup [.str "works"]),("is_lost",.bl false),("asked",.non)] "asked" .non rfl (by simp),st [("house",nT h),("caller",clT c),("state",.tup [.str "works"]),("is_lost",.bl false),("asked",.non)] (erF (qr h c)) "stood" .non rfl (by simp)]
  have ra1:=ra.push hbM (qr h c);have er1:(M++[Cell.ins I (erF (qr h c))])[l.a]?=some (.lst (l.es.map .ref)):=by rw[Q6 (yC ra.er)];exact ra.er
  have ap:=qQ (t:=.ref M.length) er1 (by rw[Qh,sizeLine_eq,ra.el];have:=sb.es;symm);rw[show l.es.map FT.T.ref++[.ref M.length]=(l.es++[M.length]).map .ref from by simp]at ap;have kp:Kp b M ((M++[Cell.ins I (erF (qr h c))]).set l.a (.lst ((l.es++[M.length]).map .ref))):=(Kp.app _ _ hbM).trans (Kp.set _ _ (ra.lo (l.a,.lst (l.es.map .ref)) (.tail _ (.head _))));have mk:zde I (zaQ I O) (zb (Z 1) (zb (Z 2) ze)) [some (.ref r),some (nT h),some (clT c),none] M = .ok (.ref M.length) (M++[.ins I (erF (qr h c))]):=by erw[zde,i0];rfl
  erw[yo,ra.errands,qH ra.er,mk,ap];generalize hM1:(M++[Cell.ins I (erF (qr h c))]).set l.a (.lst ((l.es++[M.length]).map .ref))=M1 at ra1 kp ⊢;have ln:zx (.ref l.a) M1 = .ok (.int ((R.es.length:Int)+1)) M1:=by unfold zx qR zy;have:=ra1.er;simp only at this;simp only[this];simp[ra.el]
  have sub1:(R.es.length:Int)+1-1=(R.es.length:Int):=by symm
  have hn1:(R.push (qr h c)).es[R.es.length]?=some (qr h c):=zbg R _;have as1:=zV ra1 hn1 hh;erw[ra1.errands,ln,sub1,as1]
  by_cases h0:n.asks h=[]
  .have e1:qE n (f+1) R h c=R.push (qr h c):=by unfold qE;rw[QA h0]
   rw[e1];have:(qr h c).house=h:=rfl;rw[this,h0];simp_arith;exact Ok.ret ⟨rfl,kp,_,ra1⟩
  .have e1:qE n (f+1) R h c=y8 n (qE n f) (R.push (qr h c)) R.es.length 0 1:=by rw[qE,QB h0]
   rw[e1];obtain⟨a,as,hq⟩:=List.exists_cons_of_ne_nil h0;have ha:(n.asks (qr h c).house)[0]?=some a:=by show(n.asks h)[0]?=_;rw[hq];rfl
   have w:=wn.as h a (by rw[hq];exact .head _);have hlen:decide ((0:Int)<(((n.asks (qr h c).house).map yz).length:Int))=true:=Qw (by rw[Qh];show(0:Int)<((n.asks h).length:Int);rw[hq];simp)
   erw[hlen];obtain⟨m',rfl⟩:∃m',m=m'+1:=⟨m-1,⋯⟩;refine Ok.bind (zmj wn (q1:=(yn I O m').1) (q2:=(yn I O m').2) (g:=qE n f) (B:=B+1) ⋯ ra1 (sb.push _) hp hn1 hh ha ?_) ?_
   .intro l3 M3 R3 e3 ra3;have hM3:b<=M3.length:=Qj (ra3.lo _ (.head _)) (Nat.le_of_lt (yC ra3.run));have sl:=zbE ((R.push (qr h c)).setE R.es.length { qr h c with ph:=.waits 0 1,asked:=some (R.push (qr h c)).es.length }) n a 1 (R.push (qr h c)).es.length;refine zjU wn f m' ⋯ (B:=B+2) ⋯ ra3 hM3 ?_ ?_ (by exact w.lt) (by have:=w.up;symm)
    .rw[e3];exact((sb.push _).setE _ _).share n a 1 _
    .rw[e3,sl.2.1];exact hp
   .rintro t M2 ⟨rfl,k2,l2,h2⟩
    try simp_arith
    exact Ok.ret ⟨rfl,kp.trans k2,l2,h2⟩
end
def zaH(n:Net)(g:Run->Nat->Str->Run)(R:Run)(c:Nat × Nat × Nat)(w:Str):Run:=match R.es[c.1]? with
 |none=>R|some e=>if(w==("well":Str))=true/\c.2.1+1<.(5).length then y8 n (qE n 4) R c.1 (c.2.1+1) 1
  else if(w==("well":Str))=true\/((w==("spent":Str))=true/\(.(5)[c.2.1]?).any (·.hears)=true)then g R c.1 w
  else R.setE c.1 { e with ph:=.stands c.2.1 c.2.2,stood:=some R.came }
def yL(n:Net):Nat->Run->Nat->Str->Run
 |0,R,_,_=>R|f+1,R,i,w=>match R.es[i]? with
  |none=>R|some e=>match e.caller with
   |none=>R.setE i { e with ph:=.ended w }
   |some c=>if e.lost=true then R.setE i { e with ph:=.ended w }else zaH n (yL n f) (R.setE i { e with ph:=.ended w }) c w
def zel(n:Net)(e:Er):Prop:=match e.ph with
 |.waits a t=>a<.(5).length/\1<=t|.stands a t=>a<.(5).length/\e.stood.isSome=true/\1<=t|_=>True
structure RI (n:Net) (R:Run):Prop where
 hs:∀(i:Nat) (e:Er),R.es[i]?=some e->e.house<n.hs.length
 cl:∀(i:Nat) (e:Er) (c:Nat × Nat × Nat),R.es[i]?=some e->e.caller=some c->c.1<i/\∃ce,R.es[c.1]?=some ce/\ce.house<e.house/\c.2.1<(n.asks ce.house).length
 ph:∀(i:Nat) (e:Er),R.es[i]?=some e->zel n e
 pl:R.puts.length=n.ps.length
theorem zav{es:List Er}(h:(es.set i e')[j]?=some q):(j=i/\q=e'/\i<es.length)\/(j ≠ i/\es[j]?=some q):=by
 rw[Qc]at h;split at h
 .rename_i z;split at h
  .cases h;exact .inl ⟨z.symm,rfl,⋯⟩
  .cases h
 .rename_i z;exact .inr ⟨λy=>z y.symm,h⟩
theorem RI.setE(h:RI n R){i:Nat}{e e':Er}(he:R.es[i]?=some e)(h1:e'.house=e.house)(h2:e'.caller=e.caller)(h3:zel n e'):RI n (R.setE i e'):=by
 have fwd:∀{j:Nat} {q:Er},R.es[j]?=some q->∃q',(R.setE i e').es[j]?=some q'/\q'.house=q.house:=λ{j q} hq=>by
  show ∃q',(R.es.set i e')[j]?=some q'/\_;rw[Qc]
  by_cases z:i=j
  .rw[QA z,QA (Qz.mp he).1];subst z;rw[he]at hq;cases hq;exact⟨e',rfl,h1⟩
  .rw[QB z];exact⟨q,hq,rfl⟩
 refine⟨λj q hq=>?_,λj q c hq hc=>?_,λj q hq=>?_,h.pl⟩
 .rcases zav hq with⟨rfl,rfl,_⟩ | ⟨_,hq⟩
  .rw[h1];exact h.hs _ _ he
  .exact h.hs _ _ hq
 .rcases zav hq with⟨rfl,rfl,_⟩ | ⟨_,hq⟩
  .rw[h2]at hc;obtain⟨a,ce,b1,b2,b3⟩:=h.cl _ _ _ he hc;obtain⟨q',d1,d2⟩:=fwd b1;exact⟨a,q',d1,by rw[d2,h1];exact b2,by rw[d2];exact b3⟩
  .obtain⟨a,ce,b1,b2,b3⟩:=h.cl _ _ _ hq hc;obtain⟨q',d1,d2⟩:=fwd b1;exact⟨a,q',d1,by rw[d2];exact b2,by rw[d2];exact b3⟩
 .rcases zav hq with⟨rfl,rfl,_⟩ | ⟨_,hq⟩
  .exact h3
  .exact h.ph _ _ hq
section
def zdd(w s:Str)(M:Mem):eqA (.str w) (.str s) M = .ok (.bl (w==s)) M:=rfl
def zeR(w s:Str)(M:Mem):neA (.str w) (.str s) M = .ok (.bl (!(w==s))) M:=rfl
theorem zku(wn:WN n){B:Nat}(hB:B<90000){num at' tr:Nat}{e:Er}{a:Ask}{l:Lay}{M:Mem}{R:Run}
  (h:RunAt I O (yg n) b r l M R) (sb:SB B R) (hp:R.puts.length=n.ps.length) (he:R.es[num]?=some e) (hh:e.house<n.hs.length) (ha:.(5)[at']?=some a) :
  Ok (zbq I O [.ref r,nT num,nT at',nT tr] M) (Lv I O n b r (y8 n (qE n 4) R num at' tr) M):=by
 show Ok (zj 4 7 (zbo I O (yn I O 11).1 (yn I O 11).2) [.ref r,nT num,nT at',nT tr] M) _;have w:=wn.as e.house a (Qa ha);refine zmj wn (B:=B) ⋯ h sb hp he hh ha ?_;intro l3 M3 R3 e3 ra3;have hM3:b<=M3.length:=Qj (ra3.lo _ (.head _)) (Nat.le_of_lt (yC ra3.run));have sl:=zbE .(3) n a tr R.es.length;refine zjU wn 4 11 ⋯ (B:=B+1) ⋯ ra3 hM3 (by rw[e3];exact(sb.setE _ _).share n a tr _) (by rw[e3,sl.2.1];exact hp) w.lt (by have:=wn.hl;symm)
theorem zk2(wn:WN n){q1 q2:X2}{g:Run->Nat->Str->Run}{B:Nat}(hB:B<90000){c:Nat × Nat × Nat}{w:Str}{e:Er}{l:Lay}{M:Mem}{R:Run}
  (h:RunAt I O (yg n) b r l M R) (sb:SB B R) (ri:RI n R) (he:R.es[c.1]?=some e) (hat:c.2.1<.(5).length)
  (hg:Ok (q1 [.ref r,nT c.1,.str w] M) (Lv I O n b r (g R c.1 w) M)) :
  Ok (zj 3 6 (zev I O q1 q2) [.ref r,clT (some c),.str w] M) (Lv I O n b r (zaH n g R c w) M):=by
 have hh:=ri.hs _ _ he;generalize hR:zaH n g R c w=R';have e0:R'=if(w==("well":Str))=true/\c.2.1+1<.(5).length then y8 n (qE n 4) R c.1 (c.2.1+1) 1
  else if(w==("well":Str))=true\/((w==("spent":Str))=true/\(.(5)[c.2.1]?).any (·.hears)=true)then g R c.1 w
  else R.setE c.1 { e with ph:=.stands c.2.1 c.2.2,stood:=some R.came }:=by
  rw[←hR];unfold zaH;rw[he]
 obtain⟨x,hx,hc⟩:=h.at_e he;have ha:.(5)[c.2.1]?=some .(5)[c.2.1]:=Q0 hat;have haa:atI (.(5).map yz) (c.2.1:Int)=some (.tup [.str .(5)[c.2.1].to,.int .(5)[c.2.1].tries,opS .(5)[c.2.1].purse,.str .(5)[c.2.1].word,.bl .(5)[c.2.1].hears,.bl .(5)[c.2.1].sure]):=qu (f:=yz) ha;have a4:∀(t0 t1 t2 t3 t4 t5:FT.T),atI [t0,t1,t2,t3,t4,t5] 4=some t4:=λ_ _ _ _ _ _=>rfl;refine zA rfl ?_;unfold zev;rw[show clT (some c) = .tup [nT c.1,nT c.2.1,nT c.2.2]from rfl];have hl:((.(5).map yz).length:Int)=(.(5).length:Int):=by rw[Qh]
 erw[zV h he hh,zdd,hl];have s1:=zbc (f:="state") (y:=.tup [.str "stands",nT c.2.1,nT c.2.2]) (fs':=erF { e with ph:=.stands c.2.1 c.2.2 }) hc rfl (by simp[erF]);obtain⟨h1,bx⟩:=h.setE hx he { e with ph:=.stands c.2.1 c.2.2 };have hc1:(M.set x (.ins I (erF { e with ph:=.stands c.2.1 c.2.2 })))[x]?=some (.ins I (erF { e with ph:=.stands c.2.1 c.2.2 })):=get_set hc;have s2:=zbc (f:="stood") (y:=nT R.came) (fs':=erF { e with ph:=.stands c.2.1 c.2.2,stood:=some R.came }) hc1 rfl (by simp[erF]);have he1:(R.setE c.1 { e with ph:=.stands c.2.1 c.2.2 }).es[c.1]?=some { e with ph:=.stands c.2.1 c.2.2 }:=by show(R.es.set c.1 _)[c.1]?=_;rw[Qc,QA rfl,QA (Qz.mp he).1]
 obtain⟨h2,_⟩:=h1.setE hx he1 { e with ph:=.stands c.2.1 c.2.2,stood:=some R.came };have ss:(R.setE c.1 { e with ph:=.stands c.2.1 c.2.2 }).setE c.1 { e with ph:=.stands c.2.1 c.2.2,stood:=some R.came }=R.setE c.1 { e with ph:=.stands c.2.1 c.2.2,stood:=some R.came }:=by show({ R with es:=(R.es.set c.1 _).set c.1 _ }:Run)=_;rw[List.set_set];rfl
 rw[ss]at h2;have k2:Kp b M ((M.set x (.ins I (erF { e with ph:=.stands c.2.1 c.2.2 }))).set x (.ins I (erF { e with ph:=.stands c.2.1 c.2.2,stood:=some R.came }))):=(Kp.set _ _ bx).trans (Kp.set _ _ bx);have ca:zaI [O] "came" (.ref r) (M.set x (.ins I (erF { e with ph:=.stands c.2.1 c.2.2 }))) = .ok (nT R.came) (M.set x (.ins I (erF { e with ph:=.stands c.2.1 c.2.2 }))):=h1.came
 by_cases hw:(w==("well":Str))=true
 .by_cases hl2:c.2.1+1<.(5).length
  .rw[QA ⟨hw,hl2⟩]at e0;rw[e0];have d1:decide ((c.2.1:Int)+1<(.(5).length:Int))=true:=Qw ⋯;erw[hw,d1];refine Ok.bind (zku wn hB h sb ri.pl he hh (at':=c.2.1+1) (tr:=1) (Q0 hl2)) ?_;rintro t M2 ⟨rfl,k2,l2,h2⟩
   try simp_arith
   exact Ok.ret ⟨rfl,k2,l2,h2⟩
  .rw[QB λz=>hl2 z.2,QA (.inl hw)]at e0;rw[e0];have d1:decide ((c.2.1:Int)+1<(.(5).length:Int))=false:=Qx ⋯;erw[hw,d1];refine Ok.bind hg ?_;rintro t M2 ⟨rfl,k2,l2,h2⟩
   try simp_arith
   exact Ok.ret ⟨rfl,k2,l2,h2⟩
 .have hw':(w==("well":Str))=false:=by simpa using hw
  rw[QB λz=>hw z.1]at e0
  by_cases hs:(w==("spent":Str))=true
  .by_cases hh2:.(5)[c.2.1].hears=true
   .rw[QA (.inr ⟨hs,by rw[ha];exact hh2⟩)]at e0;rw[e0];erw[hw',hs,haa,a4,hh2];refine Ok.bind hg ?_;rintro t M2 ⟨rfl,k2,l2,h2⟩
    try simp_arith
    exact Ok.ret ⟨rfl,k2,l2,h2⟩
   .have hh3:.(5)[c.2.1].hears=false:=by simpa using hh2
    rw[QB (by
     rintro (z | ⟨_,z⟩)
     .exact hw z
     .rw[ha]at z;exact hh2 z)]at e0
    rw[e0];erw[hw',hs,haa,a4,hh3,zH,yo,h.errands,h.er,qu (f:=FT.T.ref) hx,s1,ca,h1.errands,h1.er,s2];exact Ok.ret ⟨rfl,k2,l,h2⟩
  .have hs':(w==("spent":Str))=false:=by simpa using hs
   rw[QB (by
    rintro (z | ⟨z,_⟩)
    .exact hw z
    .exact hs z)]at e0
   rw[e0];erw[hw',hs',zH,yo,h.errands,h.er,qu (f:=FT.T.ref) hx,s1,ca,h1.errands,h1.er,s2];exact Ok.ret ⟨rfl,k2,l,h2⟩
theorem zjG(wn:WN n):∀(f m:Nat),2*f<=m->∀{B i:Nat} {w:Str} {e:Er} {l:Lay} {M:Mem} {R:Run},B<90000->RunAt I O (yg n) b r l M R->SB B R->RI n R->R.es[i]?=some e->e.house<f->
  Ok ((yy I O m).1 [.ref r,nT i,.str w] M) (Lv I O n b r (yL n f R i w) M)
 |0,m,_,B,i,w,e,l,M,R,_,_,_,_,_,hf=>absurd hf ⋯|f+1,0,hm,B,i,w,e,l,M,R,_,_,_,_,_,hf=>absurd hm ⋯|f+1,m+1,hm,B,i,w,e,l,M,R,hB,h,sb,ri,he,hf=>by
  show Ok (zj 3 4 (zbM I O (yy I O m).1 (yy I O m).2) [.ref r,nT i,.str w] M) _;refine zA rfl ?_;unfold zbM;obtain⟨x,hx,hc⟩:=h.at_e he;have s1:=zbc (f:="state") (y:=.tup [.str "ended",.str w]) (fs':=erF { e with ph:=.ended w }) hc rfl (by simp[erF]);obtain⟨h1,bx⟩:=h.setE hx he { e with ph:=.ended w };have hc1:(M.set x (.ins I (erF { e with ph:=.ended w })))[x]?=some (.ins I (erF { e with ph:=.ended w })):=get_set hc;have f1:=qN (f:="caller") hc1 rfl;have f2:=qN (f:="is_lost") hc1 rfl;have k1:Kp b M (M.set x (.ins I (erF { e with ph:=.ended w }))):=Kp.set _ _ bx;generalize hR:yL n (f+1) R i w=R';erw[yo,h.errands,h.er,qu (f:=FT.T.ref) hx,zH,s1,f1];generalize hM1:M.set x (.ins I (erF { e with ph:=.ended w }))=M1 at h1 f1 f2 k1 ⊢;cases q:e.caller with
  |none=>
   have e1:yL n (f+1) R i w=R.setE i { e with ph:=.ended w }:=by unfold yL;rw[he];dsimp only;rw[q]
   have i1:∀M,zaa (clT none) .non M = .ok (.bl false) M:=λ_=>rfl;rw[←hR,e1];have q':({ e with ph:=.ended w }:Er).caller=none:=q;rw[q]at f1;erw[i1];exact Ok.ret ⟨rfl,k1,l,h1⟩
  |some c=>
   have i1:∀M,zaa (clT (some c)) .non M = .ok (.bl true) M:=λ_=>rfl;cases ql:e.lost with
   |true=>
    have e1:yL n (f+1) R i w=R.setE i { e with ph:=.ended w }:=by unfold yL;rw[he];dsimp only;rw[q];dsimp only;rw[QA ql]
    rw[←hR,e1];rw[ql]at f2;erw[i1,f2];exact Ok.ret ⟨rfl,k1,l,h1⟩
   |false=>
    have e1:yL n (f+1) R i w=zaH n (yL n f) (R.setE i { e with ph:=.ended w }) c w:=by rw[yL,he];dsimp only;rw[q];dsimp only;rw[QB (by rw[ql];simp)]
    rw[←hR,e1];rw[ql]at f2;rw[q]at f1;have ri1:RI n (R.setE i { e with ph:=.ended w }):=ri.setE he rfl rfl True.intro;have hei:(R.setE i { e with ph:=.ended w }).es[i]?=some { e with ph:=.ended w }:=by show(R.es.set i _)[i]?=_;rw[Qc,QA rfl,QA (Qz.mp he).1]
    obtain⟨_,ce,c1,c2,c3⟩:=ri1.cl i _ c hei q;obtain⟨m',rfl⟩:∃m',m=m'+1:=⟨m-1,⋯⟩;erw[i1,f2,f1];refine Ok.bind (zk2 wn (q1:=(yy I O m').1) (q2:=(yy I O m').2) (g:=yL n f) hB h1 (sb.setE _ _) ri1 c1 c3 ?_) ?_
    .exact zjG wn f m' ⋯ hB h1 (sb.setE _ _) ri1 c1 (by have c2':ce.house<e.house:=c2;symm)
    .rintro t M2 ⟨rfl,k2,l2,h2⟩
     try simp_arith
     exact Ok.ret ⟨rfl,k1.trans k2,l2,h2⟩
end
inductive Evt where
 |fresh
 |ends (i:Nat) (w:Str)
 |lost (i:Nat)
 |again (i:Nat)
 |up (i:Nat)
noncomputable def evT:Evt->FT.T
 |.fresh=>.tup [.str "fresh"]|.ends i w=>.tup [.str "ends",nT i,.str w]|.lost i=>.tup [.str "lost",nT i]|.again i=>.tup [.str "again",nT i]|.up i=>.tup [.str "up",nT i]
noncomputable def Ph.isW:Ph->Bool
 |.works=>true|_=>false
noncomputable def Ph.isS:Ph->Bool
 |.stands _ _=>true|_=>false
noncomputable def Ph.isE:Ph->Bool
 |.ended _=>true|_=>false
noncomputable def Ph.at1:Ph->Nat
 |.waits a _=>a|.stands a _=>a|_=>0
noncomputable def Ph.at2:Ph->Nat
 |.waits _ t=>t|.stands _ t=>t|_=>0
def Run.er(R:Run)(i:Nat):Er:=R.es.getD i (qr 0 none)
theorem qZ{R:Run}(h:R.es[i]?=some e):R.er i=e:=by unfold Run.er;rw[Q7,h];rfl
noncomputable def Net.ask(n:Net)(h k:Nat):Ask:=(n.asks h).getD k ⟨"",0,none,"",false,false⟩
theorem zbs{n:Net}(e:(n.asks h)[k]?=some a):n.ask h k=a:=by unfold Net.ask;rw[Q7,e];rfl
def yT(n:Net)(R:Run)(e:Er):Bool:=match e.caller with
 |none=>false|some c=>!(e.lost || e.ph.isE) && !(n.ask (R.er c.1).house c.2.1).sure
def zK(n:Net)(e:Er):Bool:=e.ph.isS && ((n.ask e.house e.ph.at1).tries==0 || decide ((e.ph.at2:Int)<(n.ask e.house e.ph.at1).tries))
def yZ(n:Net)(R:Run)(e:Er):Bool:=match n.pof (n.ask e.house e.ph.at1)with
 |none=>true|some k=>decide (0<(R.told n k).2)
def zag(n:Net)(R:Run)(i:Nat):List Evt:=(if(R.er i).ph.isW=true then[.ends i "bad",.ends i "spent",.ends i "well"]else[])++(if yT n R (R.er i)=true then[.lost i]else[])++(if zK n (R.er i)=true then[.again i]else[])++(if(R.er i).ph.isS=true then[.up i]else[])
noncomputable def Evt.isA:Evt->Bool
 |.again _=>true|_=>false
def zap(n:Net)(R:Run)(i:Nat):List Evt:=(zag n R i).filter λev=>!ev.isA || yZ n R (R.er i)
section
theorem phW(p:Ph)(M:Mem):∃t ts,phT p = .tup (t::ts)/\eqA t (.str "works") M = .ok (.bl p.isW) M/\eqA t (.str "stands") M = .ok (.bl p.isS) M/\neA t (.str "stands") M = .ok (.bl (!p.isS)) M/\eqA t (.str "ended") M = .ok (.bl p.isE) M:=by cases p with|works=>exact⟨_,_,rfl,rfl,rfl,rfl,rfl⟩|waits a t=>exact⟨_,_,rfl,rfl,rfl,rfl,rfl⟩|stands a t=>exact⟨_,_,rfl,rfl,rfl,rfl,rfl⟩|ended w=>exact⟨_,_,rfl,rfl,rfl,rfl,rfl⟩
theorem phS(h:p.isS=true):phT p = .tup [.str "stands",nT p.at1,nT p.at2]:=by cases p with|stands a t=>rfl|_=>cases h
theorem zcl(h:e.ph.isS=true)(k:zel n e):e.ph.at1<.(5).length:=by unfold zel at k;cases q:e.ph with|stands a t=>rw[q]at k;exact k.1|_=>rw[q]at h;cases h
theorem zkc(h:RunAt I O (yg n) b r l M R)(ri:RI n R){i:Nat}{e:Er}(he:R.es[i]?=some e):zbv I O [.ref r,nT i] M = .ok (.bl (yT n R e)) M:=by
 unfold zbv zd8;obtain⟨x,hx,hc⟩:=h.at_e he;have f1:=qN (f:="caller") hc rfl;have f2:=qN (f:="is_lost") hc rfl;have f3:=qN (f:="state") hc rfl;obtain⟨t,ts,p1,_,_,_,p4⟩:=phW e.ph M;rw[p1]at f3;unfold yT;cases q:e.caller with
 |none=>rw[q]at f1;have i1:∀M,isN (clT none) .non M = .ok (.bl true) M:=λ_=>rfl;erw[yo,h.errands,h.er,qu (f:=FT.T.ref) hx,f1,i1]
 |some c=>
  rw[q]at f1;have i1:∀M,isN (.tup [nT c.1,nT c.2.1,nT c.2.2]) .non M = .ok (.bl false) M:=λ_=>rfl;rw[show clT (some c) = .tup [nT c.1,nT c.2.1,nT c.2.2]from rfl]at f1;obtain⟨_,ce,c1,c2,c3⟩:=ri.cl i e c he q;have ha:(n.asks ce.house)[c.2.1]?=some (n.asks ce.house)[c.2.1]:=Q0 c3;have haa:atI ((n.asks ce.house).map yz) (c.2.1:Int)=some (.tup [.str (n.asks ce.house)[c.2.1].to,.int (n.asks ce.house)[c.2.1].tries,opS (n.asks ce.house)[c.2.1].purse,.str (n.asks ce.house)[c.2.1].word,.bl (n.asks ce.house)[c.2.1].hears,.bl (n.asks ce.house)[c.2.1].sure]):=qu (f:=yz) ha;have a5:∀(t0 t1 t2 t3 t4 t5:FT.T),atI [t0,t1,t2,t3,t4,t5] 5=some t5:=λ_ _ _ _ _ _=>rfl;dsimp only;rw[qZ c1,zbs ha];cases ql:e.lost with
  |true=>rw[ql]at f2;erw[yo,h.errands,h.er,qu (f:=FT.T.ref) hx,f1,i1,f2];rfl
  |false=>
   rw[ql]at f2;cases qe:e.ph.isE with
   |true=>rw[qe]at p4;erw[yo,h.errands,h.er,qu (f:=FT.T.ref) hx,f1,i1,f2,f3,p4];rfl
   |false=>rw[qe]at p4;erw[yo,h.errands,h.er,qu (f:=FT.T.ref) hx,f1,i1,f2,f3,p4,zV h c1 (ri.hs _ _ c1),haa,a5];cases (n.asks ce.house)[c.2.1].sure<;>rfl
theorem zig(h:RunAt I O (yg n) b r l M R)(ri:RI n R){i:Nat}{e:Er}(he:R.es[i]?=some e):zaL I O [.ref r,nT i] M = .ok (.bl (zK n e)) M:=by
 unfold zaL zcZ;obtain⟨x,hx,hc⟩:=h.at_e he;have f3:=qN (f:="state") hc rfl;unfold zK;cases qs:e.ph.isS with
 |false=>obtain⟨t,ts,p1,_,_,p3,_⟩:=phW e.ph M;rw[p1]at f3;rw[qs]at p3;erw[yo,h.errands,h.er,qu (f:=FT.T.ref) hx,f3,p3];rfl
 |true=>
  rw[phS qs]at f3;have hl:=zcl qs (ri.ph _ _ he);have ha:.(5)[e.ph.at1]?=some .(5)[e.ph.at1]:=Q0 hl;have haa:atI (.(5).map yz) (e.ph.at1:Int)=some (.tup [.str .(5)[e.ph.at1].to,.int .(5)[e.ph.at1].tries,opS .(5)[e.ph.at1].purse,.str .(5)[e.ph.at1].word,.bl .(5)[e.ph.at1].hears,.bl .(5)[e.ph.at1].sure]):=qu (f:=yz) ha;rw[zbs ha];have ns:∀M,neA (.str "stands") (.str "stands") M = .ok (.bl false) M:=λ_=>rfl;cases q0:(n.asks e.house)[e.ph.at1].tries==0 with
  |true=>erw[yo,h.errands,h.er,qu (f:=FT.T.ref) hx,f3,ns,zV h he (ri.hs _ _ he),haa,q0];rfl
  |false=>erw[yo,h.errands,h.er,qu (f:=FT.T.ref) hx,f3,ns,zV h he (ri.hs _ _ he),haa,q0];rfl
theorem zqF(h:RunAt I O (yg n) b r l M R)(wn:WN n)(ri:RI n R){i:Nat}{e:Er}(he:R.es[i]?=some e)(qs:e.ph.isS=true):zbO I O [.ref r,nT i] M = .ok (.bl (yZ n R e)) M:=by
 unfold zbO zgB;obtain⟨x,hx,hc⟩:=h.at_e he;have f3:=qN (f:="state") hc rfl;rw[phS qs]at f3;have hl:=zcl qs (ri.ph _ _ he);have ha:.(5)[e.ph.at1]?=some .(5)[e.ph.at1]:=Q0 hl;have haa:atI (.(5).map yz) (e.ph.at1:Int)=some (yz .(5)[e.ph.at1]):=qu (f:=yz) ha;have w:=wn.as e.house _ (Qa ha);have po:=zdl h wn w;unfold yZ;rw[zbs ha];cases q:n.pof (n.asks e.house)[e.ph.at1]with
 |none=>rw[q]at po;have i1:∀M,isN (onT none) .non M = .ok (.bl true) M:=λ_=>rfl;erw[yo,h.errands,h.er,qu (f:=FT.T.ref) hx,f3,zV h he (ri.hs _ _ he),haa,po,i1]
 |some k=>rw[q]at po;have i1:∀M,isN (onT (some k)) .non M = .ok (.bl false) M:=λ_=>rfl;have te:=zkv h wn ri.pl (w.plt q);rw[show(nT k:FT.T)=onT (some k)from rfl]at te;erw[yo,h.errands,h.er,qu (f:=FT.T.ref) hx,f3,zV h he (ri.hs _ _ he),haa,po,i1,te]
theorem zqA(h:M[a]?=some (.lst xs))(hl:xs.length+ys.length<1000000):zfM (.ref a) [.lst ys] M = .ok .non (M.set a (.lst (xs++ys))):=by unfold zfM;simp only[h,QA hl]
theorem zmX(h:M[a]?=some (.lst xs)):zce (.ref a) M=true:=by unfold zce zy;simp only[h];rfl
theorem zkl(h:RunAt I O (yg n) b r l M R)(ri:RI n R){i:Nat}{e:Er}(he:R.es[i]?=some e):zaq I O [.ref r,nT i] M = .ok (.lst ((zag n R i).map evT)) M:=by
 have key:Ok (zbm I O [.ref r,nT i] M) λt M'=>t = .ref M.length/\M'=M++[.lst ((zag n R i).map evT)]:=by
  refine zA rfl ?_;unfold zcA;obtain⟨x,hx,hc⟩:=h.at_e he;have f3:=qN (f:="state") hc rfl;obtain⟨t,ts,p1,p2,p3,_,_⟩:=phW e.ph M;have p2':∀M',eqA t (.str "works") M' = .ok (.bl e.ph.isW) M':=λM'=>by obtain⟨t',ts',q1,q2,_⟩:=phW e.ph M';rw[p1]at q1;cases q1;exact q2
  have p3':∀M',eqA t (.str "stands") M' = .ok (.bl e.ph.isS) M':=λM'=>by obtain⟨t',ts',q1,_,q2,_⟩:=phW e.ph M';rw[p1]at q1;cases q1;exact q2
  rw[p1]at f3;have ml:=λcs=>zkc (h.app cs) ri he;have tl:=λcs=>zig (h.app cs) ri he;have lc:∀(ys:List FT.T),qG (.ref M.length) (M++[.lst ys]) = .ok (.ref M.length) (M++[.lst ys]):=λys=>qH zP;have ap:∀(ys:List FT.T) (y:FT.T),ys.length<100->yP (.ref M.length) [y] (M++[.lst ys]) = .ok .non (M++[.lst (ys++[y])]):=λys y hl=>by rw[qQ zP (by rw[sizeLine_eq];symm),set_append_right _ _ (Q3 _),Qv];rfl
  have ex:∀(zs:List FT.T),zs.length<100->zfM (.ref M.length) [.lst zs] (M++[.lst []]) = .ok .non (M++[.lst zs]):=λzs hl=>by rw[zqA zP (by simp;symm),set_append_right _ _ (Q3 _),Qv];rfl
  have il:∀(ys:List FT.T),zce (.ref M.length) (M++[.lst ys])=true:=λys=>zmX zP;unfold zag;rw[qZ he];cases qw:e.ph.isW<;>cases qm:yT n R e<;>cases qt:zK n e<;>cases qs:e.ph.isS<;>(erw[yo,h.errands,h.er,qu (f:=FT.T.ref) hx,f3,p2',p3',qw,qs,ml,qm,tl,qt,za8,il,ex,lc,ap,Nat.reduceLT];exact Ok.ret ⟨rfl,rfl⟩)
 obtain⟨t,M',e1,rfl,rfl⟩:=key;unfold zaq zex;rw[e1];dsimp only;rw[zP];dsimp only;rw[QA];refine⟨by simp,Q3 _,λy hy=>?_⟩;obtain⟨ev,_,rfl⟩:=mem_map.mp hy;cases ev<;>exact .tup λz hz=>by simp only[QC,QI,or_false]at hz;rcases hz with rfl | rfl | rfl<;>first | exact .str _ | exact .int _
end
noncomputable def Evt.num:Evt->Nat
 |.fresh=>0|.ends i _=>i|.lost i=>i|.again i=>i|.up i=>i
noncomputable def Evt.isF:Evt->Bool
 |.fresh=>true|_=>false
section
theorem zmW(h:ev ∈ zag n R i)(ha:ev.isA=true):(R.er i).ph.isS=true:=by
 unfold zag at h;cases ev with
 |again j=>
  simp only[mem_append]at h;rcases h with ((h | h) | h) | h
  .split at h<;>simp at h
  .split at h<;>simp at h
  .split at h
   .rename_i q;unfold zK at q;rw[Qs]at q;exact q.1
   .simp at h
  .split at h<;>simp at h
 |_=>cases ha
theorem zqB(ev:Evt):∃s ts,evT ev = .tup (.str s::ts)/\(s==("again":Str))=ev.isA/\(s==("fresh":Str))=ev.isF:=by cases ev<;>exact⟨_,_,rfl,rfl,rfl⟩
theorem zll(i:Nat):(zag n R i).length<=10:=by
 unfold zag;rw[Qn,Qn,Qn];have:∀(c:Bool) (xs:List Evt),xs.length<=3->(if c=true then xs else[]).length<=3:=λc xs h=>by cases c<;>simp[h]
 have h1:=this (R.er i).ph.isW [.ends i "bad",.ends i "spent",.ends i "well"] (by simp);have h2:(if yT n R (R.er i)=true then[Evt.lost i]else[]).length<=1:=by split<;>simp
 have h3:(if zK n (R.er i)=true then[Evt.again i]else[]).length<=1:=by split<;>simp
 have h4:(if(R.er i).ph.isS=true then[Evt.up i]else[]).length<=1:=by split<;>simp
 symm
theorem zjC(h:RunAt I O (yg n) b r l M R)(wn:WN n)(ri:RI n R){i:Nat}{e:Er}(he:R.es[i]?=some e):zcg I O [.ref r,nT i] M = .ok (.lst ((zap n R i).map evT)) M:=by
 unfold zcg zfo;have c:qF (qp 0) (zby (yq (eOp neA (ja (Z 0) j4) (eC (.str "again")))) (yq (yf (zbO I O) (zb (Z 1) (zb (Z 2) ze))))) (Z 0) ((zag n R i).map evT) [none,some (.ref r),some (nT i)] M [] = .ok ((zap n R i).map evT) M:=
  Ok.filt (r:=evT) (λJ=>∃o,J=[o,some (.ref r),some (nT i)]) _ evT ⟨_,rfl⟩ (Qj (zll i) ∅) (by
   rintro ev J hev ⟨o,rfl⟩;refine⟨[some (evT ev),some (.ref r),some (nT i)],rfl,⟨_,rfl⟩,?_,λ_=>rfl⟩;obtain⟨s,ts,h1,h2,_⟩:=zqB ev;rw[h1];cases q:ev.isA with
   |false=>rw[q]at h2;erw[zeR,h2];rfl
   |true=>
    rw[q]at h2;have hs:e.ph.isS=true:=by rw[←qZ he];exact zmW hev q
    erw[zeR,h2,zqF h wn ri he hs];rw[qZ he];rfl)
 erw[zkl h ri he,c]
theorem zsJ(M:Mem)(x y:Evt):∃q,eqD M 20 (evT x) (evT y)=some q/\(x=y->q=true):=by
 have hs:∀w:Str,eqS (.str w) (.str w)=true:=λw=>by show(w==w)=true;simp
 have hi:∀i:Int,eqS (.int i) (.int i)=true:=λw=>by show(w==w)=true;simp
 cases x<;>cases y<;>refine⟨_,rfl,λz=>?_⟩<;>first | (cases z) | skip
 all_goals first | rfl | (simp[hs,hi]) | skip
theorem zsb(M:Mem){x:Evt}:∀{ys:List Evt},x ∈ ys->∃bs,zch M (evT x) (ys.map evT)=some bs/\bs.any id=true:=by
 intro ys;have all:∀ys:List Evt,∃bs,zch M (evT x) (ys.map evT)=some bs/\(x ∈ ys->bs.any id=true):=by
  intro ys
  induction ys with
  |nil=>exact⟨[],rfl,λh=>by cases h⟩|cons y ys ih=>
   obtain⟨bs,h1,h2⟩:=ih;obtain⟨q,q1,q2⟩:=zsJ M y x;refine⟨q::bs,?_,λh=>?_⟩
   .rw[QG];unfold zch;rw[q1,h1]
   .rcases QC.mp h with rfl | h
    .rw[any_cons,q2 rfl];rfl
    .rw[any_cons,h2 h,Bool.or_true]
 intro h;obtain⟨bs,h1,h2⟩:=all ys;exact⟨bs,h1,h2 h⟩
theorem zh2(cc:qU I O [.ref r,t] M = .ok (.bl true) M):yR I O kN [.ref r,t] M = .ok .non M:=by
 have:OkX (yR I O kN [.ref r,t] M) (λu M'=>u = .non/\M'=M) (λ_ _ _=>False):=by refine zO rfl ?_;unfold zcx;erw[cc];exact⟨rfl,rfl⟩
 obtain⟨u,M',e,rfl,rfl⟩:=this.toOk;exact e
theorem zoH(h:RunAt I O (yg n) b r l M R)(hc:R.came=c)(cc:qU I O [.ref r,t] M = .ok (.bl false) M):OkX (yR I O kN [.ref r,t] M) (λ_ _=>False) (λC fs M'=>C=kN/\fs=[(("at":Str),nT c)]/\M'=M):=by refine zO rfl ?_;unfold zcx;have cm:=h.came;rw[hc]at cm;erw[cc,zck,zcP,yo,cm];exact⟨rfl,rfl,rfl⟩
theorem zsW(h:RunAt I O (yg n) b r l M R)(wn:WN n)(ri:RI n R)(hB:R.es.length<1000000){ev:Evt}(hf:ev.isF=false){e:Er}(he:R.es[ev.num]?=some e)(hm:ev ∈ zap n R ev.num):yR I O kN [.ref r,evT ev] M = .ok .non M:=by
 have hl:=(Qz.mp he).1;have cc:qU I O [.ref r,evT ev] M = .ok (.bl true) M:=by
  unfold qU zcF;obtain⟨bs,b1,b2⟩:=zsb M hm;have iN:inN (evT ev) (.lst ((zap n R ev.num).map evT)) M = .ok (.bl true) M:=by unfold inN qR zy;simp only[b1,b2]
  have ii:∀(xs:List FT.T) M,z6 (.tup xs) (.ty "tuple") M = .ok (.bl true) M:=λ_ _=>rfl;have ln:zx (.ref l.a) M = .ok (nT R.es.length) M:=by unfold zx qR zy;simp only[h.er];simp[h.el]
  have wi:yU I O [nT ev.num,.int 0,.int ((R.es.length:Int)-1)] M = .ok (.bl true) M:=by
   have wh:zal I O [nT ev.num] M = .ok (.bl true) M:=by unfold zal zcE;have h1:z6 (nT ev.num) (.ty "int") M = .ok (.bl true) M:=rfl;have h2:z6 (nT ev.num) (.ty "bool") M = .ok (.bl false) M:=rfl;erw[h1,h2]
   unfold yU zcf;have d1:decide ((0:Int)<=(ev.num:Int))=true:=Qw ⋯;have d2:decide ((ev.num:Int)<=(R.es.length:Int)-1)=true:=Qw ⋯;erw[wh,d1,d2]
  have ea:=zjC h wn ri he;have e0:∃s ts,evT ev = .tup (.str s::nT ev.num::ts)/\eqA (evT ev) (.tup [.str "fresh"]) M = .ok (.bl false) M:=by cases ev with|fresh=>cases hf|ends i w=>exact⟨_,_,rfl,rfl⟩|lost i=>exact⟨_,_,rfl,rfl⟩|again i=>exact⟨_,_,rfl,rfl⟩|up i=>exact⟨_,_,rfl,rfl⟩
  obtain⟨s,ts,e1,e2⟩:=e0;rw[e1]at e2 iN ⊢;have d3:decide (((FT.T.str s::nT ev.num::ts).length:Int)<2)=false:=Qx (by simp;symm);simp only[Qp]at d3;erw[e2,ii,d3,yo,h.errands,ln,wi,ea,iN]
 exact zh2 cc
theorem znu(h:RunAt I O (yg n) b r l M R):yR I O kN [.ref r,evT .fresh] M = .ok .non M:=by
 have cc:qU I O [.ref r,evT .fresh] M = .ok (.bl true) M:=by unfold qU zcF;have e2:eqA (evT .fresh) (.tup [.str "fresh"]) M = .ok (.bl true) M:=rfl;erw[e2]
 exact zh2 cc
end
noncomputable section
def zlC(R:Run)(k:Nat):Run:={ R with pays:=R.pays++[(R.es.length,k,R.taken.getD k 0)],taken:=R.taken.set k (R.taken.getD k 0+1) }
def takeO(R:Run)(o:Option Nat):Run:=o.elim R (zlC R)
def zc5(n:Net)(R:Run)(i:Nat):Run:=y8 n (qE n 4) (takeO R (n.pof (n.ask (R.er i).house (R.er i).ph.at1))) i (R.er i).ph.at1 ((R.er i).ph.at2+1)
def zcC(n:Net)(R:Run)(i:Nat):Run:=(R.er i).caller.elim R λc=>zaH n (yL n 4) (R.setE i { R.er i with lost:=true }) c "bad"
def upR(n:Net)(R:Run)(i:Nat):Run:=yL n 4 R i (n.ask (R.er i).house (R.er i).ph.at1).word
end
def doR(n:Net)(R:Run):Evt->Run
 |.fresh=>qE n 4 R 0 none|.ends i w=>yL n 4 R i w|.lost i=>zcC n R i|.again i=>zc5 n R i|.up i=>upR n R i
noncomputable def Run.tick(R:Run):Run:={ R with came:=R.came+1 }
def zaG(n:Net)(R:Run)(ev:Evt):Run:=(doR n R ev).tick
section
theorem SB.takeO(sb:SB B R)(o:Option Nat):SB (B+1) (takeO R o):=by
 cases o with
 |none=>exact sb.mono ⋯|some k=>
  refine⟨QM sb.es,λu hu=>QM (sb.pu u hu),?_,λv hv=>?_⟩
  .show(R.pays++_).length<=_;rw[Qn,Qu];have:=sb.py;symm
  .rcases mem_set hv with hv | rfl
   .exact QM (sb.tk v hv)
   .by_cases hk:k<R.taken.length
    .have:=sb.tk (R.taken.getD k 0) (by rw[Q7,Q0 hk];exact getElem_mem _);symm
    .rw[Q7,getElem?_eq_none ⋯];simp
theorem zfx(R:Run)(o:Option Nat):(takeO R o).es=R.es/\(takeO R o).puts=R.puts/\(takeO R o).came=R.came:=by cases o<;>exact⟨rfl,rfl,rfl⟩
theorem zpd(h:RunAt I O (yg n) b r l M R){B:Nat}(hB:B<90000)(sb:SB B R)(hp:R.puts.length=n.ps.length){k:Nat}(hk:k<n.ps.length):Ok (zdp I O [.ref r,nT k] M) (Lv I O n b r (zlC R k) M):=by
 refine zA rfl ?_;unfold zfl;have hkt:k<R.taken.length:=by have:=h.tl;symm
 have ht:R.taken[k]?=some R.taken[k]:=Q0 hkt;have gd:R.taken.getD k 0=R.taken[k]:=by rw[Q7,ht];rfl
 have ln:zx (.ref l.a) M = .ok (nT R.es.length) M:=by unfold zx qR zy;simp only[h.er];simp[h.el]
 obtain⟨h1,b1⟩:=h.setPays (R.pays++[(R.es.length,k,R.taken[k])]);have ap:=qQ (t:=.tup [nT R.es.length,nT k,nT R.taken[k]]) h.py (by rw[Qh,sizeLine_eq];have:=sb.py;symm);rw[show R.pays.map zbA++[.tup [nT R.es.length,nT k,nT R.taken[k]]]=(R.pays++[(R.es.length,k,R.taken[k])]).map zbA from by simp[zbA]]at ap;erw[yo,h.payF,qH h.py,h.errands,ln,h.takenF,h.tk,qu (f:=nT) ht,ap];generalize hM1:M.set l.q (.lst ((R.pays++[(R.es.length,k,R.taken[k])]).map zbA))=M1 at h1 ⊢;have k1:Kp b M M1:=by rw[←hM1];exact Kp.set _ _ b1
 obtain⟨h2,b2⟩:=h1.setTaken (R.taken.set k (R.taken[k]+1)) (by simp);have hix:ixN (R.taken.map nT).length (k:Int)=some k:=by rw[zr8 (by rw[Qh];symm),QH]
 have tk1:M1[l.t]?=some (.lst (R.taken.map nT)):=h1.tk;have ms:(R.taken.map nT).set k (.int ((R.taken[k]:Int)+1))=(R.taken.set k (R.taken[k]+1)).map nT:=by rw[List.map_set];rfl
 have ad:∀i j M,zdv (.int i) (.int j) M = .ok (.int (i+j)) M:=λ_ _ _=>rfl;unfold zis getL;erw[yo,h1.takenF,zaC tk1,qu (f:=nT) ht,ad,tk1,hix,ms];refine Ok.ret ⟨rfl,k1.trans (Kp.set _ _ b2),l,?_⟩;unfold zlC;rw[gd];exact h2
def ztU(h:RunAt I O (yg n) b r l M R):b<=M.length:=Qj (h.lo _ (.head _)) (Nat.le_of_lt (yC h.run))
theorem zoO(h:RunAt I O (yg n) b r l M R)(wn:WN n){B:Nat}(hB:B+1<90000)(sb:SB B R)(ri:RI n R){i:Nat}{e:Er}(he:R.es[i]?=some e)(hs:e.ph.isS=true):Ok (zdo I O [.ref r,nT i] M) (Lv I O n b r (zc5 n R i) M):=by
 refine zA rfl ?_;unfold zfk;have hl:=zcl hs (ri.ph _ _ he);have ha:.(5)[e.ph.at1]?=some .(5)[e.ph.at1]:=Q0 hl;have haa:atI (.(5).map yz) (e.ph.at1:Int)=some (yz .(5)[e.ph.at1]):=qu (f:=yz) ha;have w:=wn.as e.house _ (Qa ha);have po:=zdl h wn w;obtain⟨x,hx,hc⟩:=h.at_e he;have f3:=qN (f:="state") hc rfl;rw[phS hs]at f3;unfold zc5;rw[qZ he,zbs ha];erw[yo,h.errands,h.er,qu (f:=FT.T.ref) hx,f3,zV h he (ri.hs _ _ he),haa,po];have go:∀(l1:Lay) (M1:Mem) (o:Option Nat),Kp b M M1->RunAt I O (yg n) b r l1 M1 (takeO R o)->Ok ((zbq I O [.ref r,nT i,nT e.ph.at1,.int ((e.ph.at2:Int)+1)] M1).bind λ_ M=>.ok FT.T.non M) (Lv I O n b r (y8 n (qE n 4) (takeO R o) i e.ph.at1 (e.ph.at2+1)) M):=by intro l1 M1 o k1 h1;have te:=zfx R o;refine Ok.bind (zku wn (B:=B+1) (tr:=e.ph.at2+1) hB h1 (sb.takeO o) (by rw[te.2.1];exact ri.pl) (by rw[te.1];exact he) (ri.hs _ _ he) ha) ?_;rintro t M2 ⟨rfl,k2,l2,h2⟩;exact Ok.ret ⟨rfl,k1.trans k2,l2,h2⟩
 cases q:n.pof (n.asks e.house)[e.ph.at1]with
 |none=>have i1:∀M,zaa (onT none) .non M = .ok (.bl false) M:=λ_=>rfl;erw[i1];exact go l M none (Kp.refl _ _) h
 |some k=>
  have i1:∀M,zaa (onT (some k)) .non M = .ok (.bl true) M:=λ_=>rfl;erw[i1];rw[show onT (some k)=nT k from rfl];refine Ok.bind (zpd h ⋯ sb ri.pl (w.plt q)) ?_;rintro t M1 ⟨rfl,k1,l1,h1⟩
  try simp_arith
  exact go l1 M1 (some k) k1 h1
theorem zli(h:RunAt I O (yg n) b r l M R)(wn:WN n){B:Nat}(hB:B<90000)(sb:SB B R)(ri:RI n R){i:Nat}{e:Er}(he:R.es[i]?=some e)(w:Str):Ok (zbP I O [.ref r,nT i,.str w] M) (Lv I O n b r (yL n 4 R i w) M):=
 zjG wn 4 12 ⋯ hB h sb ri he (by have:=ri.hs _ _ he;have:=wn.hl;symm)
theorem zs6(h:RunAt I O (yg n) b r l M R)(wn:WN n){B:Nat}(hB:B<90000)(sb:SB B R)(ri:RI n R){i:Nat}{e:Er}(he:R.es[i]?=some e)(hs:e.ph.isS=true):Ok (zhl I O [.ref r,nT i] M) (Lv I O n b r (upR n R i) M):=by
 refine zA rfl ?_;unfold zla;have hl:=zcl hs (ri.ph _ _ he);have ha:.(5)[e.ph.at1]?=some .(5)[e.ph.at1]:=Q0 hl;have haa:atI (.(5).map yz) (e.ph.at1:Int)=some (.tup [.str .(5)[e.ph.at1].to,.int .(5)[e.ph.at1].tries,opS .(5)[e.ph.at1].purse,.str .(5)[e.ph.at1].word,.bl .(5)[e.ph.at1].hears,.bl .(5)[e.ph.at1].sure]):=qu (f:=yz) ha;obtain⟨x,hx,hc⟩:=h.at_e he;have f3:=qN (f:="state") hc rfl;rw[phS hs]at f3;unfold upR;rw[qZ he,zbs ha];erw[yo,h.errands,h.er,qu (f:=FT.T.ref) hx,f3,zV h he (ri.hs _ _ he),haa];refine Ok.bind (zli h wn hB sb ri he _) ?_;rintro t M2 ⟨rfl,k2,l2,h2⟩
 try simp_arith
 exact Ok.ret ⟨rfl,k2,l2,h2⟩
theorem zp2(h:RunAt I O (yg n) b r l M R)(wn:WN n){B:Nat}(hB:B<90000)(sb:SB B R)(ri:RI n R){i:Nat}{e:Er}(he:R.es[i]?=some e){c:Nat × Nat × Nat}(hq:e.caller=some c):Ok (zjA I O [.ref r,nT i] M) (Lv I O n b r (zcC n R i) M):=by
 refine zA rfl ?_;unfold znb;obtain⟨x,hx,hc⟩:=h.at_e he;have s1:=zbc (f:="is_lost") (y:=.bl true) (fs':=erF { e with lost:=true }) hc rfl (by simp[erF]);obtain⟨h1,bx⟩:=h.setE hx he { e with lost:=true };have hc1:(M.set x (.ins I (erF { e with lost:=true })))[x]?=some (.ins I (erF { e with lost:=true })):=get_set hc;have f1:=qN (f:="caller") hc1 rfl;have k1:Kp b M (M.set x (.ins I (erF { e with lost:=true }))):=Kp.set _ _ bx;have e0:zcC n R i=zaH n (yL n 4) (R.setE i { e with lost:=true }) c "bad":=by
  have el:∀(o:Option (Nat × Nat × Nat)) (f:Nat × Nat × Nat->Run),o=some c->o.elim R f=f c:=λo f h=>by rw[h];rfl
  unfold zcC;rw[qZ he];exact el _ _ hq
 rw[e0];erw[yo,h.errands,h.er,qu (f:=FT.T.ref) hx,zH,s1];generalize hM1:M.set x (.ins I (erF { e with lost:=true }))=M1 at h1 f1 k1 ⊢;replace f1:zaI [I] "caller" (.ref x) M1 = .ok (clT e.caller) M1:=f1;rw[hq]at f1;have ri1:RI n (R.setE i { e with lost:=true }):=ri.setE he rfl rfl (by have:=ri.ph _ _ he;unfold zel at this ⊢;exact this);have hei:(R.setE i { e with lost:=true }).es[i]?=some { e with lost:=true }:=by show(R.es.set i _)[i]?=_;rw[Qc,QA rfl,QA (Qz.mp he).1]
 obtain⟨_,ce,c1,c2,c3⟩:=ri1.cl i _ c hei hq;erw[f1];refine Ok.bind (show Ok (zjB I O [.ref r,clT (some c),.str "bad"] M1) (Lv I O n b r (zaH n (yL n 4) (R.setE i { e with lost:=true }) c "bad") M1)from ?_) ?_
 .show Ok (zj 3 6 (zev I O (yy I O 11).1 (yy I O 11).2) [.ref r,clT (some c),.str "bad"] M1) _;refine zk2 wn hB h1 (sb.setE _ _) ri1 c1 c3 ?_;exact zjG wn 4 11 ⋯ hB h1 (sb.setE _ _) ri1 c1 (by have:=ri1.hs _ _ c1;have:=wn.hl;symm)
 .rintro t M2 ⟨rfl,k2,l2,h2⟩
  try simp_arith
  exact Ok.ret ⟨rfl,k1.trans k2,l2,h2⟩
def zs2(R:Run):Evt->Prop
 |.fresh=>True|.ends i _=>∃e,R.es[i]?=some e|.lost i=>∃e c,R.es[i]?=some e/\e.caller=some c|.again i=>∃e,R.es[i]?=some e/\e.ph.isS=true|.up i=>∃e,R.es[i]?=some e/\e.ph.isS=true
theorem zrV(h:RunAt I O (yg n) b r l M R)(wn:WN n){B:Nat}(hB:B+10<90000)(sb:SB B R)(ri:RI n R){ev:Evt}(ho:zs2 R ev):Ok (zcG I O [.ref r,evT ev] M) (Lv I O n b r (zaG n R ev) M):=by
 refine zA rfl ?_;unfold zgz;have Y:∀(M1:Mem),Lv I O n b r (doR n R ev) M .non M1->Ok ((zgi [O] "came" (Z 0) 1 [some (.ref r),some (evT ev)] M1).bind zbK) (Lv I O n b r (zaG n R ev) M):=by rintro M1 ⟨_,k1,l1,h1⟩;obtain⟨h2,b2⟩:=h1.setCame ((doR n R ev).came+1);have s1:=zbc (f:="came") (y:=.int (((doR n R ev).came:Int)+1)) (fs':=zb0 (yg n) l1 { (doR n R ev)with came:=(doR n R ev).came+1 }) h1.run rfl (by simp[zb0]);have ad:∀i j M,zdv (.int i) (.int j) M = .ok (.int (i+j)) M:=λ_ _ _=>rfl;erw[zgi,h1.came,ad,s1];exact Ok.ret ⟨rfl,k1.trans (Kp.set _ _ b2),l1,h2⟩
 cases ev with
 |fresh=>
  have q:∀M,eqA (.str "fresh") (.str "fresh") M = .ok (.bl true) M:=λ_=>rfl;rw[show evT .fresh = .tup [.str "fresh"]from rfl]at Y ⊢
  simp_all_arith [q]
  refine Ok.bind (show Ok (zb8 I O [.ref r,.int 0,.non] M) (Lv I O n b r (qE n 4 R 0 none) M)from zjU wn 4 12 ⋯ (B:=B) (c:=none) (h:=0) ⋯ h (ztU h) sb ri.pl wn.h1 (by have:=wn.hl;symm)) ?_;rintro t M1 ⟨rfl,k1,l1,h1⟩;have:=Y M1 ⟨rfl,k1,l1,h1⟩
  try simp_arith
  exact this
 |ends i w=>
  obtain⟨e,he⟩:=ho;have q0:∀M,eqA (.str "ends") (.str "fresh") M = .ok (.bl false) M:=λ_=>rfl;have q:∀M,eqA (.str "ends") (.str "ends") M = .ok (.bl true) M:=λ_=>rfl;rw[show evT (.ends i w) = .tup [.str "ends",nT i,.str w]from rfl]at Y ⊢
  simp_all_arith [q0,q]
  refine Ok.bind (zli h wn ⋯ sb ri he w) ?_;rintro t M1 ⟨rfl,k1,l1,h1⟩;have:=Y M1 ⟨rfl,k1,l1,h1⟩
  try simp_arith
  exact this
 |lost i=>
  obtain⟨e,c,he,hq⟩:=ho;have q0:∀M,eqA (.str "lost") (.str "fresh") M = .ok (.bl false) M:=λ_=>rfl;have q1:∀M,eqA (.str "lost") (.str "ends") M = .ok (.bl false) M:=λ_=>rfl;have q:∀M,eqA (.str "lost") (.str "lost") M = .ok (.bl true) M:=λ_=>rfl;rw[show evT (.lost i) = .tup [.str "lost",nT i]from rfl]at Y ⊢
  simp_all_arith [q0,q1,q]
  refine Ok.bind (zp2 h wn ⋯ sb ri he hq) ?_;rintro t M1 ⟨rfl,k1,l1,h1⟩;have:=Y M1 ⟨rfl,k1,l1,h1⟩
  try simp_arith
  exact this
 |again i=>
  obtain⟨e,he,hs⟩:=ho;have q0:∀M,eqA (.str "again") (.str "fresh") M = .ok (.bl false) M:=λ_=>rfl;have q1:∀M,eqA (.str "again") (.str "ends") M = .ok (.bl false) M:=λ_=>rfl;have q2:∀M,eqA (.str "again") (.str "lost") M = .ok (.bl false) M:=λ_=>rfl;have q:∀M,eqA (.str "again") (.str "again") M = .ok (.bl true) M:=λ_=>rfl;rw[show evT (.again i) = .tup [.str "again",nT i]from rfl]at Y ⊢
  simp_all_arith [q0,q1,q2,q]
  refine Ok.bind (zoO h wn ⋯ sb ri he hs) ?_;rintro t M1 ⟨rfl,k1,l1,h1⟩;have:=Y M1 ⟨rfl,k1,l1,h1⟩
  try simp_arith
  exact this
 |up i=>
  obtain⟨e,he,hs⟩:=ho;have q0:∀M,eqA (.str "up") (.str "fresh") M = .ok (.bl false) M:=λ_=>rfl;have q1:∀M,eqA (.str "up") (.str "ends") M = .ok (.bl false) M:=λ_=>rfl;have q2:∀M,eqA (.str "up") (.str "lost") M = .ok (.bl false) M:=λ_=>rfl;have q:∀M,eqA (.str "up") (.str "again") M = .ok (.bl false) M:=λ_=>rfl;rw[show evT (.up i) = .tup [.str "up",nT i]from rfl]at Y ⊢
  simp_all_arith [q0,q1,q2,q]
  refine Ok.bind (zs6 h wn ⋯ sb ri he hs) ?_;rintro t M1 ⟨rfl,k1,l1,h1⟩;have:=Y M1 ⟨rfl,k1,l1,h1⟩
  try simp_arith
  exact this
end
def lv(e:Er):Prop:=e.lost=false/\e.ph.isE=false
def WT(R:Run):Prop:=∀(i:Nat) (e:Er) (c:Nat × Nat × Nat),R.es[i]?=some e->e.caller=some c->lv e->∃ce,R.es[c.1]?=some ce/\ce.ph = .waits c.2.1 c.2.2/\ce.asked=some i
def NL(R:Run)(k:Nat):Prop:=∀(i:Nat) (e:Er) (c:Nat × Nat × Nat),R.es[i]?=some e->e.caller=some c->c.1=k->¬lv e
def QS(R R':Run)(k:Nat):Prop:=∀(i:Nat) (e':Er),R'.es[i]?=some e'->e'.ph.isS=true->(∃e,R.es[i]?=some e/\e.ph=e'.ph/\e.stood=e'.stood)\/(e'.stood=some k/\∃e a t,R.es[i]?=some e/\e.ph = .waits a t)
theorem zcY{R:Run}(he:R.es[i]?=some e)(e':Er):(R.setE i e').es[i]?=some e':=by show(R.es.set i _)[i]?=_;rw[Qc,QA rfl,QA (Qz.mp he).1]
theorem zdT{R:Run}(h:j ≠ i):(R.setE i e').es[j]?=R.es[j]?:=by show(R.es.set i _)[j]?=_;rw[Qc,QB (Ne.symm h)]
theorem WT.setE(h:WT R){i:Nat}{e e':Er}(he:R.es[i]?=some e)(h2:e'.caller=e.caller)(hv:lv e'->lv e)(nl:NL R i):WT (R.setE i e'):=by
 intro j q c hq hc lq;have key:∀q0,R.es[j]?=some q0->q0.caller=some c->lv q0->∃ce,(R.setE i e').es[c.1]?=some ce/\ce.ph = .waits c.2.1 c.2.2/\ce.asked=some j:=λq0 h0 hc0 l0=>by obtain⟨ce,c1,c2,c3⟩:=h j q0 c h0 hc0 l0;have:c.1 ≠ i:=λz=>nl j q0 c h0 hc0 z l0;exact⟨ce,by rw[zdT this];exact c1,c2,c3⟩
 rcases zav hq with⟨rfl,rfl,_⟩ | ⟨_,hq⟩
 .exact key e he (by rw[←h2];exact hc) (hv lq)
 .exact key q hq hc lq
theorem RI.push(h:RI n R){hh:Nat}{c:Option (Nat × Nat × Nat)}(h1:hh<n.hs.length)(hc:∀c',c=some c'->∃ce,R.es[c'.1]?=some ce/\ce.house<hh/\c'.2.1<(n.asks ce.house).length):RI n (R.push (qr hh c)):=by
 have old:∀{j:Nat} {q:Er},(R.push (qr hh c)).es[j]?=some q->(R.es[j]?=some q)\/(j=R.es.length/\q=qr hh c):=λ{j q} hq=>by
  replace hq:(R.es++[qr hh c])[j]?=some q:=hq
  by_cases z:j<R.es.length
  .rw[Q6 z]at hq;exact .inl hq
  .rw[Q8 ⋯]at hq;have:j-R.es.length=0:=by have:=(Qz.mp hq).1;simp at this;symm
   rw[this]at hq;cases hq;exact .inr ⟨⋯,rfl⟩
 have fwd:∀{j:Nat} {q:Er},R.es[j]?=some q->(R.push (qr hh c)).es[j]?=some q:=λ{j q} hq=>by show(R.es++_)[j]?=_;rw[Q6 (Qz.mp hq).1];exact hq
 refine⟨λj q hq=>?_,λj q c' hq hc'=>?_,λj q hq=>?_,h.pl⟩
 .rcases old hq with hq | ⟨_,rfl⟩
  .exact h.hs _ _ hq
  .exact h1
 .rcases old hq with hq | ⟨rfl,rfl⟩
  .obtain⟨a,ce,b1,b2,b3⟩:=h.cl _ _ _ hq hc';exact⟨a,ce,fwd b1,b2,b3⟩
  .obtain⟨ce,b1,b2,b3⟩:=hc c' hc';exact⟨(Qz.mp b1).1,ce,fwd b1,b2,b3⟩
 .rcases old hq with hq | ⟨_,rfl⟩
  .exact h.ph _ _ hq
  .exact True.intro
theorem zi4{R:Run}(hq:(R.push x).es[j]?=some q):R.es[j]?=some q\/(j=R.es.length/\q=x):=by
 replace hq:(R.es++[x])[j]?=some q:=hq
 by_cases z:j<R.es.length
 .rw[Q6 z]at hq;exact .inl hq
 .rw[Q8 ⋯]at hq;have:j-R.es.length=0:=by have:=(Qz.mp hq).1;simp at this;symm
  rw[this]at hq;cases hq;exact .inr ⟨⋯,rfl⟩
theorem zdO{R:Run}{j:Nat}(hq:R.es[j]?=some q):(R.push x).es[j]?=some q:=by show(R.es++_)[j]?=_;rw[Q6 (Qz.mp hq).1];exact hq
theorem RI.share(h:RI n R)(a:Ask)(tr x:Nat):RI n (R.share n a tr x):=by obtain⟨s1,s2,_⟩:=zbE R n a tr x;exact⟨by rw[s1];exact h.hs,by rw[s1];exact h.cl,by rw[s1];exact h.ph,by rw[s2];exact h.pl⟩
def Old(R R':Run):Prop:=R.es.length<=R'.es.length/\R'.came=R.came/\(∀(i:Nat) (e:Er),R.es[i]?=some e->R'.es[i]?=some e)/\∀(i:Nat) (e:Er),R'.es[i]?=some e->R.es.length<=i->e.ph.isS=false
theorem zeJ(he:R.es[num]?=some e)(ha:.(5)[at']?=some a):y8 n g R num at' tr=g (.(3).share n a tr R.es.length) (n.hix a.to) (some (num,at',tr)):=by unfold y8;rw[he];dsimp only;rw[ha]
theorem WT.share(h:WT R)(a:Ask)(tr x:Nat):WT (R.share n a tr x):=by intro i e c;rw[(zbE R n a tr x).1];exact h i e c
theorem zht(wn:WN n):∀(f:Nat) {R:Run} {h:Nat} {c:Option (Nat × Nat × Nat)} {B:Nat},n.hs.length<=h+f->RI n R->WT R->SB B R->h<n.hs.length->
  (∀c',c=some c'->∃ce,R.es[c'.1]?=some ce/\ce.house<h/\c'.2.1<(n.asks ce.house).length/\ce.ph = .waits c'.2.1 c'.2.2/\ce.asked=some R.es.length)->
  RI n (qE n f R h c)/\WT (qE n f R h c)/\SB (B+2*f) (qE n f R h c)/\Old R (qE n f R h c)
 |0,R,h,c,B,hf,_,_,_,hh,_=>absurd hh ⋯|f+1,R,h,c,B,hf,ri,wt,sb,hh,hc=>by
  have ri1:RI n (R.push (qr h c)):=ri.push hh λc' z=>by obtain⟨ce,a1,a2,a3,_⟩:=hc c' z;exact⟨ce,a1,a2,a3⟩
  have wt1:WT (R.push (qr h c)):=λi e c' he hc' l=>by
   rcases zi4 he with he | ⟨rfl,rfl⟩
   .obtain⟨ce,a1,a2,a3⟩:=wt i e c' he hc' l;exact⟨ce,zdO a1,a2,a3⟩
   .obtain⟨ce,a1,_,_,a4,a5⟩:=hc c' hc';exact⟨ce,zdO a1,a4,a5⟩
  have od1:Old R (R.push (qr h c)):=⟨by simp[Run.push],rfl,λi e he=>zdO he,λi e he hi=>by
   rcases zi4 he with he | ⟨rfl,rfl⟩
   .exact absurd (Qz.mp he).1 ⋯
   .rfl⟩
  by_cases h0:n.asks h=[]
  .have e1:qE n (f+1) R h c=R.push (qr h c):=by unfold qE;rw[QA h0]
   rw[e1];exact⟨ri1,wt1,(sb.push _).mono ⋯,od1⟩
  .have e1:qE n (f+1) R h c=y8 n (qE n f) (R.push (qr h c)) R.es.length 0 1:=by rw[qE,QB h0]
   obtain⟨a,as,hq⟩:=List.exists_cons_of_ne_nil h0;have ha:(n.asks (qr h c).house)[0]?=some a:=by show(n.asks h)[0]?=_;rw[hq];rfl
   have w:=wn.as h a (by rw[hq];exact .head _);rw[e1,zeJ (zbg R _) ha];have len1:(R.push (qr h c)).es.length=R.es.length+1:=by simp[Run.push]
   have nl:NL (R.push (qr h c)) R.es.length:=λi e c' he hc' z=>by have:=(ri1.cl i e c' he hc').1;have:=(Qz.mp he).1;symm
   have ri2:RI n ((R.push (qr h c)).setE R.es.length { qr h c with ph:=.waits 0 1,asked:=some (R.push (qr h c)).es.length }):=ri1.setE (zbg R _) rfl rfl (show 0<(n.asks h).length/\1<=1 from⟨by rw[hq];simp,Q3 _⟩);have wt2:WT ((R.push (qr h c)).setE R.es.length { qr h c with ph:=.waits 0 1,asked:=some (R.push (qr h c)).es.length }):=wt1.setE (zbg R _) rfl (λ_=>⟨rfl,rfl⟩) nl;have sb2:=((sb.push (qr h c)).setE R.es.length { qr h c with ph:=.waits 0 1,asked:=some (R.push (qr h c)).es.length }).share n a 1 (R.push (qr h c)).es.length;obtain⟨s1,s2,s3,s4,s5⟩:=zbE ((R.push (qr h c)).setE R.es.length { qr h c with ph:=.waits 0 1,asked:=some (R.push (qr h c)).es.length }) n a 1 (R.push (qr h c)).es.length;obtain⟨r1,r2,r3,r4⟩:=zht wn f (h:=n.hix a.to) (c:=some (R.es.length,0,1)) (by have:=w.up;symm) (ri2.share a 1 _) (wt2.share a 1 _) sb2 w.lt (λc' z=>by
    cases z;rw[s1];refine⟨_,zcY (zbg R _) _,w.up,?_,rfl,?_⟩
    .show 0<(n.asks h).length;rw[hq];simp
    .show some (R.push (qr h c)).es.length=some (List.length (List.set _ _ _));rw[length_set])
   refine⟨r1,r2,r3.mono ⋯,?_,?_,λi e he=>?_,λi e he hi=>?_⟩
   .have l2:((R.push (qr h c)).setE R.es.length { qr h c with ph:=.waits 0 1,asked:=some (R.push (qr h c)).es.length }).es.length=R.es.length+1:=by simp[Run.setE,Run.push]
    have:=r4.1;rw[s1,l2]at this;exact Qj (Nat.le_succ _) this
   .rw[r4.2.1,s5];rfl
   .refine r4.2.2.1 i e ?_;rw[s1,zdT (by have:=(Qz.mp he).1;symm)];exact zdO he
   .by_cases z:i<R.es.length+1
    .have hi':i=R.es.length:=by symm
     subst hi';have:=r4.2.2.1 R.es.length { qr h c with ph:=.waits 0 1,asked:=some (R.push (qr h c)).es.length } (by rw[s1];exact zcY (zbg R _) _);rw[he]at this;cases this;rfl
    .exact r4.2.2.2 i e he (by rw[s1];simp[Run.setE,Run.push];symm)
theorem zkt(wn:WN n){R:Run}{num at' tr:Nat}{e:Er}{B:Nat}(ri:RI n R)(wt:WT R)(sb:SB B R)(he:R.es[num]?=some e)(hat:at'<.(5).length)(hl:e.ph.isE=false)(nl:NL R num)(htr:1<=tr):
  RI n (y8 n (qE n 4) R num at' tr)/\WT (y8 n (qE n 4) R num at' tr)/\SB (B+9) (y8 n (qE n 4) R num at' tr)/\R.es.length<=(y8 n (qE n 4) R num at' tr).es.length/\(y8 n (qE n 4) R num at' tr).came=R.came /\
   (∀(i:Nat) (q:Er),R.es[i]?=some q->i ≠ num->(y8 n (qE n 4) R num at' tr).es[i]?=some q)/\QS R (y8 n (qE n 4) R num at' tr) R.came:=by
 have ha:.(5)[at']?=some .(5)[at']:=Q0 hat;have w:=wn.as e.house _ (Qa ha);rw[zeJ he ha];have ri2:RI n .(3):=ri.setE he rfl rfl (show at'<.(5).length/\1<=tr from⟨hat,htr⟩);have wt2:WT .(3):=wt.setE he rfl (λz=>⟨z.1,hl⟩) nl;obtain⟨s1,s2,s3,s4,s5⟩:=zbE .(3) n .(5)[at'] tr R.es.length;have sb2:=(sb.setE num { e with ph:=.waits at' tr,asked:=some R.es.length }).share n .(5)[at'] tr R.es.length;obtain⟨r1,r2,r3,r4⟩:=zht wn 4 (h:=n.hix .(5)[at'].to) (c:=some (num,at',tr)) (by have:=wn.hl;symm) (ri2.share _ tr _) (wt2.share _ tr _) sb2 w.lt (λc' z=>by cases z;rw[s1];refine⟨_,zcY he _,w.up,hat,rfl,?_⟩;show some R.es.length=some (List.length (List.set _ _ _));rw[length_set])
 have ol:∀(i:Nat) (q:Er),R.es[i]?=some q->i ≠ num->(qE n 4 (.(3).share n .(5)[at'] tr R.es.length) (n.hix .(5)[at'].to) (some (num,at',tr))).es[i]?=some q:=λi q hq hi=>r4.2.2.1 i q (by rw[s1,zdT hi];exact hq);refine⟨r1,r2,r3.mono ⋯,?_,by rw[r4.2.1,s5];rfl,ol,λi e' h' hs=>?_⟩
 .have l2:.(3).es.length=R.es.length:=by simp[Run.setE]
  have:=r4.1;rw[s1,l2]at this;exact this
 .by_cases z:i<R.es.length
  .by_cases hi:i=num
   .subst hi;have:=r4.2.2.1 i { e with ph:=.waits at' tr,asked:=some R.es.length } (by rw[s1];exact zcY he _);rw[h']at this;cases this;cases hs
   .have hq:R.es[i]?=some R.es[i]:=Q0 z;have:=ol i _ hq hi;rw[h']at this;cases this;exact .inl ⟨_,hq,rfl,rfl⟩
  .have:=r4.2.2.2 i e' h' (by rw[s1];simp[Run.setE];symm);rw[hs]at this;cases this
end My
namespace My
open PySem L2 FT
variable {n:Net}
structure Res (n:Net) (R R':Run) (B:Nat):Prop where
 ri:RI n R'
 wt:WT R'
 sb:SB B R'
 le:R.es.length<=R'.es.length
 ca:R'.came=R.came
 qs:QS R R' R.came
theorem zjr(wn:WN n){R:Run}{g:Run->Nat->Str->Run}{c:Nat × Nat × Nat}{w:Str}{ce:Er}{B:Nat}(ri:RI n R)(wt:WT R)(sb:SB B R)(he:R.es[c.1]?=some ce)(hat:c.2.1<(n.asks ce.house).length)(hw:ce.ph = .waits c.2.1 c.2.2)(nl:NL R c.1)(hg:Res n R (g R c.1 w) (B+9)):Res n R (zaH n g R c w) (B+9):=by
 unfold zaH;rw[he];dsimp only;split
 .rename_i h1;obtain⟨r1,r2,r3,r4,r5,_,r7⟩:=zkt wn (tr:=1) ri wt sb he h1.2 (by rw[hw];rfl) nl (Q3 _);exact⟨r1,r2,r3,r4,r5,r7⟩
 .split
  .exact hg
  .have h1:1<=c.2.2:=by have:=ri.ph _ _ he;unfold zel at this;rw[hw]at this;exact this.2
   refine⟨ri.setE he rfl rfl (show c.2.1<(n.asks ce.house).length/\(some R.came).isSome=true/\1<=c.2.2 from⟨hat,rfl,h1⟩),wt.setE he rfl (λz=>⟨z.1,by rw[hw];rfl⟩) nl,(sb.setE _ _).mono ⋯,by simp[Run.setE],rfl,λi e' h' hs=>?_⟩;rcases zav h' with⟨rfl,rfl,_⟩ | ⟨_,h'⟩
   .exact .inr ⟨rfl,ce,_,_,he,hw⟩
   .exact .inl ⟨e',h',rfl,rfl⟩
theorem ze2(wn:WN n):∀(f:Nat) {R:Run} {i:Nat} {w:Str} {e:Er} {B:Nat},RI n R->WT R->SB B R->R.es[i]?=some e->e.house<f->e.ph.isE=false->NL R i->Res n R (yL n f R i w) (B+9)
 |0,R,i,w,e,B,_,_,_,_,hf,_,_=>absurd hf ⋯|f+1,R,i,w,e,B,ri,wt,sb,he,hf,hl,nl=>by
  have ri1:RI n (R.setE i { e with ph:=.ended w }):=ri.setE he rfl rfl True.intro;have wt1:WT (R.setE i { e with ph:=.ended w }):=wt.setE he rfl (λz=>absurd z.2 (by show ¬true=false;simp)) nl;have back:∀{j:Nat} {q:Er},(R.setE i { e with ph:=.ended w }).es[j]?=some q->q.ph.isE=false->R.es[j]?=some q:=λ{j q} hq hE=>by
   rcases zav hq with⟨rfl,rfl,_⟩ | ⟨_,hq⟩
   .cases hE
   .exact hq
  have stop:Res n R (R.setE i { e with ph:=.ended w }) (B+9):=⟨ri1,wt1,(sb.setE _ _).mono ⋯,by simp[Run.setE],rfl,λj e' h' hs=>by
   rcases zav h' with⟨rfl,rfl,_⟩ | ⟨_,h'⟩
   .cases hs
   .exact .inl ⟨e',h',rfl,rfl⟩⟩
  unfold yL;rw[he];dsimp only;cases q:e.caller with
  |none=>rw[q]at stop;exact stop|some c=>
   dsimp only;cases ql:e.lost with
   |true=>rw[QA rfl];rw[q,ql]at stop;exact stop|false=>
    rw[QB (by simp)];have es:({ e with ph:=.ended w }:Er)={ house:=e.house,caller:=some c,ph:=.ended w,lost:=false,asked:=e.asked,stood:=e.stood }:=by rw[←q,←ql]
    rw[←es];obtain⟨ce,c1,c2,c3⟩:=wt i e c he q ⟨ql,hl⟩;obtain⟨d1,ce',d2,d3,d4⟩:=ri.cl i e c he q;rw[c1]at d2;cases d2;have hne:c.1 ≠ i:=by symm
    have c1':(R.setE i { e with ph:=.ended w }).es[c.1]?=some ce:=by rw[zdT hne];exact c1
    have nl1:NL (R.setE i { e with ph:=.ended w }) c.1:=λj e' cc h' hc' z l'=>by have h2:=back h' l'.2;obtain⟨x,x1,x2,x3⟩:=wt j e' cc h2 hc' l';rw[z,c1]at x1;cases x1;rw[c3]at x3;cases x3;rw[zcY he]at h';cases h';cases l'.2
    have hend:=ze2 wn f (w:=w) ri1 wt1 (sb.setE _ _) c1' ⋯ (by rw[c2];rfl) nl1;have hh:=zjr wn (w:=w) ri1 wt1 (sb.setE _ _) c1' d4 c2 nl1 hend;refine⟨hh.ri,hh.wt,hh.sb,by have:=hh.le;simp[Run.setE]at this;exact this,hh.ca,λj e' h' hs=>?_⟩;rcases hh.qs j e' h' hs with⟨e1,a1,a2,a3⟩ | ⟨a1,e1,a,t,a2,a3⟩
    .exact .inl ⟨e1,back a1 (by rw[a2];cases z:e'.ph<;>rw[z]at hs<;>first | rfl | cases hs),a2,a3⟩
    .exact .inr ⟨a1,e1,a,t,back a2 (by rw[a3];rfl),a3⟩
theorem zmd(wt:WT R){i:Nat}{e:Er}(he:R.es[i]?=some e)(hn:∀a t,e.ph ≠ .waits a t):NL R i:=λj e' c h' hc z l=>by obtain⟨ce,a1,a2,_⟩:=wt j e' c h' hc l;rw[z,he]at a1;cases a1;exact hn _ _ a2
def EvC(n:Net)(R:Run):Evt->Prop
 |.fresh=>True|.ends i _=>∃e,R.es[i]?=some e/\e.ph.isW=true|.lost i=>∃e c,R.es[i]?=some e/\e.caller=some c/\lv e|.again i=>∃e,R.es[i]?=some e/\e.ph.isS=true/\zK n e=true|.up i=>∃e,R.es[i]?=some e/\e.ph.isS=true
theorem ze0(he:R.es[i]?=some e){ev:Evt}(h:ev ∈ zap n R i):ev.isF=false/\ev.num=i/\EvC n R ev:=by
 have h:=(mem_filter.mp h).1;unfold zag at h;rw[qZ he]at h;simp only[mem_append]at h;rcases h with ((h | h) | h) | h
 .split at h
  .rename_i q;simp only[QC,QI,or_false]at h;rcases h with rfl | rfl | rfl<;>exact⟨rfl,rfl,e,he,q⟩
  .cases h
 .split at h
  .rename_i q;rw[QJ.mp h];unfold yT at q;split at q
   .cases q
   .rename_i c hc;rw[Qs]at q;have q1:=q.1;refine⟨rfl,rfl,e,c,he,hc,?_,?_⟩
    .cases z:e.lost with|false=>rfl|true=>rw[z]at q1;cases q1
    .cases z:e.ph.isE with|false=>rfl|true=>rw[z,Bool.or_true]at q1;cases q1
  .cases h
 .split at h
  .rename_i q;rw[QJ.mp h];have q':=q;unfold zK at q';rw[Qs]at q';exact⟨rfl,rfl,e,he,q'.1,q⟩
  .cases h
 .split at h
  .rename_i q;rw[QJ.mp h];exact⟨rfl,rfl,e,he,q⟩
  .cases h
theorem EvC.ok(h:EvC n R ev):zs2 R ev:=by cases ev with|fresh=>exact True.intro|ends i w=>obtain⟨e,a,_⟩:=h;exact⟨e,a⟩|lost i=>obtain⟨e,c,a,b,_⟩:=h;exact⟨e,c,a,b⟩|again i=>obtain⟨e,a,b,_⟩:=h;exact⟨e,a,b⟩|up i=>exact h
theorem znm(wn:WN n){R:Run}{B:Nat}(ri:RI n R)(wt:WT R)(sb:SB B R){ev:Evt}(hc:EvC n R ev):Res n R (doR n R ev) (B+10):=by
 have up10:∀{R':Run},Res n R R' (B+9)->Res n R R' (B+10):=λh=>⟨h.ri,h.wt,h.sb.mono ⋯,h.le,h.ca,h.qs⟩;cases ev with
 |fresh=>
  obtain⟨r1,r2,r3,r4⟩:=zht wn 4 (h:=0) (c:=none) (by have:=wn.hl;symm) ri wt sb wn.h1 (λc' z=>by cases z);refine⟨r1,r2,r3.mono ⋯,r4.1,r4.2.1,λi e' h' hs=>?_⟩
  by_cases z:i<R.es.length
  .have hq:R.es[i]?=some R.es[i]:=Q0 z;have:=r4.2.2.1 i _ hq;rw[show doR n R .fresh=qE n 4 R 0 none from rfl,this]at h';cases h';exact .inl ⟨_,hq,rfl,rfl⟩
  .have:=r4.2.2.2 i e' h' ⋯;rw[hs]at this;cases this
 |ends i w=>
  obtain⟨e,he,hw⟩:=hc;have hp:e.ph = .works:=by cases q:e.ph with|works=>rfl|_=>rw[q]at hw;cases hw
  exact up10 (ze2 wn 4 ri wt sb he (by have:=ri.hs _ _ he;have:=wn.hl;symm) (by rw[hp];rfl) (zmd wt he λa t z=>by rw[hp]at z;cases z))
 |up i=>obtain⟨e,he,hs⟩:=hc;exact up10 (ze2 wn 4 ri wt sb he (by have:=ri.hs _ _ he;have:=wn.hl;symm) (by cases q:e.ph<;>rw[q]at hs<;>first | rfl | cases hs) (zmd wt he λa t z=>by rw[z]at hs;cases hs))
 |again i=>
  obtain⟨e,he,hs,_⟩:=hc;show Res n R (zc5 n R i) _;unfold zc5;rw[qZ he];have te:=zfx R (n.pof (n.ask e.house e.ph.at1));have ri1:RI n (takeO R (n.pof (n.ask e.house e.ph.at1))):=⟨by rw[te.1];exact ri.hs,by rw[te.1];exact ri.cl,by rw[te.1];exact ri.ph,by rw[te.2.1];exact ri.pl⟩;have wt1:WT (takeO R (n.pof (n.ask e.house e.ph.at1))):=by intro j q c;rw[te.1];exact wt j q c
  have nl1:NL (takeO R (n.pof (n.ask e.house e.ph.at1))) i:=by intro j q c;rw[te.1];exact zmd wt he (λa t z=>by rw[z]at hs;cases hs) j q c
  obtain⟨r1,r2,r3,r4,r5,_,r7⟩:=zkt wn (at':=e.ph.at1) (tr:=e.ph.at2+1) ri1 wt1 (sb.takeO _) (by rw[te.1];exact he) (zcl hs (ri.ph _ _ he)) (by cases q:e.ph<;>rw[q]at hs<;>first | rfl | cases hs) nl1 ⋯;refine⟨r1,r2,r3.mono ⋯,by rw[te.1]at r4;exact r4,by rw[r5,te.2.2],?_⟩;intro j e' h' hs';have:=r7 j e' h' hs';rw[te.1,te.2.2]at this;exact this
 |lost i=>
  obtain⟨e,c,he,hq,hlv⟩:=hc;show Res n R (zcC n R i) _;have e0:zcC n R i=zaH n (yL n 4) (R.setE i { e with lost:=true }) c "bad":=by
   have el:∀(o:Option (Nat × Nat × Nat)) (f:Nat × Nat × Nat->Run),o=some c->o.elim R f=f c:=λo f h=>by rw[h];rfl
   unfold zcC;rw[qZ he];exact el _ _ hq
  rw[e0];have ri1:RI n (R.setE i { e with lost:=true }):=ri.setE he rfl rfl (by have:=ri.ph _ _ he;unfold zel at this ⊢;exact this);obtain⟨ce,c1,c2,c3⟩:=wt i e c he hq hlv;obtain⟨d1,ce',d2,d3,d4⟩:=ri.cl i e c he hq;rw[c1]at d2;cases d2;have hne:c.1 ≠ i:=by symm
  have c1':(R.setE i { e with lost:=true }).es[c.1]?=some ce:=by rw[zdT hne];exact c1
  have wt1:WT (R.setE i { e with lost:=true }):=λj q cc h' hc' l'=>by
   have key:∀q0,R.es[j]?=some q0->q0.caller=some cc->lv q0->∃ce,(R.setE i { e with lost:=true }).es[cc.1]?=some ce/\ce.ph = .waits cc.2.1 cc.2.2/\ce.asked=some j:=λq0 h0 hc0 l0=>by
    obtain⟨x,x1,x2,x3⟩:=wt j q0 cc h0 hc0 l0
    by_cases z:cc.1=i
    .rw[z]at x1 ⊢;rw[he]at x1;cases x1;exact⟨_,zcY he _,x2,x3⟩
    .exact⟨x,by rw[zdT z];exact x1,x2,x3⟩
   rcases zav h' with⟨rfl,rfl,_⟩ | ⟨_,h'⟩
   .cases l'.1
   .exact key q h' hc' l'
  have nl1:NL (R.setE i { e with lost:=true }) c.1:=λj e' cc h' hc' z l'=>by
   rcases zav h' with⟨rfl,rfl,_⟩ | ⟨hji,h'⟩
   .cases l'.1
   .obtain⟨x,x1,x2,x3⟩:=wt j e' cc h' hc' l';rw[z,c1]at x1;cases x1;rw[c3]at x3;cases x3;exact hji rfl
  have hend:=ze2 wn 4 (w:="bad") ri1 wt1 (sb.setE _ _) c1' (by have:=ri1.hs _ _ c1';have:=wn.hl;symm) (by rw[c2];rfl) nl1;have hh:=zjr wn (w:="bad") ri1 wt1 (sb.setE _ _) c1' d4 c2 nl1 hend;refine⟨hh.ri,hh.wt,hh.sb.mono ⋯,by have:=hh.le;simp[Run.setE]at this;exact this,hh.ca,λj e' h' hs=>?_⟩;rcases hh.qs j e' h' hs with⟨e1,a1,a2,a3⟩ | ⟨a1,e1,a,t,a2,a3⟩
  .rcases zav a1 with⟨rfl,rfl,_⟩ | ⟨_,a1⟩
   .exact .inl ⟨e,he,a2,a3⟩
   .exact .inl ⟨e1,a1,a2,a3⟩
  .rcases zav a2 with⟨rfl,rfl,_⟩ | ⟨_,a2⟩
   .exact .inr ⟨a1,e,a,t,he,a3⟩
   .exact .inr ⟨a1,e1,a,t,a2,a3⟩
end My
namespace My
open PySem L2 FT
noncomputable def Run.new(n:Net):Run:=⟨0,[],n.ps.map λ_=>[],[],n.ps.map λ_=>0⟩
def zM(n:Net)(evs:List Evt):Run:=evs.foldl (zaG n) (Run.new n)
def Can(n:Net)(R:Run)(ev:Evt):Prop:=ev.isF=true\/((∃e,R.es[ev.num]?=some e)/\ev ∈ zap n R ev.num)
def VEv(n:Net):Run->List Evt->Prop
 |_,[]=>True|R,ev::evs=>Can n R ev/\VEv n (zaG n R ev) evs
theorem Can.c(h:Can n R ev):EvC n R ev:=by
 rcases h with h | ⟨⟨e,he⟩,hm⟩
 .cases ev with|fresh=>exact True.intro|_=>cases h
 .exact(ze0 he hm).2.2
structure Good (n:Net) (R:Run) (B:Nat):Prop where
 ri:RI n R
 wt:WT R
 sb:SB B R
 sd:∀(i:Nat) (e:Er) (k:Nat),R.es[i]?=some e->e.ph.isS=true->e.stood=some k->k<R.came
theorem zos(n:Net):Good n (Run.new n) 0:=⟨⟨λi e h=>by simp[Run.new]at h,λi e c h=>by simp[Run.new]at h,λi e h=>by simp[Run.new]at h,by simp[Run.new]⟩,λi e c h=>by simp[Run.new]at h,⟨Q3 _,λu hu=>by
 obtain⟨_,_,rfl⟩:=mem_map.mp hu;exact Q3 _,Q3 _,λv hv=>by
 obtain⟨_,_,rfl⟩:=mem_map.mp hv;exact Q3 _⟩,λi e k h=>by simp[Run.new]at h⟩
theorem zm5(wn:WN n){R:Run}{B:Nat}(g:Good n R B){ev:Evt}(hc:Can n R ev):Good n (zaG n R ev) (B+10):=by
 have r:=znm wn g.ri g.wt g.sb hc.c;exact⟨⟨r.ri.hs,r.ri.cl,r.ri.ph,r.ri.pl⟩,r.wt,⟨r.sb.es,r.sb.pu,r.sb.py,r.sb.tk⟩,λi e k he hs hk=>by
  show k<(doR n R ev).came+1;rw[r.ca];rcases r.qs i e he hs with⟨e1,a1,a2,a3⟩ | ⟨a1,_⟩
  .have:=g.sd i e1 k a1 (by rw[a2];exact hs) (by rw[a3];exact hk);symm
  .rw[a1]at hk;cases hk;symm⟩
section
theorem zrR{α:Type}{r:α->FT.T}(hG:zaV G M)(I:FT.Ev->Prop)(f:α->FT.T):∀{xs:List α} {J:FT.Ev} {acc:List FT.T},I J->acc.length+xs.length<=100000->
  (∀x J,x ∈ xs->I J->∃J1,bd (r x) J M = .ok J1 M/\I J1/\el J1 M = .ok (f x) M)->yQ G bd yN el (xs.map r) J M acc = .ok (acc++xs.map f) M
 |[],J,acc,_,_,_=>by simp[yQ,zaP hG]|x::xs,J,acc,h,hl,t=>by obtain⟨J1,e1,h1,e2⟩:=t x J (.head _) h;rw[Qp]at hl;have ih:=zrR hG I f (xs:=xs) (J:=J1) (acc:=acc++[f x]) h1 (by rw[Qn,Qp,length_nil];symm) (λy J hy=>t y J (.tail _ hy));rw[QG];unfold yQ;rw[zaP hG,e1];show((el J1 M).bind _)=_;rw[e2];show(if acc.length<sizeLine then yQ G bd yN el (xs.map r) J1 M (acc++[f x])else .bad)=_;rw[QA (by rw[sizeLine_eq];symm),ih];simp
theorem zjg(h:M[a]?=some (.lst xs)):zcW (.ref a) M=some (xs,[(a,xs)]):=by show(match M[a]? with | some (.lst xs)=>some (xs,[(a,xs)]) | _=>none)=_;rw[h]
def erT(e:Er):FT.T:=.tup [nT e.house,clT e.caller,phT e.ph]
noncomputable def tdT(p:Int × Int):FT.T:=.tup [.int p.1,.int p.2]
def zf3(n:Net)(R:Run):FT.T:=.tup [.lst (R.es.map erT),.lst ((List.range n.ps.length).map λk=>tdT (R.told n k))]
theorem zlB(h:RunAt I O (yg n) b r l M R)(wn:WN n)(ri:RI n R){B:Nat}(hB:B<90000)(sb:SB B R):zc9 I O [.ref r] M = .ok (zf3 n R) M:=by
 unfold zc9 zhP;have zp:l.es.map FT.T.ref=(List.zip l.es R.es).map λq=>FT.T.ref q.1:=by rw[show(λq:Nat × Er=>FT.T.ref q.1)=FT.T.ref ∘ Prod.fst from rfl,←map_map,List.map_fst_zip (by rw[h.el];exact Q3 _)]
 have z2:R.es.map erT=(List.zip l.es R.es).map λq=>erT q.2:=by rw[show(λq:Nat × Er=>erT q.2)=erT ∘ Prod.snd from rfl,←map_map,List.map_snd_zip (by rw[h.el];exact Q3 _)]
 have c1:=zrR (G:=[(l.a,l.es.map FT.T.ref)]) (bd:=qp 0) (el:=yA (zb (yo [I] "house" (Z 0)) (zb (yo [I] "caller" (Z 0)) (zb (yo [I] "state" (Z 0)) ze)))) (M:=M) (r:=λq:Nat × Er=>FT.T.ref q.1) (zju h.er) (λJ=>∃o,J=[o]) (λq=>erT q.2) (xs:=List.zip l.es R.es) (J:=[none]) (acc:=[]) ⟨_,rfl⟩ (by rw[length_nil,List.length_zip,h.el,Nat.min_self];have:=sb.es;symm) (by
  rintro⟨x,e⟩ J hx ⟨o,rfl⟩;obtain⟨i,hi⟩:=mem_iff_getElem?.mp hx;have hxe:l.es[i]?=some x/\R.es[i]?=some e:=by rw[List.getElem?_zip_eq_some]at hi;exact hi
  obtain⟨x',hx',hc⟩:=h.at_e hxe.2;rw[hxe.1]at hx';cases hx';refine⟨[some (.ref x)],rfl,⟨_,rfl⟩,?_⟩;have f1:=qN (f:="house") hc rfl;have f2:=qN (f:="caller") hc rfl;have f3:=qN (f:="state") hc rfl;erw[yo,f1,f2,f3];rfl)
 rw[nil_append,←zp,←z2]at c1;have rg:zbz [.int ((n.ps.map puT).length:Int)] M = .ok ((rgI n.ps.length).map .int) M:=by rw[qX (by rw[Qh];have:=wn.pl;symm),Qh,QH]
 have c2:qF (qp 0) yN (yf (zaA I O) (zb (Z 1) (zb (Z 0) ze))) ((rgI n.ps.length).map .int) [none,some (.ref r)] M [] = .ok ((List.range n.ps.length).map λk=>tdT (R.told n k)) M:=by rw[show(rgI n.ps.length).map FT.T.int=(List.range n.ps.length).map nT by unfold rgI;rw[map_map];rfl];exact Ok.mapc (r:=nT) (λJ=>∃o,J=[o,some (.ref r)]) _ ⟨_,rfl⟩ (by rw[length_range];have:=wn.pl;symm) (by rintro k J hk ⟨o,rfl⟩;refine⟨[some (nT k),some (.ref r)],rfl,⟨_,rfl⟩,?_⟩;erw[zkv h wn ri.pl (mem_range.mp hk)];rfl)
 have hnt:=h.net;unfold yg at hnt;erw[yo,h.errands,zcD,zjg h.er,zak,c1,hnt,rg,c2];rfl
end
section
theorem zkU(M X:Mem)(c:Cell):(M++(c::X))[M.length]?=some c:=by rw[Q8 (Q3 _),Qv];rfl
theorem zpW(M X:Mem)(c d:Cell):(M++(c::X)).set M.length d=M++(d::X):=by rw[set_append_right _ _ (Q3 _),Qv];rfl
theorem zeo{M X:Mem}(h:X[i]?=some d):(M++(c::X))[M.length+1+i]?=some d:=by rw[Q8 ⋯,show M.length+1+i-M.length=i+1 by symm,getElem?_cons_succ];exact h
theorem setM{X:Mem}(e:zcT f y fs=fs')(hl:fs.length<1000):zaT [O] f (.ref M.length) y (M++(.ins O fs::X)) = .ok () (M++(.ins O fs'::X)):=by rw[zbc (zkU M X _) e hl,zpW]
noncomputable def puA(b p:Nat):List Nat:=(List.range p).map λj=>b+2+j
def newX(n:Net)(b:Nat):Mem:=(.lst []::List.replicate n.ps.length (.lst []))++[.lst ((puA b n.ps.length).map .ref)]++[.lst []]++[.lst ((n.ps.map λ_=>0).map nT)]
def zcu(n:Net)(b:Nat):Lay:=⟨b+1,b+2+n.ps.length,b+3+n.ps.length,b+4+n.ps.length,[],puA b n.ps.length⟩
theorem zpS(M:Mem):RunAt I O (yg n) M.length M.length (zcu n M.length) (M++(.ins O (zb0 (yg n) (zcu n M.length) (Run.new n))::newX n M.length)) (Run.new n):=by
 have pz:pzC (puA M.length n.ps.length) (n.ps.map λ_=>[])=(List.range n.ps.length).map λj=>(M.length+2+j,Cell.lst []):=by
  unfold pzC puA;refine ext_getElem? λi=>?_;rw[List.getElem?_zipWith,Qb,Qb,Qb]
  by_cases z:i<n.ps.length
  .rw[getElem?_range z,Q0 z];rfl
  .rw[getElem?_eq_none (by simpa using z)];rfl
 have cs:cells I O (yg n) M.length (zcu n M.length) (Run.new n)=(M.length,.ins O (zb0 (yg n) (zcu n M.length) (Run.new n)))::(M.length+1,.lst [])::(M.length+2+n.ps.length,.lst ((puA M.length n.ps.length).map .ref))::(M.length+3+n.ps.length,.lst [])::(M.length+4+n.ps.length,.lst ((n.ps.map λ_=>0).map nT))::((List.range n.ps.length).map λj=>(M.length+2+j,Cell.lst [])):=by rw[←pz];rfl
 have xl:newX n M.length=Cell.lst []::(List.replicate n.ps.length (Cell.lst [])++[.lst ((puA M.length n.ps.length).map .ref),.lst [],.lst ((n.ps.map λ_=>0).map nT)]):=by unfold newX;simp
 have ap:∀(k:Nat) (d:Cell),[Cell.lst ((puA M.length n.ps.length).map FT.T.ref),.lst [],.lst ((n.ps.map λ_=>0).map nT)][k]?=some d->(newX n M.length)[n.ps.length+1+k]?=some d:=λk d h=>by rw[xl,show n.ps.length+1+k=(n.ps.length+k)+1 by symm,getElem?_cons_succ,Q8 (by rw[length_replicate];symm),length_replicate,show n.ps.length+k-n.ps.length=k by symm];exact h
 refine⟨?_,?_,?_,rfl,by simp[zcu,puA,Run.new],by simp[Run.new]⟩
 .rw[cs];intro p hp;rcases QC.mp hp with rfl | hp
  .exact zkU _ _ _
  rcases QC.mp hp with rfl | hp
  .exact zeo (i:=0) (by rw[xl];rfl)
  rcases QC.mp hp with rfl | hp
  .have:=zeo (M:=M) (c:=.ins O (zb0 (yg n) (zcu n M.length) (Run.new n))) (ap 0 _ rfl);rw[show M.length+1+(n.ps.length+1+0)=M.length+2+n.ps.length by symm]at this;exact this
  rcases QC.mp hp with rfl | hp
  .have:=zeo (M:=M) (c:=.ins O (zb0 (yg n) (zcu n M.length) (Run.new n))) (ap 1 _ rfl);rw[show M.length+1+(n.ps.length+1+1)=M.length+3+n.ps.length by symm]at this;exact this
  rcases QC.mp hp with rfl | hp
  .have:=zeo (M:=M) (c:=.ins O (zb0 (yg n) (zcu n M.length) (Run.new n))) (ap 2 _ rfl);rw[show M.length+1+(n.ps.length+1+2)=M.length+4+n.ps.length by symm]at this;exact this
  .obtain⟨j,hj,rfl⟩:=mem_map.mp hp;have hj:=mem_range.mp hj;have:(newX n M.length)[1+j]?=some (.lst []):=by rw[xl,Nat.add_comm 1 j,getElem?_cons_succ,Q6 (by rw[length_replicate];exact hj),List.getElem?_replicate,QA hj]
   have:=zeo (M:=M) (c:=.ins O (zb0 (yg n) (zcu n M.length) (Run.new n))) this;rw[show M.length+1+(1+j)=M.length+2+j by symm]at this;exact this
 .rw[cs];simp only[QG,map_map];have hm:∀x,x ∈ (List.range n.ps.length).map ((λp:Nat × Cell=>p.1) ∘ λj=>(M.length+2+j,Cell.lst []))->M.length+2<=x/\x<M.length+2+n.ps.length:=λx hx=>by obtain⟨j,hj,rfl⟩:=mem_map.mp hx;have:=mem_range.mp hj;simp only[Function.comp];symm
  refine QK.mpr ⟨?_,QK.mpr ⟨?_,QK.mpr ⟨?_,QK.mpr ⟨?_,QK.mpr ⟨?_,?_⟩⟩⟩⟩⟩
  .intro z;simp only[QC]at z;rcases z with z | z | z | z | z
   .symm
   .symm
   .symm
   .symm
   .have:=hm _ z;symm
  .intro z;simp only[QC]at z;rcases z with z | z | z | z
   .symm
   .symm
   .symm
   .have:=hm _ z;symm
  .intro z;simp only[QC]at z;rcases z with z | z | z
   .symm
   .symm
   .have:=hm _ z;symm
  .intro z;simp only[QC]at z;rcases z with z | z
   .symm
   .have:=hm _ z;symm
  .intro z;have:=hm _ z;symm
  .rw[List.Nodup,List.pairwise_map];exact(List.nodup_range).imp λh=>by simp only[Function.comp];symm
 .rw[cs];intro p hp;rcases QC.mp hp with rfl | hp
  .exact Q3 _
  rcases QC.mp hp with rfl | hp
  .exact Nat.le_succ _
  rcases QC.mp hp with rfl | hp
  .show M.length<=M.length+2+n.ps.length;symm
  rcases QC.mp hp with rfl | hp
  .show M.length<=M.length+3+n.ps.length;symm
  rcases QC.mp hp with rfl | hp
  .show M.length<=M.length+4+n.ps.length;symm
  .obtain⟨j,_,rfl⟩:=mem_map.mp hp;show M.length<=M.length+2+j;symm
theorem zjI:∀(xs:List FT.T) (o:Option FT.T) (M:Mem) (acc:List FT.T),acc.length+xs.length<=100000->qF (qp 0) yN (eTk (zu ze)) xs [o] M acc = .ok (acc++(List.range xs.length).map λj=>.ref (M.length+j)) (M++List.replicate xs.length (.lst []))
 |[],o,M,acc,_=>by simp[qF]|x::xs,o,M,acc,hl=>by
  rw[Qp]at hl;have ih:=zjI xs (some x) (M++[.lst []]) (acc++[.ref M.length]) (by rw[Qn,Qu];symm);unfold qF;show(if acc.length<sizeLine then qF (qp 0) yN (eTk (zu ze)) xs [some x] (M++[.lst []]) (acc++[.ref M.length])else .bad)=_;rw[QA (by rw[sizeLine_eq];symm),ih];congr 1
  .rw[append_assoc,Qp,List.range_succ_eq_map,QG,map_map];congr 1;show FT.T.ref M.length::_=FT.T.ref (M.length+0)::_;congr 1;refine map_congr_left λj _=>?_;simp;symm
  .rw[Qp,replicate_succ];simp
theorem zhd(wn:WN n)(M:Mem):Ok (zbS I O [.ref M.length,yg n] (M++[.ins O []])) λt M'=>t = .non/\M'=M++(.ins O (zb0 (yg n) (zcu n M.length) (Run.new n))::newX n M.length):=by
 refine zA rfl ?_;unfold zgD;have pl:=wn.pl;have ap:∀(X:Mem) (c d:Cell),M++c::X++[d]=M++(c::(X++[d])):=λX c d=>by simp
 have ln:∀(X:Mem) (c:Cell),(M++c::X).length=M.length+1+X.length:=λX c=>by simp;symm
 have s1:=setM (O:=O) (M:=M) (X:=[]) (fs:=[]) (f:="net") (y:=yg n) (fs':=[("net",yg n)]) rfl ∅;have s2:=setM (O:=O) (M:=M) (X:=[]) (fs:=[("net",yg n)]) (f:="came") (y:=.int 0) (fs':=[("net",yg n),("came",.int 0)]) rfl (by simp);have s3:=setM (O:=O) (M:=M) (X:=[.lst []]) (fs:=[("net",yg n),("came",.int 0)]) (f:="errands") (y:=.ref (M.length+1)) (fs':=[("net",yg n),("came",.int 0),("errands",.ref (M.length+1))]) rfl (by simp);have it:za6 (ja (Z 1) j6) [some (.ref M.length),some (yg n)]=λM=>.ok (n.ps.map puT) M:=rfl;have cp:∀o,qF (qp 0) yN (eTk (zu ze)) (n.ps.map puT) [o] (M++(.ins O [("net",yg n),("came",.int 0),("errands",.ref (M.length+1))]::[.lst []])) [] = .ok ((puA M.length n.ps.length).map .ref) (M++(.ins O [("net",yg n),("came",.int 0),("errands",.ref (M.length+1))]::(.lst []::List.replicate n.ps.length (.lst [])))):=λo=>by
  rw[zjI _ _ _ _ (by rw[length_nil,Qh];symm),Qh,nil_append];congr 1
  .unfold puA;rw[map_map];refine map_congr_left λj _=>?_;simp
  .simp
 have s4:=setM (O:=O) (M:=M) (X:=(.lst []::List.replicate n.ps.length (.lst []))++[.lst ((puA M.length n.ps.length).map .ref)]) (fs:=[("net",yg n),("came",.int 0),("errands",.ref (M.length+1))]) (f:="puts") (y:=.ref (M.length+2+n.ps.length)) (fs':=[("net",yg n),("came",.int 0),("errands",.ref (M.length+1)),("puts",.ref (M.length+2+n.ps.length))]) rfl (by simp);have s5:=setM (O:=O) (M:=M) (X:=(.lst []::List.replicate n.ps.length (.lst []))++[.lst ((puA M.length n.ps.length).map .ref)]++[.lst []]) (fs:=[("net",yg n),("came",.int 0),("errands",.ref (M.length+1)),("puts",.ref (M.length+2+n.ps.length))]) (f:="payments") (y:=.ref (M.length+3+n.ps.length)) (fs':=[("net",yg n),("came",.int 0),("errands",.ref (M.length+1)),("puts",.ref (M.length+2+n.ps.length)),("payments",.ref (M.length+3+n.ps.length))]) rfl (by simp);have s6:=setM (O:=O) (M:=M) (X:=newX n M.length) (fs:=[("net",yg n),("came",.int 0),("errands",.ref (M.length+1)),("puts",.ref (M.length+2+n.ps.length)),("payments",.ref (M.length+3+n.ps.length))]) (f:="taken") (y:=.ref (M.length+4+n.ps.length)) (fs':=zb0 (yg n) (zcu n M.length) (Run.new n)) rfl (by simp);have ct:∀o M',qF (qp 0) yN j4 (n.ps.map puT) [o] M' [] = .ok ((n.ps.map λ_=>0).map nT) M':=λo M'=>by rw[map_map];exact Ok.mapc (r:=puT) (λJ=>∃o,J=[o]) _ ⟨_,rfl⟩ ⋯ (by rintro x J hx ⟨o,rfl⟩;exact⟨[some (puT x)],rfl,⟨_,rfl⟩,rfl⟩)
 have l4:(M++Cell.ins O [("net",yg n),("came",.int 0),("errands",.ref (M.length+1))]::(.lst []::List.replicate n.ps.length (Cell.lst []))).length=M.length+2+n.ps.length:=by simp;symm
 have l5:(M++Cell.ins O [("net",yg n),("came",.int 0),("errands",.ref (M.length+1)),("puts",.ref (M.length+2+n.ps.length))]::((.lst []::List.replicate n.ps.length (Cell.lst []))++[.lst ((puA M.length n.ps.length).map .ref)])).length=M.length+3+n.ps.length:=by simp;symm
 have l6:(M++Cell.ins O [("net",yg n),("came",.int 0),("errands",.ref (M.length+1)),("puts",.ref (M.length+2+n.ps.length)),("payments",.ref (M.length+3+n.ps.length))]::((.lst []::List.replicate n.ps.length (Cell.lst []))++[.lst ((puA M.length n.ps.length).map .ref)]++[.lst []])).length=M.length+4+n.ps.length:=by simp;symm
 have st:∀(f:Str) (y:FT.T) (fv:Ev->Mem->Out FT.T) (M0 M1 M2:Mem),fv [some (.ref M.length),some (yg n)] M0 = .ok y M1->zaT [O] f (.ref M.length) y M1 = .ok () M2->zH [O] f (Z 0) fv [some (.ref M.length),some (yg n)] M0 = .ok (.nx [some (.ref M.length),some (yg n)]) M2:=λf y fv M0 M1 M2 h1 h2=>by unfold zH;rw[h1];show(zaT [O] f (.ref M.length) y M1).bind _=_;rw[h2];rfl
 refine⟨.non,_,?_,rfl,rfl⟩;have t1:=st "net" (yg n) (Z 1) _ _ _ rfl s1;have t2:=st "came" (.int 0) j4 _ _ _ rfl s2;have t3:=st "errands" (.ref (M.length+1)) (eTk (zu ze)) (M++(.ins O [("net",yg n),("came",.int 0)]::[])) _ _ (by show Out.ok (FT.T.ref (M++[Cell.ins O [("net",yg n),("came",.int 0)]]).length) (M++[Cell.ins O [("net",yg n),("came",.int 0)]]++[.lst []]) = .ok (.ref (M.length+1)) (M++(.ins O [("net",yg n),("came",.int 0)]::[.lst []]));simp) s3
 have t4:=st "puts" (.ref (M.length+2+n.ps.length)) (eTk (zY (za6 (ja (Z 1) j6)) (qp 0) yN (eTk (zu ze)) ["purse"] [])) (M++(.ins O [("net",yg n),("came",.int 0),("errands",.ref (M.length+1))]::[.lst []])) _ _ (by show((qF (qp 0) yN (eTk (zu ze)) (n.ps.map puT) [none] (M++(.ins O [("net",yg n),("came",.int 0),("errands",.ref (M.length+1))]::[.lst []])) []).bind λts M1=>Out.ok (FT.T.ref M1.length) (M1++[Cell.lst ts]))=_;rw[cp];show Out.ok (FT.T.ref (List.length _)) _=_;rw[l4,ap]) s4
 have t5:=st "payments" (.ref (M.length+3+n.ps.length)) (eTk (zu ze)) (M++(.ins O [("net",yg n),("came",.int 0),("errands",.ref (M.length+1)),("puts",.ref (M.length+2+n.ps.length))]::((.lst []::List.replicate n.ps.length (.lst []))++[.lst ((puA M.length n.ps.length).map .ref)]))) _ _ (by show Out.ok (FT.T.ref (List.length _)) _=_;rw[l5,ap]) s5
 have t6:=st "taken" (.ref (M.length+4+n.ps.length)) (eTk (zY (za6 (ja (Z 1) j6)) (qp 0) yN j4 ["purse"] [])) (M++(.ins O [("net",yg n),("came",.int 0),("errands",.ref (M.length+1)),("puts",.ref (M.length+2+n.ps.length)),("payments",.ref (M.length+3+n.ps.length))]::((.lst []::List.replicate n.ps.length (.lst []))++[.lst ((puA M.length n.ps.length).map .ref)]++[.lst []]))) _ _ (by show((qF (qp 0) yN j4 (n.ps.map puT) [none] _ []).bind λts M1=>Out.ok (FT.T.ref M1.length) (M1++[Cell.lst ts]))=_;rw[ct];show Out.ok (FT.T.ref (List.length _)) _=_;rw[l6,ap];rfl) s6
 rw[show startT 2 [.ref M.length,yg n]=[some (.ref M.length),some (yg n)]from rfl];unfold yh;rw[t1];show((((zH [O] "came" (Z 0) j4 [some (.ref M.length),some (yg n)] _).bind _)).bind zbK)=_;rw[t2];show((((zH [O] "errands" (Z 0) (eTk (zu ze)) [some (.ref M.length),some (yg n)] _).bind _)).bind zbK)=_;rw[t3];show((((zH [O] "puts" (Z 0) _ [some (.ref M.length),some (yg n)] _).bind _)).bind zbK)=_;rw[t4];show((((zH [O] "payments" (Z 0) _ [some (.ref M.length),some (yg n)] _).bind _)).bind zbK)=_;rw[t5];show(((zH [O] "taken" (Z 0) _ [some (.ref M.length),some (yg n)] _)).bind zbK)=_;rw[t6];rfl
theorem zmK(wn:WN n)(M:Mem){J:Ev}(hJ:Z 0 J=λM=>.ok (yg n) M):∃M',zde O (zbS I O) (zb (Z 0) ze) J M = .ok (.ref M.length) M'/\RunAt I O (yg n) M.length M.length (zcu n M.length) M' (Run.new n)/\Kp M.length M M':=by
 obtain⟨t,M',e,rfl,rfl⟩:=zhd (I:=I) (O:=O) wn M;refine⟨_,?_,zpS M,?_⟩
 .unfold zde zb ze;rw[hJ];show((zbS I O [.ref M.length,yg n] (M++[.ins O []])).bind _)=_;rw[e];rfl
 .exact⟨by simp,λi hi=>Q6 hi⟩
def EvS(t:FT.T)(evs:List Evt)(M:Mem):Prop:=∃G,zed t M=some (evs.map evT,G)/\zaV G M/\∀g ∈ G,g.1<M.length
theorem zcp{α β:Type}{f:β->α->β}{x:β}{xs:List α}{y:α}(h:xs[k]?=some y):(xs.take (k+1)).foldl f x=f ((xs.take k).foldl f x) y:=by rw[take_succ,h,List.foldl_append];rfl
theorem VEv.at_:∀{evs:List Evt} {R:Run} {k:Nat} {ev:Evt},VEv n R evs->evs[k]?=some ev->Can n ((evs.take k).foldl (zaG n) R) ev
 |[],_,_,_,_,h=>by simp at h|e0::evs,R,0,ev,v,h=>by simp at h;subst h;exact v.1
 |e0::evs,R,k+1,ev,v,h=>by simp at h;exact VEv.at_ (k:=k) v.2 h
theorem za7(wn:WN n){evs:List Evt}(v:VEv n (Run.new n) evs):∀k,k<=evs.length->Good n (zM n (evs.take k)) (10*k)
 |0,_=>zos n|k+1,h=>by have hk:evs[k]?=some evs[k]:=Q0 ⋯;have g:=za7 wn v k ⋯;have c:=v.at_ hk;unfold zM at g ⊢;rw[zcp hk];have:=zm5 wn g c;exact⟨this.ri,this.wt,this.sb.mono ⋯,this.sd⟩
theorem zhL(wn:WN n){b r:Nat}{l:Lay}{M:Mem}{R:Run}{B:Nat}(h:RunAt I O (yg n) b r l M R)(g:Good n R B)(hB:B+10<90000){ev:Evt}(hc:Can n R ev):yR I O kN [.ref r,evT ev] M = .ok .non M/\Ok (zcG I O [.ref r,evT ev] M) (Lv I O n b r (zaG n R ev) M):=by
 refine⟨?_,zrV h wn hB g.sb g.ri hc.c.ok⟩;rcases hc with hf | ⟨⟨e,he⟩,hm⟩
 .cases ev with|fresh=>exact znu h|_=>cases hf
 .have:=ze0 he hm;exact zsW h wn g.ri (by have:=g.sb.es;symm) this.1 he hm
theorem zq7(wn:WN n){t:FT.T}{evs:List Evt}{M:Mem}(ht:EvS t evs M)(v:VEv n (Run.new n) evs)(hl:evs.length<=2000):Ok (zaK I O kN [yg n,t] M) λu M'=>u = .ref M.length/\Kp M.length M M'/\∃l,RunAt I O (yg n) M.length M.length l M' (zM n evs):=by
 obtain⟨G,hs,hG,hlt⟩:=ht;have cs:∀{M':Mem},Kp M.length M M'->zaV G M':=λk g hg=>by rw[k.2 g.1 (hlt g hg)];exact hG g hg
 refine OkX.toOk (zO rfl (OkX.ok ?_));unfold zfI;obtain⟨M1,e1,h1,k1⟩:=zmK (I:=I) (O:=O) wn M (J:=[some (yg n),some t,none,none]) rfl;have hs1:zed t M1=some (evs.map evT,G):=by
  cases t with
  |ref a=>
   have hs:(match M[a]? with
    |some (.lst xs)=>some (xs,[(a,xs)])
    | _=>none)=some (evs.map evT,G):=hs
   show(match M1[a]? with
    |some (.lst xs)=>some (xs,[(a,xs)])
    | _=>none)=_
   cases q:M[a]? with|none=>rw[q]at hs;cases hs|some c=>rw[k1.2 a (yC q)];exact hs
  |_=>exact hs
 erw[e1,zcb,zgv,hs1];refine Ok.bind (Ok.forG (r:=evT) (xs:=evs) (λk J M'=>∃o,J=[some (yg n),some t,some (.ref M.length),o]/\Kp M.length M M'/\∃l,RunAt I O (yg n) M.length M.length l M' (zM n (evs.take k))) (λi J M' h=>by obtain⟨o,_,k,_⟩:=h;exact cs k) ⟨none,rfl,k1,_,h1⟩ ?_) ?_
 .rintro k ev J M2 hk ⟨o,rfl,k2,l2,h2⟩;have hkl:=(Qz.mp hk).1;obtain⟨c1,c2⟩:=zhL (kN:=kN) wn h2 (za7 wn v k ⋯) ⋯ (v.at_ hk);unfold zdf;erw[c1];refine Ok.bind c2 ?_;rintro u M3 ⟨rfl,k3,l3,h3⟩
  try simp_arith
  refine Ok.ret ⟨_,rfl,_,rfl,k2.trans k3,l3,?_⟩;unfold zM at h3 ⊢;rw[zcp hk];exact h3
 .rintro fl M' ⟨J,rfl,o,rfl,k2,l2,h2⟩;rw[take_length]at h2;simp_arith;exact Ok.ret ⟨rfl,k2,l2,h2⟩
theorem zgP(h:Kp M.length M M'):M'.take M.length=M:=by
 refine ext_getElem? λi=>?_
 by_cases z:i<M.length
 .rw[List.getElem?_take_of_lt z];exact h.2 i z
 .rw[getElem?_eq_none (by rw[Qr];symm),getElem?_eq_none ⋯]
theorem ztK(e:Er):FT.T.lt 0 (erT e):=by
 refine .tup λt ht=>?_;simp only[QC,QI,or_false]at ht;rcases ht with rfl | rfl | rfl
 .exact .int _
 .cases e.caller with
  |none=>exact .non|some c=>refine .tup λu hu=>?_;simp only[QC,QI,or_false]at hu;rcases hu with rfl | rfl | rfl<;>exact .int _
 .cases e.ph with
  |works=>refine .tup λu hu=>?_;simp only[QC,QI,or_false]at hu;rcases hu with rfl;exact .str _
  |waits a t=>
   refine .tup λu hu=>?_;simp only[QC,QI,or_false]at hu;rcases hu with rfl | rfl | rfl
   .exact .str _
   .exact .int _
   .exact .int _
  |stands a t=>
   refine .tup λu hu=>?_;simp only[QC,QI,or_false]at hu;rcases hu with rfl | rfl | rfl
   .exact .str _
   .exact .int _
   .exact .int _
  |ended w=>
   refine .tup λu hu=>?_;simp only[QC,QI,or_false]at hu;rcases hu with rfl | rfl
   .exact .str _
   .exact .str _
theorem zp0(n:Net)(R:Run):FT.T.lt 0 (zf3 n R):=by
 refine .tup λt ht=>?_;simp only[QC,QI,or_false]at ht;rcases ht with rfl | rfl
 .refine .lst λu hu=>?_;obtain⟨e,_,rfl⟩:=mem_map.mp hu;exact ztK e
 .refine .lst λu hu=>?_;obtain⟨k,_,rfl⟩:=mem_map.mp hu;refine .tup λv hv=>?_;simp only[QC,QI,or_false]at hv;rcases hv with rfl | rfl<;>exact .int _
theorem zmu(wn:WN n){t:FT.T}{evs:List Evt}{M:Mem}(ht:EvS t evs M)(v:VEv n (Run.new n) evs)(hl:evs.length<=2000):zgm I O kN [yg n,t] M = .ok (zf3 n (zM n evs)) M:=by
 have key:Ok (zgF I O kN [yg n,t] M) λu M'=>u=zf3 n (zM n evs)/\Kp M.length M M':=by refine OkX.toOk (zO rfl (OkX.ok ?_));unfold zlW;simp_arith;refine Ok.bind (zq7 wn ht v hl) ?_;rintro u M1 ⟨rfl,k1,l1,h1⟩;have g:=za7 wn v evs.length (Q3 _);rw[take_length]at g;erw[zlB h1 wn g.ri (B:=10*evs.length) ⋯ g.sb];exact Ok.ret ⟨rfl,k1⟩
 obtain⟨u,M',e,rfl,k⟩:=key;unfold zgm zci;rw[e];dsimp only;rw[QA ⟨zgP k,zp0 _ _⟩]
end
def zbB(n:Net)(R:Run):List Evt:=.fresh::(List.range R.es.length).flatMap (zap n R)
section
def zoB(R:Run)(i:Nat):(zap n R i).length<=10:=Qj (List.length_filter_le _ _) (zll i)
theorem zfJ(R:Run):∀k,((List.range k).flatMap (zap n R)).length<=10*k
 |0=>by simp|k+1=>by
  rw[range_succ,List.flatMap_append,Qn];have h1:=zfJ (n:=n) R k;have h2:=zoB (n:=n) R k;have h3:([k].flatMap (zap n R))=zap n R k:=by simp
  rw[h3];symm
theorem ztJ(ev:Evt):FT.T.lt 0 (evT ev):=by
 cases ev with
 |fresh=>refine .tup λu hu=>?_;rw[QJ.mp hu];exact .str _
 |ends i w=>
  refine .tup λu hu=>?_;simp only[QC,QI,or_false]at hu;rcases hu with rfl | rfl | rfl
  .exact .str _
  .exact .int _
  .exact .str _
 |lost i=>
  refine .tup λu hu=>?_;simp only[QC,QI,or_false]at hu;rcases hu with rfl | rfl
  .exact .str _
  .exact .int _
 |again i=>
  refine .tup λu hu=>?_;simp only[QC,QI,or_false]at hu;rcases hu with rfl | rfl
  .exact .str _
  .exact .int _
 |up i=>
  refine .tup λu hu=>?_;simp only[QC,QI,or_false]at hu;rcases hu with rfl | rfl
  .exact .str _
  .exact .int _
theorem zpX(h:ev ∈ zbB n R):Can n R ev:=by
 rcases QC.mp h with rfl | h
 .exact .inl rfl
 .obtain⟨i,hi,hm⟩:=mem_flatMap.mp h;have hi:=mem_range.mp hi;have he:R.es[i]?=some R.es[i]:=Q0 hi;have:=ze0 he hm;exact .inr ⟨⟨_,by rw[this.2.1];exact he⟩,by rw[this.2.1];exact hm⟩
end
section
theorem zfF(c:Int)(M:Mem):zcK I O [.int c] M = .ok (.ref M.length) (M++[(Po.new c).cell]):=by unfold zcK zk9;simp_arith;rw[show Po.new c=⟨if c-10 ^ 18 > 0 then c-10 ^ 18 else 0,c % 10 ^ 18,0⟩from rfl,Q9 _ ∅];rfl
theorem zmR(p:Po)(a:Nat)(base:Int)(M:Mem)(e:M[a]?=some p.cell)(h:0<base)(hb:base.natAbs<10 ^ 100):yB I O [.ref a,.int base] M = .ok (.int (p.dig base)) (M.set a (p.nxt base).cell):=by
 unfold yB zjw;have ha:a<M.length:=(Qz.mp e).1;have hd:∀i M,zeB (.int i) (.int base) M = .ok (.int (i.fdiv base)) M:=λi M=>zho (zo3 100 ∅ ⋯ hb);have hm:∀i M,zb3 (.int i) (.int base) M = .ok (.int (i.fmod base)) M:=λi M=>zkT ⋯
 by_cases hp:0<p.a
 .erw[e,Po.cell,hd,hm,Qw hp];unfold Po.dig Po.nxt;rw[QA hp,QA hp,Q9 _ ⋯,Int.fdiv_eq_ediv_of_nonneg _ ⋯]
 .have hs:∀c:Cell,(M.set a c)[a]?=some c:=λc=>by rw[Qc,QA rfl,QA ha]
  have h1:∀j M,zW (.int 7919) (.int j) M = .ok (.int (7919*j)) M:=λj M=>zaO ∅;have hx:∀x:Int,0<=x.fmod 1000000007/\x.fmod 1000000007<1000000007:=λx=>by rw[Q9 _ ∅];symm
  have hy:∀x:Int,0<=x.fmod 998244353/\x.fmod 998244353<998244353:=λx=>by rw[Q9 _ ∅];symm
  have h2:∀(x y:Int) M,zW (.int (x.fmod 1000000007+11)) (.int y) M = .ok (.int ((x.fmod 1000000007+11)*y)) M:=λx y M=>zaO (by have:=hx x;symm);have h3:∀(x y:Int) M,zW (.int (x.fmod 998244353)) (.int y) M = .ok (.int (x.fmod 998244353*y)) M:=λx y M=>zaO (by have:=hy x;symm);erw[e,Po.cell,hd,hm,Qx hp,hs,h1,h2,h3];unfold Po.dig Po.nxt;rw[QB hp,QB hp];simp only[Q9 _ (show(0:Int)<=1000000007 by decide),Q9 _ (show(0:Int)<=998244353 by decide),Q9 _ (show(0:Int)<=2147483647 by decide),Int.fdiv_eq_ediv_of_nonneg _ (show(0:Int)<=8 by decide),Q9 _ (show(0:Int)<=base by symm)]
def PO(a:Nat)(M:Mem):Prop:=∃p:Po,M[a]?=some p.cell
theorem PO.fr(h:PO a M){S:List Nat}(f:Fr S M M')(hs:a ∉ S):PO a M':=by obtain⟨p,e⟩:=h;exact⟨p,f.get e hs⟩
theorem zG(e:PO a M)(h:0<base)(hb:base.natAbs<10 ^ 100):
  Ok (yB I O [.ref a,.int base] M) λt M'=>∃d:Int,t = .int d/\0<=d/\d<base/\PO a M'/\Fr [a] M M':=by
 obtain⟨p,e⟩:=e;exact Ok.of (zmR p a base M e h hb) ⟨_,rfl,p.dig_lo h,p.dig_hi h,⟨_,get_set e⟩,Fr.set _ _ _⟩
def PO.app:PO M.length (M++[(Po.new c).cell]):=⟨_,zP⟩
theorem zhr{ns:List Int}{n:Nat}(hn:n<=1000)(M:Mem):∃c,zb7 I O [.lst (ns.map .int),.int (n:Int)] M = .ok (.int c) M:=by
 unfold zb7 zjx
 by_cases h:n<ns.length
 .refine⟨ns[n],?_⟩;have a:atI (ns.map FT.T.int) (n:Int)=some (.int ns[n]):=by rw[FT.zaB];simp[h]
  have d:decide ((n:Int)<((ns.map FT.T.int).length:Int))=true:=Qw (by rw[Qh];symm);erw[d,a]
 .have d:decide ((n:Int)<((ns.map FT.T.int).length:Int))=false:=Qx (by rw[Qh];symm);have m1:∀M,zW (.int 7919) (.int (n:Int)) M = .ok (.int (7919*(n:Int))) M:=λM=>zaO ∅;have m2:∀M,zW (.int (7919*(n:Int))) (.int (n:Int)) M = .ok (.int (7919*(n:Int)*(n:Int))) M:=λM=>zaO ⋯;have m3:∀M,zW (.int 31) (.int (n:Int)) M = .ok (.int (31*(n:Int))) M:=λM=>zaO ∅;exact⟨7919*(n:Int)*(n:Int)+31*(n:Int),by erw[d,m1,m2,m3]⟩
theorem pick{xs:List Int}{d:Int}(h0:0<=d)(h1:d<xs.length):∃v ∈ xs,atI (xs.map FT.T.int) d=some (.int v):=by obtain⟨x,h1,h2⟩:=znF (xs:=xs.map FT.T.int) h0 (by simpa using h1);obtain⟨v,hv,rfl⟩:=mem_map.mp h2;exact⟨v,hv,h1⟩
theorem zeN{xs:List Int}{d:Int}(lo hi:Int)(h0:0<=d)(h1:d<xs.length)(h:xs.all (λv=>decide (lo<=v/\v<=hi))=true):∃v:Int,atI (xs.map FT.T.int) d=some (.int v)/\lo<=v/\v<=hi:=by obtain⟨v,hv,e⟩:=pick h0 h1;have:=all_eq_true.mp h v hv;exact⟨v,e,of_decide_eq_true this⟩
theorem ze3{b:Int}(h0:0<b)(h:b<=10 ^ 40):b.natAbs<10 ^ 100:=by refine Nat.lt_of_le_of_lt (show b.natAbs<=10 ^ 40 from ?_) (Nat.pow_lt_pow_right ∅ ∅);simp only[Int.reducePow]at h;simp only[Nat.reducePow];symm
theorem zoT{xs:List Str}{d:Int}(h0:0<=d)(h1:d<xs.length):∃v ∈ xs,atI (xs.map FT.T.str) d=some (.str v):=by obtain⟨x,h1,h2⟩:=znF (xs:=xs.map FT.T.str) h0 (by simpa using h1);obtain⟨v,hv,rfl⟩:=mem_map.mp h2;exact⟨v,hv,h1⟩
theorem ztx(h0:0<=b)(h1:b<3):∃v:Str,(v = "bad"\/v = "spent")/\atI [FT.T.str "bad",.str "bad",.str "spent"] b=some (.str v):=by
 have:b=0\/b=1\/b=2:=by symm
 rcases this with rfl | rfl | rfl
 .exact⟨_,.inl rfl,rfl⟩
 .exact⟨_,.inl rfl,rfl⟩
 .exact⟨_,.inr rfl,rfl⟩
end
end My
namespace FT
open PySem L2
def Ok.seqX(h:∀X,X=zbt q->Ok ((p J M).bind X) Q):Ok (yh p q J M) Q:=h _ rfl
theorem Ok.seqR(h:∀X,X=(λfl M=>(zbt q fl M).bind zbK)->Ok ((p J M).bind X) Q):Ok ((yh p q J M).bind zbK) Q:=by have:=h _ rfl;unfold yh;rw[zoL];exact this
def Ok.seqP(P:Fl->Mem->Prop)(h:Ok (p J M) P)(g:∀fl M',P fl M'->Ok (zbt q fl M') Q):Ok (yh p q J M) Q:=Ok.bind h g
end FT
namespace My
open PySem L2 FT
noncomputable abbrev S(l:List Nat):Str:=⟨l.toArray⟩
theorem zdg(l:List Nat):(S l).length=l.length:=by simp[Str.length]
theorem sz(h:n<=10000):n<=sizeLine:=by rw[sizeLine_eq];symm
theorem zuR(h:l.length<=10000)(M:Mem):zx (.str (S l)) M = .ok (.int (l.length:Int)) M:=by unfold zx;dsimp only;rw[zdg,QA (sz h)]
noncomputable def isL(c:Nat):Bool:=decide (97<=c/\c<=122)
def isW(l:List Nat):Bool:=decide (1<=l.length/\l.length<=8) && l.all isL
theorem adE(h:l.length+m.length<=10000)(M:Mem):yF (.str (S l)) (.str (S m)) M = .ok (.str (S (l++m))) M:=by unfold yF;dsimp only;rw[QA (sz (by rw[zdg,zdg];exact h))];congr 2;show Str.append _ _=_;unfold Str.append;simp
theorem zq2(zs:List Str):zfz (zs.map FT.T.str)=some zs:=by induction zs with|nil=>rfl|cons z zs ih=>simp only[QG,zfz,ih,Option.map_some]
def zp7(x:Str)(M:Mem):isStr (.str x) M=true:=rfl
theorem zm6:∀(cs:List Nat) (acc:Array Nat),(cs.map λc=>S [c]).foldl (λacc p=>acc++(Str.ofString "").cps++p.cps) acc=acc++cs.toArray
 |[],acc=>by simp|c::cs,acc=>by rw[QG,List.foldl_cons,zm6 cs];simp[show(Str.ofString "").cps = #[] by decide]
theorem ztO(cs:List Nat):Txt.join "" (cs.map λc=>S [c])=S cs:=by
 unfold Txt.join Builtin.Str.glued;cases cs with
 |nil=>rfl|cons c cs=>show Str.mk _=_;congr 1;rw[QG,List.headD_cons,List.drop_succ_cons,drop_zero,zm6];simp
theorem join_eq(h:cs.length<=10)(M:Mem):zeT (.str "") [.lst (cs.map λc=>.str (S [c]))] M = .ok (.str (S cs)) M:=by
 have e:(cs.map λc=>FT.T.str (S [c]))=(cs.map λc=>S [c]).map FT.T.str:=by rw[map_map];rfl
 have hs:((cs.map λc=>S [c]).map (·.length)).sum=cs.length:=by
  clear h e
  induction cs with|nil=>rfl|cons c cs ih=>simp only[QG,List.sum_cons,Qp,ih];show 1+cs.length=_;symm
 rw[e];unfold zeT;simp only[zy,zq2];rw[QA (by rw[hs,show(Str.ofString "").length=0 from rfl];symm),ztO]
theorem zti:∀n:Nat,n<7->∀a:Nat,a<n+1->Builtin.Str.strSliceIndices none (some (a:Int)) 1 n=List.range a:=by decide +kernel
theorem ztj:∀n:Nat,n<7->∀a:Nat,a<n+1->Builtin.Str.strSliceIndices (some (a:Int)) none 1 n=(List.range (n-a)).map (· + a):=by decide +kernel
theorem zsZ:∀n:Nat,n<26->atI (Str.ofString "abcdefghijklmnopqrstuvwxyz").cps.toList (n:Int)=some (97+n):=by decide +kernel
theorem zdM(r:List Nat):∀n,(List.range n).filterMap (λk=>r[k]?)=r.take n
 |0=>by simp|n+1=>by rw[range_succ,List.filterMap_append,zdM r n,take_succ];congr 1
theorem zsU(hl:l.length<=6){a:Nat}(ha:a<=l.length)(M:Mem):zdr (.str (S l)) none (some (a:Int)) M = .ok (.str (S (l.take a))) M:=by
 have e:Txt.slice (S l) none (some (a:Int))=S (l.take a):=by
  unfold Txt.slice;rw[zdg,zti _ ⋯ a ⋯,length_range];split
  .rename_i h;have:a=l.length:=by simpa using h
   rw[this,take_length]
  .congr 1;rw[show(λx=>(S l).cps[x]?)=λk=>l[k]? from by funext k;simp,zdM]
 unfold zdr;dsimp only;rw[QA (sz (by rw[zdg];symm)),e]
theorem zsV(hl:l.length<=6){a:Nat}(ha:a<=l.length)(M:Mem):zdr (.str (S l)) (some (a:Int)) none M = .ok (.str (S (l.drop a))) M:=by
 have e:Txt.slice (S l) (some (a:Int)) none=S (l.drop a):=by
  unfold Txt.slice;rw[zdg,ztj _ ⋯ a ⋯,Qh,length_range];split
  .rename_i h;have:a=0:=by simp at h;symm
   rw[this,drop_zero]
  .congr 1;rw[List.filterMap_map,show((λx=>(S l).cps[x]?) ∘ λx=>x+a)=λk=>(l.drop a)[k]? from by funext k;simp[Nat.add_comm],zdM];rw[take_of_length_le (by rw[length_drop];symm)]
 unfold zdr;dsimp only;rw[QA (sz (by rw[zdg];symm)),e]
theorem zjm(h0:0<=d)(h:d<26)(M:Mem):ixS (.str "abcdefghijklmnopqrstuvwxyz") (.int d) M = .ok (.str (S [97+d.toNat])) M:=by obtain⟨n,rfl⟩:∃n:Nat,d=n:=⟨d.toNat,⋯⟩;unfold ixS;simp only[zsZ n ⋯];exact QA (sz ∅)
theorem zrQ(c:Nat)(k:Nat)(M:Mem):zg8 (.str (S [c])) (.int ((k % 2:Nat):Int)) M = .ok (.str (S (if k % 2=1 then[c]else[]))) M:=by
 have h:k % 2=0\/k % 2=1:=by symm
 unfold zg8;dsimp only;rcases h with h | h
 .rw[h,QA (by refine⟨by decide,λz _=>absurd ∅ z,λz _=>absurd ∅ z⟩)];rfl
 .rw[h,QA (by refine⟨by decide,λ_ h=>by simp at h,λ_ h=>by simp at h⟩)];rfl
noncomputable def nmL(b:List Nat)(a f k:Nat):List Nat:=b.take a++[97+(f+5*k) % 26]++b.drop a++(if k % 2=1 then[97+f]else[])
theorem zeQ(b:List Nat)(a f k:Nat):(nmL b a f k).length=b.length+1+k % 2:=by
 have h:k % 2=0\/k % 2=1:=by symm
 unfold nmL;rw[Qn,Qn,Qn,Qr,length_drop,Qu];rcases h with h | h<;>(rw[h];simp;symm)
theorem ztF(hb:b.all isL=true)(h6:b.length<=6){a f k:Nat}(hf:f<26):isW (nmL b a f k)=true:=by
 unfold isW;rw[zeQ,Qs];refine⟨Qw ⋯,all_eq_true.mpr λc hc=>?_⟩;have hb:=all_eq_true.mp hb;unfold nmL at hc;rcases mem_append.mp hc with hc | hc
 .rcases mem_append.mp hc with hc | hc
  .rcases mem_append.mp hc with hc | hc
   .exact hb c (List.mem_of_mem_take hc)
   .rw[QJ.mp hc];exact Qw ⋯
  .exact hb c (List.mem_of_mem_drop hc)
 .split at hc
  .rw[QJ.mp hc];exact Qw ⋯
  .cases hc
theorem zrO(hf:f<26)(hij:i<j)(hj:j<4)(e:nmL b a f i=nmL b a f j):False:=by
 have hl:=congrArg List.length e;rw[zeQ,zeQ]at hl;unfold nmL at e;rw[show i % 2=j % 2 by symm]at e;have e1:=List.append_cancel_right e;have e2:=List.append_cancel_right e1;have e3:=List.append_cancel_left e2;have e4:97+(f+5*i) % 26=97+(f+5*j) % 26:=by simpa using e3
 have:j=i+2:=by symm
 symm
def nmS(b:List Nat)(a f n:Nat):List Str:=(List.range n).map λk=>S (nmL b a f k)
theorem zrN(hf:f<26)(hn:n<=4):(nmS b a f n).Nodup:=by unfold nmS;refine List.pairwise_map.mpr (List.Pairwise.imp_of_mem ?_ (List.pairwise_lt_range (n:=n)));intro i j hi hj hlt e;have e:=congrArg (λs:Str=>s.cps.toList) e;simp at e;exact zrO hf hlt (by have:=mem_range.mp hj;symm) e
structure Nms (ws:List Str):Prop where
 nd:ws.Nodup
 w:∀x ∈ ws,∃l,x=S l/\isW l=true
 ln:∃h,∀x ∈ ws,x.length=h\/x.length=h+1
theorem zrM(hb:b.all isL=true)(h6:b.length<=6){a f n:Nat}(hf:f<26)(hn:n<=4):Nms (nmS b a f n):=⟨zrN hf hn,λx hx=>by
 obtain⟨k,_,rfl⟩:=mem_map.mp hx;exact⟨_,rfl,ztF hb h6 hf⟩,b.length+1,λx hx=>by
 obtain⟨k,_,rfl⟩:=mem_map.mp hx;rw[zdg,zeQ];symm⟩
section
theorem ziC(e:PO a M){n:Nat}(hn:n<=4):Ok (zdb I O [.ref a,.int (n:Int)] M) λt M'=>∃w ws,t = .ref w/\M'[w]?=some (.lst (ws.map .str))/\M.length<=w/\Nms ws/\ws.length=n/\PO a M'/\Fr [a] M M':=by
 refine zA rfl ?_;unfold zhR;have ha:a<M.length:=by obtain⟨p,e⟩:=e;exact yC e
 rw[show startT 9 [.ref a,.int (n:Int)]=[some (.ref a),some (.int (n:Int)),none,none,none,none,none,none,none]from rfl];right;simp_arith;left;right;erw[za8,zp7];refine Ok.bind (zG e ∅ ∅) ?_;rintro t M1 ⟨m,rfl,m0,m1,p1,f1⟩;erw[qX (show -(2 ^ 62)<=m/\m<2 ^ 62 by symm)];refine Ok.bind (Ok.comp (r:=FT.T.int) (λi acc J M'=>(∃cs:List Nat,acc=cs.map (λc=>.str (S [c]))/\cs.length=i/\cs.all isL=true)/\(∃o,J=[o,some (.str "abcdefghijklmnopqrstuvwxyz"),some (.ref a)])/\PO a M'/\Fr [a] M M') (rgI m.toNat) 0 [] ⟨⟨[],rfl,rfl,rfl⟩,⟨_,rfl⟩,p1,f1⟩ (by rw[zaR];exact sz (by simp;symm)) ?_) ?_
 .rintro k x J M2 acc hk ⟨⟨cs,rfl,hz,h1⟩,⟨o,rfl⟩,p2,f2⟩;simp_arith;refine Ok.bind (zG p2 ∅ ∅) ?_;rintro t M3 ⟨d,rfl,d0,d1,p3,f3⟩;erw[zjm d0 d1];refine Ok.ret ⟨⟨cs++[97+d.toNat],by simp,by simp[hz],?_⟩,⟨_,rfl⟩,p3,f2.trans f3⟩;rw[List.all_append,h1];simp only[all_cons,List.all_nil,Bool.true_and,Bool.and_true];exact Qw ⋯
 rintro ts M2 ⟨J,⟨b,rfl,hz,hb⟩,_,p2,f2⟩;rw[QL,zaR]at hz;have hb6:b.length<=6:=by symm
 erw[join_eq (cs:=b) ⋯];left;right;erw[zuR (l:=b) ⋯];refine Ok.bind (zG p2 ⋯ (ze3 ⋯ ⋯)) ?_;rintro t M3 ⟨av,rfl,a0,a1,p3,f3⟩;obtain⟨at_,rfl⟩:∃at_:Nat,av=at_:=⟨av.toNat,⋯⟩
 try simp_arith
 left;right;simp_arith;refine Ok.bind (zG p3 ∅ ∅) ?_;rintro t M4 ⟨fv,rfl,f0,f1',p4,f4⟩;obtain⟨f,rfl⟩:∃f:Nat,fv=f:=⟨fv.toNat,⋯⟩
 try simp_arith
 left;right;simp_arith;left;have fr4:Fr [a] M M4:=(f2.trans f3).trans f4;have l4:=fr4.1;right;erw[qX (M:=M4++[.lst []]) (j:=(n:Int)) ⋯,QH];refine Ok.bind (Ok.for (r:=FT.T.int) (xs:=rgI n) (λk J M'=>(∃o7 o8,J=[some (.ref a),some (.int (n:Int)),some (.str "abcdefghijklmnopqrstuvwxyz"),some (.str (S b)),some (.int (at_:Int)),some (.int (f:Int)),some (.ref M4.length),o7,o8])/\M'=M4++[.lst ((nmS b at_ f k).map .str)]) ⟨⟨none,none,rfl⟩,rfl⟩ ?_) ?_
 .rintro k x J M5 hx ⟨⟨o7,o8,rfl⟩,rfl⟩;obtain⟨hk,rfl⟩:=zaS hx;unfold zgJ;have m1:∀M,zW (.int 5) (.int (k:Int)) M = .ok (.int (5*(k:Int))) M:=λM=>zaO ∅;have hd:((f:Int)+5*(k:Int)).fmod 26=(((f+5*k) % 26:Nat):Int):=by rw[Q9 _ ∅];symm
  have hk2:((k:Int)).fmod 2=((k % 2:Nat):Int):=by rw[Q9 _ ∅];symm
  have c1:=λM=>zsU (l:=b) hb6 (a:=at_) ⋯ M;have c2:=λM=>zsV (l:=b) hb6 (a:=at_) ⋯ M;have x1:=λM=>zjm (d:=(((f+5*k) % 26:Nat):Int)) ⋯ ⋯ M;have x2:=λM=>zjm (d:=(f:Int)) ⋯ ⋯ M;rw[QH]at x1;rw[QH]at x2;have y1:=λM=>adE (l:=b.take at_) (m:=[97+(f+5*k) % 26]) (by rw[Qr,Qu];symm) M;have y2:=λM=>adE (l:=b.take at_++[97+(f+5*k) % 26]) (m:=b.drop at_) (by rw[Qn,Qr,Qu,length_drop];symm) M;have y3:=λM=>adE (l:=b.take at_++[97+(f+5*k) % 26]++b.drop at_) (m:=if k % 2=1 then[97+f]else[]) (by
   have:(if k % 2=1 then[97+f]else[]).length<=1:=by split<;>simp
   rw[Qn,Qn,Qr,Qu,length_drop];symm) M
  have z1:=λM=>zrQ (97+f) k M;have g:(M4++[Cell.lst ((nmS b at_ f k).map .str)])[M4.length]?=some (.lst ((nmS b at_ f k).map .str)):=zP;have hl:((nmS b at_ f k).map FT.T.str).length<sizeLine:=by unfold nmS;rw[Qh,Qh,length_range,sizeLine_eq];symm
  nofun;erw[zjH,m1,hd,c1,c2,x1,y1,y2];left;erw[qH g,x2,hk2,z1,y3,qQ g hl];refine Ok.ret ⟨_,rfl,⟨_,_,rfl⟩,?_⟩;rw[set_append_right _ _ (Q3 _),Qv];unfold nmS;rw[range_succ,Qq,Qq];rfl
 rintro fl M5 ⟨J,rfl,⟨o7,o8,rfl⟩,rfl⟩;rw[zaR];left;simp_arith;refine Ok.ret ⟨M4.length,nmS b at_ f n,rfl,zP,l4,zrM hb hb6 ⋯ hn,by simp[nmS],p4.fr (Fr.app _ _) (by simp),fr4.tr (Fr.app _ _) (by simp)⟩
end
section
def PV(P:FT.T)(pn:List Str)(a:Nat)(M:Mem):Prop:=P = .lst (pn.map .str)\/∃w,P = .ref w/\w ≠ a/\M[w]?=some (.lst (pn.map .str))
theorem PV.lst(h:PV P pn a M):zy P M=some (pn.map .str):=by
 rcases h with rfl | ⟨w,rfl,_,h3⟩
 .rfl
 .unfold zy;simp only[h3]
theorem PV.len(h:PV P pn a M):zx P M = .ok (nT pn.length) M:=by
 rcases h with rfl | ⟨w,rfl,_,h3⟩
 .rw[zoh,Qh]
 .rw[zfE h3,Qh]
structure AO (later pn:List Str) (q:Ask):Prop where
 to:q.to ∈ later
 t0:0<=q.tries
 t4:q.tries<=4
 pu:∀s,q.purse=some s->s ∈ pn
 wo:q.word = "bad"\/q.word = "spent"
theorem zmL(l:List FT.T)(M:Mem):neA (.lst l) (.lst []) M = .ok (.bl (!l.isEmpty)) M:=by cases l<;>rfl
def zsa(b:Bool)(M:Mem):zfH (.bl b) M = .ok (.int (if b then 1 else 0)) M:=rfl
def zg9:zha (.int i) (.int j) M = .ok (.int (if j<i then j else i)) M:=rfl
theorem zqM(e:PO a M){later pn:List Str}{P:FT.T}(hP:PV P pn a M)(hl:later.length<=4)(hp:pn.length<=2){most:Nat}(hm:most<=3):
  Ok (zfL I O [.ref a,.lst (later.map .str),P,.int (most:Int)] M) λt M'=>∃as:List Ask,t = .tup (as.map yz)/\as.length<=most/\(∀q ∈ as,AO later pn q)/\PO a M'/\Fr [a] M M':=by
 refine zA rfl ?_;unfold zjy;have ha:a<M.length:=by obtain⟨p,e⟩:=e;exact yC e
 rw[show startT 10 [.ref a,.lst (later.map .str),P,.int (most:Int)]=[some (.ref a),some (.lst (later.map .str)),some P,some (.int (most:Int)),none,none,none,none,none,none]from rfl];right;simp_arith;left;have pf:Fr [a] M (M++[Cell.lst []]):=(Fr.app _ _).mono;right;simp_arith;refine Ok.bind (zG (e.fr (Fr.app _ [Cell.lst []]) (by simp)) ∅ ∅) ?_;rintro t M1 ⟨d,rfl,d0,d1,p1,f1⟩;obtain⟨v,hv,v0,v3⟩:=zeN (xs:=[1,1,2,2,3,0,2,1]) 0 3 d0 d1 rfl;simp only[QG,map_nil]at hv;obtain⟨n,hn,hnl,hn0⟩:∃n:Nat,(if v<(most:Int)then v else(most:Int))*(if(!(later.map FT.T.str).isEmpty)=true then 1 else 0)=(n:Int)/\n<=most/\(later=[]->n=0):=by
  cases later with
  |nil=>exact⟨0,by simp,Nat.zero_le _,λ_=>rfl⟩|cons x xs=>
   simp only[QG,List.isEmpty_cons,Bool.not_false,if_true,Int.mul_one];refine⟨(if v<(most:Int)then v else(most:Int)).toNat,?_,?_,λh=>by cases h⟩
   .split<;>symm
   .split<;>symm
 have ml:∀(x y:Int) M,(x=if v<(most:Int)then v else(most:Int))->zW (.int x) (.int y) M = .ok (.int (x*y)) M:=λx y M h=>zaO (by rw[h];split<;>symm);erw[hv,zg9,zmL,zsa,ml _ _ _ rfl,hn,qX (M:=M1) (j:=(n:Int)) ⋯,QH];refine Ok.bind (Ok.for (r:=FT.T.int) (xs:=rgI n) (λk J M'=>(∃o5 o6 o7 o8 o9,J=[some (.ref a),some (.lst (later.map .str)),some P,some (.int (most:Int)),some (.ref M.length),o5,o6,o7,o8,o9])/\(∃as:List Ask,M'[M.length]?=some (.lst (as.map yz))/\as.length=k/\∀q ∈ as,AO later pn q)/\PO a M'/\Fr [a,M.length] (M++[Cell.lst []]) M') ⟨⟨_,_,_,_,_,rfl⟩,⟨[],f1.get zP (by simp;symm),rfl,λq h=>by cases h⟩,p1,f1.sub (by simp)⟩ ?_) ?_
 .rintro k x J M2 hx ⟨⟨o5,o6,o7,o8,o9,rfl⟩,⟨as,g2,hk,hao⟩,p2,f2⟩;obtain⟨hkn,rfl⟩:=zaS hx;have hlr:later ≠ []:=λz=>by have:=hn0 z;symm
  have hl0:0<later.length:=by cases later with | nil=>exact absurd rfl hlr | cons _ _=>simp
  have hPk:∀{M'},Fr [a,M.length] (M++[Cell.lst []]) M'->PV P pn a M':=λ{M'} f=>by
   rcases hP with h | ⟨w,h1,h2,h3⟩
   .exact .inl h
   .have:=yC h3;exact .inr ⟨w,h1,h2,f.get ((Fr.app M [Cell.lst []]).get0 h3) (by simp;symm)⟩
  unfold zie;nofun;erw[Qh];refine Ok.bind (zG p2 ⋯ (ze3 ⋯ ⋯)) ?_;rintro t M3 ⟨w,rfl,w0,w1,p3,f3⟩;obtain⟨to,hto,hat⟩:=zoT (xs:=later) w0 w1;erw[hat];left;nofun;simp_arith;refine Ok.bind (zG p3 ∅ ∅) ?_;rintro t M4 ⟨w',rfl,w0',w1',p4,f4⟩;obtain⟨tr,htr,tr0,tr4⟩:=zeN (xs:=[1,2,2,3,4,0,0,1]) 0 4 w0' w1' rfl;simp only[QG,map_nil]at htr;erw[htr];left;have f24:Fr [a,M.length] (M++[Cell.lst []]) M4:=(f2.tr f3 (by simp)).tr f4 (by simp);have P4:=hPk f24;have rp:zg0 P (.int 2) M4 = .ok (pn.map FT.T.str++pn.map FT.T.str) M4:=by unfold zg0;simp only[P4.lst];rw[QA ⟨by decide,by decide,by rw[Qh];symm⟩];simp[List.replicate]
  have ct:zeD (.lst [.non]) (.lst (pn.map FT.T.str++pn.map FT.T.str)) M4 = .ok (.non::(pn.map FT.T.str++pn.map FT.T.str)) M4:=by show(if _ then _ else _)=_;rw[QA (by rw[Qn,Qh,Qu,sizeLine_eq];symm)];rfl
  have m2:∀M,zW (.int 2) (nT pn.length) M = .ok (.int (2*(pn.length:Int))) M:=λM=>zaO ∅;nofun;erw[rp,ct,P4.len,m2];refine Ok.bind (zG p4 ⋯ (ze3 ⋯ ⋯)) ?_;rintro t M5 ⟨z,rfl,z0,z1,p5,f5⟩;obtain⟨pu,hpu,hpm⟩:∃pu:Option Str,atI (FT.T.non::(pn.map FT.T.str++pn.map FT.T.str)) z=some (opS pu)/\∀s,pu=some s->s ∈ pn:=by
   obtain⟨zz,rfl⟩:=Int.eq_ofNat_of_zero_le z0;rw[FT.zaB];cases zz with
   |zero=>exact⟨none,rfl,λs h=>by cases h⟩|succ zz=>
    have hz:zz<(pn++pn).length:=by rw[Qn];symm
    rw[getElem?_cons_succ,←Qq,Qb,Q0 hz];exact⟨some (pn++pn)[zz],rfl,λs h=>by cases h;exact(mem_append.mp (getElem_mem hz)).elim id id⟩
  erw[hpu];left;nofun;simp_arith;refine Ok.bind (zG p5 ∅ ∅) ?_;rintro t M6 ⟨y,rfl,y0,y1,p6,f6⟩;obtain⟨wo,hwo,hwa⟩:=ztx y0 y1;erw[hwa];left;have f26:Fr [a,M.length] (M++[Cell.lst []]) M6:=(f24.tr f5 (by simp)).tr f6 (by simp);have g6:M6[M.length]?=some (.lst (as.map yz)):=f6.get (f5.get (f4.get (f3.get g2 (by simp;symm)) (by simp;symm)) (by simp;symm)) (by simp;symm);erw[qH g6];refine Ok.bind (zG p6 ∅ ∅) ?_;rintro t M7 ⟨b1,rfl,b10,b11,p7,f7⟩;simp_arith;refine Ok.bind (zG p7 ∅ ∅) ?_;rintro t M8 ⟨b2,rfl,b20,b21,p8,f8⟩;have g8:M8[M.length]?=some (.lst (as.map yz)):=f8.get (f7.get g6 (by simp;symm)) (by simp;symm);obtain⟨q0,hq0⟩:∃q0:Ask,q0=⟨to,tr,pu,wo,b1==0,b2==0⟩:=⟨_,rfl⟩;have ap:=qQ (t:=yz q0) g8 (by rw[Qh,sizeLine_eq];symm);rw[show as.map yz++[yz q0]=(as++[q0]).map yz from by simp,show yz q0 = .tup [.str to,.int tr,opS pu,.str wo,.bl (b1==0),.bl (b2==0)]from by rw[hq0];rfl]at ap;erw[ap];refine Ok.ret ⟨_,rfl,⟨_,_,_,_,_,rfl⟩,⟨as++[q0],get_set g8,by simp[hk],λq hq=>?_⟩,p8.fr (Fr.set _ _ _) (by simp;symm),((f26.tr f7 (by simp)).tr f8 (by simp)).tr (Fr.set _ _ _) (by simp)⟩;rcases mem_append.mp hq with hq | hq
  .exact hao q hq
  .rw[QJ.mp hq,hq0];exact⟨hto,tr0,tr4,hpm,hwo⟩
 rintro fl M2 ⟨J,rfl,⟨o5,o6,o7,o8,o9,rfl⟩,⟨as,g2,hk,hao⟩,p2,f2⟩;rw[zaR]at hk;left;erw[zdK g2];refine Ok.ret ⟨as,rfl,⋯,hao,p2,?_⟩;exact((Fr.app M [Cell.lst []]).mono (S:=[a])).tr f2 (by simp)
end
theorem zfR{α:Type}(f:α->FT.T)(xs:List α)(k:Nat):zc1 (xs.map f) (some (k:Int)) none=(xs.drop k).map f:=by
 unfold zc1;rw[HT.zkG,HT.zi1,Qh,←List.map_drop,←List.map_take];congr 1
 by_cases h:k<=xs.length
 .rw[Nat.min_eq_left h,take_of_length_le (by rw[length_drop];symm)]
 .rw[Nat.min_eq_right ⋯,List.drop_of_length_le (Q3 _),List.drop_of_length_le ⋯];simp
theorem zno{α:Type}(f:α->FT.T)(xs:List α)(k:Nat):zc1 (xs.map f) none (some (k:Int))=(xs.take k).map f:=by
 unfold zc1;rw[HT.zkG,HT.zi1,Qh,drop_zero,Nat.sub_zero,←List.map_take];congr 1
 by_cases h:k<=xs.length
 .rw[Nat.min_eq_left h]
 .rw[Nat.min_eq_right ⋯,take_of_length_le (Q3 _),take_of_length_le ⋯]
def Nms.sub(h:Nms ws)(s:us.Sublist ws):Nms us:=⟨h.nd.sublist s,λx hx=>h.w x (s.subset hx),h.ln.imp λk hk x hx=>hk x (s.subset hx)⟩
def Nms.rev(h:Nms ws):Nms ws.reverse:=⟨List.pairwise_reverse.mpr (h.nd.imp Ne.symm),λx hx=>h.w x (List.mem_reverse.mp hx),h.ln.imp λk hk x hx=>hk x (List.mem_reverse.mp hx)⟩
structure GN (n:Net):Prop where
 hn:Nms (n.hs.map (·.name))
 h1:1<=n.hs.length
 h4:n.hs.length<=4
 pn:Nms (n.ps.map (·.name))
 p2:n.ps.length<=2
 pe:∀p ∈ n.ps,(p.earns = "first"\/p.earns = "any")/\1<=p.per/\p.per<=9
 a3:∀h ∈ n.hs,h.asks.length<=3
 ao:∀i h,n.hs[i]?=some h->∀q ∈ h.asks,AO ((n.hs.map (·.name)).drop (i+1)) (n.ps.map (·.name)) q
 a6:(n.hs.map (·.asks.length)).sum<=6
section
theorem zrP(e:PO a M):Ok (zhj I O [.ref a] M) λt M'=>∃n,t=yg n/\GN n/\PO a M'/\Fr [a] M M':=by
 refine zA rfl ?_;unfold zk6;have ha:a<M.length:=by obtain⟨p,e⟩:=e;exact yC e
 rw[show startT 10 [.ref a]=[some (.ref a),none,none,none,none,none,none,none,none,none]from rfl];right;simp_arith;refine Ok.bind (zG e ∅ ∅) ?_;rintro t M1 ⟨d,rfl,d0,d1,p1,f1⟩;obtain⟨v,hv,v1,v4⟩:=zeN (xs:=[2,3,3,4,4,3,2,1]) 1 4 d0 d1 rfl;simp only[QG,map_nil]at hv;obtain⟨nh,rfl⟩:∃nh:Nat,v=nh:=⟨v.toNat,⋯⟩;erw[hv];refine Ok.bind (ziC p1 (n:=nh) ⋯) ?_;rintro t M2 ⟨w,hs,rfl,gw,hw,nmh,hlh,p2,f2⟩
 try simp_arith
 left;right;simp_arith;refine Ok.bind (zG p2 ∅ ∅) ?_;rintro t M3 ⟨d',rfl,d0',d1',p3,f3⟩;obtain⟨v',hv',v1',v4'⟩:=zeN (xs:=[0,1,1,2]) 0 2 d0' d1' rfl;simp only[QG,map_nil]at hv';obtain⟨np,rfl⟩:∃np:Nat,v'=np:=⟨v'.toNat,⋯⟩;erw[hv'];refine Ok.bind (ziC p3 (n:=np) ⋯) ?_;rintro t M4 ⟨w',ps,rfl,gw',hw',nmp,hlp,p4,f4⟩
 try simp_arith
 left;have wa:w ≠ a:=by have:=f1.1;symm
 have lw2:w<M2.length:=yC gw;have l3:=f3.1;have wa':w' ≠ a:=by have:=f1.1;have:=f2.1;symm
 have gw4:M4[w]?=some (.lst (hs.map .str)):=f4.get (f3.get gw (by simpa using wa)) (by simpa using wa);right;simp_arith;refine Ok.bind (zG p4 ∅ ∅) ?_;rintro t M5 ⟨c,rfl,c0,c1,p5,f5⟩;have gw5:M5[w]?=some (.lst (hs.map .str)):=f5.get gw4 (by simpa using wa);have gw5':M5[w']?=some (.lst (ps.map .str)):=f5.get gw' (by simpa using wa');have fr5:Fr [a] M M5:=((((f1.trans f2).trans f3).trans f4).trans f5)
 have key:∀(P:FT.T) (pn:List Str),PV P pn a M5->Nms pn->pn.length<=2->(∀w2,P = .ref w2->w2<M5.length)->∀(X:Fl->Mem->Out FT.T),(X=λfl M=>(zbt (yh (zn 3 (eTk (zu ze)))
 (yh (zn 4 (eC (.int 6)))
 (yh (zaw (qO (zb (yf (yw zx) (zb (Z 1) ze)) ze)) (qp 5) (zf0 I O))
 (yh (zn 7 (eTk (zu ze)))
 (yh (zcb (zcD (Z 2)) (qp 8) (zfZ I O))
 (qD (yA (zb (yf (yw z8) (zb (Z 3) ze)) (zb (yf (yw z8) (zb (Z 7) ze)) ze))))))))) fl M).bind zbK)->
   Ok (X (.nx [some (.ref a),some (.ref w),some P,none,none,none,none,none,none,none]) M5) λt M'=>∃n,t=yg n/\GN n/\PO a M'/\Fr [a] M M':=by
  intro P pn hP nmP hpl hPl X hX;rw[hX];clear hX;simp only[qf];right
  try simp_arith
  left;right
  try simp_arith
  left;have lM5:=fr5.1;have g6:(M5++[Cell.lst []])[w]?=some (.lst (hs.map .str)):=(Fr.app M5 [Cell.lst []]).get0 gw5;right;erw[zfE g6,Qh,qX (M:=M5++[Cell.lst []]) (j:=(hs.length:Int)) ⋯,QH];refine Ok.bind (Ok.for (r:=FT.T.int) (xs:=rgI hs.length) (λk J M'=>∃(ss:List Hs) (o5 o6:Option FT.T),J=[some (.ref a),some (.ref w),some P,some (.ref M5.length),some (.int (6-((ss.map (·.asks.length)).sum:Nat))),o5,o6,none,none,none]/\M'[M5.length]?=some (.lst (ss.map hsT))/\ss.map (·.name)=hs.take k/\(∀h ∈ ss,h.asks.length<=3)/\(∀i h,ss[i]?=some h->∀q ∈ h.asks,AO (hs.drop (i+1)) pn q)/\(ss.map (·.asks.length)).sum<=6/\PO a M'/\Fr [a,M5.length] (M5++[Cell.lst []]) M') ⟨[],none,none,rfl,zP,rfl,(λh hh=>by cases hh),(λi h hh=>by simp at hh),by simp,p5.fr (Fr.app _ _) (by simp),Fr.refl _ _⟩ ?_) ?_
  .rintro k x J M6 hx ⟨ss,o5,o6,rfl,g3,hnm,ha3,hao,h6,p6,f6⟩;obtain⟨hk,rfl⟩:=zaS hx;have hsl:ss.length=k:=by have:=congrArg List.length hnm;rw[Qh,Qr]at this;symm
   unfold zf0;have gw6:M6[w]?=some (.lst (hs.map .str)):=f6.get g6 (by simp;have:=yC gw5;symm);have hP6:PV P pn a M6:=by
    rcases hP with h | ⟨w2,h1,h2,h3⟩
    .exact .inl h
    .exact .inr ⟨w2,h1,h2,f6.get ((Fr.app M5 [Cell.lst []]).get0 h3) (by simp;have:=yC h3;symm)⟩
   have lw:zy (.ref w) M6=some (hs.map .str):=by unfold zy;simp only[gw6]
   have cu:zc1 (hs.map FT.T.str) (some ((k:Int)+1)) none=(hs.drop (k+1)).map .str:=by rw[show(k:Int)+1=((k+1:Nat):Int) by symm,zfR]
   obtain⟨mo,hmo,hmo3,hmor⟩:∃mo:Nat,(if 6-(((ss.map (·.asks.length)).sum:Nat):Int)<3 then 6-(((ss.map (·.asks.length)).sum:Nat):Int)else 3)=(mo:Int)/\mo<=3/\mo+(ss.map (·.asks.length)).sum<=6:=by
    split
    .exact⟨(6-(((ss.map (·.asks.length)).sum:Nat):Int)).toNat,⋯,⋯,⋯⟩
    .exact⟨3,rfl,⋯,⋯⟩
   nofun;erw[lw,cu,zg9,hmo];refine Ok.bind (zqM p6 hP6 (by rw[length_drop];symm) hpl hmo3) ?_;rintro t M7 ⟨as,rfl,hal,haq,p7,f7⟩
   try simp_arith
   left;nofun;erw[Qh];left;have g37:M7[M5.length]?=some (.lst (ss.map hsT)):=f7.get g3 (by simp;symm);have gw7:M7[w]?=some (.lst (hs.map .str)):=f7.get gw6 (by simpa using wa);have hnk:hs[k]?=some (hs[k]'hk):=Q0 hk;have ix:ixT (.ref w) (.int (k:Int)) M7 = .ok (.str (hs[k]'hk)) M7:=by unfold ixT zhh;simp only[gw7,qu (f:=FT.T.str) hnk];rfl
   have ap:=qQ (t:=hsT ⟨hs[k]'hk,as⟩) g37 (by rw[Qh,sizeLine_eq];symm);rw[show ss.map hsT++[hsT ⟨hs[k]'hk,as⟩]=(ss++[(⟨hs[k]'hk,as⟩:Hs)]).map hsT from by simp,show hsT ⟨hs[k]'hk,as⟩ = .tup [.str (hs[k]'hk),.tup (as.map yz)]from rfl]at ap;have ix2:(zem (atI (hs.map FT.T.str) (k:Int)) M7) = .ok (.str (hs[k]'hk)) M7:=by rw[qu (f:=FT.T.str) hnk];rfl
   erw[qH g37,gw7,qu (f:=FT.T.str) hnk,ap];have sm:((ss++[(⟨hs[k]'hk,as⟩:Hs)]).map (·.asks.length)).sum=(ss.map (·.asks.length)).sum+as.length:=by simp
   refine Ok.ret ⟨_,rfl,ss++[⟨hs[k]'hk,as⟩],some (.int (k:Int)),some (.tup (as.map yz)),?_,get_set g37,?_,λh hh=>?_,λi h hi q hq=>?_,?_,p7.fr (Fr.set _ _ _) (by simp;symm),(f6.tr f7 (by simp)).tr (Fr.set _ _ _) (by simp)⟩
   .rw[sm,show(6:Int)-(((ss.map (·.asks.length)).sum+as.length:Nat):Int)=6-(((ss.map (·.asks.length)).sum:Nat):Int)-(as.length:Int) by symm]
   .rw[Qq,hnm,take_succ,hnk];rfl
   .rcases mem_append.mp hh with hh | hh
    .exact ha3 h hh
    .rw[QJ.mp hh];show as.length<=3;symm
   .rw[List.getElem?_append]at hi;split at hi
    .exact hao i h hi q hq
    .have:i=k:=by have:=(Qz.mp hi).1;rw[Qu]at this;symm
     subst this;rw[hsl,Qv]at hi;cases hi;exact haq q hq
   .rw[sm];symm
  rintro fl M6 ⟨J,rfl,ss,o5,o6,rfl,g3,hnm,ha3,hao,h6,p6,f6⟩;rw[zaR,take_length]at hnm;left;right
  try simp_arith
  left;have hP7:PV P pn a (M6++[Cell.lst []]):=by
   rcases hP with h | ⟨w2,h1,h2,h3⟩
   .exact .inl h
   .exact .inr ⟨w2,h1,h2,(Fr.app M6 [Cell.lst []]).get0 (f6.get ((Fr.app M5 [Cell.lst []]).get0 h3) (by simp;have:=yC h3;symm))⟩
  have l6:M5.length<M6.length:=yC g3;obtain⟨G,hG,hGk⟩:∃G,zcW P (M6++[Cell.lst []])=some (pn.map .str,G)/\∀M',Fr [a,M6.length] (M6++[Cell.lst []]) M'->zaV G M':=by
   rcases hP7 with rfl | ⟨w2,rfl,h2,h3⟩
   .exact⟨[],rfl,λM' f=>zbC M'⟩
   .refine⟨[(w2,pn.map .str)],?_,λM' f=>zju (f.get h3 ?_)⟩
    .unfold zcW;simp only[h3]
    .have:=hPl w2 rfl;simp;symm
  right;erw[zcb,zcD,hG];refine Ok.bind (Ok.forG (G:=G) (r:=FT.T.str) (xs:=pn) (λk J M'=>∃(us:List Pu) (o8 o9:Option FT.T),J=[some (.ref a),some (.ref w),some P,some (.ref M5.length),some (.int (6-((ss.map (·.asks.length)).sum:Nat))),o5,o6,some (.ref M6.length),o8,o9]/\M'[M6.length]?=some (.lst (us.map puT))/\us.map (·.name)=pn.take k/\(∀p ∈ us,(p.earns = "first"\/p.earns = "any")/\1<=p.per/\p.per<=9)/\PO a M'/\Fr [a,M6.length] (M6++[Cell.lst []]) M') (λi J M' h=>by obtain⟨_,_,_,_,_,_,_,_,f⟩:=h;exact hGk _ f) ⟨[],none,none,rfl,zP,rfl,(λh hh=>by cases hh),p6.fr (Fr.app _ _) (by simp),Fr.refl _ _⟩ ?_) ?_
  .rintro k x J M7 hx ⟨us,o8,o9,rfl,g7,hun,hpe,p7,f7⟩;have hk:=(Qz.mp hx).1;have hul:us.length=k:=by have:=congrArg List.length hun;rw[Qh,Qr]at this;symm
   unfold zfZ;nofun;simp_arith;refine Ok.bind (zG p7 ∅ ∅) ?_;rintro t M8 ⟨z,rfl,z0,z1,p8,f8⟩;obtain⟨ea,hea,hat⟩:=zoT (xs:=["first","any"]) z0 (by simpa using z1);simp only[QG,map_nil]at hat;have hea:ea = "first"\/ea = "any":=by simpa using hea
   erw[hat];left;have g8:M8[M6.length]?=some (.lst (us.map puT)):=f8.get g7 (by simp;symm);erw[qH g8];refine Ok.bind (zG p8 ∅ ∅) ?_;rintro t M9 ⟨y,rfl,y0,y1,p9,f9⟩;simp_arith;refine Ok.bind (zG p9 ∅ ∅) ?_;rintro t M10 ⟨u,rfl,u0,u1,p10,f10⟩;obtain⟨pr,hpr,hp1,hp9⟩:∃pr:Int,atI [FT.T.int 1,.int 1,.int 2,.int 3,.int (1+y)] u=some (.int pr)/\1<=pr/\pr<=9:=by
    have:u=0\/u=1\/u=2\/u=3\/u=4:=by symm
    rcases this with rfl | rfl | rfl | rfl | rfl
    .exact⟨1,rfl,by decide,by decide⟩
    .exact⟨1,rfl,by decide,by decide⟩
    .exact⟨2,rfl,by decide,by decide⟩
    .exact⟨3,rfl,by decide,by decide⟩
    .exact⟨1+y,rfl,⋯,⋯⟩
   have g10:M10[M6.length]?=some (.lst (us.map puT)):=f10.get (f9.get g8 (by simp;symm)) (by simp;symm);have ap:=qQ (t:=puT ⟨x,ea,pr⟩) g10 (by rw[Qh,sizeLine_eq];symm);rw[show us.map puT++[puT ⟨x,ea,pr⟩]=(us++[(⟨x,ea,pr⟩:Pu)]).map puT from by simp,show puT ⟨x,ea,pr⟩ = .tup [.str x,.str ea,.int pr]from rfl]at ap;erw[hpr,ap];refine Ok.ret ⟨_,rfl,us++[⟨x,ea,pr⟩],_,_,rfl,get_set g10,by rw[Qq,hun,take_succ,hx];rfl,λp hp=>?_,p10.fr (Fr.set _ _ _) (by simp;symm),(((f7.tr f8 (by simp)).tr f9 (by simp)).tr f10 (by simp)).tr (Fr.set _ _ _) (by simp)⟩;rcases mem_append.mp hp with hp | hp
   .exact hpe p hp
   .rw[QJ.mp hp];exact⟨hea,hp1,hp9⟩
  rintro fl M7 ⟨J,rfl,us,o8,o9,rfl,g7,hun,hpe,p7,f7⟩;rw[take_length]at hun;left;have g37:M7[M5.length]?=some (.lst (ss.map hsT)):=f7.get ((Fr.app M6 [Cell.lst []]).get0 g3) (by simp;symm);erw[zdK g37,zdK g7];have hsn:ss.length=hs.length:=by have:=congrArg List.length hnm;rwa [Qh]at this
  have hun2:us.length=pn.length:=by have:=congrArg List.length hun;rwa [Qh]at this
  refine Ok.ret ⟨⟨ss,us⟩,rfl,⟨by rw[hnm];exact nmh,by show 1<=ss.length;symm,by show ss.length<=4;symm,by rw[hun];exact nmP,by show us.length<=2;symm,hpe,ha3,by rw[hnm,hun];exact hao,h6⟩,p7,?_⟩;refine(fr5.tr (Fr.app M5 [Cell.lst []]) (by simp)).tr (f6.tr (((Fr.app M6 [Cell.lst []]).mono (S:=[a])).tr f7 (by simp)) ?_) ?_
  all_goals simp
  all_goals symm
 by_cases hc:c=0
 .have lw:zy (.ref w) M5=some (hs.map .str):=by unfold zy;simp only[gw5]
  have rv:zgZ (.ref w) (some (-1)) M5 = .ok (.lst (hs.reverse.map .str)) M5:=by show(if(some (-1:Int))=some (-1)then rvX (.ref w) M5 else .bad)=_;rw[QA rfl];unfold rvX;simp only[lw];rw[List.map_reverse]
  have ll:zy (.lst (hs.reverse.map FT.T.str)) M5=some (hs.reverse.map .str):=rfl;have cu:=zno FT.T.str hs.reverse ps.length;subst hc;erw[eRv,rv,zfE gw5',Qh,ll,cu];exact key _ (hs.reverse.take ps.length) (.inl rfl) (nmh.rev.sub (List.take_sublist _ _)) (by rw[Qr];symm) (λw2 z=>by cases z) _ hX
 .erw[show(c==0)=false by simpa using hc];exact key _ ps (.inr ⟨w',rfl,wa',gw5'⟩) nmp ⋯ (λw2 z=>by cases z;exact yC gw5') _ hX
end
theorem zeU(nd:ys.Nodup){j:Nat}{s:Str}(h:ys[j]?=some s):∀k,zcv s ys k=some (k+j):=by
 induction ys generalizing j with
 |nil=>simp at h|cons y ys ih=>
  intro k;have nd':=QK.mp nd;unfold zcv;cases j with
  |zero=>simp at h;rw[h];simp
  |succ j=>
   simp at h;have hne:¬(y==s)=true:=λz=>by
    have:y=s:=by simpa using z
    exact nd'.1 (this ▸ Qa h)
   rw[QB hne,ih nd'.2 h (k+1)];congr 1;symm
theorem zje{ys:List Str}(nd:ys.Nodup){k:Nat}{s:Str}(h:s ∈ ys.drop k):∃j,k<=j/\ys[j]?=some s:=by obtain⟨i,hi⟩:=mem_iff_getElem?.mp h;rw[List.getElem?_drop]at hi;exact⟨k+i,⋯,hi⟩
theorem GN.wn(h:GN n):WN n:=by
 refine⟨h.h4,h.h1,by have:=h.p2;symm,λx hx=>by have:=h.a3 x hx;symm,λi a ha=>?_,λp hp=>by have:=h.pe p hp;symm⟩;unfold Net.asks at ha;cases e:n.hs[i]? with
 |none=>rw[e]at ha;cases ha|some x=>
  rw[e]at ha;have ao:=h.ao i x e a ha;obtain⟨j,hj,ej⟩:=zje h.hn.nd ao.to;have q:=zeU h.hn.nd ej 0;rw[QL]at q;have qx:n.hix a.to=j:=by unfold Net.hix;rw[q];rfl
  refine⟨by rw[q,qx],⋯,λs hs=>?_,ao.t0⟩;obtain⟨k,ek⟩:=mem_iff_getElem?.mp (ao.pu s hs);have q:=zeU h.pn.nd ek 0;unfold Net.pix;rw[q];rfl
theorem zrq(gn:GN n){k:Nat}{p:Pu}(hk:n.ps[k]?=some p):n.pix p.name=k:=by
 have:(n.ps.map (·.name))[k]?=some p.name:=by rw[Qb,hk];rfl
 unfold Net.pix;rw[zeU gn.pn.nd this 0,QL];rfl
theorem zpA(gn:GN n){h:Nat}{a:Ask}(ha:a ∈ n.asks h){k:Nat}{p:Pu}(hk:n.ps[k]?=some p):n.pof a=some k ↔ a.purse=some p.name:=by
 unfold Net.pof;constructor
 .intro e;cases q:a.purse with
  |none=>rw[q]at e;cases e|some s=>
   rw[q]at e;have e:n.pix s=k:=Qd e;unfold Net.asks at ha;cases eh:n.hs[h]? with
   |none=>rw[eh]at ha;cases ha|some x=>rw[eh]at ha;obtain⟨j,hj⟩:=mem_iff_getElem?.mp ((gn.ao h x eh a ha).pu s q);have:=zeU gn.pn.nd hj 0;unfold Net.pix at e;rw[this,QL]at e;have e:j=k:=e;subst e;rw[Qb,hk]at hj;exact hj.symm
 .intro e;rw[e];exact congrArg some (zrq gn hk)
section
theorem _root_.FT.Ok.ifB{c:FT.Ev->Mem->Out Bool}{p q:FT.Ev->Mem->Out Fl}{J:FT.Ev}{M:Mem}{Q:Fl->Mem->Prop}(b:Bool)(hc:c J M = .ok b M)(h:Ok (if b=true then p J M else q J M) Q):Ok (sIf c p q J M) Q:=by unfold sIf;rw[hc];exact h
def _root_.FT.Ok.ifP{c:FT.Ev->Mem->Out Bool}{p q:FT.Ev->Mem->Out Fl}{J:FT.Ev}{M:Mem}{Q:Fl->Mem->Prop}(P:Bool->Mem->Prop)(h:Ok (c J M) P)(g:∀b M1,P b M1->Ok (if b=true then p J M1 else q J M1) Q):Ok (sIf c p q J M) Q:=Ok.bind h g
end
inductive Slot where
 |w | a | d | p | q
 |e (i:Nat)
 |k (k:Nat)
 |g (k:Nat)
 |c (k:Nat)
deriving DecidableEq
noncomputable def Net.per(n:Net)(k:Nat):Nat:=(n.ps.getD k ⟨"","",1⟩).per.toNat
noncomputable def z3(u:List Nat)(m:Nat):List (List Nat):=(List.range (u.length / m)).map λj=>(u.drop (j*m)).take m
noncomputable def qK(u:List Nat)(m:Nat):List Nat:=u.drop (u.length / m*m)
noncomputable def Slot.ok(n:Net)(R:Run):Slot->Prop
 |.e i=>i<R.es.length|.k j=>j<n.ps.length|.g j=>j<n.ps.length|.c j=>j<n.ps.length|_=>True
noncomputable def tuL(c:List Nat):FT.T:=.tup (c.map nT)
def ctn(n:Net)(ad:Slot->Nat)(R:Run)(D:List (Key × FT.T)):Slot->Cell
 |.w=>.lst [.ref (ad .a),.ref (ad .d),.ref (ad .p),.ref (ad .q)]|.a=>.lst ((List.range R.es.length).map λi=>.ref (ad (.e i)))|.d=>.dic D|.p=>.lst ((List.range n.ps.length).map λj=>.ref (ad (.k j)))|.q=>.lst (R.pays.map zbA)|.e i=>.lst [nT (R.er i).house,clT (R.er i).caller,phT (R.er i).ph]|.k j=>.lst [.ref (ad (.g j)),.ref (ad (.c j)),nT (R.taken.getD j 0)]|.g j=>.lst ((qK (R.puts.getD j []) (n.per j)).map nT)|.c j=>.lst ((z3 (R.puts.getD j []) (n.per j)).map tuL)
noncomputable def zcd(R:Run)(i:Nat):Bool:=((R.es[i]?).map (·.lost)).getD false
structure Wd (n:Net) (ad:Slot->Nat) (M:Mem) (R:Run) (D:List (Key × FT.T)):Prop where
 ho:∀s,s.ok n R->M[ad s]?=some (ctn n ad R D s)
 inj:∀s t,s.ok n R->t.ok n R->ad s=ad t->s=t
 dl:∀i:Nat,(qI D (.inl (i:Int))).isSome=zcd R i
 dk:D.length<=R.came
 pl:R.puts.length=n.ps.length
 tl:R.taken.length=n.ps.length
structure Wf2 (n:Net) (ad:Slot->Nat) (M:Mem) (R:Run) (ad':Slot->Nat) (M':Mem) (R':Run):Prop where
 le:M.length<=M'.length
 kp:∀i,i<M.length->(∀s,s.ok n R->ad s ≠ i)->M'[i]?=M[i]?
 nw:∀s,s.ok n R'->(s.ok n R/\ad' s=ad s)\/M.length<=ad' s
 ww:ad' .w=ad .w
def Wst(n:Net)(ad:Slot->Nat)(M:Mem)(R R':Run)(M':Mem):Prop:=∃ad' D',Wd n ad' M' R' D'/\Wf2 n ad M R ad' M' R'
section
def Wf2.refl:Wf2 n ad M R ad M R:=⟨Q3 _,λ_ _ _=>rfl,λ_ h=>.inl ⟨h,rfl⟩,rfl⟩
theorem Wf2.trans(h:Wf2 n ad M R ad' M' R')(g:Wf2 n ad' M' R' ad'' M'' R''):Wf2 n ad M R ad'' M'' R'':=by
 refine⟨Qj h.le g.le,λi hi ho=>?_,λs hs=>?_,g.ww.trans h.ww⟩
 .rw[g.kp i (Q5 hi h.le) λs hs z=>?_,h.kp i hi ho];rcases h.nw s hs with⟨h1,h2⟩ | h2
  .exact ho s h1 (h2.symm.trans z)
  .symm
 .rcases g.nw s hs with⟨h1,h2⟩ | h2
  .rcases h.nw s h1 with⟨h3,h4⟩ | h4
   .exact .inl ⟨h3,h2.trans h4⟩
   .exact .inr ⋯
  .exact .inr (Qj h.le h2)
theorem Wst.trans'{R2:Run}{M1 M2:Mem}{D1:List (Key × FT.T)}(f:Wf2 n ad M R ad1 M1 R1)(h:Wst n ad1 M1 R1 R2 M2):Wst n ad M R R2 M2:=by obtain⟨ad2,D2,h1,h2⟩:=h;exact⟨ad2,D2,h1,f.trans h2⟩
theorem Wd.write(h:Wd n ad M R D){s:Slot}{c:Cell}{R':Run}{D':List (Key × FT.T)}(hs:s.ok n R)(hR:R'.es.length=R.es.length)(hc:ctn n ad R' D' s=c)(he:∀t,t ≠ s->ctn n ad R' D' t=ctn n ad R D t)
  (dl:∀i:Nat,(qI D' (.inl (i:Int))).isSome=zcd R' i) (dk:D'.length<=R'.came) (pl:R'.puts.length=R.puts.length) (tl:R'.taken.length=R.taken.length):Wd n ad (M.set (ad s) c) R' D'/\Wf2 n ad M R ad (M.set (ad s) c) R':=by
 have ok:∀t:Slot,t.ok n R' ↔ t.ok n R:=λt=>by cases t<;>simp[Slot.ok,hR]
 have hl:=yC (h.ho s hs);refine⟨⟨λt ht=>?_,λt u ht hu e=>h.inj t u ((ok t).mp ht) ((ok u).mp hu) e,dl,dk,by rw[pl];exact h.pl,by rw[tl];exact h.tl⟩,⟨by simp,λi _ ho=>?_,λt ht=>.inl ⟨(ok t).mp ht,rfl⟩,rfl⟩⟩
 .by_cases z:t=s
  .subst z;rw[Qc,QA rfl,QA hl,hc]
  .rw[Qc,QB λy=>z (h.inj s t hs ((ok t).mp ht) y).symm,he t z];exact h.ho t ((ok t).mp ht)
 .rw[Qc,QB (ho s hs)]
def Wd.at_w(h:Wd n ad M R D):M[ad .w]?=some (.lst [.ref (ad .a),.ref (ad .d),.ref (ad .p),.ref (ad .q)]):=h.ho .w trivial
def Wd.at_a(h:Wd n ad M R D):M[ad .a]?=some (.lst ((List.range R.es.length).map λi=>.ref (ad (.e i)))):=h.ho .a trivial
def Wd.at_d(h:Wd n ad M R D):M[ad .d]?=some (.dic D):=h.ho .d trivial
def Wd.at_p(h:Wd n ad M R D):M[ad .p]?=some (.lst ((List.range n.ps.length).map λj=>.ref (ad (.k j)))):=h.ho .p trivial
def Wd.at_q(h:Wd n ad M R D):M[ad .q]?=some (.lst (R.pays.map zbA)):=h.ho .q trivial
theorem Wd.at_e(h:Wd n ad M R D){i:Nat}{e:Er}(he:R.es[i]?=some e):M[ad (.e i)]?=some (.lst [nT e.house,clT e.caller,phT e.ph]):=by have:=h.ho (.e i) (Qz.mp he).1;simp only[ctn]at this;rw[qZ he]at this;exact this
def Wd.at_k(h:Wd n ad M R D){j:Nat}(hj:j<n.ps.length):M[ad (.k j)]?=some (.lst [.ref (ad (.g j)),.ref (ad (.c j)),nT (R.taken.getD j 0)]):=h.ho (.k j) hj
def Wd.at_g(h:Wd n ad M R D){j:Nat}(hj:j<n.ps.length):M[ad (.g j)]?=some (.lst ((qK (R.puts.getD j []) (n.per j)).map nT)):=h.ho (.g j) hj
def Wd.at_c(h:Wd n ad M R D){j:Nat}(hj:j<n.ps.length):M[ad (.c j)]?=some (.lst ((z3 (R.puts.getD j []) (n.per j)).map tuL)):=h.ho (.c j) hj
def y9{f:Nat->FT.T}(h:i<N):atI ((List.range N).map f) (i:Int)=some (f i):=qu (getElem?_range h)
theorem zo2{R:Run}(h:j ≠ i):(R.setE i e').er j=R.er j:=by unfold Run.er;rw[Q7,Q7,zdT h]
def zlg{R:Run}(he:R.es[i]?=some e):(R.setE i e').er i=e':=qZ (zcY he e')
theorem Wd.setE(h:Wd n ad M R D){i:Nat}{e:Er}(he:R.es[i]?=some e)(e':Er)(h1:e'.house=e.house)(h2:e'.caller=e.caller)(h3:e'.lost=e.lost):Wd n ad (M.set (ad (.e i)) (.lst [nT e.house,clT e.caller,phT e'.ph])) (R.setE i e') D/\Wf2 n ad M R ad (M.set (ad (.e i)) (.lst [nT e.house,clT e.caller,phT e'.ph])) (R.setE i e'):=by
 have hi:=(Qz.mp he).1;have hl:(R.setE i e').es.length=R.es.length:=length_set ..;refine h.write (s:=.e i) hi hl ?_ (λt ht=>?_) (λj=>?_) h.dk rfl rfl
 .simp only[ctn];rw[zlg he,h1,h2]
 .cases t with|a=>simp only[ctn];rw[hl]|e j=>simp only[ctn];rw[zo2 λz=>ht (by rw[z])]|_=>rfl
 .rw[h.dl j];unfold zcd
  by_cases z:j=i
  .subst z;rw[zcY he,he];exact h3.symm
  .rw[zdT z]
theorem Wd.pushE(h:Wd n ad M R D)(hh:Nat)(c:Option (Nat × Nat × Nat)):Wd n (λs=>if s = .e R.es.length then M.length else ad s) ((M++[Cell.lst [nT hh,clT c,.tup [.str "works"]]]).set (ad .a) (.lst (((List.range R.es.length).map λi=>FT.T.ref (ad (.e i)))++[.ref M.length]))) (R.push (qr hh c)) D /\
  Wf2 n ad M R (λs=>if s = .e R.es.length then M.length else ad s) ((M++[Cell.lst [nT hh,clT c,.tup [.str "works"]]]).set (ad .a) (.lst (((List.range R.es.length).map λi=>FT.T.ref (ad (.e i)))++[.ref M.length]))) (R.push (qr hh c)):=by
 have lt:∀s,s.ok n R->ad s<M.length:=λs hs=>yC (h.ho s hs);have hl:(R.push (qr hh c)).es.length=R.es.length+1:=by simp[Run.push]
 have ok:∀s:Slot,s.ok n (R.push (qr hh c))->s = .e R.es.length\/(s ≠ .e R.es.length/\s.ok n R):=λs hs=>by
  cases s with
  |e i=>
   have hs:i<(R.push (qr hh c)).es.length:=hs
   by_cases z:i=R.es.length
   .exact .inl (by rw[z])
   .exact .inr ⟨λy=>z (Slot.e.inj y),show i<R.es.length by symm⟩
  |_=>exact .inr ⟨(λy=>by cases y),hs⟩
 have old:∀i,i<R.es.length->(R.push (qr hh c)).er i=R.er i:=λi hi=>by unfold Run.er;rw[Q7,Q7];show((R.es++_)[i]?).getD _=_;rw[Q6 hi]
 have la:=lt .a trivial;refine⟨⟨λs hs=>?_,λs t hs ht e=>?_,λi=>?_,h.dk,h.pl,h.tl⟩,⟨by simp,λi hi ho=>?_,λs hs=>?_,QB (λy=>by cases y)⟩⟩
 .rcases ok s hs with rfl | ⟨hne,hs'⟩
  .rw[QA rfl,Qc,QB ⋯,Q8 (Q3 _),Qv];simp only[ctn];rw[show(R.push (qr hh c)).er R.es.length=qr hh c from qZ (zbg R _)];rfl
  .rw[QB hne];have hlt:=lt s hs'
   by_cases z:s = .a
   .subst z;rw[Qc,QA rfl,QA (by simp;symm)];simp only[ctn];rw[hl,range_succ,Qq,List.map_singleton,QA rfl];congr 3;refine map_congr_left λi hi=>?_;have:=mem_range.mp hi;rw[QB λy=>by have:=Slot.e.inj y;symm]
   .rw[Qc,QB λy=>z (h.inj .a s trivial hs' y).symm,Q6 hlt,h.ho s hs'];cases s with|e i=>simp only[ctn];rw[old i hs']|a=>exact absurd rfl z|w=>rfl|d=>rfl|p=>rfl|q=>rfl|k j=>rfl|g j=>rfl|c j=>rfl
 .rcases ok s hs with rfl | ⟨hne,hs'⟩
  .rcases ok t ht with rfl | ⟨hnt,ht'⟩
   .rfl
   .rw[QA rfl,QB hnt]at e;have:=lt t ht';symm
  .rcases ok t ht with rfl | ⟨hnt,ht'⟩
   .rw[QB hne,QA rfl]at e;have:=lt s hs';symm
   .rw[QB hne,QB hnt]at e;exact h.inj s t hs' ht' e
 .rw[h.dl i];unfold zcd;show _=(((R.es++[qr hh c])[i]?).map (·.lost)).getD false
  by_cases z:i<R.es.length
  .rw[Q6 z]
  .rw[getElem?_eq_none ⋯]
   by_cases y:i=R.es.length
   .subst y;rw[List.getElem?_concat_length];rfl
   .rw[getElem?_eq_none (by rw[Qn,Qu];symm)]
 .rw[Qc,QB (ho .a trivial),Q6 hi]
 .rcases ok s hs with rfl | ⟨hne,hs'⟩
  .exact .inr (by rw[QA rfl];exact Q3 _)
  .exact .inl ⟨hs',QB hne⟩
end
theorem zsS(hm:1<=m)(h:l % m+1 ≠ m):(l+1) / m=l / m:=by
 have h1:=Nat.mod_lt l (show 0<m by symm);have h2:=Nat.div_add_mod l m;refine Nat.div_eq_of_lt_le ?_ ?_
 .rw[Nat.mul_comm];symm
 .rw[Nat.succ_mul,Nat.mul_comm];symm
theorem zsT(hm:1<=m)(h:l % m+1=m):(l+1) / m=l / m+1:=by
 have h2:=Nat.div_add_mod l m;have e:l+1=m*(l / m+1):=by rw[Nat.mul_succ];symm
 rw[e,Nat.mul_div_cancel_left _ ⋯]
theorem zhg(u:List Nat)(m:Nat):(qK u m).length=u.length % m:=by unfold qK;rw[length_drop];have:=Nat.div_add_mod u.length m;rw[Nat.mul_comm]at this;symm
theorem zqn(hm:1<=m)(h:u.length % m+1 ≠ m):qK (u++[x]) m=qK u m++[x]/\z3 (u++[x]) m=z3 u m:=by have hq:=Nat.div_mul_le_self u.length m;unfold qK z3;rw[Qn,Qu,zsS hm h];refine⟨List.drop_append_of_le_length hq,map_congr_left λj hj=>?_⟩;have hj:=mem_range.mp hj;have h1:(j+1)*m<=u.length:=(Nat.le_div_iff_mul_le ⋯).mp hj;rw[Nat.succ_mul]at h1;rw[List.drop_append_of_le_length ⋯,List.take_append_of_le_length (by rw[length_drop];symm)]
theorem zoG(hm:1<=m)(h:u.length % m+1=m):qK (u++[x]) m=[]/\z3 (u++[x]) m=z3 u m++[qK u m++[x]]:=by
 have hq:=Nat.div_mul_le_self u.length m;have hg:=zhg u m;have h2:=Nat.div_add_mod u.length m;rw[Nat.mul_comm]at h2;unfold qK at hg;unfold qK z3;rw[Qn,Qu,zsT hm h];refine⟨List.drop_of_length_le (by rw[Qn,Qu,Nat.succ_mul];symm),?_⟩;rw[range_succ,Qq,List.map_singleton];congr 1
 .refine map_congr_left λj hj=>?_;have hj:=mem_range.mp hj;have h1:(j+1)*m<=u.length:=(Nat.le_div_iff_mul_le ⋯).mp hj;rw[Nat.succ_mul]at h1;rw[List.drop_append_of_le_length ⋯,List.take_append_of_le_length (by rw[length_drop];symm)]
 .rw[List.drop_append_of_le_length hq,take_of_length_le];rw[Qn,Qu];symm
section
variable    {R:Run} 
theorem zcS(hk:k<R.puts.length)(u:List Nat):(R.setP k u).puts.getD j []=if j=k then u else R.puts.getD j []:=by
 show(R.puts.set k u).getD j []=_;rw[Q7,Q7,Qc]
 by_cases h:k=j
 .rw[QA h,QA hk,QA h.symm];rfl
 .rw[QB h,QB (Ne.symm h)]
theorem Wd.giv(h:Wd n ad M R D){k x:Nat}(hk:k<n.ps.length)(hm:1<=n.per k)(hf:(R.puts.getD k []).length % n.per k+1 ≠ n.per k):
  Wd n ad (M.set (ad (.g k)) (.lst ((qK (R.puts.getD k []) (n.per k)++[x]).map nT))) (R.setP k (R.puts.getD k []++[x])) D/\Wf2 n ad M R ad (M.set (ad (.g k)) (.lst ((qK (R.puts.getD k []) (n.per k)++[x]).map nT))) (R.setP k (R.puts.getD k []++[x])):=by
 have hk':k<R.puts.length:=by rw[h.pl];exact hk
 obtain⟨e1,e2⟩:=zqn (x:=x) hm hf;refine h.write (s:=.g k) hk rfl ?_ (λt ht=>?_) (λi=>h.dl i) h.dk (length_set ..) rfl
 .simp only[ctn];rw[zcS hk',QA rfl,e1]
 .cases t with
  |g j=>simp only[ctn];rw[zcS hk',QB λz=>ht (by rw[z])]
  |c j=>
   simp only[ctn];rw[zcS hk'];split
   .rename_i z;rw[z,e2]
   .rfl
  |_=>rfl
theorem Wd.coin(h:Wd n ad M R D){k x:Nat}(hk:k<n.ps.length)(hm:1<=n.per k)(hf:(R.puts.getD k []).length % n.per k+1=n.per k){M1:Mem}
  (hM:M1=(((M.set (ad (.g k)) (.lst ((qK (R.puts.getD k []) (n.per k)++[x]).map nT))).set (ad (.c k)) (.lst ((z3 (R.puts.getD k []) (n.per k)++[qK (R.puts.getD k []) (n.per k)++[x]]).map tuL)))++[Cell.lst []]).set (ad (.k k)) (.lst [.ref M.length,.ref (ad (.c k)),nT (R.taken.getD k 0)])) :
  Wst n ad M R (R.setP k (R.puts.getD k []++[x])) M1:=by
 have hk':k<R.puts.length:=by rw[h.pl];exact hk
 obtain⟨e1,e2⟩:=zoG (x:=x) hm hf;have lt:∀s,s.ok n R->ad s<M.length:=λs hs=>yC (h.ho s hs);have hlen:M1.length=M.length+1:=by rw[hM];simp
 have ok:∀s:Slot,s.ok n (R.setP k (R.puts.getD k []++[x])) ↔ s.ok n R:=λs=>by cases s<;>exact Iff.rfl
 have old:∀i,i<M.length->M1[i]?=if ad (.k k)=i then some (.lst [.ref M.length,.ref (ad (.c k)),nT (R.taken.getD k 0)])else if ad (.c k)=i then some (.lst ((z3 (R.puts.getD k []) (n.per k)++[qK (R.puts.getD k []) (n.per k)++[x]]).map tuL))else if ad (.g k)=i then some (.lst ((qK (R.puts.getD k []) (n.per k)++[x]).map nT))else M[i]?:=λi hi=>by
  rw[hM,Qc];split
  .rw[QA (by simp;symm)]
  .rw[Q6 (by simp;exact hi),Qc];split
   .rw[QA (by simp;symm)]
   .rw[Qc];split
    .rw[QA ⋯]
    .rfl
 have new:M1[M.length]?=some (.lst []):=by have:=lt (.k k) hk;rw[hM,Qc,QB ⋯,Q8 (by simp)];simp
 refine⟨λs=>if s = .g k then M.length else ad s,D,⟨λs hs=>?_,λs t hs ht e=>?_,λi=>h.dl i,h.dk,by rw[←h.pl];exact length_set ..,h.tl⟩,⟨⋯,λi hi ho=>?_,λs hs=>?_,QB (λy=>by cases y)⟩⟩
 .replace hs:=(ok s).mp hs;have hl:=lt s hs
  by_cases z:s = .g k
  .subst z;rw[QA rfl,new];simp only[ctn];rw[zcS hk',QA rfl,e1];rfl
  .rw[QB z,old _ hl]
   by_cases y1:s = .k k
   .subst y1;rw[QA rfl];simp only[ctn];rw[QA trivial,QB (λy=>by cases y)];rfl
   rw[QB λy=>y1 (h.inj (.k k) _ hk hs y).symm]
   by_cases y2:s = .c k
   .subst y2;rw[QA rfl];simp only[ctn];rw[zcS hk',QA rfl,e2]
   rw[QB λy=>y2 (h.inj (.c k) _ hk hs y).symm,QB λy=>z (h.inj (.g k) _ hk hs y).symm,h.ho s hs];cases s with
   |g j=>simp only[ctn];rw[zcS hk',QB λy=>z (by rw[y])]
   |c j=>simp only[ctn];rw[zcS hk',QB λy=>y2 (by rw[y])]
   |k j=>simp only[ctn];rw[QB λy=>y1 (by rw[Slot.g.inj y]),QB (λy=>by cases y)];rfl
   |_=>rfl
 .replace hs:=(ok s).mp hs;replace ht:=(ok t).mp ht;have h1:=lt s hs;have h2:=lt t ht
  by_cases z:s = .g k
  .by_cases y:t = .g k
   .rw[z,y]
   .rw[QA z,QB y]at e;symm
  .by_cases y:t = .g k
   .rw[QB z,QA y]at e;symm
   .rw[QB z,QB y]at e;exact h.inj s t hs ht e
 .rw[old i hi,QB (ho (.k k) hk),QB (ho (.c k) hk),QB (ho (.g k) hk)]
 .by_cases z:s = .g k
  .exact .inr (by rw[QA z];exact Q3 _)
  .exact .inl ⟨(ok s).mp hs,QB z⟩
end
theorem zhm(gn:GN n){h:Nat}{a:Ask}(ha:a ∈ n.asks h){k:Nat}{p:Pu}(hk:n.ps[k]?=some p)(M:Mem):eqA (.str p.name) (opS a.purse) M = .ok (.bl (decide (n.pof a=some k))) M:=by
 rw[show decide (n.pof a=some k)=decide (a.purse=some p.name)from decide_eq_decide.mpr (zpA gn ha hk)];cases q:a.purse with
 |none=>rfl|some s=>
  show eqA (.str p.name) (.str s) M=_;rw[zdd];congr 2
  by_cases z:s=p.name
  .rw[z];simp
  .have z2:¬(some s=some p.name):=λy=>z (Qd y);rw[Qx z2]
   simpa using λy=>z y.symm
section
theorem zmC(wn:WN n){k:Nat}(hk:k<n.ps.length):(n.per k:Int)=n.ps[k].per/\1<=n.per k/\n.per k<=1000000:=by have h1:=wn.pr n.ps[k] (getElem_mem _);unfold Net.per;rw[Q7,Q0 hk];show((n.ps[k].per.toNat:Nat):Int)=_/\1<=n.ps[k].per.toNat/\n.ps[k].per.toNat<=_;symm
theorem znP(R:Run)(n:Net)(a:Ask)(tr x:Nat){k:Nat}(q:n.pof a=some k):R.share n a tr x=if tr=1\/n.any k=true then R.setP k (R.puts.getD k []++[x])else R:=by unfold Run.share;rw[q]
theorem ziQ(gn:GN n)(h:Wd n ad M R D){B:Nat}(sb:SB B R)(hB:B<90000){hh:Nat}{a:Ask}(ha:a ∈ n.asks hh)(tr x:Nat){f:Bool}(hf:f=true ↔ tr=1):
  Ok (zdc I O [yg n,.ref (ad .w),yz a,.bl f,nT x] M) λt M'=>t = .non/\Wst n ad M R (R.share n a tr x) M':=by
 have wn:=gn.wn;refine zA rfl ?_;unfold zhS;rw[show yg n = .tup [.tup (n.hs.map hsT),.tup (n.ps.map puT)]from rfl,show yz a = .tup [.str a.to,.int a.tries,opS a.purse,.str a.word,.bl a.hears,.bl a.sure]from rfl];have rg:∀M,zbz [.int (n.ps.length:Int)] M = .ok ((rgI n.ps.length).map .int) M:=λM=>qX (j:=(n.ps.length:Int)) (by have:=wn.pl;symm);erw[Qh,rg,QH];refine Ok.bind (Ok.for (r:=FT.T.int) (xs:=rgI n.ps.length) (λi J M'=>∃o5 o6 o7 o8 o9,J=[some (.tup [.tup (n.hs.map hsT),.tup (n.ps.map puT)]),some (.ref (ad .w)),some (.tup [.str a.to,.int a.tries,opS a.purse,.str a.word,.bl a.hears,.bl a.sure]),some (.bl f),some (nT x),o5,o6,o7,o8,o9]/\Wst n ad M R (if(∃k,k<i/\n.pof a=some k)then R.share n a tr x else R) M') ⟨none,none,none,none,none,rfl,by rw[QB λz=>by obtain⟨k,hk,_⟩:=z;symm];exact⟨ad,D,h,.refl⟩⟩ ?_) ?_
 .rintro i y J M1 hy ⟨o5,o6,o7,o8,o9,rfl,ws⟩;obtain⟨hi,rfl⟩:=zaS hy;have hps:n.ps[i]?=some n.ps[i]:=Q0 hi;have hpa:atI (n.ps.map puT) (i:Int)=some (.tup [.str n.ps[i].name,.str n.ps[i].earns,.int n.ps[i].per]):=qu (f:=puT) hps;have en:=zhm gn ha hps;have any:=any_eq (n:=n) hps;simp_arith;unfold zgK;nofun;erw[hpa];left
  by_cases d:n.pof a=some i
  .have d':decide (n.pof a=some i)=true:=Qw d;rw[QB (λz=>by obtain⟨k,hk,e⟩:=z;rw[d]at e;cases e;symm)]at ws;rw[QA ⟨i,Nat.lt_succ_self _,d⟩,znP R n a tr x d]
   by_cases c:tr=1\/n.any i=true
   .rw[QA c];obtain⟨ad1,D1,w1,f1⟩:=ws;rw[←f1.ww];refine Ok.ifB true ?_ ?_
    .by_cases t1:tr=1
     .have:f=true:=hf.mpr t1;erw[en,d',this]
     .have f0:f=false:=by cases z:f with|false=>rfl|true=>exact absurd (hf.mp z) t1
      have qa:n.any i=true:=c.resolve_left t1;erw[en,d',f0,any,qa]
    .rw[QA rfl];obtain⟨pe,pm1,pm2⟩:=zmC wn hi;rw[←pe];have ga:=w1.at_g hi;have ka:=w1.at_k hi;have hul:(qK (R.puts.getD i []) (n.per i)).length<90000:=by
      rw[zhg];have:=Nat.mod_lt (R.puts.getD i []).length (show 0<n.per i by symm);have:=Nat.mod_le (R.puts.getD i []).length (n.per i);have hb:(R.puts.getD i []).length<=B:=by
       have hp:i<R.puts.length:=by rw[w1.pl];exact hi
       rw[Q7,Q0 hp];exact sb.pu _ (getElem_mem _)
      symm
     have ap:=qQ (t:=nT x) ga (by rw[Qh,sizeLine_eq];symm);rw[show(qK (R.puts.getD i []) (n.per i)).map nT++[nT x]=(qK (R.puts.getD i []) (n.per i)++[x]).map nT from by simp]at ap;have ne1:ad1 (.g i) ≠ ad1 (.k i):=λz=>by have:=w1.inj (.g i) (.k i) hi hi z;cases this
     have ne2:ad1 (.g i) ≠ ad1 (.c i):=λz=>by have:=w1.inj (.g i) (.c i) hi hi z;cases this
     have ne3:ad1 (.c i) ≠ ad1 (.k i):=λz=>by have:=w1.inj (.c i) (.k i) hi hi z;cases this
     nofun;erw[w1.at_w,w1.at_p,y9 hi];left;nofun;erw[ka,qH ga,ap];left;have kb:(M1.set (ad1 (.g i)) (.lst ((qK (R.puts.getD i []) (n.per i)++[x]).map nT)))[ad1 (.k i)]?=some (.lst [.ref (ad1 (.g i)),.ref (ad1 (.c i)),nT (R.taken.getD i 0)]):=by rw[Qc,QB ne1];exact ka
     have gb:(M1.set (ad1 (.g i)) (.lst ((qK (R.puts.getD i []) (n.per i)++[x]).map nT)))[ad1 (.g i)]?=some (.lst ((qK (R.puts.getD i []) (n.per i)++[x]).map nT)):=get_set ga;have cb:(M1.set (ad1 (.g i)) (.lst ((qK (R.puts.getD i []) (n.per i)++[x]).map nT)))[ad1 (.c i)]?=some (.lst ((z3 (R.puts.getD i []) (n.per i)).map tuL)):=by rw[Qc,QB ne2];exact w1.at_c hi
     have ln:zx (.ref (ad1 (.g i))) (M1.set (ad1 (.g i)) (.lst ((qK (R.puts.getD i []) (n.per i)++[x]).map nT))) = .ok (nT ((R.puts.getD i []).length % n.per i+1)) (M1.set (ad1 (.g i)) (.lst ((qK (R.puts.getD i []) (n.per i)++[x]).map nT))):=by unfold zx qR zy;simp only[gb];rw[Qh,Qn,zhg];rfl
     by_cases full:(R.puts.getD i []).length % n.per i+1=n.per i
     .have z1:((((R.puts.getD i []).length % n.per i+1:Nat):Int)==((n.per i:Nat):Int))=true:=by rw[full];exact Qy _
      have tl:z8 (.ref (ad1 (.g i))) (M1.set (ad1 (.g i)) (.lst ((qK (R.puts.getD i []) (n.per i)++[x]).map nT))) = .ok (tuL (qK (R.puts.getD i []) (n.per i)++[x])) (M1.set (ad1 (.g i)) (.lst ((qK (R.puts.getD i []) (n.per i)++[x]).map nT))):=by unfold z8 qR zy;simp only[gb];rfl
      have hcl:(z3 (R.puts.getD i []) (n.per i)).length<=B:=by
       have hp:i<R.puts.length:=by rw[w1.pl];exact hi
       have hb:(R.puts.getD i []).length<=B:=by rw[Q7,Q0 hp];exact sb.pu _ (getElem_mem _)
       unfold z3;rw[Qh,length_range];exact Qj (Nat.div_le_self _ _) hb
      have ap2:=qQ (t:=tuL (qK (R.puts.getD i []) (n.per i)++[x])) cb (by rw[Qh,sizeLine_eq];symm);rw[show(z3 (R.puts.getD i []) (n.per i)).map tuL++[tuL (qK (R.puts.getD i []) (n.per i)++[x])]=(z3 (R.puts.getD i []) (n.per i)++[qK (R.puts.getD i []) (n.per i)++[x]]).map tuL from by simp]at ap2;have wc:=w1.coin (x:=x) hi pm1 full rfl;refine Ok.ifB true (by erw[kb,ln,z1]) ?_;rw[QA rfl];nofun;erw[kb,qH cb,tl,ap2];left;generalize hM2:(M1.set (ad1 (.g i)) (.lst ((qK (R.puts.getD i []) (n.per i)++[x]).map nT))).set (ad1 (.c i)) (.lst ((z3 (R.puts.getD i []) (n.per i)++[qK (R.puts.getD i []) (n.per i)++[x]]).map tuL))=M2 at wc;have hl2:M2.length=M1.length:=by rw[←hM2];simp
      have kc:(M2++[Cell.lst []])[ad1 (.k i)]?=some (.lst [.ref (ad1 (.g i)),.ref (ad1 (.c i)),nT (R.taken.getD i 0)]):=by rw[Q6 (by rw[hl2];exact yC ka),←hM2,Qc,QB ne3];exact kb
      rw[←hl2]at wc;erw[kc];refine Ok.ret ⟨_,rfl,_,_,_,_,_,rfl,?_⟩;exact Wst.trans' (D1:=D1) f1 wc
     .have z1:((((R.puts.getD i []).length % n.per i+1:Nat):Int)==((n.per i:Nat):Int))=false:=by
       have:¬(((R.puts.getD i []).length % n.per i+1:Nat):Int)=((n.per i:Nat):Int):=by symm
       simpa using this
      refine Ok.ifB false (by erw[kb,ln,z1]) ?_;rw[QB ∅];simp_arith;obtain⟨g1,g2⟩:=w1.giv (x:=x) hi pm1 full;exact Ok.ret ⟨_,rfl,_,_,_,_,_,rfl,Wst.trans' (D1:=D1) f1 ⟨ad1,D1,g1,g2⟩⟩
   .rw[QB c];have f0:f=false:=by cases z:f with|false=>rfl|true=>exact absurd (.inl (hf.mp z)) c
    have qa:n.any i=false:=by cases z:n.any i with|false=>rfl|true=>exact absurd (.inr z) c
    refine Ok.ifB false (by erw[en,d',f0,any,qa]) ?_;rw[QB ∅];simp_arith;exact Ok.ret ⟨_,rfl,_,_,_,_,_,rfl,ws⟩
  .have d':decide (n.pof a=some i)=false:=Qx d;have e1:(∃k,k<i+1/\n.pof a=some k) ↔ ∃k,k<i/\n.pof a=some k:=by
    constructor
    .rintro⟨k,h1,h2⟩;refine⟨k,?_,h2⟩;have:k ≠ i:=λz=>d (by rw[←z];exact h2);symm
    .rintro⟨k,h1,h2⟩;exact⟨k,⋯,h2⟩
   refine Ok.ifB false (by erw[en,d']) ?_;rw[QB ∅];simp_arith;refine Ok.ret ⟨_,rfl,_,_,_,_,_,rfl,?_⟩;rw[show(if(∃k,k<i+1/\n.pof a=some k)then R.share n a tr x else R)=if(∃k,k<i/\n.pof a=some k)then R.share n a tr x else R from by simp only[e1]];exact ws
 .rintro fl M1 ⟨J,rfl,o5,o6,o7,o8,o9,rfl,ws⟩;rw[zaR]at ws;simp_arith;refine Ok.ret ⟨rfl,?_⟩;split at ws
  .exact ws
  .rename_i z;have e0:R.share n a tr x=R:=by unfold Run.share;cases q:n.pof a with|none=>rfl|some k=>exact absurd ⟨k,(wn.as hh a ha).plt q,q⟩ z
   rw[e0];exact ws
end
section
variable  {n:Net}    
theorem zjq(wn:WN n){s:Str}{k:Nat}(h:zcv s (n.hs.map (·.name)) 0=some k)(M:Mem):zcq I O [yg n,.str s] M = .ok (nT k) M:=by
 unfold zcq zhT yg;have c:qF (qp 0) yN (ja (Z 0) j4) (n.hs.map hsT) [none] M [] = .ok ((n.hs.map (·.name)).map .str) M:=by rw[map_map];refine Ok.mapc (r:=hsT) (λJ=>∃o,J=[o]) _ ⟨_,rfl⟩ (by have:=wn.hl;symm) ?_;rintro x J hx ⟨o,rfl⟩;exact⟨[some (.tup [.str x.name,.tup (x.asks.map yz)])],rfl,⟨_,rfl⟩,by simp_arith;rfl⟩
 have k:zdR (.lst ((n.hs.map (·.name)).map .str)) [.str s] M = .ok (nT k) M:=by unfold zdR zy;dsimp only;rw[QA,zjp,h];rw[Qs];refine⟨rfl,all_eq_true.mpr λt ht=>?_⟩;obtain⟨y,_,rfl⟩:=mem_map.mp ht;rfl
 have i1:zce (.lst ((n.hs.map (·.name)).map .str)) M=true:=rfl;erw[c,za8,i1,k]
theorem zgr(h:Wd n ad M R D):zx (.ref (ad .a)) M = .ok (nT R.es.length) M:=by unfold zx qR zy;simp only[h.at_a];simp
theorem zca(hh:Nat)(hl:hh<n.hs.length):atI (n.hs.map hsT) (hh:Int)=some (.tup [.str (n.hs[hh]).name,.tup ((n.asks hh).map yz)]):=by
 have hn:n.hs[hh]?=some n.hs[hh]:=Q0 hl;have as:n.asks hh=(n.hs[hh]).asks:=by unfold Net.asks;rw[hn];rfl
 rw[as];exact qu (f:=hsT) hn
noncomputable def muB(J:FT.Ev)(_:Mem):Nat:=match J with
 |[_,_,some (.int h),_,some (.tup (_::_)),_]=>5-h.toNat|_=>0
theorem zjT(gn:GN n)(h:Wd n ad M R D){B:Nat}(sb:SB B R)(hB:B+20<90000){hh:Nat}(hl:hh<n.hs.length)(c:Option (Nat × Nat × Nat)):
  Ok (zcr I O [yg n,.ref (ad .w),nT hh,clT c] M) λt M'=>t = .non/\Wst n ad M R (qE n 4 R hh c) M':=by
 have wn:=gn.wn;refine zA rfl ?_;unfold zhV;right;simp_arith;left;refine Ok.bind (Ok.while (R:=λ_ _=>False) (Q:=λJ M'=>Wst n ad M R (qE n 4 R hh c) M') (λJ M'=>∃o5,(∃f h1 c1 t ts ad1 D1 R1 B1,J=[some (yg n),some (.ref (ad .w)),some (nT h1),some (clT c1),some (.tup (t::ts)),o5]/\Wd n ad1 M' R1 D1/\Wf2 n ad M R ad1 M' R1/\qE n 4 R hh c=qE n f R1 h1 c1/\n.hs.length<=h1+f/\h1<n.hs.length/\SB B1 R1/\B1+2*f<=B+8)\/∃o2 o3,J=[some (yg n),some (.ref (ad .w)),o2,o3,some (.tup []),o5]/\Wst n ad M R (qE n 4 R hh c) M') muB ⟨none,.inl ⟨4,hh,c,_,_,ad,D,R,B,rfl,h,.refl,rfl,by have:=wn.hl;symm,hl,sb,⋯⟩⟩ ?_) ?_
 .rintro J M1 ⟨o5,⟨f,h1,c1,t,ts,ad1,D1,R1,B1,rfl,w1,f1,eb,hf,hl1,sb1,hB1⟩ | ⟨o2,o3,rfl,ws⟩⟩
  .have nt:∀M,neA (.tup (t::ts)) (.tup []) M = .ok (.bl true) M:=λ_=>rfl;obtain⟨f,rfl⟩:∃f',f=f'+1:=⟨f-1,⋯⟩;have cc:Ok (zbU I O [some (yg n),some (.ref (ad .w)),some (nT h1),some (clT c1),some (.tup (t::ts)),o5] M1) λb M2=>b=true/\M2=M1:=by unfold zbU;erw[nt];exact Ok.ret ⟨rfl,rfl⟩
   refine cc.mono ?_;rintro b M2 ⟨rfl,rfl⟩;refine .inl ⟨rfl,?_⟩;have mu1:muB [some (yg n),some (.ref (ad .w)),some (nT h1),some (clT c1),some (.tup (t::ts)),o5] M2=5-h1:=by show 5-((h1:Int)).toNat=_;rw[QH]
   rw[mu1,←f1.ww];have h4:=wn.hl;unfold zgM;rw[show yg n = .tup [.tup (n.hs.map hsT),.tup (n.ps.map puT)]from rfl];have ha1:=zca h1 hl1;obtain⟨w2,f2⟩:=w1.pushE h1 c1;have ap:=qQ (a:=ad1 .a) (t:=.ref M2.length) (M:=M2++[Cell.lst [nT h1,clT c1,.tup [.str "works"]]]) (by rw[Q6 (yC w1.at_a)];exact w1.at_a) (by rw[Qh,length_range,sizeLine_eq];have:=sb1.es;symm);have lc:qG (.ref (ad1 .a)) M2 = .ok (.ref (ad1 .a)) M2:=qH w1.at_a;nofun;erw[w1.at_w,zgr w1];left;nofun;erw[ha1];left;nofun;erw[w1.at_w,lc,ap];left;generalize (M2++[Cell.lst [nT h1,clT c1,.tup [.str "works"]]]).set (ad1 .a) (.lst (((List.range R1.es.length).map λi=>FT.T.ref (ad1 (.e i)))++[.ref M2.length]))=M3 at w2 f2;have hwa:(λs=>if s=Slot.e R1.es.length then M2.length else ad1 s) .w=ad1 .w:=f2.ww;have hpe:(R1.push (qr h1 c1)).es[R1.es.length]?=some (qr h1 c1):=zbg R1 _;cases q:n.asks h1 with
   |nil=>
    have n0:∀M,neA (.tup []) (.tup []) M = .ok (.bl false) M:=λ_=>rfl;have e1:qE n (f+1) R1 h1 c1=R1.push (qr h1 c1):=by unfold qE;rw[QA q]
    rw[map_nil];erw[n0];refine Ok.ret (.inl ⟨_,.inl rfl,⟨_,.inr ⟨_,_,by rw[f1.ww],?_⟩⟩,?_⟩)
    .rw[eb,e1];exact⟨_,_,w2,f1.trans f2⟩
    .show(0:Nat)<_;symm
   |cons a as=>
    have h0:¬n.asks h1=[]:=by rw[q];simp
    have n1:∀M,neA (.tup (yz a::as.map yz)) (.tup []) M = .ok (.bl true) M:=λ_=>rfl;have ha:(n.asks h1)[0]?=some a:=by rw[q];rfl
    have hm:a ∈ n.asks h1:=by rw[q];exact .head _
    have w:=wn.as h1 a hm;have e1:qE n (f+1) R1 h1 c1=qE n f (((R1.push (qr h1 c1)).setE R1.es.length { qr h1 c1 with ph:=.waits 0 1,asked:=some (R1.push (qr h1 c1)).es.length }).share n a 1 (R1.push (qr h1 c1)).es.length) (n.hix a.to) (some (R1.es.length,0,1)):=by rw[qE,QB h0,zeJ (zbg R1 _) ha]
    obtain⟨w3,f3⟩:=w2.setE hpe { qr h1 c1 with ph:=.waits 0 1,asked:=some (R1.push (qr h1 c1)).es.length } rfl rfl rfl;have pl:(R1.push (qr h1 c1)).es.length=R1.es.length+1:=by simp[Run.push]
    have sbx:SB (B1+1) ((R1.push (qr h1 c1)).setE R1.es.length { qr h1 c1 with ph:=.waits 0 1,asked:=some (R1.push (qr h1 c1)).es.length }):=(sb1.push _).setE _ _;rw[QG];refine Ok.ifB true (by erw[n1]) ?_;rw[QA rfl];have a0:=w2.at_a;have ew:M3[M2.length]?=some (.lst [nT h1,clT c1,.tup [.str "works"]]):=by have:=w2.at_e hpe;rw[QA rfl]at this;exact this
    have ww2:=w2.at_w;rw[QB (λy=>by cases y),QB (λy=>by cases y),QB (λy=>by cases y),QB (λy=>by cases y),QB (λy=>by cases y)]at ww2;rw[QB (λy=>by cases y)]at a0;have ar:atI ((List.range (R1.push (qr h1 c1)).es.length).map λi=>FT.T.ref (if Slot.e i=Slot.e R1.es.length then M2.length else ad1 (.e i))) (R1.es.length:Int)=some (.ref M2.length):=by rw[y9 ⋯,QA rfl]
    rw[QA rfl]at w3 f3;have so:=ziQ (I:=I) (O:=O) gn w3 sbx ⋯ hm 1 (R1.push (qr h1 c1)).es.length (f:=true) ⟨λ_=>rfl,λ_=>rfl⟩;rw[QB (λy=>by cases y),pl,show nT (R1.es.length+1) = .int ((R1.es.length:Int)+1)from rfl,show yg n = .tup [.tup (n.hs.map hsT),.tup (n.ps.map puT)]from rfl]at so;nofun;erw[ww2,a0,ar,ew];left;nofun;rw[pl]at w3 f3 e1 sbx;simp_arith;refine Ok.bind so ?_;rintro t4 M4 ⟨rfl,ad4,D4,w4,f4⟩;have hq:=zjq (I:=I) (O:=O) wn w.to;rw[show yg n = .tup [.tup (n.hs.map hsT),.tup (n.ps.map puT)]from rfl]at hq
    try simp_arith
    left;nofun;simp_arith;left;rw[show yz a = .tup [.str a.to,.int a.tries,opS a.purse,.str a.word,.bl a.hears,.bl a.sure]from rfl];erw[hq];refine Ok.ret (.inl ⟨_,.inl rfl,⟨_,.inl ⟨f,n.hix a.to,some (R1.es.length,0,1),_,_,ad4,D4,_,B1+2,by rw[f1.ww];rfl,w4,f1.trans (f2.trans (f3.trans f4)),by rw[eb,e1],by have:=w.up;symm,w.lt,sbx.share n a 1 _,⋯⟩⟩,?_⟩);show 5-((n.hix a.to:Int)).toNat<_;rw[QH];have:=w.up;symm
  .have nt:∀M,neA (.tup []) (.tup []) M = .ok (.bl false) M:=λ_=>rfl;have cc:Ok (zbU I O [some (yg n),some (.ref (ad .w)),o2,o3,some (.tup []),o5] M1) λb M2=>b=false/\M2=M1:=by unfold zbU;erw[nt];exact Ok.ret ⟨rfl,rfl⟩
   refine cc.mono ?_;rintro b M2 ⟨rfl,rfl⟩;exact .inr ⟨rfl,ws⟩
 .rintro fl M1 (⟨J,rfl,ws⟩ | ⟨t,_,z⟩)
  .simp_arith;exact Ok.ret ⟨rfl,ws⟩
  .exact z.elim
end
section
theorem zlE(h:M[x]?=some (.lst [a,b,c])):zdi (.ref x) (.int 2) t M = .ok () (M.set x (.lst [a,b,t])):=by
 have e:za0 (.ref x) (.int 2) t M = .ok () (M.set x (.lst [a,b,t])):=by unfold za0;simp only[h];rfl
 show(match M[x]? with
  |some (.dic kvs)=>if kvs.length<sizeLine then Out.ok () (M.set x (.dic (zab kvs (.inl 2) t)))else .bad
  | _=>za0 (.ref x) (.int 2) t M)=_
 rw[h];exact e
theorem zoW(h:Wd n ad M R D)(i:Nat):zfD (.int (i:Int)) (.ref (ad .d)) M = .ok (.bl (!zcd R i)) M:=by unfold zfD zgH;simp only[h.at_d,zhc,h.dl i]
theorem zks(gn:GN n)(h:Wd n ad M R D){B:Nat}(sb:SB B R)(hB:B+30<90000)(ri:RI n R){num at' tr:Nat}{e:Er}(he:R.es[num]?=some e)(hat:at'<.(5).length):
  Ok (zeY I O [yg n,.ref (ad .w),nT num,nT at',nT tr] M) λt M'=>t = .non/\Wst n ad M R (y8 n (qE n 4) R num at' tr) M':=by
 have wn:=gn.wn;have hi:=(Qz.mp he).1;have ha:.(5)[at']?=some .(5)[at']:=Q0 hat;have hm:=Qa ha;have w:=wn.as e.house _ hm;rw[zeJ he ha];generalize .(5)[at']=a at ha hm w;have hs1:=zca e.house (ri.hs _ _ he);have ha1:atI (.(5).map yz) (at':Int)=some (yz a):=qu (f:=yz) ha;obtain⟨w1,f1⟩:=h.setE he { e with ph:=.waits at' tr,asked:=some R.es.length } rfl rfl rfl;have ae:=h.at_e he;have st:za0 (.ref (ad (.e num))) (.int 2) (.tup [.str "waits",nT at',nT tr]) M = .ok () (M.set (ad (.e num)) (.lst [nT e.house,clT e.caller,.tup [.str "waits",nT at',nT tr]])):=by unfold za0;simp only[ae];rfl
 have hl:.(3).es.length=R.es.length:=length_set ..;refine zA rfl ?_;unfold zk4;right;rw[show startT 6 [yg n,.ref (ad .w),nT num,nT at',nT tr]=[some (.tup [.tup (n.hs.map hsT),.tup (n.ps.map puT)]),some (.ref (ad .w)),some (nT num),some (nT at'),some (nT tr),none]from rfl];erw[h.at_w,h.at_a,y9 hi,ae,hs1,ha1];left;right;have ai:atI ((List.range R.es.length).map λi=>FT.T.ref (ad (.e i))) (num:Int)=some (.ref (ad (.e num))):=y9 hi;unfold zaM;erw[h.at_w,h.at_a,ai,ae];left;rw[show phT ({ e with ph:=.waits at' tr,asked:=some R.es.length }:Er).ph = .tup [.str "waits",nT at',nT tr]from rfl]at w1 f1;have la:=zgr w1;rw[hl]at la;have z1:∀M,eqA (nT tr) (.int 1) M = .ok (.bl (((tr:Nat):Int)==1)) M:=λ_=>rfl;have hf:(((tr:Nat):Int)==1)=true ↔ tr=1:=by rw[beq_iff_eq];symm
 have so:=ziQ (I:=I) (O:=O) gn w1 (sb.setE num _) ⋯ hm tr R.es.length hf;rw[show yg n = .tup [.tup (n.hs.map hsT),.tup (n.ps.map puT)]from rfl]at so;right;erw[w1.at_w,la];refine Ok.bind so ?_;rintro t2 M2 ⟨rfl,ad2,D2,w2,f2⟩
 try simp_arith
 left;have hq:=zjq (I:=I) (O:=O) wn w.to;have bo:=zjT (I:=I) (O:=O) gn w2 ((sb.setE num { e with ph:=.waits at' tr,asked:=some R.es.length }).share n a tr R.es.length) ⋯ w.lt (some (num,at',tr));rw[f2.ww]at bo;rw[show yg n = .tup [.tup (n.hs.map hsT),.tup (n.ps.map puT)]from rfl]at hq bo;rw[show yz a = .tup [.str a.to,.int a.tries,opS a.purse,.str a.word,.bl a.hears,.bl a.sure]from rfl];erw[hq];refine Ok.bind bo ?_;rintro t3 M3 ⟨rfl,ad3,D3,w3,f3⟩
 try simp_arith
 exact Ok.ret ⟨rfl,ad3,D3,w3,f1.trans (f2.trans f3)⟩
end
section
noncomputable def muE(J:FT.Ev)(_:Mem):Nat:=match J with
 |[_,_,some (.int i),_,some (.bl true),_,_,_,_]=>i.toNat+1|_=>0
theorem zlh(gn:GN n)(h:Wd n ad M R D){B:Nat}(sb:SB B R)(hB:B+30<90000)(ri:RI n R){i:Nat}{e:Er}(he:R.es[i]?=some e)(w:Str):
  Ok (zeZ I O [yg n,.ref (ad .w),nT i,.str w] M) λt M'=>t = .non/\Wst n ad M R (yL n 4 R i w) M':=by
 have wn:=gn.wn;refine zA rfl ?_;unfold zk8;right;simp_arith;left;refine Ok.bind (Ok.while (R:=λ_ _=>False) (Q:=λJ M'=>Wst n ad M R (yL n 4 R i w) M') (λJ M'=>∃o5 o6 o7 o8,(∃f i1 e1 ad1 D1 R1,J=[some (yg n),some (.ref (ad .w)),some (nT i1),some (.str w),some (.bl true),o5,o6,o7,o8]/\Wd n ad1 M' R1 D1/\Wf2 n ad M R ad1 M' R1/\yL n 4 R i w=yL n f R1 i1 w/\R1.es[i1]?=some e1/\e1.house<f/\RI n R1/\SB B R1)\/∃o2,J=[some (yg n),some (.ref (ad .w)),o2,some (.str w),some (.bl false),o5,o6,o7,o8]/\Wst n ad M R (yL n 4 R i w) M') muE ⟨none,none,none,none,.inl ⟨4,i,e,ad,D,R,rfl,h,.refl,rfl,he,by have:=ri.hs _ _ he;have:=wn.hl;symm,ri,sb⟩⟩ ?_) ?_
 .rintro J M1 ⟨o5,o6,o7,o8,⟨f,i1,e1,ad1,D1,R1,rfl,w1,f1,eb,he1,hf,ri1,sb1⟩ | ⟨o2,rfl,ws⟩⟩
  .have cc:Ok (zc4 I O [some (yg n),some (.ref (ad .w)),some (nT i1),some (.str w),some (.bl true),o5,o6,o7,o8] M1) λb M2=>b=true/\M2=M1:=by unfold zc4;simp_arith;exact Ok.ret ⟨rfl,rfl⟩
   refine cc.mono ?_;rintro b M2 ⟨rfl,rfl⟩;refine .inl ⟨rfl,?_⟩;have mu1:muE [some (yg n),some (.ref (ad .w)),some (nT i1),some (.str w),some (.bl true),o5,o6,o7,o8] M2=i1+1:=by show((i1:Int)).toNat+1=_;rw[QH]
   rw[mu1,←f1.ww];obtain⟨f,rfl⟩:∃f',f=f'+1:=⟨f-1,⋯⟩;have hi1:=(Qz.mp he1).1;have ae:=w1.at_e he1;obtain⟨w2,f2⟩:=w1.setE he1 { e1 with ph:=.ended w } rfl rfl rfl;rw[show phT ({ e1 with ph:=.ended w }:Er).ph = .tup [.str "ended",.str w]from rfl]at w2 f2;have s3:=zlE (t:=.tup [.str "ended",.str w]) ae;have ai:atI ((List.range R1.es.length).map λi=>FT.T.ref (ad1 (.e i))) (i1:Int)=some (.ref (ad1 (.e i1))):=y9 hi1;have hl2:(R1.setE i1 { e1 with ph:=.ended w }).es.length=R1.es.length:=length_set ..;have he2:(R1.setE i1 { e1 with ph:=.ended w }).es[i1]?=some { e1 with ph:=.ended w }:=zcY he1 _;have ri2:RI n (R1.setE i1 { e1 with ph:=.ended w }):=ri1.setE he1 rfl rfl True.intro;have nd:=zoW w2 i1;rw[show zcd (R1.setE i1 { e1 with ph:=.ended w }) i1=e1.lost from by unfold zcd;rw[he2];rfl]at nd;have ae2:=w2.at_e he2;rw[show phT ({ e1 with ph:=.ended w }:Er).ph = .tup [.str "ended",.str w]from rfl]at ae2;have a2:=w2.at_a;rw[hl2]at a2;unfold zjY;nofun;erw[zaM,w1.at_w,w1.at_a,ai,s3];left;generalize M2.set (ad1 (.e i1)) (.lst [nT e1.house,clT e1.caller,.tup [.str "ended",.str w]])=M3 at w2 f2 nd ae2 a2;nofun;erw[w2.at_w,a2,ai,ae2];left;cases q:e1.caller with
   |none=>
    have i0:∀M,zaa (clT none) .non M = .ok (.bl false) M:=λ_=>rfl;have ee:yL n (f+1) R1 i1 w=R1.setE i1 { e1 with ph:=.ended w }:=by unfold yL;rw[he1];dsimp only;rw[q]
    nofun;erw[i0];left;simp_arith;refine Ok.ret (.inl ⟨_,.inl rfl,⟨_,_,_,_,.inr ⟨_,by rw[f1.ww],?_⟩⟩,?_⟩)
    .rw[eb,ee];exact⟨_,_,w2,f1.trans f2⟩
    .show(0:Nat)<_;symm
   |some c=>
    have i0:∀M,zaa (.tup [nT c.1,nT c.2.1,nT c.2.2]) .non M = .ok (.bl true) M:=λ_=>rfl;rw[show clT (some c) = .tup [nT c.1,nT c.2.1,nT c.2.2]from rfl];cases ql:e1.lost with
    |true=>
     have ee:yL n (f+1) R1 i1 w=R1.setE i1 { e1 with ph:=.ended w }:=by unfold yL;rw[he1];dsimp only;rw[q];dsimp only;rw[QA ql]
     rw[ql]at nd;nofun;erw[i0,w2.at_w,nd];left;simp_arith;refine Ok.ret (.inl ⟨_,.inl rfl,⟨_,_,_,_,.inr ⟨_,by rw[f1.ww],?_⟩⟩,?_⟩)
     .rw[eb,ee];exact⟨_,_,w2,f1.trans f2⟩
     .show(0:Nat)<_;symm
    |false=>
     have ee:yL n (f+1) R1 i1 w=zaH n (yL n f) (R1.setE i1 { e1 with ph:=.ended w }) c w:=by rw[yL,he1];dsimp only;rw[q];dsimp only;rw[QB (by rw[ql];simp)]
     rw[ql]at nd;obtain⟨d1,ce,c1,c2,c3⟩:=ri2.cl i1 _ c he2 q;have c2:ce.house<e1.house:=c2;have ec:zaH n (yL n f) (R1.setE i1 { e1 with ph:=.ended w }) c w=if(w==("well":Str))=true/\c.2.1+1<(n.asks ce.house).length then y8 n (qE n 4) (R1.setE i1 { e1 with ph:=.ended w }) c.1 (c.2.1+1) 1
       else if(w==("well":Str))=true\/((w==("spent":Str))=true/\((n.asks ce.house)[c.2.1]?).any (·.hears)=true)then yL n f (R1.setE i1 { e1 with ph:=.ended w }) c.1 w
       else(R1.setE i1 { e1 with ph:=.ended w }).setE c.1 { ce with ph:=.stands c.2.1 c.2.2,stood:=some (R1.setE i1 { e1 with ph:=.ended w }).came }:=by
      unfold zaH;rw[c1]
     rw[ee,ec]at eb;clear ee ec;have hc1:=(Qz.mp c1).1;have ace:=w2.at_e c1;have ac:atI ((List.range R1.es.length).map λi=>FT.T.ref (ad1 (.e i))) (c.1:Int)=some (.ref (ad1 (.e c.1))):=y9 ⋯;have hs1:=zca ce.house (ri2.hs _ _ c1);have ha:(n.asks ce.house)[c.2.1]?=some (n.asks ce.house)[c.2.1]:=Q0 c3;have haa:atI ((n.asks ce.house).map yz) (c.2.1:Int)=some (.tup [.str (n.asks ce.house)[c.2.1].to,.int (n.asks ce.house)[c.2.1].tries,opS (n.asks ce.house)[c.2.1].purse,.str (n.asks ce.house)[c.2.1].word,.bl (n.asks ce.house)[c.2.1].hears,.bl (n.asks ce.house)[c.2.1].sure]):=qu (f:=yz) ha;have a4:∀(t0 t1 t2 t3 t4 t5:FT.T),atI [t0,t1,t2,t3,t4,t5] 4=some t4:=λ_ _ _ _ _ _=>rfl;have sb2:SB B (R1.setE i1 { e1 with ph:=.ended w }):=sb1.setE _ _;have tk:=λ(hat:c.2.1+1<(n.asks ce.house).length)=>zks (I:=I) (O:=O) gn w2 sb2 hB ri2 (tr:=1) c1 hat;have s4:=zlE (t:=.tup [.str "stands",nT c.2.1,nT c.2.2]) ace;generalize hR2:R1.setE i1 { e1 with ph:=.ended w }=R2 at *;rw[show yg n = .tup [.tup (n.hs.map hsT),.tup (n.ps.map puT)]from rfl]at tk ⊢;nofun;erw[i0,w2.at_w,nd];left;refine Ok.ifB true (by simp_arith) ?_;rw[QA rfl];nofun;simp_arith;left;nofun;erw[w2.at_w,a2,ac,ace,hs1];left
     by_cases hw:(w==("well":Str))=true
     .by_cases hl3:c.2.1+1<(n.asks ce.house).length
      .have d2:decide ((c.2.1:Int)+1<((n.asks ce.house).length:Int))=true:=Qw ⋯;rw[QA ⟨hw,hl3⟩]at eb;refine Ok.ifB true (by erw[zdd,hw,Qh,d2]) ?_;rw[QA rfl];nofun;simp_arith;refine Ok.bind (tk hl3) ?_;rintro t4 M4 ⟨rfl,ad4,D4,w4,f4⟩
       try simp_arith
       left;simp_arith;refine Ok.ret (.inl ⟨_,.inl rfl,⟨_,_,_,_,.inr ⟨_,by rw[f1.ww],?_⟩⟩,?_⟩)
       .rw[eb];exact⟨_,_,w4,f1.trans (f2.trans f4)⟩
       .show(0:Nat)<_;symm
      .have d2:decide ((c.2.1:Int)+1<((n.asks ce.house).length:Int))=false:=Qx ⋯;rw[QB λz=>hl3 z.2,QA (.inl hw)]at eb;refine Ok.ifB false (by erw[zdd,hw,Qh,d2]) ?_;rw[QB ∅];refine Ok.ifB false (by erw[zeR,hw]) ?_;rw[QB ∅];simp_arith;refine Ok.ret (.inl ⟨_,.inl rfl,⟨_,_,_,_,.inl ⟨f,c.1,ce,ad1,D1,R2,by rw[f1.ww],w2,f1.trans f2,eb,c1,⋯,ri2,sb2⟩⟩,?_⟩);show((c.1:Int)).toNat+1<_;rw[QH];symm
     .have hw':(w==("well":Str))=false:=by simpa using hw
      rw[QB λz=>hw z.1]at eb;refine Ok.ifB false (by erw[zdd,hw']) ?_;rw[QB ∅]
      by_cases hsp:(w==("spent":Str))=true/\(n.asks ce.house)[c.2.1].hears=true
      .rw[QA (.inr ⟨hsp.1,by rw[ha];exact hsp.2⟩)]at eb;refine Ok.ifB false (by erw[zeR,zdd,hw',hsp.1,haa,a4,hsp.2]) ?_;rw[QB ∅];simp_arith;refine Ok.ret (.inl ⟨_,.inl rfl,⟨_,_,_,_,.inl ⟨f,c.1,ce,ad1,D1,R2,by rw[f1.ww],w2,f1.trans f2,eb,c1,⋯,ri2,sb2⟩⟩,?_⟩);show((c.1:Int)).toNat+1<_;rw[QH];symm
      .rw[QB (by
        rintro (z | ⟨z,y⟩)
        .exact hw z
        .rw[ha]at y;exact hsp ⟨z,y⟩)]at eb
       obtain⟨w5,f5⟩:=w2.setE c1 { ce with ph:=.stands c.2.1 c.2.2,stood:=some R2.came } rfl rfl rfl;rw[show phT ({ ce with ph:=.stands c.2.1 c.2.2,stood:=some R2.came }:Er).ph = .tup [.str "stands",nT c.2.1,nT c.2.2]from rfl]at w5 f5;refine Ok.ifB true ?_ ?_
       .cases z:(w==("spent":Str))with
        |false=>erw[zeR,zdd,hw',z]|true=>
         have y:(n.asks ce.house)[c.2.1].hears=false:=by cases x:(n.asks ce.house)[c.2.1].hears with|false=>rfl|true=>exact absurd ⟨z,x⟩ hsp
         erw[zeR,zdd,hw',z,haa,a4,y]
       .rw[QA rfl];nofun;erw[zaM,w2.at_w,a2,ac,s4];left;simp_arith;refine Ok.ret (.inl ⟨_,.inl rfl,⟨_,_,_,_,.inr ⟨_,by rw[f1.ww],?_⟩⟩,?_⟩)
        .rw[eb];exact⟨_,_,w5,f1.trans (f2.trans f5)⟩
        .show(0:Nat)<_;symm
  .have cc:Ok (zc4 I O [some (yg n),some (.ref (ad .w)),o2,some (.str w),some (.bl false),o5,o6,o7,o8] M1) λb M2=>b=false/\M2=M1:=by unfold zc4;simp_arith;exact Ok.ret ⟨rfl,rfl⟩
   refine cc.mono ?_;rintro b M2 ⟨rfl,rfl⟩;exact .inr ⟨rfl,ws⟩
 .rintro fl M1 (⟨J,rfl,ws⟩ | ⟨t,_,z⟩)
  .simp_arith;exact Ok.ret ⟨rfl,ws⟩
  .exact z.elim
end
theorem zoA(n:Net)(R:Run)(i:Nat):zap n R i=(if(R.er i).ph.isW=true then[.ends i "bad",.ends i "spent",.ends i "well"]else[])++(if yT n R (R.er i)=true then[.lost i]else[])++(if(zK n (R.er i) && yZ n R (R.er i))=true then[.again i]else[])++(if(R.er i).ph.isS=true then[.up i]else[]):=by
 unfold zap zag;rw[List.filter_append,List.filter_append,List.filter_append];have h1:∀c:Bool,((if c=true then[Evt.ends i "bad",.ends i "spent",.ends i "well"]else[]).filter λev=>!ev.isA || yZ n R (R.er i))=if c=true then[.ends i "bad",.ends i "spent",.ends i "well"]else[]:=λc=>by cases c<;>rfl
 have h2:∀c:Bool,((if c=true then[Evt.lost i]else[]).filter λev=>!ev.isA || yZ n R (R.er i))=if c=true then[.lost i]else[]:=λc=>by cases c<;>rfl
 have h3:∀c d:Bool,((if c=true then[Evt.again i]else[]).filter λev=>!ev.isA || d)=if(c && d)=true then[.again i]else[]:=λc d=>by cases c<;>cases d<;>rfl
 have h4:∀c:Bool,((if c=true then[Evt.up i]else[]).filter λev=>!ev.isA || yZ n R (R.er i))=if c=true then[.up i]else[]:=λc=>by cases c<;>rfl
 rw[h1,h2,h3,h4]
def cnV(n:Net)(R:Run)(a:Ask):Int:=match n.pof a with
 |none=>1|some k=>(R.told n k).2
section
theorem zoF(gn:GN n)(h:Wd n ad M R D){hh:Nat}{a:Ask}(ha:a ∈ n.asks hh):Ok (zez I O [yg n,.ref (ad .w),yz a] M) λt M'=>t = .int (cnV n R a)/\M'=M:=by
 have wn:=gn.wn;refine zA rfl ?_;unfold zhU;rw[show yg n = .tup [.tup (n.hs.map hsT),.tup (n.ps.map puT)]from rfl,show yz a = .tup [.str a.to,.int a.tries,opS a.purse,.str a.word,.bl a.hears,.bl a.sure]from rfl];have rg:zbz [.int (n.ps.length:Int)] M = .ok ((rgI n.ps.length).map .int) M:=qX (j:=(n.ps.length:Int)) (by have:=wn.pl;symm);right;erw[Qh,rg,QH];refine Ok.bind (Ok.loop (r:=FT.T.int) (R:=λt M'=>t = .int (cnV n R a)/\M'=M) (λi J M'=>M'=M/\∃o3,J=[some (.tup [.tup (n.hs.map hsT),.tup (n.ps.map puT)]),some (.ref (ad .w)),some (.tup [.str a.to,.int a.tries,opS a.purse,.str a.word,.bl a.hears,.bl a.sure]),o3]/\∀k,k<i->n.pof a ≠ some k) (rgI n.ps.length) 0 ⟨rfl,none,rfl,λk hk=>absurd hk ⋯⟩ ?_) ?_
 .rintro i y J M1 hy ⟨rfl,o3,rfl,hp⟩;rw[QL]at hp ⊢;obtain⟨hi,rfl⟩:=zaS hy;have hps:n.ps[i]?=some n.ps[i]:=Q0 hi;have hpa:atI (n.ps.map puT) (i:Int)=some (.tup [.str n.ps[i].name,.str n.ps[i].earns,.int n.ps[i].per]):=qu (f:=puT) hps;have en:=zhm gn ha hps;have ln:zx (.ref (ad (.c i))) M1 = .ok (nT (z3 (R.puts.getD i []) (n.per i)).length) M1:=by unfold zx qR zy;simp only[h.at_c hi];simp
  simp_arith;unfold zgL
  by_cases d:n.pof a=some i
  .have d':decide (n.pof a=some i)=true:=Qw d;refine Ok.ifB true (by erw[hpa,en,d']) ?_;rw[QA rfl];erw[h.at_w,h.at_p,y9 hi,h.at_k hi,ln];refine Ok.ret (.inr (.inr ⟨_,rfl,?_,rfl⟩));obtain⟨pe,_,_⟩:=zmC wn hi;have e1:(n.ps.getD i ⟨"","",1⟩).per=(n.per i:Int):=by rw[pe,Q7,hps];rfl
   have e2:cnV n R a=(R.told n i).2:=by unfold cnV;rw[d]
   have e3:(R.told n i).2=((R.puts.getD i []).length:Int) / (n.ps.getD i ⟨"","",1⟩).per-(R.taken.getD i 0:Nat):=rfl;rw[e2,e3,e1];unfold z3;rw[Qh,length_range];rfl
  .have d':decide (n.pof a=some i)=false:=Qx d;refine Ok.ifB false (by erw[hpa,en,d']) ?_;rw[QB ∅];simp_arith;refine Ok.ret (.inl ⟨_,.inl rfl,rfl,_,rfl,λk hk=>?_⟩)
   by_cases z:k=i
   .rw[z];exact d
   .exact hp k ⋯
 .rintro fl M1 (⟨J,rfl,rfl,o3,rfl,hp⟩ | ⟨t,rfl,rfl,rfl⟩)
  .try simp_arith
   left;simp_arith;refine Ok.ret ⟨?_,rfl⟩;unfold cnV;cases q:n.pof a with
   |none=>rfl|some k=>rw[QL,zaR]at hp;exact absurd q (hp k ((wn.as hh a ha).plt q))
  .rw[hX];erw[zbt,zbK];exact Ok.ret ⟨rfl,rfl⟩
theorem Wd.kept(h:Wd n ad M R D){M':Mem}(k:Kp M.length M M'):Wd n ad M' R D:=⟨λs hs=>by rw[k.2 _ (yC (h.ho s hs))];exact h.ho s hs,h.inj,h.dl,h.dk,h.pl,h.tl⟩
def Fd(M:Mem)(r:Nat)(xs:List Evt)(M':Mem):Prop:=M.length<=r/\M'[r]?=some (.lst (xs.map evT))/\Kp M.length M M'
def Fd.app(f:Fd M r xs M')(ev:Evt):Fd M r (xs++[ev]) (M'.set r (.lst ((xs++[ev]).map evT))):=⟨f.1,get_set f.2.1,f.2.2.trans (Kp.set _ _ f.1)⟩
theorem Fd.ap(f:Fd M r xs M')(hl:xs.length<=1000000)(ev:Evt):yP (.ref r) [evT ev] M' = .ok .non (M'.set r (.lst ((xs++[ev]).map evT))):=by rw[qQ (t:=evT ev) f.2.1 (by rw[Qh,sizeLine_eq];symm)];simp
theorem zpZ(gn:GN n)(h:Wd n ad M R D){B:Nat}(sb:SB B R)(hB:B<90000)(ri:RI n R):zcJ I O [yg n,.ref (ad .w)] M = .ok (.lst ((zbB n R).map evT)) M:=by
 have wn:=gn.wn;have key:Ok (zhk I O [yg n,.ref (ad .w)] M) λt M'=>∃r,t = .ref r/\Fd M r (zbB n R) M':=by
  refine zA rfl ?_;unfold zk7;right;simp_arith;left;right;have w1:=h.kept (Kp.app M [Cell.lst [.tup [.str "fresh"]]] (Q3 _));have rg:∀M,zbz [.int (R.es.length:Int)] M = .ok ((rgI R.es.length).map .int) M:=λM=>qX (j:=(R.es.length:Int)) (by have:=sb.es;symm);erw[w1.at_w,zgr w1,rg,QH];refine Ok.bind (Ok.for (r:=FT.T.int) (xs:=rgI R.es.length) (λi J M'=>∃r o3 o4 o5 o6 o7,J=[some (yg n),some (.ref (ad .w)),some (.ref r),o3,o4,o5,o6,o7]/\Fd M r (.fresh::(List.range i).flatMap (zap n R)) M') ⟨M.length,none,none,none,none,none,rfl,Q3 _,zP,Kp.app _ _ (Q3 _)⟩ ?_) ?_
  .rintro i y J M1 hy ⟨r,o3,o4,o5,o6,o7,rfl,fd⟩;obtain⟨hi,rfl⟩:=zaS hy;have he:R.es[i]?=some R.es[i]:=Q0 hi;generalize R.es[i]=e at he;have hxl:(Evt.fresh::(List.range i).flatMap (zap n R)).length<=10*i+1:=by rw[Qp];have:=zfJ (n:=n) R i;symm
   have hnext:(Evt.fresh::(List.range i).flatMap (zap n R))++zap n R i=Evt.fresh::(List.range (i+1)).flatMap (zap n R):=by rw[range_succ,List.flatMap_append];simp
   rw[zoA,qZ he]at hnext;rw[←hnext];generalize Evt.fresh::(List.range i).flatMap (zap n R)=xs at fd hxl;clear hnext;have hes:=sb.es;have w2:=h.kept fd.2.2;have ae:=w2.at_e he;have lo:zy (.ref (ad (.e i))) M1=some [nT e.house,clT e.caller,phT e.ph]:=zaC ae;obtain⟨p0,ps,ep,q1,q2,_,q4⟩:=phW e.ph M1;simp_arith;unfold zjX;nofun;erw[w2.at_w,w2.at_a,y9 hi,zd2,lo];left;have hpz:∀M,eqA p0 (.str "works") M = .ok (.bl e.ph.isW) M/\eqA p0 (.str "stands") M = .ok (.bl e.ph.isS) M/\neA p0 (.str "ended") M = .ok (.bl (!e.ph.isE)) M:=λM=>by cases z:e.ph with|works=>rw[z]at ep;cases ep;exact⟨rfl,rfl,rfl⟩|waits a t=>rw[z]at ep;cases ep;exact⟨rfl,rfl,rfl⟩|stands a t=>rw[z]at ep;cases ep;exact⟨rfl,rfl,rfl⟩|ended w=>rw[z]at ep;cases ep;exact⟨rfl,rfl,rfl⟩
   have pz:atI (p0::ps) 0=some p0:=zo7
   refine Ok.seqP (λfl M'=>∃r',fl = .nx [some (yg n),some (.ref (ad .w)),some (.ref r'),some (.int (i:Int)),some (nT e.house),some (clT e.caller),some (phT e.ph),o7]/\Fd M r' (xs++if e.ph.isW=true then[.ends i "bad",.ends i "spent",.ends i "well"]else[]) M') ?_ ?_
   .rw[ep];cases zw:e.ph.isW with
    |false=>refine Ok.ifB false (by erw[pz,hpz,zw]) ?_;rw[QB ∅];simp_arith;exact Ok.ret ⟨r,rfl,by simpa using fd⟩
    |true=>
     refine Ok.ifB true (by erw[pz,hpz,zw]) ?_;rw[QA rfl];have cp:qF (qp 0) yN (yA (zb (eC (.str "ends")) (zb (Z 1) (zb (Z 0) ze)))) [FT.T.str "bad",.str "spent",.str "well"] [none,some (.int (i:Int))] M1 [] = .ok ([Evt.ends i "bad",.ends i "spent",.ends i "well"].map evT) M1:=
      Ok.mapc (r:=FT.T.str) (xs:=["bad","spent","well"]) (λJ=>∃o,J=[o,some (.int (i:Int))]) (λw=>.tup [.str "ends",nT i,.str w]) ⟨_,rfl⟩ (by simp) (by rintro w J _ ⟨o,rfl⟩;exact⟨[some (.str w),some (.int (i:Int))],rfl,⟨_,rfl⟩,by simp_arith⟩)
     have ct:zeD (.ref r) (.lst [evT (.ends i "bad"),evT (.ends i "spent"),evT (.ends i "well")]) M1 = .ok ((xs++[Evt.ends i "bad",.ends i "spent",.ends i "well"]).map evT) M1:=by unfold zeD;rw[zaC fd.2.1];show(if(xs.map evT).length+_<=sizeLine then Out.ok _ M1 else .bad)=_;rw[QA (by rw[Qh,sizeLine_eq];simp;symm),Qq];rfl
     erw[cp,ct];have hMl:=fd.2.2.1;exact Ok.ret ⟨M1.length,rfl,hMl,zP,fd.2.2.trans (Kp.app _ _ hMl)⟩
   rintro fl M2 ⟨r2,rfl,f2⟩;rw[qf];generalize hx2:(xs++if e.ph.isW=true then[Evt.ends i "bad",.ends i "spent",.ends i "well"]else[])=x2 at f2;have hl2:x2.length<=10*i+4:=by rw[←hx2,Qn];split<;>simp<;>symm
   have w3:=h.kept f2.2.2
   refine Ok.seqP (λfl M'=>fl = .nx [some (yg n),some (.ref (ad .w)),some (.ref r2),some (.int (i:Int)),some (nT e.house),some (clT e.caller),some (phT e.ph),o7]/\Fd M r2 (x2++if yT n R e=true then[.lost i]else[]) M') ?_ ?_
   .rw[ep];have nd:=zoW w3 i;rw[show zcd R i=e.lost from by unfold zcd;rw[he];rfl]at nd;cases qc:e.caller with
    |none=>
     have i1:∀M,zaa (clT none) .non M = .ok (.bl false) M:=λ_=>rfl;have ml:yT n R e=false:=by unfold yT;rw[qc]
     rw[ml,QB ∅,append_nil];refine Ok.ifB false ?_ ?_
     .cases zE:e.ph.isE with|true=>erw[pz,hpz,zE]|false=>erw[pz,hpz,zE,i1]
     .rw[QB ∅];simp_arith;exact Ok.ret ⟨rfl,f2⟩
    |some c=>
     have i1:∀M,zaa (.tup [nT c.1,nT c.2.1,nT c.2.2]) .non M = .ok (.bl true) M:=λ_=>rfl;rw[show clT (some c) = .tup [nT c.1,nT c.2.1,nT c.2.2]from rfl];obtain⟨hci,ce,c1,c2,c3⟩:=ri.cl i e c he qc;have ha:(n.asks ce.house)[c.2.1]?=some (n.asks ce.house)[c.2.1]:=Q0 c3;have ml:yT n R e=(!(e.lost || e.ph.isE) && !(n.asks ce.house)[c.2.1].sure):=by unfold yT;rw[qc];dsimp only;rw[qZ c1,zbs ha]
     rw[ml];cases zE:e.ph.isE with
     |true=>refine Ok.ifB false (by erw[pz,hpz,zE]) ?_;rw[QB ∅];simp_arith;refine Ok.ret ⟨rfl,?_⟩;rw[QB (by simp),append_nil];exact f2
     |false=>
      cases zL:e.lost with
      |true=>rw[zL]at nd;refine Ok.ifB false (by erw[pz,hpz,zE,i1,w3.at_w,nd]) ?_;rw[QB ∅];simp_arith;refine Ok.ret ⟨rfl,?_⟩;rw[QB (by simp),append_nil];exact f2
      |false=>
       rw[zL]at nd;refine Ok.ifB true (by erw[pz,hpz,zE,i1,w3.at_w,nd]) ?_;rw[QA rfl];have hc1:=(Qz.mp c1).1;have ac:atI ((List.range R.es.length).map λi=>FT.T.ref (ad (.e i))) (c.1:Int)=some (.ref (ad (.e c.1))):=y9 hc1;have ace:=w3.at_e c1;have hs1:=zca ce.house (ri.hs _ _ c1);have haa:atI ((n.asks ce.house).map yz) (c.2.1:Int)=some (.tup [.str (n.asks ce.house)[c.2.1].to,.int (n.asks ce.house)[c.2.1].tries,opS (n.asks ce.house)[c.2.1].purse,.str (n.asks ce.house)[c.2.1].word,.bl (n.asks ce.house)[c.2.1].hears,.bl (n.asks ce.house)[c.2.1].sure]):=qu (f:=yz) ha;have a5:∀(t0 t1 t2 t3 t4 t5:FT.T),atI [t0,t1,t2,t3,t4,t5] 5=some t5:=λ_ _ _ _ _ _=>rfl;have f3:=f2.app (.lost i);have ap:=f2.ap ⋯ (.lost i);rw[show evT (.lost i) = .tup [.str "lost",.int (i:Int)]from rfl]at ap;rw[show yg n = .tup [.tup (n.hs.map hsT),.tup (n.ps.map puT)]from rfl];cases zS:(n.asks ce.house)[c.2.1].sure with
       |true=>rw[zS]at haa;erw[w3.at_w,w3.at_a,ac,ace,hs1,haa,a5];exact Ok.ret ⟨rfl,by simpa using f2⟩
       |false=>rw[zS]at haa;erw[w3.at_w,w3.at_a,ac,ace,hs1,haa,a5,qH f2.2.1,ap];exact Ok.ret ⟨rfl,f3⟩
   rintro fl M3 ⟨rfl,f3⟩;rw[qf];generalize hx3:(x2++if yT n R e=true then[Evt.lost i]else[])=x3 at f3;have hl3:x3.length<=10*i+5:=by rw[←hx3,Qn];split<;>simp<;>symm
   have w4:=h.kept f3.2.2;have goal:∀M4,Fd M r2 (x3++(if(zK n e && yZ n R e)=true then[.again i]else[])++if e.ph.isS=true then[.up i]else[]) M4->Fd M r2 (xs++((if e.ph.isW=true then[.ends i "bad",.ends i "spent",.ends i "well"]else[])++(if yT n R e=true then[.lost i]else[])++(if(zK n e && yZ n R e)=true then[.again i]else[])++if e.ph.isS=true then[.up i]else[])) M4:=λM4 f=>by
    rw[←hx3,←hx2]at f
    simpa only[append_assoc]using f
   cases zs:e.ph.isS with
   |false=>
    have tl:zK n e=false:=by unfold zK;rw[zs];rfl
    rw[zs,tl]at goal;rw[ep];refine Ok.ifB false (by erw[pz,hpz,zs]) ?_;rw[QB ∅];simp_arith;refine Ok.ret ⟨_,rfl,r2,_,_,_,_,_,rfl,?_⟩;have:=goal M3 (by simpa using f3);rw[tl];exact this
   |true=>
    rw[zs]at goal;have hl:=zcl zs (ri.ph _ _ he);have ha:.(5)[e.ph.at1]?=some .(5)[e.ph.at1]:=Q0 hl;have hm:=Qa ha;have hs1:=zca e.house (ri.hs _ _ he);have tl:zK n e=(.(5)[e.ph.at1].tries==0 || decide ((e.ph.at2:Int)<.(5)[e.ph.at1].tries)):=by unfold zK;rw[zs,zbs ha];rfl
    have cn:decide (0<cnV n R .(5)[e.ph.at1])=yZ n R e:=by unfold cnV yZ;rw[zbs ha];cases n.pof (n.asks e.house)[e.ph.at1]<;>rfl
    have haa:atI (.(5).map yz) (e.ph.at1:Int)=some (yz .(5)[e.ph.at1]):=qu (f:=yz) ha;have co:=zoF (I:=I) (O:=O) gn w4 hm;rw[tl]at goal ⊢;generalize .(5)[e.ph.at1]=a at haa co goal cn;rw[show phT e.ph = .tup [.str "stands",nT e.ph.at1,nT e.ph.at2]from phS zs];have es:∀M,eqA (.str "stands") (.str "stands") M = .ok (.bl true) M:=λ_=>rfl;rw[show yz a = .tup [.str a.to,.int a.tries,opS a.purse,.str a.word,.bl a.hears,.bl a.sure]from rfl]at haa co;rw[show yg n = .tup [.tup (n.hs.map hsT),.tup (n.ps.map puT)]from rfl]at co ⊢;refine Ok.ifB true (by erw[es]) ?_;rw[QA rfl];nofun;erw[hs1,haa];left;have ap:=f3.ap ⋯ (.again i);rw[show evT (.again i) = .tup [.str "again",.int (i:Int)]from rfl]at ap
    have Y:∀x4 M4,Fd M r2 x4 M4->x4.length<=10*i+6->x4=x3++(if((a.tries==0 || decide ((e.ph.at2:Int)<a.tries)) && yZ n R e)=true then[.again i]else[])->Ok (zB (qS yP (eUn qG (Z 2)) (zb (yA (zb (eC (.str "up")) (zb (Z 3) ze))) ze)) [some (.tup [.tup (n.hs.map hsT),.tup (n.ps.map puT)]),some (.ref (ad .w)),some (.ref r2),some (.int (i:Int)),some (nT e.house),some (clT e.caller),some (.tup [.str "stands",nT e.ph.at1,nT e.ph.at2]),some (.tup [.str a.to,.int a.tries,opS a.purse,.str a.word,.bl a.hears,.bl a.sure])] M4) λfl M'=>∃J',fl = .nx J'/\∃r o3 o4 o5 o6 o7,J'=[some (.tup [.tup (n.hs.map hsT),.tup (n.ps.map puT)]),some (.ref (ad .w)),some (.ref r),o3,o4,o5,o6,o7]/\Fd M r (xs++((if e.ph.isW=true then[.ends i "bad",.ends i "spent",.ends i "well"]else[])++(if yT n R e=true then[.lost i]else[])++(if((a.tries==0 || decide ((e.ph.at2:Int)<a.tries)) && yZ n R e)=true then[.again i]else[])++if true=true then[.up i]else[])) M':=by rintro x4 M4 f4 hl4 rfl;have ap:=f4.ap ⋯ (.up i);rw[show evT (.up i) = .tup [.str "up",.int (i:Int)]from rfl]at ap;erw[qH f4.2.1,ap];have f5:=f4.app (.up i);exact Ok.ret ⟨_,rfl,r2,_,_,_,_,_,rfl,goal _ (by rw[QA rfl];exact f5)⟩
    nofun;have z0:∀M,eqA (.int a.tries) (.int 0) M = .ok (.bl (a.tries==0)) M:=λ_=>rfl;cases zt:(a.tries==0 || decide ((e.ph.at2:Int)<a.tries))with
    |false=>rw[zt]at Y;rw[Bool.or_eq_false_iff]at zt;erw[zt.1,zt.2];left;exact Y x3 M3 f3 ⋯ (by simp)
    |true=>
     rw[zt]at Y;refine Ok.bind (P:=λfl M'=>∃x4,fl = .nx [some (.tup [.tup (n.hs.map hsT),.tup (n.ps.map puT)]),some (.ref (ad .w)),some (.ref r2),some (.int (i:Int)),some (nT e.house),some (clT e.caller),some (.tup [.str "stands",nT e.ph.at1,nT e.ph.at2]),some (.tup [.str a.to,.int a.tries,opS a.purse,.str a.word,.bl a.hears,.bl a.sure])]/\Fd M r2 x4 M'/\x4.length<=10*i+6/\x4=x3++(if(true && yZ n R e)=true then[.again i]else[])) (Ok.ifP (λb M'=>b=yZ n R e/\M'=M3) ?_ ?_) ?_
     .by_cases y:(a.tries==0)=true
      .erw[y];refine Ok.bind co ?_;rintro t M4 ⟨rfl,rfl⟩;erw[cn];exact Ok.ret ⟨rfl,rfl⟩
      .have y':(a.tries==0)=false:=by simpa using y
       rw[y',Bool.false_or]at zt;erw[y',zt];refine Ok.bind co ?_;rintro t M4 ⟨rfl,rfl⟩;erw[cn];exact Ok.ret ⟨rfl,rfl⟩
     .rintro b M4 ⟨rfl,rfl⟩;cases zc:yZ n R e with
      |false=>rw[QB ∅];simp_arith;exact Ok.ret ⟨x3,rfl,f3,⋯,by simp⟩
      |true=>rw[QA rfl];erw[qH f3.2.1,ap];exact Ok.ret ⟨_,rfl,f3.app _,by rw[Qn];simp;symm,by simp⟩
     .rintro fl M4 ⟨x4,rfl,f4,hl4,e4⟩;rw[hX];exact Y x4 M4 f4 hl4 e4
  .rintro fl M1 ⟨J,rfl,r,o3,o4,o5,o6,o7,rfl,fd⟩;rw[zaR]at fd
   try simp_arith
   left;simp_arith;exact Ok.ret ⟨r,rfl,fd⟩
 obtain⟨t,M',e,r,rfl,h1,h2,h3⟩:=key;unfold zcJ zex;rw[e];dsimp only;rw[h2];dsimp only;rw[QA];refine⟨zgP h3,h1,λx hx=>?_⟩;obtain⟨ev,_,rfl⟩:=mem_map.mp hx;exact ztJ ev
end
theorem zke{D:List (Key × FT.T)}(h:j ≠ k):((D.map λkv=>if kv.1=k then(kv.1,v)else kv).find? λkv=>decide (kv.1=j)).map (·.2)=(D.find? λkv=>decide (kv.1=j)).map (·.2):=by
 induction D with
 |nil=>rfl|cons kv D ih=>
  rw[QG,find?_cons,find?_cons]
  by_cases e:kv.1=k
  .rw[QA e];have:¬kv.1=j:=λz=>h (z.symm.trans e);simp only[this,decide_false];exact ih
  .rw[QB e]
   by_cases z:kv.1=j
   .simp only[z,decide_true]
   .simp only[z,decide_false];exact ih
theorem zoz{j:Key}:qI (D++[(k,v)]) j=match qI D j with | some x=>some x | none=>if j=k then some v else none:=by
 unfold qI;rw[List.find?_append];cases q:D.find? λkv=>decide (kv.1=j)with
 |some x=>rfl|none=>
  by_cases z:j=k
  .subst z;simp
  .have:¬k=j:=λx=>z x.symm;simp[z,this]
theorem zkf{D:List (Key × FT.T)}(h:(D.any λkv=>decide (kv.1=k))=true):qI (D.map λkv=>if kv.1=k then(kv.1,v)else kv) k=some v:=by
 unfold qI
 induction D with
 |nil=>cases h|cons kv D ih=>
  rw[QG,find?_cons]
  by_cases e:kv.1=k
  .rw[QA e];simp only[e,decide_true];rfl
  .rw[QB e];simp only[e,decide_false];refine ih ?_;rw[any_cons]at h
   simpa[e]using h
theorem zog(D:List (Key × FT.T))(k j:Key)(v:FT.T):qI (zab D k v) j=if j=k then some v else qI D j:=by
 unfold zab;split
 .rename_i h
  by_cases z:j=k
  .rw[QA z,z];exact zkf h
  .rw[QB z];exact zke z
 .rename_i h;rw[zoz]
  by_cases z:j=k
  .rw[QA z,QA z,z];have:qI D k=none:=by unfold qI;rw[show(D.find? λkv=>decide (kv.1=k))=none from List.find?_eq_none.mpr λx hx hz=>h (any_eq_true.mpr ⟨x,hx,hz⟩)];rfl
   rw[this]
  .rw[QB z,QB z];cases qI D j<;>rfl
theorem zpr(D:List (Key × FT.T))(k:Key)(v:FT.T):(zab D k v).length<=D.length+1:=by
 unfold zab;split
 .rw[Qh];symm
 .simp
theorem zpj(h:M[s]?=some (.dic D))(hl:D.length<=100000):zdi (.ref s) (.int i) t M = .ok () (M.set s (.dic (zab D (.inl i) t))):=by show(match M[s]? with | some (.dic kvs)=>if kvs.length<sizeLine then Out.ok () (M.set s (.dic (zab kvs (.inl i) t)))else .bad | _=>za0 (.ref s) (.int i) t M)=_;rw[h];dsimp only;rw[QA (by rw[sizeLine_eq];symm)]
section
theorem Wd.tick(h:Wd n ad M R D):Wd n ad M R.tick D:=⟨λs hs=>by cases s<;>exact h.ho _ hs,λs t hs ht e=>h.inj s t (by cases s<;>exact hs) (by cases t<;>exact ht) e,h.dl,QM h.dk,h.pl,h.tl⟩
theorem Wf2.tick(f:Wf2 n ad M R ad' M' R'):Wf2 n ad M R ad' M' R'.tick:=⟨f.le,f.kp,λs hs=>f.nw s (by cases s<;>exact hs),f.ww⟩
theorem Wst.tick(w:Wst n ad M R R' M'):Wst n ad M R R'.tick M':=by obtain⟨ad',D',h1,h2⟩:=w;exact⟨ad',D',h1.tick,h2.tick⟩
theorem Wd.lose(h:Wd n ad M R D){i:Nat}{e:Er}(he:R.es[i]?=some e):Wd n ad (M.set (ad .d) (.dic (zab D (.inl (i:Int)) (.bl true)))) (R.setE i { e with lost:=true }).tick (zab D (.inl (i:Int)) (.bl true))/\Wf2 n ad M R ad (M.set (ad .d) (.dic (zab D (.inl (i:Int)) (.bl true)))) (R.setE i { e with lost:=true }).tick:=by
 have hl:(R.setE i { e with lost:=true }).tick.es.length=R.es.length:=length_set ..;refine h.write (s:=.d) trivial hl rfl (λt ht=>?_) (λj=>?_) (Qj (zpr ..) (Nat.succ_le_succ h.dk)) rfl rfl
 .cases t with
  |d=>exact absurd rfl ht|a=>simp only[ctn];rw[hl]|e j=>
   simp only[ctn]
   by_cases z:j=i
   .subst z;rw[show(R.setE j { e with lost:=true }).tick.er j={ e with lost:=true }from zlg he,qZ he]
   .rw[show(R.setE i { e with lost:=true }).tick.er j=R.er j from zo2 z]
  |_=>rfl
 .rw[zog];show _=((((R.setE i { e with lost:=true }).es)[j]?).map (·.lost)).getD false
  by_cases z:j=i
  .subst z;rw[QA rfl,zcY he];rfl
  .rw[QB (λy=>z (by have:=Sum.inl.inj y;symm)),zdT z,h.dl j];rfl
theorem Wd.pay(h:Wd n ad M R D)(p:Nat × Nat × Nat):Wd n ad (M.set (ad .q) (.lst ((R.pays++[p]).map zbA))) { R with pays:=R.pays++[p] } D/\Wf2 n ad M R ad (M.set (ad .q) (.lst ((R.pays++[p]).map zbA))) { R with pays:=R.pays++[p] }:=
 h.write (R':={ R with pays:=R.pays++[p] }) (D':=D) (s:=.q) trivial rfl rfl (λt ht=>by cases t<;>first | rfl | exact absurd rfl ht) h.dl h.dk rfl rfl
theorem Wd.took(h:Wd n ad M R D){k:Nat}(hk:k<n.ps.length)(v:Nat):Wd n ad (M.set (ad (.k k)) (.lst [.ref (ad (.g k)),.ref (ad (.c k)),nT v])) { R with taken:=R.taken.set k v } D/\Wf2 n ad M R ad (M.set (ad (.k k)) (.lst [.ref (ad (.g k)),.ref (ad (.c k)),nT v])) { R with taken:=R.taken.set k v }:=by
 have hk':k<R.taken.length:=by rw[h.tl];exact hk
 refine h.write (R':={ R with taken:=R.taken.set k v }) (D':=D) (s:=.k k) hk rfl ?_ (λt ht=>?_) h.dl h.dk rfl (length_set ..)
 .simp only[ctn];rw[Q7,Qc,QA rfl,QA hk'];rfl
 .cases t with
  |k j=>simp only[ctn];rw[Q7,Qc,QB (λz=>ht (by rw[z])),Q7]
  |_=>rfl
theorem zsP(gn:GN n)(h:Wd n ad M R D){B:Nat}(sb:SB B R)(hB:B+40<90000)(hcm:R.came<90000)(ri:RI n R){ev:Evt}(hc:EvC n R ev):
  Ok (zey I O [yg n,.ref (ad .w),evT ev] M) λt M'=>t = .non/\Wst n ad M R (zaG n R ev) M':=by
 have wn:=gn.wn;refine zA rfl ?_;unfold znc;cases ev with
 |fresh=>
  have q0:∀M,eqA (.str "fresh") (.str "fresh") M = .ok (.bl true) M:=λ_=>rfl;have q1:∀M,eqA (.str "fresh") (.str "ends") M = .ok (.bl false) M:=λ_=>rfl;have q2:∀M,eqA (.str "fresh") (.str "lost") M = .ok (.bl false) M:=λ_=>rfl;have q3:∀M,inD (.str "fresh") (.lst [.str "again",.str "up"]) M = .ok (.bl false) M:=λ_=>rfl;rw[show evT .fresh = .tup [.str "fresh"]from rfl];right;erw[q0];refine Ok.bind (show Ok (zcr I O [yg n,.ref (ad .w),.int 0,.non] M) (λt M'=>t = .non/\Wst n ad M R (qE n 4 R 0 none) M')from zjT gn h sb ⋯ wn.h1 none) ?_;rintro t M1 ⟨rfl,ws⟩
  try simp_arith
  left;erw[q1,q2,q3];exact Ok.ret ⟨rfl,ws.tick⟩
 |ends i w=>
  obtain⟨e,he,hw⟩:=hc;have q0:∀M,eqA (.str "ends") (.str "fresh") M = .ok (.bl false) M:=λ_=>rfl;have q1:∀M,eqA (.str "ends") (.str "ends") M = .ok (.bl true) M:=λ_=>rfl;have q2:∀M,eqA (.str "ends") (.str "lost") M = .ok (.bl false) M:=λ_=>rfl;have q3:∀M,inD (.str "ends") (.lst [.str "again",.str "up"]) M = .ok (.bl false) M:=λ_=>rfl;rw[show evT (.ends i w) = .tup [.str "ends",nT i,.str w]from rfl];right;erw[q0];left;right;erw[q1];refine Ok.bind (zlh gn h sb ⋯ ri he w) ?_;rintro t M1 ⟨rfl,ws⟩
  try simp_arith
  left;erw[q2,q3];exact Ok.ret ⟨rfl,ws.tick⟩
 |lost i=>
  obtain⟨e,c,he,hq,_⟩:=hc;have q0:∀M,eqA (.str "lost") (.str "fresh") M = .ok (.bl false) M:=λ_=>rfl;have q1:∀M,eqA (.str "lost") (.str "ends") M = .ok (.bl false) M:=λ_=>rfl;have q2:∀M,eqA (.str "lost") (.str "lost") M = .ok (.bl true) M:=λ_=>rfl;have q3:∀M,inD (.str "lost") (.lst [.str "again",.str "up"]) M = .ok (.bl false) M:=λ_=>rfl;rw[show evT (.lost i) = .tup [.str "lost",nT i]from rfl];right;erw[q0];left;right;erw[q1];left;obtain⟨w1,f1⟩:=h.lose he;have he1:(R.setE i { e with lost:=true }).tick.es[i]?=some { e with lost:=true }:=zcY he _;have ri1:RI n (R.setE i { e with lost:=true }):=ri.setE he rfl rfl (by have:=ri.ph _ _ he;unfold zel at this ⊢;exact this);obtain⟨c0,ce,c1,c2,c3⟩:=ri1.cl i _ c he1 hq;have ae:=w1.at_e he1;rw[show({ e with lost:=true }:Er).caller=some c from hq,show clT (some c) = .tup [nT c.1,nT c.2.1,nT c.2.2]from rfl]at ae;have ace:=w1.at_e (i:=c.1) c1;have s4:=zlE (t:=.tup [.str "stands",nT c.2.1,nT c.2.2]) ace;have hl:(R.setE i { e with lost:=true }).tick.es.length=R.es.length:=length_set ..;have hi:=(Qz.mp he).1;have a1:=w1.at_a;rw[hl]at a1;have ai:atI ((List.range R.es.length).map λi=>FT.T.ref (ad (.e i))) (i:Int)=some (.ref (ad (.e i))):=y9 hi;have ac:atI ((List.range R.es.length).map λi=>FT.T.ref (ad (.e i))) (c.1:Int)=some (.ref (ad (.e c.1))):=y9 ⋯;have sd:=zpj (i:=(i:Int)) (t:=.bl true) h.at_d (by have:=h.dk;symm);obtain⟨w5,f5⟩:=w1.setE (i:=c.1) c1 { ce with ph:=.stands c.2.1 c.2.2,stood:=some R.came } rfl rfl rfl;rw[show phT ({ ce with ph:=.stands c.2.1 c.2.2,stood:=some R.came }:Er).ph = .tup [.str "stands",nT c.2.1,nT c.2.2]from rfl]at w5 f5;have e0:zaG n R (.lost i)=(R.setE i { e with lost:=true }).tick.setE c.1 { ce with ph:=.stands c.2.1 c.2.2,stood:=some R.came }:=by
   have el:∀(o:Option (Nat × Nat × Nat)) (f:Nat × Nat × Nat->Run),o=some c->o.elim R f=f c:=λo f h=>by rw[h];rfl
   show(zcC n R i).tick=_;unfold zcC;rw[qZ he,el _ _ hq];unfold zaH;rw[c1];rfl
  rw[e0];generalize (R.setE i { e with lost:=true }).tick=R1 at *;right;erw[q2,zaM,h.at_w,sd];generalize M.set (ad .d) (.dic (zab D (.inl (i:Int)) (.bl true)))=M1 at *;erw[w1.at_w,a1,ai,ae,ac,s4];left;erw[q3];exact Ok.ret ⟨rfl,ad,_,w5,f1.trans f5⟩
 |up i=>
  obtain⟨e,he,hs⟩:=hc;have q0:∀M,eqA (.str "up") (.str "fresh") M = .ok (.bl false) M:=λ_=>rfl;have q1:∀M,eqA (.str "up") (.str "ends") M = .ok (.bl false) M:=λ_=>rfl;have q2:∀M,eqA (.str "up") (.str "lost") M = .ok (.bl false) M:=λ_=>rfl;have q3:∀M,inD (.str "up") (.lst [.str "again",.str "up"]) M = .ok (.bl true) M:=λ_=>rfl;have q4:∀M,eqA (.str "up") (.str "up") M = .ok (.bl true) M:=λ_=>rfl;rw[show evT (.up i) = .tup [.str "up",nT i]from rfl];right;erw[q0];left;right;erw[q1];left;right;erw[q2];left;have hl:=zcl hs (ri.ph _ _ he);have ha:.(5)[e.ph.at1]?=some .(5)[e.ph.at1]:=Q0 hl;have haa:atI (.(5).map yz) (e.ph.at1:Int)=some (yz .(5)[e.ph.at1]):=qu (f:=yz) ha;have hs1:=zca e.house (ri.hs _ _ he);have hi:=(Qz.mp he).1;have ae:=h.at_e he;rw[show phT e.ph = .tup [.str "stands",nT e.ph.at1,nT e.ph.at2]from phS hs]at ae;have lo:=zaC ae;have eo:=zlh (I:=I) (O:=O) gn h sb ⋯ ri he .(5)[e.ph.at1].word;have e0:zaG n R (.up i)=(yL n 4 R i .(5)[e.ph.at1].word).tick:=by show(upR n R i).tick=_;unfold upR;rw[qZ he,zbs ha]
  rw[e0];generalize .(5)[e.ph.at1]=a at haa eo;rw[show yz a = .tup [.str a.to,.int a.tries,opS a.purse,.str a.word,.bl a.hears,.bl a.sure]from rfl]at haa;rw[show yg n = .tup [.tup (n.hs.map hsT),.tup (n.ps.map puT)]from rfl]at eo ⊢;erw[q3,zd2,h.at_w,h.at_a,y9 hi,lo,hs1,haa,q4];refine Ok.bind eo ?_;rintro t M1 ⟨rfl,ws⟩
  try simp_arith
  exact Ok.ret ⟨rfl,ws.tick⟩
 |again i=>
  obtain⟨e,he,hs,_⟩:=hc;have q0:∀M,eqA (.str "again") (.str "fresh") M = .ok (.bl false) M:=λ_=>rfl;have q1:∀M,eqA (.str "again") (.str "ends") M = .ok (.bl false) M:=λ_=>rfl;have q2:∀M,eqA (.str "again") (.str "lost") M = .ok (.bl false) M:=λ_=>rfl;have q3:∀M,inD (.str "again") (.lst [.str "again",.str "up"]) M = .ok (.bl true) M:=λ_=>rfl;have q4:∀M,eqA (.str "again") (.str "up") M = .ok (.bl false) M:=λ_=>rfl;rw[show evT (.again i) = .tup [.str "again",nT i]from rfl];right;erw[q0];left;right;erw[q1];left;right;erw[q2];left;have hl:=zcl hs (ri.ph _ _ he);have ha:.(5)[e.ph.at1]?=some .(5)[e.ph.at1]:=Q0 hl;have hm:=Qa ha;have haa:atI (.(5).map yz) (e.ph.at1:Int)=some (yz .(5)[e.ph.at1]):=qu (f:=yz) ha;have hs1:=zca e.house (ri.hs _ _ he);have hi:=(Qz.mp he).1;have ae:=h.at_e he;rw[show phT e.ph = .tup [.str "stands",nT e.ph.at1,nT e.ph.at2]from phS hs]at ae;have lo:=zaC ae;have e0:zaG n R (.again i)=(y8 n (qE n 4) (takeO R (n.pof .(5)[e.ph.at1])) i e.ph.at1 (e.ph.at2+1)).tick:=by show(zc5 n R i).tick=_;unfold zc5;rw[qZ he,zbs ha]
  have w:=wn.as e.house _ hm;rw[e0];generalize .(5)[e.ph.at1]=a at haa hm w;rw[show yz a = .tup [.str a.to,.int a.tries,opS a.purse,.str a.word,.bl a.hears,.bl a.sure]from rfl]at haa;have rg:∀M,zbz [.int (n.ps.length:Int)] M = .ok ((rgI n.ps.length).map .int) M:=λM=>qX (j:=(n.ps.length:Int)) (by have:=wn.pl;symm);rw[show yg n = .tup [.tup (n.hs.map hsT),.tup (n.ps.map puT)]from rfl];erw[q3,zd2,h.at_w,h.at_a,y9 hi,lo,hs1,haa,q4,Qh,rg,QH];refine Ok.bind (Ok.for (r:=FT.T.int) (xs:=rgI n.ps.length) (λj J M'=>∃o3 o4 o5 o10,J=[some (.tup [.tup (n.hs.map hsT),.tup (n.ps.map puT)]),some (.ref (ad .w)),some (.tup [.str "again",nT i]),o3,o4,o5,some (nT e.house),some (clT e.caller),some (.tup [.str "stands",nT e.ph.at1,nT e.ph.at2]),some (.tup [.str a.to,.int a.tries,opS a.purse,.str a.word,.bl a.hears,.bl a.sure]),o10]/\Wst n ad M R (if(∃k,k<j/\n.pof a=some k)then takeO R (n.pof a)else R) M') ⟨none,none,none,none,rfl,by rw[QB λz=>by obtain⟨k,hk,_⟩:=z;symm];exact⟨ad,D,h,.refl⟩⟩ ?_) ?_
  .rintro j y J M1 hy ⟨o3,o4,o5,o10,rfl,ws⟩;obtain⟨hj,rfl⟩:=zaS hy;have hps:n.ps[j]?=some n.ps[j]:=Q0 hj;have hpa:atI (n.ps.map puT) (j:Int)=some (.tup [.str n.ps[j].name,.str n.ps[j].earns,.int n.ps[j].per]):=qu (f:=puT) hps;have en:=zhm gn hm hps;simp_arith;unfold zlo
   by_cases d:n.pof a=some j
   .have d':decide (n.pof a=some j)=true:=Qw d;rw[QB (λz=>by obtain⟨k,hk,e⟩:=z;rw[d]at e;cases e;symm)]at ws;rw[QA ⟨j,Nat.lt_succ_self _,d⟩,d];obtain⟨ad1,D1,w1,f1⟩:=ws;rw[←f1.ww];refine Ok.ifB true (by erw[hpa,en,d']) ?_;rw[QA rfl];obtain⟨w2,f2⟩:=w1.pay (R.es.length,j,R.taken.getD j 0);obtain⟨w3,f3⟩:=w2.took hj (R.taken.getD j 0+1);have ap:=qQ (t:=.tup [nT R.es.length,nT j,nT (R.taken.getD j 0)]) w1.at_q (by rw[Qh,sizeLine_eq];have:=sb.py;symm);rw[show R.pays.map zbA++[.tup [nT R.es.length,nT j,nT (R.taken.getD j 0)]]=(R.pays++[(R.es.length,j,R.taken.getD j 0)]).map zbA from by simp[zbA]]at ap;have la:=zgr w1;nofun;erw[w1.at_w,qH w1.at_q,la,w1.at_p,y9 hj,w1.at_k hj,ap];left;generalize M1.set (ad1 .q) (.lst ((R.pays++[(R.es.length,j,R.taken.getD j 0)]).map zbA))=M2 at *;have ak:=w2.at_k hj;have s4:=zlE (t:=.int ((R.taken.getD j 0:Int)+1)) ak;erw[zaM,w2.at_w,w2.at_p,y9 hj,ak,s4];exact Ok.ret ⟨_,rfl,_,_,_,_,rfl,ad1,D1,w3,f1.trans (f2.trans f3)⟩
   .have d':decide (n.pof a=some j)=false:=Qx d;refine Ok.ifB false (by erw[hpa,en,d']) ?_;rw[QB ∅];simp_arith;refine Ok.ret ⟨_,rfl,_,_,_,_,rfl,?_⟩;have iff:(∃k,k<j+1/\n.pof a=some k) ↔ (∃k,k<j/\n.pof a=some k):=by
     refine⟨λ⟨k,h1,h2⟩=>⟨k,?_,h2⟩,λ⟨k,h1,h2⟩=>⟨k,⋯,h2⟩⟩
     by_cases z:k=j
     .rw[z]at h2;exact absurd h2 d
     .symm
    by_cases y:∃k,k<j/\n.pof a=some k
    .rw[QA y]at ws;rw[QA (iff.mpr y)];exact ws
    .rw[QB y]at ws;rw[QB λz=>y (iff.mp z)];exact ws
  .rintro fl M1 ⟨J,rfl,o3,o4,o5,o10,rfl,ws⟩;rw[zaR]at ws;rw[show(if(∃k,k<n.ps.length/\n.pof a=some k)then takeO R (n.pof a)else R)=takeO R (n.pof a)from by
    split
    .rfl
    .rename_i z;cases q:n.pof a with
     |none=>rfl
     | some k=>exact absurd ⟨k,w.plt q,q⟩ z]at ws
   obtain⟨ad1,D1,w1,f1⟩:=ws;have te:=zfx R (n.pof a);have ri1:RI n (takeO R (n.pof a)):=⟨by rw[te.1];exact ri.hs,by rw[te.1];exact ri.cl,by rw[te.1];exact ri.ph,by rw[te.2.1];exact ri.pl⟩;have to:=zks (I:=I) (O:=O) gn w1 (sb.takeO _) ⋯ ri1 (tr:=e.ph.at2+1) (by rw[te.1];exact he) hl;rw[f1.ww,show yg n = .tup [.tup (n.hs.map hsT),.tup (n.ps.map puT)]from rfl,show nT (e.ph.at2+1) = .int ((e.ph.at2:Int)+1)from rfl]at to;simp_arith;refine Ok.bind to ?_;rintro t M2 ⟨rfl,ad2,D2,w2,f2⟩
   try simp_arith
   exact Ok.ret ⟨rfl,ad2,D2,w2.tick,(f1.trans f2).tick⟩
end
section
theorem znp:∀(xs:List FT.T) (o:Option FT.T) (M:Mem) (acc:List FT.T),acc.length+xs.length<=100000->∃M',qF (qp 0) yN (eTk (zu (zb (eTk (zu ze)) (zb (eTk (zu ze)) (zb j4 ze))))) xs [o] M acc = .ok (acc++(List.range xs.length).map λj=>.ref (M.length+3*j+2)) M'/\M'.length=M.length+3*xs.length/\(∀i,i<M.length->M'[i]?=M[i]?)/\∀j,j<xs.length->M'[M.length+3*j]?=some (.lst [])/\M'[M.length+3*j+1]?=some (.lst [])/\M'[M.length+3*j+2]?=some (.lst [.ref (M.length+3*j),.ref (M.length+3*j+1),.int 0])
 |[],o,M,acc,_=>⟨M,by simp[qF],by simp,λ_ _=>rfl,λj hj=>absurd hj (Nat.not_lt_zero _)⟩|x::xs,o,M,acc,hl=>by
  rw[Qp]at hl;obtain⟨M',e,l,k,c⟩:=znp xs (some x) (M++[Cell.lst []]++[Cell.lst []]++[Cell.lst [.ref M.length,.ref (M.length+1),.int 0]]) (acc++[.ref (M.length+2)]) (by rw[Qn,Qu];symm);have hl3:(M++[Cell.lst []]++[Cell.lst []]++[Cell.lst [.ref M.length,.ref (M.length+1),.int 0]]).length=M.length+3:=by simp
  rw[hl3]at l k c e;have g0:(M++[Cell.lst []]++[Cell.lst []]++[Cell.lst [.ref M.length,.ref (M.length+1),.int 0]])=M++[Cell.lst [],.lst [],.lst [.ref M.length,.ref (M.length+1),.int 0]]:=by simp
  rw[g0]at k e;refine⟨M',?_,by rw[l,Qp];symm,λi hi=>?_,λj hj=>?_⟩
  .unfold qF;have l1:(M++[Cell.lst []]).length=M.length+1:=by simp
   have l2:(M++[Cell.lst []]++[Cell.lst []]).length=M.length+2:=by simp
   show(if acc.length<sizeLine then qF (qp 0) yN (eTk (zu (zb (eTk (zu ze)) (zb (eTk (zu ze)) (zb j4 ze))))) xs [some x] (M++[Cell.lst []]++[Cell.lst []]++[Cell.lst [.ref M.length,.ref (M++[Cell.lst []]).length,.int 0]]) (acc++[.ref (M++[Cell.lst []]++[Cell.lst []]).length])else .bad)=_;rw[l1,l2,g0,QA (by rw[sizeLine_eq];symm),e];congr 1;rw[append_assoc,Qp,List.range_succ_eq_map,QG,map_map];congr 1;show FT.T.ref (M.length+2)::_=FT.T.ref (M.length+3*0+2)::_;congr 1;refine map_congr_left λj _=>?_;show FT.T.ref _=FT.T.ref _;congr 1;show M.length+3+3*j+2=M.length+3*(j+1)+2;symm
  .rw[k i ⋯,Q6 hi]
  .cases j with
   |zero=>refine⟨?_,?_,?_⟩<;>(rw[k _ ⋯,Q8 ⋯])<;>simp
   |succ j=>
    rw[Qp]at hj;obtain⟨c1,c2,c3⟩:=c j ⋯;have e3:M.length+3+3*j=M.length+3*(j+1):=by symm
    rw[e3]at c1 c2 c3;exact⟨c1,c2,c3⟩
noncomputable def adN(b P:Nat):Slot->Nat
 |.a=>b|.d=>b+1|.p=>b+2+3*P|.q=>b+2+3*P+1|.w=>b+2+3*P+1+1|.e _=>0|.g j=>b+2+3*j|.c j=>b+2+3*j+1|.k j=>b+2+3*j+2
theorem ziB(wn:WN n)(M:Mem):Ok (zda I O [yg n] M) λt M'=>∃ad,t = .ref (ad .w)/\Wd n ad M' (Run.new n) []/\(∀s,s.ok n (Run.new n)->M.length<=ad s)/\Kp M.length M M':=by
 refine zA rfl ?_;unfold zhQ;obtain⟨M1,e1,l1,k1,c1⟩:=znp (n.ps.map puT) none (M++[.lst []]++[.dic []]) [] (by rw[Qh];have:=wn.pl;simp;symm);have l0:(M++[Cell.lst []]++[Cell.dic []]).length=M.length+2:=by simp
 rw[l0,Qh]at l1 c1 e1;rw[l0]at k1;rw[nil_append]at e1;rw[show yg n = .tup [.tup (n.hs.map hsT),.tup (n.ps.map puT)]from rfl];erw[zlZ,e1];have la:(M++[Cell.lst []]).length=M.length+1:=by simp
 generalize hX:Cell.lst ((List.range n.ps.length).map λj=>FT.T.ref (M.length+2+3*j+2))=Xp;have lp:(M1++[Xp]).length=M.length+2+3*n.ps.length+1:=by rw[Qn,l1];rfl
 have lw:(M1++[Xp]++[Cell.lst []]).length=M.length+2+3*n.ps.length+1+1:=by rw[Qn,lp];rfl
 rw[la,lp,lw,l1];generalize hW:Cell.lst [FT.T.ref M.length,.ref (M.length+1),.ref (M.length+2+3*n.ps.length),.ref (M.length+2+3*n.ps.length+1)]=Xw;have old:∀i,i<M.length+2+3*n.ps.length->(M1++[Xp]++[Cell.lst []]++[Xw])[i]?=M1[i]?:=λi hi=>by rw[append_assoc,append_assoc,Q6 ⋯]
 have new:∀k,(M1++[Xp]++[Cell.lst []]++[Xw])[M.length+2+3*n.ps.length+k]?=[Xp,.lst [],Xw][k]?:=λk=>by rw[append_assoc,append_assoc,Q8 ⋯,show M.length+2+3*n.ps.length+k-M1.length=k by symm];rfl
 have t0:∀j,(Run.new n).taken.getD j 0=0:=λj=>by show(n.ps.map λ_=>0).getD j 0=0;rw[Q7,Qb];cases n.ps[j]?<;>rfl
 have u0:∀j,(Run.new n).puts.getD j []=[]:=λj=>by show(n.ps.map λ_=>([]:List Nat)).getD j []=[];rw[Q7,Qb];cases n.ps[j]?<;>rfl
 refine Ok.ret ⟨adN M.length n.ps.length,rfl,⟨λs hs=>?_,λs t hs ht e=>?_,λi=>?_,Q3 _,by simp[Run.new],by simp[Run.new]⟩,λs hs=>?_,⟨?_,λi hi=>?_⟩⟩
 .cases s with
  |w=>exact(new 2).trans (by rw[←hW];rfl)|q=>exact new 1|p=>exact(new 0).trans (by rw[←hX];rfl)|a=>show(M1++[Xp]++[Cell.lst []]++[Xw])[M.length]?=some (.lst []);rw[old _ ⋯,k1 _ ⋯,append_assoc,Q8 (Q3 _),Qv];rfl
  |d=>show(M1++[Xp]++[Cell.lst []]++[Xw])[M.length+1]?=some (.dic []);rw[old _ ⋯,k1 _ ⋯,append_assoc,Q8 ⋯,show M.length+1-M.length=1 by symm];rfl
  |e i=>exact absurd (show i<0 from hs) (Nat.not_lt_zero _)|k j=>have hj:j<n.ps.length:=hs;show(M1++[Xp]++[Cell.lst []]++[Xw])[M.length+2+3*j+2]?=_;rw[old _ ⋯,(c1 j hj).2.2];simp only[ctn];rw[t0];rfl
  |g j=>have hj:j<n.ps.length:=hs;show(M1++[Xp]++[Cell.lst []]++[Xw])[M.length+2+3*j]?=_;rw[old _ ⋯,(c1 j hj).1];simp only[ctn];rw[u0];unfold qK;simp
  |c j=>have hj:j<n.ps.length:=hs;show(M1++[Xp]++[Cell.lst []]++[Xw])[M.length+2+3*j+1]?=_;rw[old _ ⋯,(c1 j hj).2.1];simp only[ctn];rw[u0];unfold z3;simp
 .cases s<;>cases t<;>simp only[adN,Slot.ok,Run.new,length_nil,Nat.not_lt_zero]at hs ht e<;>first | rfl | (congr 1;symm) | (exfalso;symm)
 .unfold zcd;rw[show(Run.new n).es=[]from rfl];rfl
 .cases s<;>simp only[adN,Slot.ok,Run.new,length_nil,Nat.not_lt_zero]at hs ⊢<;>symm
 .simp;symm
 .rw[old _ ⋯,k1 _ ⋯,append_assoc,Q6 hi]
end
theorem VEv.snoc:∀{evs:List Evt} {R:Run} {ev:Evt},VEv n R evs->Can n (evs.foldl (zaG n) R) ev->VEv n R (evs++[ev])
 |[],_,_,_,c=>⟨c,True.intro⟩|_::_,_,_,v,c=>⟨v.1,VEv.snoc v.2 c⟩
theorem zkV(R:Run):(zbB n R).length<=10*R.es.length+1:=by unfold zbB;rw[Qp];have:=zfJ (n:=n) R R.es.length;symm
section
theorem zdZ(wn:WN n){evs:List Evt}(v:VEv n (Run.new n) evs):∀k,k<=evs.length->(zM n (evs.take k)).came=k
 |0,_=>rfl|k+1,h=>by have hk:evs[k]?=some evs[k]:=Q0 ⋯;have g:=za7 wn v k ⋯;have ih:=zdZ wn v k ⋯;have c:=v.at_ hk;unfold zM at g ih ⊢;rw[zcp hk];have:=(znm wn g.ri g.wt g.sb c.c).ca;show(doR n _ _).came+1=_;rw[this,ih]
def EvI(n:Net)(x0:Nat)(S:List Nat)(M:Mem)(R:Run):Prop:=∃ad D,ad .w=x0/\Wd n ad M R D/\∀s,s.ok n R->ad s ∉ S
section
variable  {S:List Nat}  
theorem EvI.fr(h:EvI n x0 S M R){T:List Nat}(f:Fr T M M')(hT:∀x ∈ T,x ∈ S):EvI n x0 S M' R:=by obtain⟨ad,D,e,w,av⟩:=h;exact⟨ad,D,e,⟨λs hs=>f.get (w.ho s hs) (λz=>av s hs (hT _ z)),w.inj,w.dl,w.dk,w.pl,w.tl⟩,av⟩
theorem EvI.kept(h:EvI n x0 S M R)(k:Kp M.length M M'):EvI n x0 S M' R:=by obtain⟨ad,D,e,w,av⟩:=h;exact⟨ad,D,e,w.kept k,av⟩
theorem EvI.more(h:EvI n x0 S M R){x:Nat}(hx:M.length<=x):EvI n x0 (x::S) M R:=by
 obtain⟨ad,D,e,w,av⟩:=h;refine⟨ad,D,e,w,λs hs z=>?_⟩;have:=yC (w.ho s hs);rcases QC.mp z with z | z
 .symm
 .exact av s hs z
theorem EvI.sub(h:EvI n x0 S M R){T:List Nat}(hT:∀x ∈ T,x ∈ S):EvI n x0 T M R:=by obtain⟨ad,D,e,w,av⟩:=h;exact⟨ad,D,e,w,λs hs z=>av s hs (hT _ z)⟩
theorem zoX(gn:GN n)(h:EvI n x0 S M R){B:Nat}(g:Good n R B)(hB:B<90000):zcJ I O [yg n,.ref x0] M = .ok (.lst ((zbB n R).map evT)) M:=by obtain⟨ad,D,rfl,w,av⟩:=h;exact zpZ gn w g.sb hB g.ri
theorem zsO(gn:GN n)(h:EvI n x0 S M R){B:Nat}(g:Good n R B)(hB:B+40<90000)(hcm:R.came<90000)(hS:∀x ∈ S,x<M.length){ev:Evt}(hc:Can n R ev):
  Ok (zey I O [yg n,.ref x0,evT ev] M) λt M'=>t = .non/\EvI n x0 S M' (zaG n R ev)/\M.length<=M'.length/\∀x ∈ S,M'[x]?=M[x]?:=by
 obtain⟨ad,D,rfl,w,av⟩:=h;refine(zsP gn w g.sb hB hcm g.ri hc.c).mono ?_;rintro t M' ⟨rfl,ad',D',w',f⟩;refine⟨rfl,⟨ad',D',f.ww,w',λs hs z=>?_⟩,f.le,λx hx=>f.kp x (hS x hx) λs hs e=>av s hs (by rw[e];exact hx)⟩;rcases f.nw s hs with⟨h1,h2⟩ | h2
 .exact av s h1 (by rw[←h2];exact z)
 .have:=hS _ z;symm
end
theorem znT(n:Net)(evs:List Evt)(ev:Evt):zM n (evs++[ev])=zaG n (zM n evs) ev:=by unfold zM;rw[List.foldl_append];rfl
theorem zon(gn:GN n){x0 a p:Nat}{evs:List Evt}{M:Mem}(h:EvI n x0 [a,p] M (zM n evs))(c:M[a]?=some (.lst (evs.map evT)))(po:PO p M)(hap:a ≠ p)(v:VEv n (Run.new n) evs)(hl:evs.length<=800)(o0 o2 o5 o7 o8 o9:Option FT.T):
  Ok (zdu I O [o0,some (yg n),o2,some (.ref x0),some (.ref a),o5,some (.ref p),o7,o8,o9] M) λfl M'=>∃ev o8 o9,fl = .nx [o0,some (yg n),o2,some (.ref x0),some (.ref a),o5,some (.ref p),o7,o8,o9]/\EvI n x0 [a,p] M' (zM n (evs++[ev]))/\M'[a]?=some (.lst ((evs++[ev]).map evT))/\PO p M'/\VEv n (Run.new n) (evs++[ev]):=by
 have wn:=gn.wn;have gd:=za7 wn v evs.length (Q3 _);have ca:=zdZ wn v evs.length (Q3 _);rw[take_length]at gd ca;have me:=zoX (I:=I) (O:=O) gn h gd ⋯;unfold zdu;nofun;erw[me];left;have ml:=zkV (n:=n) (zM n evs);have hes:=gd.sb.es;have mne:zbB n (zM n evs) ≠ []:=λz=>by cases z
 have mem:=λev (h:ev ∈ zbB n (zM n evs))=>zpX h;generalize zbB n (zM n evs)=L at ml mne mem;refine Ok.seqP (λfl M'=>∃L',L' ≠ []/\(∀ev ∈ L',ev ∈ L)/\L'.length<=90000/\PO p M'/\Fr [p] M M'/\fl = .nx [o0,some (yg n),o2,some (.ref x0),some (.ref a),o5,some (.ref p),o7,some (.lst (L'.map evT)),o9]) ?_ ?_
 .by_cases z:1<L.length
  .have z1:decide ((1:Int)<(L.length:Int))=true:=Qw ⋯;erw[Qh,z1];refine Ok.bind (zG po ∅ ∅) ?_;rintro t M4 ⟨d,rfl,d0,d1,p4,f4⟩
   by_cases y:0<d
   .have y1:decide ((0:Int)<d)=true:=Qw y;have e0:zy (.lst (L.map evT)) M4=some (L.map evT):=rfl;have cu:zc1 (L.map evT) (some 1) none=(L.drop 1).map evT:=zfR evT L 1;erw[y1,e0,cu];exact Ok.ret ⟨L.drop 1,(λq=>by have:=congrArg List.length q;rw[length_drop,length_nil]at this;symm),λev he=>List.mem_of_mem_drop he,by rw[length_drop];symm,p4,f4,rfl⟩
   .have y1:decide ((0:Int)<d)=false:=Qx y;erw[y1];exact Ok.ret ⟨L,mne,λev he=>he,⋯,p4,f4,rfl⟩
  .have z1:decide ((1:Int)<(L.length:Int))=false:=Qx ⋯;erw[Qh,z1];exact Ok.ret ⟨L,mne,λev he=>he,⋯,po,Fr.refl _ _,rfl⟩
 rintro fl M4 ⟨L',hne,hsub,hll,p4,f4,rfl⟩;have c4:=f4.get c (by simpa using hap);have h4:=h.fr f4 (by simp);rw[qf];have hlp:0<(L'.length:Int):=by have:=List.length_pos_iff.mpr hne;symm
 nofun;erw[Qh];refine Ok.bind (zG p4 hlp (ze3 hlp ⋯)) ?_;rintro t M5 ⟨d,rfl,d0,d1,p5,f5⟩;have c5:=f5.get c4 (by simpa using hap);have h5:=h4.fr f5 (by simp);obtain⟨i,rfl⟩:∃i:Nat,d=i:=⟨d.toNat,⋯⟩;have hi:i<L'.length:=by symm
 have ha:atI (L'.map evT) (i:Int)=some (evT L'[i]):=qu (Q0 hi);have ap:=qQ (t:=evT L'[i]) c5 (by rw[Qh,sizeLine_eq];symm);have hin:=hsub L'[i] (getElem_mem hi);generalize L'[i]=ev at ha ap hin;rw[show evs.map evT++[evT ev]=(evs++[ev]).map evT from by simp]at ap;erw[ha];left;nofun;erw[qH c5,ap];left;have h6:=h5.fr (Fr.set M5 a (.lst ((evs++[ev]).map evT))) (by simp);have c6:(M5.set a (.lst ((evs++[ev]).map evT)))[a]?=some (.lst ((evs++[ev]).map evT)):=get_set c5;have p6:PO p (M5.set a (.lst ((evs++[ev]).map evT))):=p5.fr (Fr.set M5 a _) (by simpa using λz=>hap z.symm);generalize M5.set a (.lst ((evs++[ev]).map evT))=M6 at c6 h6 p6 ⊢;have cn:=mem ev hin;have l6:=yC c6;obtain⟨q,hq⟩:=p6;have dd:=zsO (I:=I) (O:=O) gn h6 gd ⋯ ⋯ (by
  intro x hx;rcases QC.mp hx with rfl | hx
  .exact l6
  .rw[QJ.mp hx];exact yC hq) cn
 simp_arith;refine Ok.bind dd ?_;rintro t M7 ⟨rfl,h7,hle,kp⟩
 try simp_arith
 refine Ok.ret ⟨ev,_,_,rfl,?_,by rw[kp a (by simp)];exact c6,⟨q,by rw[kp p (by simp)];exact hq⟩,v.snoc cn⟩;rw[znT];exact h7
theorem zni(gn:GN n)(ns:List Int)(hn:ns.length<=63)(M:Mem):Ok (zdW I O [.lst (ns.map .int),yg n,.int 2] M) λt M'=>∃x0 a evs,t = .tup [.ref a,.ref x0]/\EvI n x0 [a] M' (zM n evs)/\M'[a]?=some (.lst (evs.map evT))/\VEv n (Run.new n) evs/\evs.length<=200:=by
 have wn:=gn.wn;refine zA rfl ?_;unfold zgA;right;simp_arith;refine Ok.bind (ziB wn M) ?_;rintro t M1 ⟨ad0,rfl,w1,lo1,k1⟩
 try simp_arith
 left;right;simp_arith;left;right;have I1:EvI n (ad0 .w) [M1.length] (M1++[.lst []]) (zM n []):=EvI.kept (M:=M1) (EvI.more ⟨ad0,[],rfl,w1,λ_ _ z=>by cases z⟩ (Q3 _)) (Kp.app _ _ (Q3 _));generalize ad0 .w=x0 at *;have mm:∀i:Int,0<=i->i<=63->∃q:Nat,(if(if i<63 then i else 63) > 12 then(if i<63 then i else 63)else 12)=((q:Nat):Int)/\1<=q/\q<=63:=λi h0 h1=>by refine⟨(if(if i<63 then i else 63) > 12 then(if i<63 then i else 63)else 12).toNat,?_,?_,?_⟩<;>(split<;>split<;>symm)
 obtain⟨q,hq,q1,q2⟩:=mm (ns.length:Int) ⋯ ⋯;have rg:∀M,zej [.int 1,.int (q:Int)] M = .ok ((rgF 1 (q-1)).map .int) M:=λM=>by rw[zpm ⋯,show((q:Int)-1).toNat=q-1 by symm]
 erw[Qh,zg9,hq,rg];refine Ok.bind (Ok.for (r:=FT.T.int) (xs:=rgF 1 (q-1)) (λk J M=>∃o5 o6 o7 o8 o9 evs,J=[some (.lst (ns.map .int)),some (yg n),some (.int 2),some (.ref x0),some (.ref M1.length),o5,o6,o7,o8,o9]/\EvI n x0 [M1.length] M (zM n evs)/\M[M1.length]?=some (.lst (evs.map evT))/\VEv n (Run.new n) evs/\evs.length<=2*k) ⟨none,none,none,none,none,[],rfl,I1,zP,True.intro,Q3 _⟩ ?_) ?_
 .rintro k x J M2 hx ⟨o5,o6,o7,o8,o9,evs,rfl,I2,c2,v2,l2⟩;obtain⟨hk,rfl⟩:=zpo hx;generalize M1.length=a at *;have a2:=yC c2;obtain⟨cc,hcc⟩:=zhr (I:=I) (O:=O) (ns:=ns) (n:=1+k) ⋯ M2;rw[show(((1+k:Nat):Int))=1+(k:Int)from by symm]at hcc;have c3:(M2++[(Po.new (cc+(1+(k:Int)))).cell])[a]?=some (.lst (evs.map evT)):=by rw[Q6 a2];exact c2
  have p3:PO M2.length (M2++[(Po.new (cc+(1+(k:Int)))).cell]):=PO.app;have I3:EvI n x0 [a,M2.length] (M2++[(Po.new (cc+(1+(k:Int)))).cell]) (zM n evs):=((I2.more (Q3 _)).sub (by
   intro x hx;rcases QC.mp hx with rfl | hx
   .simp
   .rw[QJ.mp hx];simp)).kept (Kp.app _ _ (Q3 _))
  simp_arith;unfold zfr;nofun;erw[hcc,zfF];left;generalize M2++[(Po.new (cc+(1+(k:Int)))).cell]=M3 at c3 p3 I3 ⊢;have hap:a ≠ M2.length:=by symm
  generalize M2.length=p at *;simp_arith;refine Ok.bind (zG p3 ∅ ∅) ?_;rintro t M4 ⟨d,rfl,d0,d1,p4,f4⟩;have c4:=f4.get c3 (by simpa using hap);have I4:=I3.fr f4 (by simp);obtain⟨m,rfl⟩:∃m:Nat,d=m:=⟨d.toNat,⋯⟩;have rg1:∀M,zbz [.int (1+(m:Int))] M = .ok ((rgI (1+m)).map .int) M:=λM=>by rw[qX ⋯,show(1+(m:Int)).toNat=1+m by symm]
  erw[rg1];refine(Ok.for (r:=FT.T.int) (xs:=rgI (1+m)) (λj J M=>∃o7 o8 o9 evs,J=[some (.lst (ns.map .int)),some (yg n),some (.int 2),some (.ref x0),some (.ref a),some (.int (1+(k:Int))),some (.ref p),o7,o8,o9]/\EvI n x0 [a,p] M (zM n evs)/\M[a]?=some (.lst (evs.map evT))/\PO p M/\VEv n (Run.new n) evs/\evs.length<=2*k+j) ⟨o7,o8,o9,evs,rfl,I4,c4,p4,v2,l2⟩ ?_).mono ?_
  .rintro j x J M5 hx ⟨o7,o8,o9,evs,rfl,I5,c5,p5,v5,l5⟩;obtain⟨hj,rfl⟩:=zaS hx;simp_arith;refine(zon gn I5 c5 p5 hap v5 ⋯ _ _ _ _ _ _).mono ?_;rintro fl M6 ⟨ev,o8,o9,rfl,I6,c6,p6,v6⟩;exact⟨_,rfl,_,_,_,_,rfl,I6,c6,p6,v6,by rw[Qn,Qu];symm⟩
  .rintro fl M5 ⟨J,rfl,o7,o8,o9,evs,rfl,I5,c5,p5,v5,l5⟩;rw[zaR]at l5;exact⟨_,rfl,_,_,_,_,_,evs,rfl,I5.sub (by simp),c5,v5,⋯⟩
 .rintro fl M2 ⟨J,rfl,o5,o6,o7,o8,o9,evs,rfl,I2,c2,v2,l2⟩;rw[zpn]at l2
  try simp_arith
  left;simp_arith;exact Ok.ret ⟨x0,_,evs,rfl,I2,c2,v2,⋯⟩
end
section
def Wrg(t:FT.T):Prop:=∃(s:Str) (k:Int),t = .tup [.str s,.int k]\/∃w:Str,t = .tup [.str s,.int k,.str w]
theorem zkn(w:Wrg t)(M:Mem)(ev:Evt):∃q,eqD M 20 (evT ev) t=some q/\eqD [] 20 (evT ev) t=some q:=by obtain⟨s,k,rfl | ⟨w,rfl⟩⟩:=w<;>cases ev<;>exact⟨_,rfl,rfl⟩
def Nin(n:Net)(R:Run)(t:FT.T):Prop:=∀ev ∈ zbB n R,eqD [] 20 (evT ev) t=some false
theorem zkR(w:Wrg t)(M:Mem):∀{ys:List Evt},(∀ev ∈ ys,eqD [] 20 (evT ev) t=some false)->∃bs,zch M t (ys.map evT)=some bs/\bs.any id=false
 |[],_=>⟨[],rfl,rfl⟩|y::ys,h=>by obtain⟨bs,h1,h2⟩:=zkR w M (ys:=ys) λev he=>h ev (.tail _ he);obtain⟨q,q1,q2⟩:=zkn w M y;rw[h y (.head _)]at q2;cases q2;refine⟨false::bs,?_,by rw[any_cons,h2];rfl⟩;rw[QG];unfold zch;rw[q1,h1]
theorem zpY(h:ev ∈ zbB n R):ev = .fresh\/(ev.isF=false/\ev.num<R.es.length):=by
 rcases QC.mp h with rfl | h
 .exact .inl rfl
 .obtain⟨i,hi,hm⟩:=mem_flatMap.mp h;have hi:=mem_range.mp hi;have he:R.es[i]?=some R.es[i]:=Q0 hi;have:=ze0 he hm;exact .inr ⟨this.1,by rw[this.2.1];exact hi⟩
theorem zb2(ht:t = .tup [.str s,.int k]\/∃w:Str,t = .tup [.str s,.int k,.str w])(hk:k<0\/(R.es.length:Int)<=k):Nin n R t:=λev he=>by
 have key:∀i:Nat,i<R.es.length->((i:Int)==k)=false:=λi hi=>by rw[beq_eq_false_iff_ne];symm
 have ke:∀i:Nat,i<R.es.length->eqS (nT i) (.int k)=false:=λi hi=>key i hi;rcases zpY he with rfl | ⟨hf,hi⟩
 .rcases ht with rfl | ⟨w,rfl⟩
  .show some _=_;simp
  .show some _=_;simp
 .cases ev with
  |fresh=>cases hf|_=>
   have:=ke _ hi;rcases ht with rfl | ⟨w,rfl⟩
   .show some _=some false;simp[Evt.num]at this;simp[this]
   .show some _=some false;simp[Evt.num]at this;simp[this]
theorem zsX(h:RunAt I O (yg n) b r l M R)(wn:WN n)(ri:RI n R)(hB:R.es.length<1000000){t:FT.T}(w:Wrg t)(hn:Nin n R t):qU I O [.ref r,t] M = .ok (.bl false) M:=by
 obtain⟨s,k,hs⟩:∃(s:Str) (k:Int),∃ts,t = .tup (.str s :: .int k::ts):=by
  obtain⟨s,k,rfl | ⟨w,rfl⟩⟩:=w
  .exact⟨s,k,_,rfl⟩
  .exact⟨s,k,_,rfl⟩
 obtain⟨ts,hs⟩:=hs;have e2:eqA t (.tup [.str "fresh"]) M = .ok (.bl false) M:=by
  obtain⟨s',k',rfl | ⟨w,rfl⟩⟩:=w
  .show Out.ok (FT.T.bl _) M=_;simp
  .show Out.ok (FT.T.bl _) M=_;simp
 have ii:∀(xs:List FT.T) M,z6 (.tup xs) (.ty "tuple") M = .ok (.bl true) M:=λ_ _=>rfl;have ln:zx (.ref l.a) M = .ok (nT R.es.length) M:=by unfold zx qR zy;simp only[h.er];simp[h.el]
 have wi:yU I O [.int k,.int 0,.int ((R.es.length:Int)-1)] M = .ok (.bl (decide (0<=k) && decide (k<=(R.es.length:Int)-1))) M:=by
  have wh:zal I O [.int k] M = .ok (.bl true) M:=by unfold zal zcE;have h1:z6 (.int k) (.ty "int") M = .ok (.bl true) M:=rfl;have h2:z6 (.int k) (.ty "bool") M = .ok (.bl false) M:=rfl;erw[h1,h2]
  unfold yU zcf
  by_cases d1:(0:Int)<=k
  .erw[wh,Qw d1,Bool.true_and]
  .erw[wh,Qx d1,Bool.false_and]
 have d3:decide (((FT.T.str s::FT.T.int k::ts).length:Int)<2)=false:=Qx (by simp;symm);simp only[Qp]at d3;unfold qU zcF
 by_cases hk:0<=k/\k<=(R.es.length:Int)-1
 .obtain⟨i,rfl⟩:∃i:Nat,k=i:=⟨k.toNat,⋯⟩;have hi:i<R.es.length:=by symm
  have he:R.es[i]?=some R.es[i]:=Q0 hi;have ea:=zjC h wn ri he;obtain⟨bs,b1,b2⟩:=zkR w M (ys:=zap n R i) λev hev=>hn ev (mem_cons_of_mem _ (mem_flatMap.mpr ⟨i,mem_range.mpr hi,hev⟩));have iN:inN t (.lst ((zap n R i).map evT)) M = .ok (.bl false) M:=by unfold inN qR zy;simp only[b1,b2]
  rw[show(decide (0<=((i:Nat):Int)) && decide (((i:Nat):Int)<=(R.es.length:Int)-1))=true by rw[Qw hk.1,Qw hk.2];rfl]at wi;rw[hs]at e2 iN ⊢;erw[e2,ii,d3,yo,h.errands,ln,wi,ea,iN]
 .rw[show(decide (0<=k) && decide (k<=(R.es.length:Int)-1))=false by rw[←Bool.decide_and];exact Qx hk]at wi
  rw[hs]at e2 ⊢;erw[e2,ii,d3,yo,h.errands,ln,wi]
end
inductive RT:Nat->FT.T->Prop
 |int (d:Nat) (i:Int):RT d (.int i)
 |str (d:Nat) (s:Str):RT d (.str s)
 |non (d:Nat):RT d .non
 |tup {d:Nat} {xs:List FT.T} (h:∀x ∈ xs,RT d x):RT (d+1) (.tup xs)
 |lst {d:Nat} {xs:List FT.T} (h:∀x ∈ xs,RT d x):RT (d+1) (.lst xs)
theorem zfN:∀{xs:List FT.T},(∀x ∈ xs,f x x=some true)->eqL f xs xs=some true
 |[],_=>rfl|x::xs,h=>by unfold eqL;rw[h x (.head _),zfN λy hy=>h y (.tail _ hy)];rfl
theorem zsL(h:∀x ∈ xs,eqD M d x x=some true):eqD M (d+1) (.lst xs) (.lst xs)=some true:=by rw[show eqD M (d+1) (.lst xs) (.lst xs)=(if xs.length=xs.length then eqL (eqD M d) xs xs else some false)from rfl,QA rfl];exact zfN h
theorem RT.eq(h:RT d t)(M:Mem):eqD M d t t=some true:=by
 induction h with
 |int d i=>rw[show eqD M d (.int i) (.int i)=some (i==i) by cases d<;>rfl,Qy]
 |str d s=>rw[show eqD M d (.str s) (.str s)=some (s==s) by cases d<;>rfl,Qy]
 |non d=>cases d<;>rfl|tup h ih=>exact zfN ih|lst h ih=>exact zsL ih
theorem zdP(h:eqD M 20 x y=some true):neA x y M = .ok (.bl false) M:=by unfold neA;rw[h];rfl
theorem zt9(h:eqD M 20 x y=some true):eqA x y M = .ok (.bl true) M:=by unfold eqA;rw[h]
theorem zqD(h:M[a]?=some (.lst (evs.map evT))):EvS (.ref a) evs M:=⟨[(a,evs.map evT)],zjg h,by intro g hg;rw[QJ.mp hg];exact h,by intro g hg;rw[QJ.mp hg];exact yC h⟩
theorem zqC(evs:List Evt)(M:Mem):EvS (.tup (evs.map evT)) evs M:=⟨[],rfl,(by intro g hg;cases hg),by intro g hg;cases hg⟩
theorem VEv.take:∀{evs:List Evt} {R:Run} (k:Nat),VEv n R evs->VEv n R (evs.take k)
 |[],_,_,_=>by rw[List.take_nil];exact True.intro|_::_,_,0,_=>True.intro|_::_,_,k+1,v=>⟨v.1,VEv.take k v.2⟩
section
theorem ziD(k lo hi:Int)(M:Mem):yU I O [.int k,.int lo,.int hi] M = .ok (.bl (decide (lo<=k) && decide (k<=hi))) M:=by
 have wh:zal I O [.int k] M = .ok (.bl true) M:=by unfold zal zcE;have h1:z6 (.int k) (.ty "int") M = .ok (.bl true) M:=rfl;have h2:z6 (.int k) (.ty "bool") M = .ok (.bl false) M:=rfl;erw[h1,h2]
 unfold yU zcf
 by_cases d1:lo<=k
 .erw[wh,Qw d1,Bool.true_and]
 .erw[wh,Qx d1,Bool.false_and]
theorem zm0(wn:WN n)(M:Mem):zad I O kH [yg n,.int 0] M = .ok .non M:=by
 have:OkX (zad I O kH [yg n,.int 0] M) (λu M'=>u = .non/\M'=M) (λ_ _ _=>False):=by
  refine zO rfl ?_;unfold zcw;have wi:=ziD (I:=I) (O:=O) 0 0 ((n.hs.length:Int)-1) M;rw[show(decide ((0:Int)<=0) && decide ((0:Int)<=(n.hs.length:Int)-1))=true by have:=wn.h1;rw[←Bool.decide_and];exact Qw ⋯]at wi
  rw[show yg n = .tup [.tup (n.hs.map hsT),.tup (n.ps.map puT)]from rfl];erw[Qh,wi];exact⟨rfl,rfl⟩
 obtain⟨u,M',e,rfl,rfl⟩:=this.toOk;exact e
theorem zoo(hk:k<0\/(n.hs.length:Int)<=k)(M:Mem):OkX (zad I O kH [yg n,.int k] M) (λ_ _=>False) (λC fs M'=>C=kH/\fs=[]/\M'=M):=by
 refine zO rfl ?_;unfold zcw;have wi:=ziD (I:=I) (O:=O) k 0 ((n.hs.length:Int)-1) M;rw[show(decide ((0:Int)<=k) && decide (k<=(n.hs.length:Int)-1))=false by rw[←Bool.decide_and];exact Qx ⋯]at wi
 rw[show yg n = .tup [.tup (n.hs.map hsT),.tup (n.ps.map puT)]from rfl];have r0:∀t:FT.T,zcQ kH [t] M = .exn kH [] M:=λt=>QA (by rw[sizeLine_eq];simp);erw[Qh,wi,zck,r0];exact⟨rfl,rfl,rfl⟩
theorem zp3(hk:k<0\/(n.hs.length:Int)<=k)(t:FT.T)(M:Mem):OkX (zbN I O kH kN [yg n,t,.int k] M) (λ_ _=>False) (λC fs M'=>C=kH/\fs=[]/\M'=M):=by refine zO rfl ?_;unfold zdU;simp_arith;exact OkX.bind (zoo hk M) λ_ _ z=>z.elim
theorem zeK(h:C ∈ ks)(ne:C ≠ k):yE ks k C=some false:=by unfold yE;rw[QA (contains_iff_mem.mpr h)];simp[ne]
theorem zgQ(h:g C=some false)(h':g' C=some false):qV g g' C=some false:=by unfold qV;rw[h,h'];rfl
theorem zgt(h:g C=some b):isX g (.exc C fs) M = .ok (.bl b) M:=by unfold isX;simp only[h]
end
section
theorem OkX.forA{α:Type}{r:α->FT.T}(P:Nat->FT.Ev->Mem->Prop):∀(xs:List α) (i:Nat) {J:FT.Ev} {M:Mem},P i J M->
  (∀(k:Nat) x J M,xs[k]?=some x->P (i+k) J M->Ok ((bd (r x) J M).bind λJ1 M1=>body J1 M1) λfl M'=>∃J',fl = .nx J'/\P (i+k+1) J' M')->(∀J M,P (i+xs.length) J M->OkX (forL bd body ys J M) Q E)->OkX (forL bd body (xs.map r++ys) J M) Q E
 |[],i,J,M,h,_,e=>e J M h|x::xs,i,J,M,h,t,e=>by
  obtain⟨fl,M1,e1,J1,rfl,h1⟩:=t 0 x J M rfl h;rw[QG,cons_append,zc8];cases q:bd (r x) J M with
  |bad=>rw[q]at e1;cases e1|exn C fs M'=>rw[q]at e1;cases e1|ok J3 M3=>rw[q]at e1;replace e1:body J3 M3 = .ok (.nx J1) M1:=e1;show OkX ((body J3 M3).bind (zaj (forL bd body (xs.map r++ys)))) _ _;rw[e1];exact OkX.forA P xs (i+1) h1 (λk y J M hk hp=>by have:=t (k+1) y J M (by simpa using hk) (by rw[show i+(k+1)=i+1+k by symm];exact hp);rw[show i+(k+1)+1=i+1+k+1 by symm]at this;exact this) (λJ M hp=>e J M (by rw[Qp,show i+(xs.length+1)=i+1+xs.length by symm];exact hp))
def Rfs(kN:Addr)(k:Nat)(M:Mem)(C:Addr)(fs:List (Str × FT.T))(M':Mem):Prop:=C=kN/\fs=[(("at":Str),nT k)]/\Kp M.length M M'
theorem zln(wn:WN n){evs:List Evt}(v:VEv n (Run.new n) evs)(hl:evs.length<=2000){t:FT.T}(w:Wrg t)(hn:Nin n (zM n evs) t)(zs:List FT.T)(M:Mem):OkX (zaK I O kN [yg n,.lst (evs.map evT++t::zs)] M) (λ_ _=>False) (Rfs kN evs.length M):=by
 have g:=za7 wn v evs.length (Q3 _);have ca:=zdZ wn v evs.length (Q3 _);rw[take_length]at g ca;refine zO rfl ?_;unfold zfI;obtain⟨M1,e1,h1,k1⟩:=zmK (I:=I) (O:=O) wn M (J:=[some (yg n),some (.lst (evs.map evT++t::zs)),none,none]) rfl;have hs:zed (.lst (evs.map evT++t::zs)) M1=some (evs.map evT++t::zs,[]):=rfl;erw[e1,zcb,zgv,hs];rw[zld rfl];refine OkX.bind (P:=λ_ _=>False) (OkX.forA (r:=evT) (λk J M'=>∃o,J=[some (yg n),some (.lst (evs.map evT++t::zs)),some (.ref M.length),o]/\Kp M.length M M'/\∃l,RunAt I O (yg n) M.length M.length l M' (zM n (evs.take k))) evs 0 ⟨none,rfl,k1,_,h1⟩ ?_ ?_) (λ_ _ h=>h.elim)
 .rintro k ev J M2 hk ⟨o,rfl,k2,l2,h2⟩;rw[QL]at h2 ⊢;have hkl:=(Qz.mp hk).1;obtain⟨c1,c2⟩:=zhL (kN:=kN) wn h2 (za7 wn v k ⋯) ⋯ (v.at_ hk);unfold zdf;erw[c1];refine Ok.bind c2 ?_;rintro u M3 ⟨rfl,k3,l3,h3⟩
  try simp_arith
  refine Ok.ret ⟨_,rfl,_,rfl,k2.trans k3,l3,?_⟩;unfold zM at h3 ⊢;rw[zcp hk];exact h3
 .rintro J M2 ⟨o,rfl,k2,l2,h2⟩;rw[QL,take_length]at h2;have cc:=zsX h2 wn g.ri (by have:=g.sb.es;symm) w hn;have ck:=zoH (kN:=kN) h2 ca cc;rw[zc8];unfold zdf;simp_arith;refine OkX.bind (P:=λ_ _=>False) (ck.mono (λ_ _ h=>h) ?_) (λ_ _ h=>h.elim);rintro C fs M3 ⟨rfl,rfl,rfl⟩;exact⟨rfl,rfl,k2⟩
def Bd(I O kN:Addr)(n:Net)(t:FT.T)(k:Nat)(M:Mem):Prop:=OkX (zaK I O kN [yg n,t] M) (λ_ _=>False) (Rfs kN k M)
theorem ztq(h:Bd I O kN n t k M):OkX (zgF I O kN [yg n,t] M) (λ_ _=>False) (Rfs kN k M):=by refine zO rfl ?_;unfold zlW;simp_arith;exact OkX.bind h λ_ _ z=>z.elim
theorem ztH(h:Bd I O kN n t k M):OkX (zdV I O kN [yg n,t] M) (λ_ _=>False) (Rfs kN k M):=by refine zO rfl ?_;unfold zgy;simp_arith;exact OkX.bind h λ_ _ z=>z.elim
theorem zoi(h:Bd I O kN n t k M):OkX (zfK I O kN [yg n,t] M) (λ_ _=>False) (Rfs kN k M):=by refine zO rfl ?_;unfold zjv;simp_arith;exact OkX.bind h λ_ _ z=>z.elim
theorem zrT(h:Bd I O kN n t k M)(wn:WN n):OkX (zbN I O kH kN [yg n,t,.int 0] M) (λ_ _=>False) (Rfs kN k M):=by have ch:zad I O kH [yg n,.int 0] M = .ok .non M:=zm0 wn M;refine zO rfl ?_;unfold zdU;erw[ch,zak,zcD,yo];exact OkX.bind h λ_ _ z=>z.elim
end
section
theorem zj9(nd:[k1,kH,kA,kP,k5,k6,k7,k8,k9,kD,kN].Nodup){k:Int}(hk:k<0\/(n.hs.length:Int)<=k)(t:FT.T)(M:Mem):za5 I O k1 kH kA kP k5 k6 k7 k8 k9 kD kN [yg n,.int k,t] M = .ok (.bl true) M:=by
 have key:Ok (zc0 I O k1 kH kA kP k5 k6 k7 k8 k9 kD kN [yg n,.int k,t] M) λu M'=>u = .bl true/\M'=M:=by
  refine zA rfl ?_;unfold zeu;rw[show startT 5 [yg n,.int k,t]=[some (yg n),some (.int k),some t,none,none]from rfl];right;simp_arith;left;right;refine Ok.bind (P:=λfl M'=>fl = .nx [some (yg n),some (.int k),some t,some (.bl true),none]/\M'=M) (Ok.tryN ?_) ?_
  .have ki:kH ∈ [k1,kH,kA,kP,k5,k6,k7,k8,k9,kD,kN]:=by simp
   simp only[QK,QC,QI,or_false,not_or]at nd;have x1:∀M,isX (qV (yE [k1,kH,kA,kP,k5,k6,k7,k8,k9,kD,kN] kN) (qV (yE [k1,kH,kA,kP,k5,k6,k7,k8,k9,kD,kN] kA) (yE [k1,kH,kA,kP,k5,k6,k7,k8,k9,kD,kN] kP))) (.exc kH []) M = .ok (.bl false) M:=λM=>zgt (zgQ (zeK ki (by simp[nd])) (zgQ (zeK ki (by simp[nd])) (zeK ki (by simp[nd]))))
   simp_arith;refine OkX.bind (P:=λ_ _=>False) ((zp3 (I:=I) (O:=O) (kH:=kH) (kN:=kN) hk t M).mono (λ_ _ h=>h) ?_) (λ_ _ h=>h.elim);rintro C fs M' ⟨rfl,rfl,rfl⟩;refine⟨by simp,?_⟩;erw[x1];exact Ok.ret ⟨rfl,rfl⟩
  .rintro fl M1 ⟨rfl,rfl⟩;left;simp_arith;exact Ok.ret ⟨rfl,rfl⟩
 obtain⟨u,M',e,rfl,rfl⟩:=key;unfold za5 zci;rw[e];dsimp only;rw[QA ⟨take_length,.bl _⟩]
theorem zgk(nd:[k1,kH,kA,kP,k5,k6,k7,k8,k9,kD,kN].Nodup)(wn:WN n){t:FT.T}{k:Nat}(hx:∀M,OkX (zaK I O kN [yg n,t] M) (λ_ _=>False) (Rfs kN k M))(way:Int)(M:Mem):zbn I O k1 kH kA kP k5 k6 k7 k8 k9 kD kN [.int way,yg n,t] M = .ok (nT k) M:=by
 have key:Ok (zdq I O k1 kH kA kP k5 k6 k7 k8 k9 kD kN [.int way,yg n,t] M) λu M'=>u=nT k/\Kp M.length M M':=by
  refine zA rfl ?_;unfold zfn;rw[show startT 5 [.int way,yg n,t]=[some (.int way),some (yg n),some t,none,none]from rfl];right;simp_arith;left;right;refine Ok.bind (P:=λfl M'=>fl = .nx [some (.int way),some (yg n),some t,some (.exc kN [(("at":Str),nT k)]),none]/\Kp M.length M M') (Ok.tryN ?_) ?_
  .have hnd:∀C fs M',Rfs kN k M C fs M'->[kN].contains C=true/\Ok ((zn 3 (Z 4) ([some (.int way),some (yg n),some t,some .non,none].set 4 (some (.exc C fs))) M').bind (clr 4)) λfl M'=>fl = .nx [some (.int way),some (yg n),some t,some (.exc kN [(("at":Str),nT k)]),none]/\Kp M.length M M':=by rintro C fs M' ⟨rfl,rfl,kp⟩;refine⟨by simp,?_⟩;simp_arith;exact Ok.ret ⟨rfl,kp⟩
   refine OkX.mono (P:=λ_ _=>False) (D:=Rfs kN k M) ?_ (λ_ _ h=>h.elim) hnd
   by_cases h0:(way==0)=true
   .erw[h0];exact OkX.bind (P:=λ_ _=>False) (ztq (hx M)) (λ_ _ h=>h.elim)
   rw[Bool.not_eq_true]at h0
   by_cases h1:(way==1)=true
   .erw[h0,h1];exact OkX.bind (P:=λ_ _=>False) (zrT (hx M) wn) (λ_ _ h=>h.elim)
   rw[Bool.not_eq_true]at h1
   by_cases h2:(way==2)=true
   .erw[h0,h1,h2];exact OkX.bind (P:=λ_ _=>False) (ztH (hx M)) (λ_ _ h=>h.elim)
   rw[Bool.not_eq_true]at h2;erw[h0,h1,h2];exact OkX.bind (P:=λ_ _=>False) (zoi (hx M)) (λ_ _ h=>h.elim)
  .rintro fl M1 ⟨rfl,kp⟩;left;have ki:kN ∈ [k1,kH,kA,kP,k5,k6,k7,k8,k9,kD,kN]:=by simp
   have kc:[k1,kH,kA,kP,k5,k6,k7,k8,k9,kD,kN].contains kN=true:=contains_iff_mem.mpr ki;have nn:=(List.nodup_append (l₁:=[k1,kH,kA,kP,k5,k6,k7,k8,k9,kD]) (l₂:=[kN]).mp nd).2.2;have x0:isX (yE [k1,kH,kA,kP,k5,k6,k7,k8,k9,kD,kN] kN) (.exc kN [(("at":Str),nT k)]) M1 = .ok (.bl true) M1:=zgt (by unfold yE;rw[QA kc,Qy])
   have x1:isX (zfy [k1,kH,kA,kP,k5,k6,k7,k8,k9,kD,kN]) (.exc kN [(("at":Str),nT k)]) M1 = .ok (.bl true) M1:=zgt (by unfold zfy;rw[QA kc])
   have no:∀c ∈ [k1,kH,kA,kP,k5,k6,k7,k8,k9,kD],yE [k1,kH,kA,kP,k5,k6,k7,k8,k9,kD,kN] c kN=some false:=λc hc=>zeK ki λz=>nn c hc kN (QJ.mpr rfl) z.symm;have x2:isX (qV (yE [k1,kH,kA,kP,k5,k6,k7,k8,k9,kD,kN] kD) (qV (yE [k1,kH,kA,kP,k5,k6,k7,k8,k9,kD,kN] kH) (qV (yE [k1,kH,kA,kP,k5,k6,k7,k8,k9,kD,kN] kA) (qV (yE [k1,kH,kA,kP,k5,k6,k7,k8,k9,kD,kN] kP) (qV (yE [k1,kH,kA,kP,k5,k6,k7,k8,k9,kD,kN] k5) (qV (yE [k1,kH,kA,kP,k5,k6,k7,k8,k9,kD,kN] k6) (qV (yE [k1,kH,kA,kP,k5,k6,k7,k8,k9,kD,kN] k1) (qV (yE [k1,kH,kA,kP,k5,k6,k7,k8,k9,kD,kN] k7) (qV (yE [k1,kH,kA,kP,k5,k6,k7,k8,k9,kD,kN] k8) (yE [k1,kH,kA,kP,k5,k6,k7,k8,k9,kD,kN] k9)))))))))) (.exc kN [(("at":Str),nT k)]) M1 = .ok (.bl false) M1:=by
    refine zgt ?_
    repeat (refine zgQ (no _ (by simp)) ?_)
    exact no _ (by simp)
   have x3:xat [kN] (.exc kN [(("at":Str),nT k)]) M1 = .ok (nT k) M1:=by show(if[kN].contains kN=true then _ else _)=_;rw[QA (by simp)];rfl
   generalize yE [k1,kH,kA,kP,k5,k6,k7,k8,k9,kD,kN]=TL at x0 x2 ⊢;generalize zfy [k1,kH,kA,kP,k5,k6,k7,k8,k9,kD,kN]=TA at x1 ⊢;erw[x0,x1,x2,x3];exact Ok.ret ⟨rfl,kp⟩
 obtain⟨u,M',e,rfl,k'⟩:=key;unfold zbn zci;rw[e];dsimp only;rw[QA ⟨zgP k',.int _⟩]
end
section
variable  [DecidableEq κ]
theorem zsQ{j:κ}:(qI D j).isSome=true ↔ j ∈ D.map (·.1):=by unfold qI;rw[Option.isSome_map,List.find?_isSome];simp
theorem zsM{j:κ}(h:j ∈ D.map (·.1)\/j=k):j ∈ (zab D k v).map (·.1):=by
 unfold zab;split
 .rename_i q;have e:(D.map λkv=>if kv.1=k then(kv.1,v)else kv).map (·.1)=D.map (·.1):=by rw[map_map];refine map_congr_left λkv _=>?_;simp only[Function.comp];split<;>rfl
  rw[e];rcases h with h | rfl
  .exact h
  .obtain⟨kv,h1,h2⟩:=any_eq_true.mp q;exact mem_map.mpr ⟨kv,h1,of_decide_eq_true h2⟩
 .rw[Qq];rcases h with h | rfl
  .exact mem_append_left _ h
  .exact Qm _ (by simp)
theorem zsN(D:List (κ × FT.T))(k:κ)(v:FT.T):(zab D k v).length<=D.length+1:=by unfold zab;split<;>simp
end
noncomputable def evK:Evt->List Key
 |.fresh=>[.inr "fresh"]|.ends i w=>[.inr "ends",.inl (i:Int),.inr w]|.lost i=>[.inr "lost",.inl (i:Int)]|.again i=>[.inr "again",.inl (i:Int)]|.up i=>[.inr "up",.inl (i:Int)]
theorem zsK(ev:Evt):zb5 (evT ev)=some (evK ev):=by cases ev<;>rfl
theorem key_ne(w:Wrg t)(e:zb5 t=some k){ev:Evt}(h:evK ev ≠ k):eqD [] 20 (evT ev) t=some false:=by
 obtain⟨q,q1,q2⟩:=zkn w [] ev;rw[q1];cases q with
 |false=>rfl|true=>refine absurd ?_ h;obtain⟨s,i,rfl | ⟨w,rfl⟩⟩:=w<;>cases e<;>cases ev<;>(replace q1:some _=some true:=q1;simp[eqS]at q1)<;>simp[evK,q1]
section
theorem zod(h:Evt.ends i w ∈ zbB n R):w = "bad"\/w = "spent"\/w = "well":=by
 rcases QC.mp h with h | h
 .cases h
 obtain⟨j,_,hm⟩:=mem_flatMap.mp h;have hm:=(mem_filter.mp hm).1;unfold zag at hm;simp only[mem_append]at hm;rcases hm with ((hm | hm) | hm) | hm<;>(split at hm<;>simp at hm)
 rcases hm with⟨_,h⟩ | ⟨_,h⟩ | ⟨_,h⟩
 .exact .inl h
 .exact .inr (.inl h)
 .exact .inr (.inr h)
theorem zjc{w:Str}(h1:w ≠ "bad")(h2:w ≠ "spent")(h3:w ≠ "well"):Nin n R (.tup [.str "ends",.int k,.str w]):=λev he=>by
 refine key_ne ⟨_,_,.inr ⟨_,rfl⟩⟩ rfl λz=>?_;cases ev with
 |ends i w'=>
  have:=zod he;simp[evK]at z;rw[z.2]at this;rcases this with h | h | h
  .exact h1 h
  .exact h2 h
  .exact h3 h
 |_=>simp[evK]at z
noncomputable def zi8(m f:Int):List FT.T:=[.tup [.str "ends",.int m,.str "well"],.tup [.str "ends",.int (-1),.str "bad"],.tup [.str "lost",.int (m+f)],.tup [.str "again",.int (-1-f)],.tup [.str "up",.int m],.tup [.str "ends",.int (m-1),.str "gone"],.tup [.str "ends",.int (m-1),.str ""],.tup [.str "up",.int (-m-1)]]
theorem zpR(hf:0<=f):∀x ∈ zi8 (R.es.length:Int) f,Wrg x/\Nin n R x:=λx hx=>by
 simp only[zi8,QC,QI,or_false]at hx;rcases hx with rfl | rfl | rfl | rfl | rfl | rfl | rfl | rfl
 .exact⟨⟨_,_,.inr ⟨_,rfl⟩⟩,zb2 (.inr ⟨_,rfl⟩) (.inr (Int.le_refl _))⟩
 .exact⟨⟨_,_,.inr ⟨_,rfl⟩⟩,zb2 (.inr ⟨_,rfl⟩) (.inl ∅)⟩
 .exact⟨⟨_,_,.inl rfl⟩,zb2 (.inl rfl) (.inr ⋯)⟩
 .exact⟨⟨_,_,.inl rfl⟩,zb2 (.inl rfl) (.inl ⋯)⟩
 .exact⟨⟨_,_,.inl rfl⟩,zb2 (.inl rfl) (.inr (Int.le_refl _))⟩
 .exact⟨⟨_,_,.inr ⟨_,rfl⟩⟩,zjc ∅ ∅ ∅⟩
 .exact⟨⟨_,_,.inr ⟨_,rfl⟩⟩,zjc ∅ ∅ ∅⟩
 .exact⟨⟨_,_,.inl rfl⟩,zb2 (.inl rfl) (.inl ⋯)⟩
noncomputable def six(i:Int):List FT.T:=[.tup [.str "ends",.int i,.str "bad"],.tup [.str "ends",.int i,.str "spent"],.tup [.str "ends",.int i,.str "well"],.tup [.str "lost",.int i],.tup [.str "again",.int i],.tup [.str "up",.int i]]
theorem zml(h:t ∈ six i):Wrg t/\∃k,zb5 t=some k:=by
 simp only[six,QC,QI,or_false]at h;rcases h with rfl | rfl | rfl | rfl | rfl | rfl
 .exact⟨⟨_,_,.inr ⟨_,rfl⟩⟩,_,rfl⟩
 .exact⟨⟨_,_,.inr ⟨_,rfl⟩⟩,_,rfl⟩
 .exact⟨⟨_,_,.inr ⟨_,rfl⟩⟩,_,rfl⟩
 .exact⟨⟨_,_,.inl rfl⟩,_,rfl⟩
 .exact⟨⟨_,_,.inl rfl⟩,_,rfl⟩
 .exact⟨⟨_,_,.inl rfl⟩,_,rfl⟩
def Tb(n:Net)(R:Run)(kvs:List (List Key × FT.T)):Prop:=∀ev ∈ zbB n R,evK ev ∈ kvs.map (·.1)
theorem Tb.nin(h:Tb n R kvs){t:FT.T}(w:Wrg t){k:List Key}(e:zb5 t=some k)(z:(qI kvs k).isSome=false):Nin n R t:=λev he=>key_ne w e λq=>by rw[←q,zsQ.mpr (h ev he)]at z;cases z
def Fd2(n:Net)(R:Run)(xs:List FT.T)(j:Nat):Prop:=8<=xs.length/\xs.length<=8+6*j/\∀x ∈ xs,Wrg x/\Nin n R x
theorem znN(tb:Tb n R kvs)(hd:M[d]?=some (.dtu kvs))(po:PO p M)(hpd:p ≠ d)(hm:0<R.es.length)(hB:R.es.length<=90000){xs:List FT.T}{j:Nat}(hj:j<4)(fd:Fd2 n R xs j)(o0 o1 o4 o7 o8 o9 o10:Option FT.T):
  Ok (zfY I O [o0,o1,some (.ref p),some (nT R.es.length),o4,some (.lst xs),some (.ref d),o7,o8,o9,o10] M) λfl M'=>∃o9 o10 ys,fl = .nx [o0,o1,some (.ref p),some (nT R.es.length),o4,some (.lst ys),some (.ref d),o7,o8,o9,o10]/\Fd2 n R ys (j+1)/\M'[d]?=some (.dtu kvs)/\PO p M'/\Fr [p] M M':=by
 unfold zfY;nofun;simp_arith;refine Ok.bind (zG po (show(0:Int)<(R.es.length:Int) by symm) (ze3 ⋯ ⋯)) ?_;rintro t M1 ⟨i,rfl,i0,i1,p1,f1⟩
 try simp_arith
 left;have d1:=f1.get hd (by simpa using λz=>hpd z.symm);have cp:∀o,qF (qp 0) yN (yA (zb (eC (.str "ends")) (zb (Z 1) (zb (Z 0) ze)))) [FT.T.str "bad",.str "spent",.str "well"] [o,some (.int i)] M1 [] = .ok [.tup [.str "ends",.int i,.str "bad"],.tup [.str "ends",.int i,.str "spent"],.tup [.str "ends",.int i,.str "well"]] M1:=λo=>Ok.mapc (r:=FT.T.str) (xs:=["bad","spent","well"]) (λJ=>∃o,J=[o,some (.int i)]) (λw=>.tup [.str "ends",.int i,.str w]) ⟨_,rfl⟩ (by simp) (by rintro w J _ ⟨o,rfl⟩;exact⟨[some (.str w),some (.int i)],rfl,⟨_,rfl⟩,by simp_arith⟩)
 nofun;erw[cp];left;have a1:∀M,yF (.lst [.tup [.str "ends",.int i,.str "bad"],.tup [.str "ends",.int i,.str "spent"],.tup [.str "ends",.int i,.str "well"]]) (.lst [.tup [.str "lost",.int i],.tup [.str "again",.int i],.tup [.str "up",.int i]]) M = .ok (.lst (six i)) M:=λM=>zdG (by rw[sizeLine_eq];simp);nofun;erw[a1];left;have cf:∀o,qF (qp 0) (yq (eOp zen (Z 0) (Z 1))) (Z 0) (six i) [o,some (.ref d)] M1 [] = .ok ((six i).filter λt=>!(qI kvs ((zb5 t).getD [])).isSome) M1:=λo=>by
  have:=Ok.filt (bd:=qp 0) (cond:=yq (eOp zen (Z 0) (Z 1))) (el:=Z 0) (M:=M1) (r:=id) (λJ=>∃o,J=[o,some (.ref d)]) (λt=>!(qI kvs ((zb5 t).getD [])).isSome) id (xs:=six i) (J:=[o,some (.ref d)]) ⟨_,rfl⟩ (by simp[six]) (by
   rintro t J ht ⟨o,rfl⟩;obtain⟨w,k,hk⟩:=zml ht;refine⟨[some t,some (.ref d)],rfl,⟨_,rfl⟩,?_,λ_=>rfl⟩;have nu:zen t (.ref d) M1 = .ok (.bl (!(qI kvs ((zb5 t).getD [])).isSome)) M1:=by unfold zen zix;simp only[d1,hk];rfl
   erw[nu])
  rw[map_id,map_id]at this;exact this
 have sl:(six i).length=6:=rfl;have fl:=List.length_filter_le (λt=>!(qI kvs ((zb5 t).getD [])).isSome) (six i);have fm:∀t ∈ (six i).filter (λt=>!(qI kvs ((zb5 t).getD [])).isSome),Wrg t/\Nin n R t:=λt ht=>by obtain⟨h1,h2⟩:=mem_filter.mp ht;obtain⟨w,k,hk⟩:=zml h1;rw[hk]at h2;exact⟨w,tb.nin w hk (by simpa using h2)⟩
 rw[sl]at fl;generalize ((six i).filter λt=>!(qI kvs ((zb5 t).getD [])).isSome)=F at cf fl fm;generalize six i=X6 at cf;obtain⟨h1,h2,h3⟩:=fd;have a2:∀M,yF (.lst xs) (.lst F) M = .ok (.lst (xs++F)) M:=λM=>zdG (by rw[sizeLine_eq];symm);erw[cf,a2];refine Ok.ret ⟨_,_,_,rfl,⟨by rw[Qn];symm,by rw[Qn];symm,λx hx=>?_⟩,d1,p1,f1⟩;rcases mem_append.mp hx with hx | hx
 .exact h3 x hx
 .exact fm x hx
theorem zrL(gn:GN n){x0 p:Nat}{S:List Nat}{M:Mem}{B:Nat}(h:EvI n x0 S M R)(g:Good n R B)(hB:B<90000)(po:PO p M)(hp:p ∈ S):Ok (zhi I O [yg n,.ref x0,.ref p] M) λt M'=>∃xs:List FT.T,t = .lst xs/\Fd2 n R xs 4/\PO p M'/\Fr [p] M M':=by
 have hes:=g.sb.es;refine zA rfl ?_;unfold zk5;rw[show startT 11 [yg n,.ref x0,.ref p]=[some (yg n),some (.ref x0),some (.ref p),none,none,none,none,none,none,none,none]from rfl];have w1:∃a,M[x0]?=some (.lst a)/\∃b,a[0]?=some b/\zx b M = .ok (nT R.es.length) M:=by obtain⟨ad,D,rfl,w,_⟩:=h;exact⟨_,w.at_w,_,rfl,zgr w⟩
 obtain⟨a,wa,b,ab,lb⟩:=w1;have ab0:atI a 0=some b:=by rw[show(0:Int)=((0:Nat):Int)from rfl,FT.zaB];exact ab
 right;erw[wa,ab0,lb];left;right;simp_arith;refine Ok.bind (zG po ∅ ∅) ?_;rintro t M1 ⟨f,rfl,f0,f1,p1,r1⟩
 try simp_arith
 left;right;simp_arith;left;have a1:∀M,yF (.lst [.tup [.str "ends",nT R.es.length,.str "well"],.tup [.str "ends",.int (-1),.str "bad"],.tup [.str "lost",.int ((R.es.length:Int)+f)],.tup [.str "again",.int (-1-f)],.tup [.str "up",nT R.es.length]]) (.lst [.tup [.str "ends",.int ((R.es.length:Int)-1),.str "gone"],.tup [.str "ends",.int ((R.es.length:Int)-1),.str ""],.tup [.str "up",.int (-(R.es.length:Int)-1)]]) M = .ok (.lst (zi8 R.es.length f)) M:=λM=>zdG (by rw[sizeLine_eq];simp);right;erw[a1];left;have oo:=zpR (n:=n) (R:=R) f0;have ol:(zi8 (R.es.length:Int) f).length=8:=rfl;generalize zi8 (R.es.length:Int) f=xs at oo ol ⊢;have hpl:p<M1.length:=by obtain⟨q,e⟩:=p1;exact yC e
 right;erw[ziw];left;have h2:EvI n x0 S (M1++[.dtu []]) R:=(h.fr r1 (by simpa using hp)).kept (Kp.app _ _ (Q3 _));have me:=zoX (I:=I) (O:=O) gn h2 g hB;have ml:=zkV (n:=n) R;have r2:Fr [p] M (M1++[.dtu []]):=r1.trans (Fr.app M1 [.dtu []]).mono;have p2:PO p (M1++[.dtu []]):=p1.fr (Fr.app _ _) (by simp);right;erw[me];refine Ok.bind (Ok.for (r:=evT) (xs:=zbB n R) (λj J M'=>∃o7 kvs,J=[some (yg n),some (.ref x0),some (.ref p),some (nT R.es.length),some (.int f),some (.lst xs),some (.ref M1.length),o7,none,none,none]/\M'[M1.length]?=some (.dtu kvs)/\kvs.length<=j/\(∀ev ∈ (zbB n R).take j,evK ev ∈ kvs.map (·.1))/\PO p M'/\Fr [p] M M') ⟨none,[],rfl,zP,Q3 _,λev he=>by simp at he,p2,r2⟩ ?_) ?_
 .rintro j ev J M3 hj ⟨o7,kvs,rfl,hd,hl,hk,p3,r3⟩;have hjl:=(Qz.mp hj).1;have su:zgT (.ref M1.length) (evT ev) (.bl true) M3 = .ok () (M3.set M1.length (.dtu (zab kvs (evK ev) (.bl true)))):=by unfold zgT;simp only[zsK,hd];exact QA (by rw[sizeLine_eq];symm)
  unfold zjW;erw[su];have dl:=zsN kvs (evK ev) (.bl true);refine Ok.ret ⟨_,rfl,_,_,rfl,get_set hd,⋯,λe he=>zsM ?_,p3.fr (Fr.set _ _ _) (by simp;symm),?_⟩
  .rw[List.take_add_one,hj]at he;rcases mem_append.mp he with he | he
   .exact .inl (hk e he)
   .simp at he;exact .inr (by rw[he])
  .refine⟨by rw[length_set];exact r3.1,λi hi hn=>?_⟩;have:=r1.1;rw[Qc,QB ⋯];exact r3.2 i hi hn
 rintro fl M3 ⟨J,rfl,o7,kvs,rfl,hd,_,hk,p3,r3⟩;rw[take_length]at hk;left
 by_cases z:0<R.es.length
 .have z1:decide ((0:Int)<(R.es.length:Int))=true:=Qw ⋯;have i1:∀M,zfH (.bl true) M = .ok (.int 1) M:=λ_=>rfl;have m1:∀M,zW (.int 4) (.int 1) M = .ok (.int 4) M:=λ_=>zaO ∅;right;erw[z1,i1,m1,qX (show -(2 ^ 62)<=(4:Int)/\(4:Int)<2 ^ 62 by decide)];refine Ok.bind (Ok.for (r:=FT.T.int) (xs:=rgI 4) (λj J M'=>∃o8 o9 o10 ys,J=[some (yg n),some (.ref x0),some (.ref p),some (nT R.es.length),some (.int f),some (.lst ys),some (.ref M1.length),o7,o8,o9,o10]/\Fd2 n R ys j/\M'[M1.length]?=some (.dtu kvs)/\PO p M'/\Fr [p] M M') ⟨none,none,none,xs,rfl,⟨⋯,⋯,oo⟩,hd,p3,r3⟩ ?_) ?_
  .rintro j x J M4 hj ⟨o8,o9,o10,ys,rfl,fd,d4,p4,r4⟩;obtain⟨hjl,rfl⟩:=zaS hj;simp_arith;refine(znN hk d4 p4 ⋯ z ⋯ hjl fd _ _ _ _ _ _ _).mono ?_;rintro fl M5 ⟨o9,o10,ys,rfl,fd5,d5,p5,r5⟩;exact⟨_,rfl,_,_,_,_,rfl,fd5,d5,p5,r4.trans r5⟩
  .rintro fl M4 ⟨J,rfl,o8,o9,o10,ys,rfl,fd,d4,p4,r4⟩;left;simp_arith;exact Ok.ret ⟨_,rfl,fd,p4,r4⟩
 .have z1:decide ((0:Int)<(R.es.length:Int))=false:=Qx ⋯;have i1:∀M,zfH (.bl false) M = .ok (.int 0) M:=λ_=>rfl;have m1:∀M,zW (.int 4) (.int 0) M = .ok (.int 0) M:=λ_=>zaO ∅;have r0:∀M,zbz [.int 0] M = .ok [] M:=λ_=>qX (j:=0) ∅;right;erw[z1,i1,m1,r0,forL];left;simp_arith;exact Ok.ret ⟨_,rfl,⟨⋯,⋯,oo⟩,p3,r3⟩
end
theorem ztn(d:Nat)(p:Ph):RT (d+1) (phT p):=by
 cases p with
 |works=>exact .tup λx hx=>by rw[QJ.mp hx];exact .str _ _|waits a t=>
  refine .tup λx hx=>?_;simp only[QC,QI,or_false]at hx;rcases hx with rfl | rfl | rfl
  .exact .str _ _
  .exact .int _ _
  .exact .int _ _
 |stands a t=>
  refine .tup λx hx=>?_;simp only[QC,QI,or_false]at hx;rcases hx with rfl | rfl | rfl
  .exact .str _ _
  .exact .int _ _
  .exact .int _ _
 |ended w=>
  refine .tup λx hx=>?_;simp only[QC,QI,or_false]at hx;rcases hx with rfl | rfl
  .exact .str _ _
  .exact .str _ _
theorem zto(d:Nat)(e:Er):RT (d+2) (erT e):=by
 refine .tup λx hx=>?_;simp only[QC,QI,or_false]at hx;rcases hx with rfl | rfl | rfl
 .exact .int _ _
 .cases e.caller with
  |none=>exact .non _|some c=>refine .tup λx hx=>?_;simp only[QC,QI,or_false]at hx;rcases hx with rfl | rfl | rfl<;>exact .int _ _
 .exact ztn d _
theorem zq9(d:Nat)(i j:Int):RT (d+1) (.tup [.int i,.int j]):=by refine .tup λx hx=>?_;simp only[QC,QI,or_false]at hx;rcases hx with rfl | rfl<;>exact .int _ _
theorem zpl(d:Nat)(n:Net)(R:Run):RT (d+4) (zf3 n R):=by
 refine .tup λx hx=>?_;simp only[QC,QI,or_false]at hx;rcases hx with rfl | rfl
 .refine .lst λx hx=>?_;obtain⟨e,_,rfl⟩:=mem_map.mp hx;exact zto d e
 .refine .lst λx hx=>?_;obtain⟨k,_,rfl⟩:=mem_map.mp hx;exact zq9 (d+1) _ _
theorem zp1(h:M[a]?=some (.lst xs))(hl:xs.length+ys.length<=100000):yF (.ref a) (.lst ys) M = .ok (.lst (xs++ys)) M:=by show(match zy (.ref a) M,some ys with | some xs,some ys=>if xs.length+ys.length<=sizeLine then Out.ok (FT.T.lst (xs++ys)) M else .bad | _,_=>.bad)=_;rw[zaC h];exact QA (by rw[sizeLine_eq];symm)
section
theorem znO(nd:[k1,kH,kA,kP,k5,k6,k7,k8,k9,kD,kN].Nodup)(wn:WN n){evs:List Evt}(v:VEv n (Run.new n) evs)(hl:evs.length<=200){k:Nat}(hk:k<evs.length){a p:Nat}(hap:a ≠ p){M:Mem}(c:M[a]?=some (.lst (evs.map evT)))(po:PO p M){xs:List FT.T}(fd:Fd2 n (zM n (evs.take k)) xs 4)(o0 o3 o7 o8 o9:Option FT.T):
  Ok (zjV I O k1 kH kA kP k5 k6 k7 k8 k9 kD kN [o0,some (yg n),some (.ref a),o3,some (.lst xs),some (.ref p),some (nT k),o7,o8,o9] M) λfl M'=>∃o8 o9,fl = .nx [o0,some (yg n),some (.ref a),o3,some (.lst xs),some (.ref p),some (nT k),o7,o8,o9]/\PO p M'/\Fr [p] M M':=by
 obtain⟨x1,x2,x3⟩:=fd;unfold zjV;nofun;simp_arith;refine Ok.bind (zG po (show(0:Int)<(xs.length:Int) by symm) (ze3 ⋯ ⋯)) ?_;rintro t M1 ⟨d,rfl,d0,d1,p1,f1⟩;obtain⟨i,rfl⟩:∃i:Nat,d=i:=⟨d.toNat,⋯⟩;have hi:i<xs.length:=by symm
 have at_:atI xs (i:Int)=some xs[i]:=by rw[FT.zaB];exact Q0 hi
 obtain⟨wr,ni⟩:=x3 _ (getElem_mem hi);generalize xs[i]=bad at at_ wr ni;erw[at_];left;have c1:=f1.get c (by simpa using hap);have cf:zc1 (evs.map evT) (some (k:Int)) none=(evs.drop k).map evT:=zfR evT evs k;have ct:zc1 (evs.map evT) none (some (k:Int))=(evs.take k).map evT:=zno evT evs k;have l1:=zaC c1;nofun;erw[l1,cf];refine Ok.bind (zG p1 ∅ ∅) ?_;rintro t M2 ⟨d,rfl,d0,d1,p2,f2⟩;obtain⟨zs,hz,lz⟩:∃zs:List FT.T,atI [FT.T.lst ((evs.drop k).map evT),.lst [],.lst [bad],.lst [.tup [.str "fresh"]]] d=some (.lst zs)/\zs.length<=200:=by
  have:d=0\/d=1\/d=2\/d=3:=by symm
  rcases this with rfl | rfl | rfl | rfl
  .exact⟨_,zo7,by rw[Qh,length_drop];symm⟩
  .exact⟨_,zuf,by simp⟩
  .exact⟨_,zue,by simp⟩
  .exact⟨_,zud,by simp⟩
 erw[hz];left;have c2:=f2.get c1 (by simpa using hap);simp_arith;refine Ok.bind (zG p2 ∅ ∅) ?_;rintro t M3 ⟨d3,rfl,_,_,p3,f3⟩;have c3:=f3.get c2 (by simpa using hap);have l3:=zaC c3;have tl:((evs.take k).map evT).length=k:=by rw[Qh,Qr];symm
 have a1:∀M,yF (.lst ((evs.take k).map evT)) (.lst [bad]) M = .ok (.lst ((evs.take k).map evT++[bad])) M:=λM=>zdG (by rw[sizeLine_eq,tl,Qu];symm);have a2:∀M,yF (.lst ((evs.take k).map evT++[bad])) (.lst zs) M = .ok (.lst ((evs.take k).map evT++bad::zs)) M:=λM=>by rw[zdG (by rw[sizeLine_eq,Qn,tl,Qu];symm),append_assoc];rfl
 have br:=λM=>zln (I:=I) (O:=O) (kN:=kN) wn (v.take k) (by rw[Qr];symm) wr ni zs M;have rf:=zgk (I:=I) (O:=O) nd wn br d3;rw[show(evs.take k).length=k by rw[Qr];symm]at rf;erw[l3,ct,a1,a2,rf,Qy];exact Ok.ret ⟨_,_,rfl,p3,(f1.trans f2).trans f3⟩
end
theorem law_true(I O k1 kH kA kP k5 k6 k7 k8 k9 kD kN:Addr)(nd:[k1,kH,kA,kP,k5,k6,k7,k8,k9,kD,kN].Nodup)(ns:List Int)(hn:ns.length<=63):∃M,zeX I O k1 kH kA kP k5 k6 k7 k8 k9 kD kN [.lst (ns.map .int)] [] = .ok (.bl true) M:=by
 have key:Ok (zeX I O k1 kH kA kP k5 k6 k7 k8 k9 kD kN [.lst (ns.map .int)] []) λt _=>t = .bl true:=by
  refine zA rfl ?_;unfold zo0;rw[show startT 10 [.lst (ns.map .int)]=[some (.lst (ns.map .int)),none,none,none,none,none,none,none,none,none]from rfl];obtain⟨c,hc⟩:=zhr (I:=I) (O:=O) (ns:=ns) (n:=0) ⋯ [];right;rw[show(FT.T.int ((0:Nat):Int)) = .int 0 from rfl]at hc;erw[hc,zfF];refine Ok.bind (zrP (I:=I) (O:=O) (PO.app (M:=[]) (c:=c))) ?_;rintro t M1 ⟨n,rfl,gn,p1,f1⟩;have wn:=gn.wn
  try simp_arith
  left;right;simp_arith;refine Ok.bind (zni gn ns hn M1) ?_;rintro t M2 ⟨x0,a,evs,rfl,I2,c2,v,hl⟩
  try simp_arith
  left;clear I2 f1 p1;have ln:∀M:Mem,M[a]?=some (.lst (evs.map evT))->zx (.ref a) M = .ok (nT evs.length) M:=λM h=>by unfold zx qR zy;simp only[h];simp
  have ml:∀M,zW (nT evs.length) (.int 10000000000000000000000000000000000000000) M = .ok (.int ((evs.length:Int)*10000000000000000000000000000000000000000)) M:=λM=>zaO ⋯;have ad:yF (.ref a) (.lst [.tup [.str "up",.int (-1)]]) M2 = .ok (.lst (evs.map evT++[.tup [.str "up",.int (-1)]])) M2:=zp1 c2 (by rw[Qh,Qu];symm);right;rw[show yg n = .tup [.tup (n.hs.map hsT),.tup (n.ps.map puT)]from rfl];erw[ln M2 c2,ml,Qh];rw[show FT.T.tup [.tup (n.hs.map hsT),.tup (n.ps.map puT)]=yg n from rfl];have hh:∀i ∈ [(-1:Int),(n.hs.length:Int),(n.hs.length:Int)+(evs.length:Int)*10000000000000000000000000000000000000000],i<0\/(n.hs.length:Int)<=i:=λi hi=>by simp only[QC,QI,or_false]at hi;symm
  rw[show[FT.T.int (-1),.int (n.hs.length:Int),.int ((n.hs.length:Int)+(evs.length:Int)*10000000000000000000000000000000000000000)]=[(-1:Int),(n.hs.length:Int),(n.hs.length:Int)+(evs.length:Int)*10000000000000000000000000000000000000000].map .int from rfl];generalize [(-1:Int),(n.hs.length:Int),(n.hs.length:Int)+(evs.length:Int)*10000000000000000000000000000000000000000]=is at hh;refine Ok.bind (Ok.for (r:=FT.T.int) (xs:=is) (λj J M=>∃o4,J=[some (.lst (ns.map .int)),some (yg n),some (.ref a),some (.ref x0),o4,none,none,none,none,none]/\M=M2) ⟨_,rfl,rfl⟩ ?_) ?_
  .rintro j i J M3 hj ⟨o4,rfl,rfl⟩;have hi:=hh i (Qa hj);have nh:=λt M=>zj9 (I:=I) (O:=O) nd hi t M;simp_arith;unfold znE;erw[nh,ad];exact Ok.ret ⟨_,rfl,_,rfl,rfl⟩
  rintro fl M3 ⟨J,rfl,o4,rfl,rfl⟩;left;clear ad ml;right;simp_arith;refine Ok.bind (ziB wn M3) ?_;rintro t M6 ⟨ad,rfl,w6,lo6,k6⟩
  try simp_arith
  left;have h5:=yC c2;have c6:M6[a]?=some (.lst (evs.map evT)):=by rw[k6.2 _ h5];exact c2
  obtain⟨cc,hcc⟩:=zhr (I:=I) (O:=O) (ns:=ns) (n:=1) ⋯ M6;rw[show(FT.T.int ((1:Nat):Int)) = .int 1 from rfl]at hcc;right;erw[hcc,ln M6 c6,zfF];left;have l6:=yC c6;have I7:EvI n (ad .w) [a,M6.length] (M6++[(Po.new (cc+(evs.length:Int))).cell]) (zM n (evs.take 0)):=EvI.kept (M:=M6) ⟨ad,[],rfl,w6,λs hs z=>by
   have:=lo6 s hs;have:=yC (w6.ho s hs);rcases QC.mp z with z | z
   .symm
   .rw[QJ.mp z]at this;symm⟩ (Kp.app _ _ (Q3 _))
  have c7:(M6++[(Po.new (cc+(evs.length:Int))).cell])[a]?=some (.lst (evs.map evT)):=by rw[Q6 l6];exact c6
  have p7:PO M6.length (M6++[(Po.new (cc+(evs.length:Int))).cell]):=PO.app;generalize M6++[(Po.new (cc+(evs.length:Int))).cell]=M7 at I7 c7 p7 ⊢;have hap:a ≠ M6.length:=by symm
  generalize M6.length=p at *;generalize ad .w=x1 at *;have rg:∀M,zbz [.int (evs.length:Int)] M = .ok ((rgI evs.length).map .int) M:=λM=>qX (j:=(evs.length:Int)) ⋯;right;erw[ln M7 c7,rg,QH];refine Ok.bind (Ok.for (r:=FT.T.int) (xs:=rgI evs.length) (λk J M=>∃o4 o6 o7 o8 o9,J=[some (.lst (ns.map .int)),some (yg n),some (.ref a),some (.ref x1),o4,some (.ref p),o6,o7,o8,o9]/\EvI n x1 [a,p] M (zM n (evs.take k))/\M[a]?=some (.lst (evs.map evT))/\PO p M) ⟨_,_,_,_,_,rfl,I7,c7,p7⟩ ?_) ?_
  .rintro k x J M8 hx ⟨o4,o6,o7,o8,o9,rfl,I8,c8,p8⟩;obtain⟨hk,rfl⟩:=zaS hx;have gk:=za7 wn v k ⋯;have ca:=zdZ wn v k ⋯;have he:evs[k]?=some evs[k]:=Q0 hk;have cn:=v.at_ he;have ae:atI (evs.map evT) (k:Int)=some (evT evs[k]):=qu he;have st:zM n (evs.take (k+1))=zaG n (zM n (evs.take k)) evs[k]:=by unfold zM;exact zcp he
   rw[st];simp_arith;unfold znD;nofun;simp_arith;refine Ok.bind (zrL gn I8 gk ⋯ p8 (by simp)) ?_;rintro t M9 ⟨xs,rfl,fd,p9,f9⟩
   try simp_arith
   left;have I9:=I8.fr f9 (by simp);have c9:=f9.get c8 (by simpa using hap);nofun;erw[qX (show -(2 ^ 62)<=(2:Int)/\(2:Int)<2 ^ 62 by decide)];refine Ok.bind (Ok.for (r:=FT.T.int) (xs:=rgI 2) (λj J M=>∃o7 o8 o9,J=[some (.lst (ns.map .int)),some (yg n),some (.ref a),some (.ref x1),some (.lst xs),some (.ref p),some (nT k),o7,o8,o9]/\PO p M/\Fr [p] M9 M) ⟨_,_,_,rfl,p9,Fr.refl _ _⟩ ?_) ?_
   .rintro j y J M10 _ ⟨o7,o8,o9,rfl,p10,f10⟩;simp_arith;refine(znO (I:=I) (O:=O) nd wn v hl hk hap (f10.get c9 (by simpa using hap)) p10 fd _ _ _ _ _).mono ?_;rintro fl M11 ⟨o8,o9,rfl,p11,f11⟩;exact⟨_,rfl,_,_,_,rfl,p11,f10.trans f11⟩
   rintro fl M10 ⟨J,rfl,o7,o8,o9,rfl,p10,f10⟩;left;have I10:=I9.fr f10 (by simp);have c10:=f10.get c9 (by simpa using hap);obtain⟨q,hq⟩:=p10;have dd:=zsO (I:=I) (O:=O) gn I10 gk ⋯ ⋯ (by
    intro x hx;rcases QC.mp hx with rfl | hx
    .exact yC c10
    .rw[QJ.mp hx];exact yC hq) cn
   erw[c10,ae];refine Ok.bind dd ?_;rintro t M11 ⟨rfl,I11,_,kp⟩
   try simp_arith
   exact Ok.ret ⟨_,rfl,_,_,_,_,_,rfl,I11,by rw[kp a (by simp)];exact c10,⟨q,by rw[kp p (by simp)];exact hq⟩⟩
  .rintro fl M8 ⟨J,rfl,o4,o6,o7,o8,o9,rfl,I8,c8,p8⟩;left;have br:=λM=>zln (I:=I) (O:=O) (kN:=kN) wn (evs:=[]) True.intro (by simp) (t:=.tup [.str "up",.int 0]) ⟨_,_,.inl rfl⟩ (zb2 (.inl rfl) (.inr (Int.le_refl _))) [] M;have rf:=λM=>zgk (I:=I) (O:=O) nd wn br 1 M;rw[show FT.T.lst (([]:List Evt).map evT++FT.T.tup [.str "up",.int 0]::[]) = .lst [.tup [.str "up",.int 0]]from rfl]at rf;have tk:z8 (.ref a) M8 = .ok (.tup (evs.map evT)) M8:=by unfold z8 qR zy;simp only[c8]
   have r1:=zmu (I:=I) (O:=O) (kN:=kN) wn (zqD c8) v ⋯;have r2:=zmu (I:=I) (O:=O) (kN:=kN) wn (zqC evs M8) v ⋯;have e0:∀M,eqA (nT ([]:List Evt).length) (.int 0) M = .ok (.bl true) M:=λ_=>rfl;have e1:=zt9 ((zpl 16 n (zM n evs)).eq M8);erw[rf,e0,tk,r1,r2,e1];exact Ok.ret rfl
 obtain⟨t,M,e,rfl⟩:=key;exact⟨M,e⟩
end My
theorem My.e1{α:Type}{P:List α->Prop}(h:∀a,P [a]):∀us:List α,us.length=1->P us
 |[a],_=>h a
theorem My.e2{α:Type}{P:List α->Prop}(h:∀a b,P [a,b]):∀us:List α,us.length=2->P us
 |[a,b],_=>h a b
theorem My.e3{α:Type}{P:List α->Prop}(h:∀a b c,P [a,b,c]):∀us:List α,us.length=3->P us
 |[a,b,c],_=>h a b c
theorem My.e4{α:Type}{P:List α->Prop}(h:∀a b c d,P [a,b,c,d]):∀us:List α,us.length=4->P us
 |[a,b,c,d],_=>h a b c d
theorem My.e5{α:Type}{P:List α->Prop}(h:∀a b c d e,P [a,b,c,d,e]):∀us:List α,us.length=5->P us
 |[a,b,c,d,e],_=>h a b c d e
local macro_rules | `(tactic| rfl') => do
  let K := Lean.mkIdent `KX
  let G := Lean.mkIdent `G
  `(tactic| (dsimp only [L2.KOf]; refine' L2.zuc $K $G ?a ?l ?c ?k ?b; (case a => k_is); (case l => k_is); (case c => k_is); (case k => k_is); first | (exact λ_ _ _ _ _ _=>My.e1 λ_=>rfl) | (exact λ_ _ _ _ _ _=>My.e2 λ_ _=>rfl) | (exact λ_ _ _ _ _ _=>My.e3 λ_ _ _=>rfl) | (exact λ_ _ _ _ _ _=>My.e4 λ_ _ _ _=>rfl) | (exact λ_ _ _ _ _ _=>My.e5 λ_ _ _ _ _=>rfl)))
local macro_rules | `(tactic| eq_refl) => `(tactic| (dsimp only [L2.KOf]; refine' FT.ztG ?a ?n; (case a => k_is); (case n => k_is)))
local macro_rules | `(tactic| trace $s:str) => do
  let K := Lean.mkIdent `KX
  let G := Lean.mkIdent `G
  `(tactic| (refine' FT.zqQ (K := L2.KOf $K) (x := $s) (w := "WeirError") $K $G ?a ?b ?l ?ga ?gt ?c ?n ?t; (all_goals try dsimp only [L2.KOf]); (case a => k_is); (case b => k_is); (case l => k_is); (case ga => k_is); (case gt => k_is); (case c => k_is); (case n => first | k_is | rfl | decide +kernel); (case t => first | k_is | rfl | decide +kernel)))
open PySem PySem.W PyProof.Rows
set_option maxRecDepth 100000 in
set_option maxHeartbeats 0 in
theorem PySem.Challenge.cw_tryweir_k38_events_refused_holds : PySem.Challenge.rw_tryweir_k38_events_refused.Holds := by
 refine My.hdD.2 ?_;dsimp only[My.hdD]
 k_fill
 refine L2.znM (l:=PySem.Challenge.rw_tryweir_k38_events_refused) (n:=63) (k:=34) (x:="script") (CX:=L2.CX0) (sp:=λK=>FT.spT K (My.zgG (FT.qi K "Errand") (FT.qi K "Run") (FT.qi K "NoRatio") (FT.qi K "NoHouse") (FT.qi K "NoAsk") (FT.qi K "NoPurse") (FT.qi K "TooMany") (FT.qi K "NoText") (FT.qi K "NoRow") (FT.qi K "NoNet") (FT.qi K "NoPast") (FT.qi K "NoDeed") (FT.qi K "NoEvent"))) rfl ∅ rfl ⟨rfl,by decide,by decide⟩ (λw h Yq=>PySem.W.kIn_of Yq) ?F ?S ?C
 case F=>
  intro w mg fa h KX G hmg;have L:=by
   refine' L2.zrX (st:=My.zlI) KX G ?la ?ll ?lc ?lk ?lb
   (case la=>k_is);(case ll=>k_is);(case lc=>k_is);(case lk=>k_is)
   exact λ_ _ _ _ _ _ s u=>.of_eq rfl
  obtain⟨f,fd,F,g,hb⟩:=L;have e:=hmg.symm.trans g;cases e;refine⟨fd,hb,λbase _ _=>?_⟩;have x0:=by trace "NoRatio"
  have x1:=by trace "NoHouse"
  have x2:=by trace "NoAsk"
  have x3:=by trace "NoPurse"
  have x4:=by trace "TooMany"
  have x5:=by trace "NoText"
  have x6:=by trace "NoRow"
  have x7:=by trace "NoNet"
  have x8:=by trace "NoPast"
  have x9:=by trace "NoDeed"
  have x10:=by trace "NoEvent"
  have up:mg "WeirError" = some (.ref (FT.qi (L2.KOf KX) "WeirError"))/\(PySem.W.clsIn (L2.KOf KX) (FT.qi (L2.KOf KX) "WeirError")).isSome=true/\PySem.W.typeIn (L2.KOf KX) (.ref (FT.qi (L2.KOf KX) "WeirError"))=some (.type "type"):=by
   dsimp only[L2.KOf]
   refine' FT.zs7 KX G ?b ?l
   (case b=>k_is);(case l=>k_is)
  have ec:=by
   refine' FT.zaf (K:=L2.KOf KX) (x:="WeirError") ?a
   (case a=>dsimp only[L2.KOf];k_is)
  have nd:=by
   refine(?_:((FT.qi (L2.KOf KX) "WeirError")::[(FT.qi (L2.KOf KX) "NoRatio"),(FT.qi (L2.KOf KX) "NoHouse"),(FT.qi (L2.KOf KX) "NoAsk"),(FT.qi (L2.KOf KX) "NoPurse"),(FT.qi (L2.KOf KX) "TooMany"),(FT.qi (L2.KOf KX) "NoText"),(FT.qi (L2.KOf KX) "NoRow"),(FT.qi (L2.KOf KX) "NoNet"),(FT.qi (L2.KOf KX) "NoPast"),(FT.qi (L2.KOf KX) "NoDeed"),(FT.qi (L2.KOf KX) "NoEvent")]:List PySem.Addr).Nodup);rw[ec,x0.2.2,x1.2.2,x2.2.2,x3.2.2,x4.2.2,x5.2.2,x6.2.2,x7.2.2,x8.2.2,x9.2.2,x10.2.2];decide
  have xs:=FT.qg (P:=λC=>FT.XmAt (L2.KOf KX) C (FT.qi (L2.KOf KX) "WeirError")) x0.2.1 (FT.qg x1.2.1 (FT.qg x2.2.1 (FT.qg x3.2.1 (FT.qg x4.2.1 (FT.qg x5.2.1 (FT.qg x6.2.1 (FT.qg x7.2.1 (FT.qg x8.2.1 (FT.qg x9.2.1 (FT.qg x10.2.1 (FT.qh)))))))))));have nw:=(QK.mp nd).1;rw[show My.zgG (FT.qi (L2.KOf KX) "Errand") (FT.qi (L2.KOf KX) "Run") (FT.qi (L2.KOf KX) "NoRatio") (FT.qi (L2.KOf KX) "NoHouse") (FT.qi (L2.KOf KX) "NoAsk") (FT.qi (L2.KOf KX) "NoPurse") (FT.qi (L2.KOf KX) "TooMany") (FT.qi (L2.KOf KX) "NoText") (FT.qi (L2.KOf KX) "NoRow") (FT.qi (L2.KOf KX) "NoNet") (FT.qi (L2.KOf KX) "NoPast") (FT.qi (L2.KOf KX) "NoDeed") (FT.qi (L2.KOf KX) "NoEvent")=My.zeX (FT.qi (L2.KOf KX) "Errand") (FT.qi (L2.KOf KX) "Run") (FT.qi (L2.KOf KX) "NoRatio") (FT.qi (L2.KOf KX) "NoHouse") (FT.qi (L2.KOf KX) "NoAsk") (FT.qi (L2.KOf KX) "NoPurse") (FT.qi (L2.KOf KX) "TooMany") (FT.qi (L2.KOf KX) "NoText") (FT.qi (L2.KOf KX) "NoRow") (FT.qi (L2.KOf KX) "NoNet") (FT.qi (L2.KOf KX) "NoPast") (FT.qi (L2.KOf KX) "NoDeed") (FT.qi (L2.KOf KX) "NoEvent")from QA (QK.mp nd).2];exact My.zrK ⟨(by dsimp only[L2.KOf];refine' FT.znq ?a0 ?p0 ?h0 ?o0 ?s0;(case a0=>k_is);(case p0=>k_is);(case h0=>k_is);(case o0=>k_is);(case s0=>k_is)),(by dsimp only[L2.KOf];refine' FT.znq ?a1 ?p1 ?h1 ?o1 ?s1;(case a1=>k_is);(case p1=>k_is);(case h1=>k_is);(case o1=>k_is);(case s1=>k_is)),(by eq_refl),(by eq_refl),(by eq_refl),(by eq_refl),(by eq_refl),(by eq_refl),(by eq_refl),(by eq_refl),(by eq_refl),(by eq_refl),(by eq_refl),(by eq_refl),(by refine' PySem.W.mg_none_of KX G ?z14;k_is),(by refine' PySem.W.mg_none_of KX G ?z15;k_is),(by refine' PySem.W.mg_none_of KX G ?z16;k_is),(by refine' PySem.W.mg_none_of KX G ?z17;k_is),(by refine' PySem.W.mg_none_of KX G ?z18;k_is),(by refine' PySem.W.mg_none_of KX G ?z19;k_is),(by refine' PySem.W.mg_none_of KX G ?z20;k_is),(by refine' PySem.W.mg_none_of KX G ?z21;k_is),(by dsimp only[L2.KOf];refine' ⟨_,PySem.W.mg_of KX G ?z22,FT.zrZ ?y22⟩;(case z22=>k_is);(case y22=>k_is)),(by rfl'),(by rfl'),(by rfl'),(by rfl'),(by rfl'),(by rfl'),(by rfl'),(by rfl'),(by rfl'),(by rfl'),(by rfl'),(by rfl'),(by rfl'),(by rfl'),(by rfl'),(by rfl'),(by rfl'),(by rfl'),(by rfl'),(by dsimp only[L2.KOf];refine' FT.zo5 KX G ?a42 ?e42 ?i42 ?l42 ?c42 ?k42 ?m42 ?q42 ?b42;(case a42=>k_is);(case e42=>k_is);(case i42=>k_is);(case l42=>k_is);(case c42=>k_is);(case k42=>k_is);(case m42=>k_is);(case q42=>k_is);exact λ_ _ _ _ _ _=>My.e2 λ_ _=>rfl),(by rfl'),(by rfl'),(by rfl'),(by rfl'),(by rfl'),(by rfl'),(by rfl'),(by rfl'),(by rfl'),(by rfl'),(by rfl'),(by rfl'),(by rfl'),(by dsimp only[L2.KOf];refine' FT.zo5 KX G ?a56 ?e56 ?i56 ?l56 ?c56 ?k56 ?m56 ?q56 ?b56;(case a56=>k_is);(case e56=>k_is);(case i56=>k_is);(case l56=>k_is);(case c56=>k_is);(case k56=>k_is);(case m56=>k_is);(case q56=>k_is);exact λ_ _ _ _ _ _=>My.e3 λ_ _ _=>rfl),(by rfl'),(by rfl'),(by rfl'),(by rfl'),(by rfl'),(by rfl'),(by rfl'),(by rfl'),(by rfl'),(by rfl'),(by rfl'),(by rfl'),(by rfl'),(by rfl'),(by rfl'),(by rfl'),(by rfl'),(by rfl'),(by dsimp only[L2.KOf];refine' FT.zqR KX G ?a75 ?l75 ?ln75 ?sk75 ?q75 ?lw75 ?lwn75 ?sl75 ?ni75;(case a75=>k_is);(case l75=>k_is);(case ln75=>k_is);(case sk75=>exact rfl);(case q75=>k_is);(case lw75=>k_is);(case lwn75=>k_is);(case sl75=>exact rfl);(case ni75=>k_is)),(by dsimp only[L2.KOf];refine' FT.zs5 (st:=My.zgX) KX G ?a76 ?l76 ?ln76 ?sk76 ?q76 ?no76 ?lw76 ?lwn76 ?sl76 ?ni76 ?lf76 ?cc76 ?kk76 (by ac_rfl) rfl rfl rfl ?bd76;(case a76=>k_is);(case l76=>k_is);(case ln76=>k_is);(case sk76=>exact rfl);(case q76=>k_is);(case no76=>(refine FT.zai ?_ ?_;k_is);(refine FT.zai ?_ ?_;k_is);(refine FT.zai ?_ ?_;k_is);(refine FT.zai ?_ ?_;k_is);exact FT.zja);(case lw76=>k_is);(case lwn76=>k_is);(case sl76=>exact rfl);(case ni76=>(refine FT.zai ?_ ?_;k_is);(refine FT.zai ?_ ?_;k_is);(refine FT.zai ?_ ?_;k_is);(refine FT.zai ?_ ?_;k_is);(refine FT.zai ?_ ?_;k_is);exact FT.zja);(case lf76=>k_is);(case cc76=>k_is);(case kk76=>k_is);exact λ_ _ _ _ _ _=>My.e2 λ_ _=>rfl),(FT.zQ x2.1 xs nw (by simp only[QC,true_or,or_true])),(FT.zQ x9.1 xs nw (by simp only[QC,true_or,or_true])),(FT.zQ x10.1 xs nw (by simp only[QC,true_or,or_true])),(FT.zQ x1.1 xs nw (by simp only[QC,true_or,or_true])),(FT.zQ x7.1 xs nw (by simp only[QC,true_or,or_true])),(FT.zQ x8.1 xs nw (by simp only[QC,true_or,or_true])),(FT.zQ x3.1 xs nw (by simp only[QC,true_or,or_true])),(FT.zQ x0.1 xs nw (by simp only[QC,true_or,or_true])),(FT.zQ x6.1 xs nw (by simp only[QC,true_or,or_true])),(FT.zQ x5.1 xs nw (by simp only[QC,true_or,or_true])),(FT.zQ x4.1 xs nw (by simp only[QC,true_or,or_true])),(FT.zp8 (by refine' PySem.W.mg_none_of KX G ?z88;k_is) xs),(by dsimp only[L2.KOf];refine' FT.zq1 KX G ?a89 ?b89 ?l89 ?w89;(case a89=>k_is);(case b89=>k_is);(case l89=>k_is);(case w89=>k_is))⟩ F
 case S=>
  intro K H a ns hl _ hS
  by_cases nd:([FT.qi K "NoRatio",FT.qi K "NoHouse",FT.qi K "NoAsk",FT.qi K "NoPurse",FT.qi K "TooMany",FT.qi K "NoText",FT.qi K "NoRow",FT.qi K "NoNet",FT.qi K "NoPast",FT.qi K "NoDeed",FT.qi K "NoEvent"]:List PySem.Addr).Nodup
  .rw[show My.zgG (FT.qi K "Errand") (FT.qi K "Run") (FT.qi K "NoRatio") (FT.qi K "NoHouse") (FT.qi K "NoAsk") (FT.qi K "NoPurse") (FT.qi K "TooMany") (FT.qi K "NoText") (FT.qi K "NoRow") (FT.qi K "NoNet") (FT.qi K "NoPast") (FT.qi K "NoDeed") (FT.qi K "NoEvent")=My.zeX (FT.qi K "Errand") (FT.qi K "Run") (FT.qi K "NoRatio") (FT.qi K "NoHouse") (FT.qi K "NoAsk") (FT.qi K "NoPurse") (FT.qi K "TooMany") (FT.qi K "NoText") (FT.qi K "NoRow") (FT.qi K "NoNet") (FT.qi K "NoPast") (FT.qi K "NoDeed") (FT.qi K "NoEvent")from QA nd];obtain⟨M,h⟩:=My.law_true (FT.qi K "Errand") (FT.qi K "Run") (FT.qi K "NoRatio") (FT.qi K "NoHouse") (FT.qi K "NoAsk") (FT.qi K "NoPurse") (FT.qi K "TooMany") (FT.qi K "NoText") (FT.qi K "NoRow") (FT.qi K "NoNet") (FT.qi K "NoPast") (FT.qi K "NoDeed") (FT.qi K "NoEvent") nd ns hl;exact FT.zkY hS h
  .rw[show My.zgG (FT.qi K "Errand") (FT.qi K "Run") (FT.qi K "NoRatio") (FT.qi K "NoHouse") (FT.qi K "NoAsk") (FT.qi K "NoPurse") (FT.qi K "TooMany") (FT.qi K "NoText") (FT.qi K "NoRow") (FT.qi K "NoNet") (FT.qi K "NoPast") (FT.qi K "NoDeed") (FT.qi K "NoEvent")=(λ_ M=>.ok (.bl true) M)from QB nd];exact FT.zkY hS rfl
 case C=>exact λ_ _ _ _ z=>z

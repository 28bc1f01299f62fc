import PyProof.Rows.All
import Wide.All
import OpenK.AllK
import Wide.FinOn
import Lean
import PyProof.EqAt
import PyProof.EqKinds
import PyProof.TupleCall
import PyProof.NeKinds
import PyProof.SumAny
import KE.KDictList
import KE.KDictOf
import PyProof.AttrMissHeap
import PyProof.Conv_int_bool
import PyProof.TupleOfStr
import PyProof.CollectIter
import PyProof.ListRange
import PyProof.DictWalks
import PyProof.ConsumeS
import PyProof.WalkInts
import PyProof.Draws
import PyProof.EnumFor
import PyProof.EnumStmt
import KE.KDictLaws
import KE.KRevIter
import KE.KDictSum
import PyProof.SeqRoads2
import PyProof.EqAt
import PyProof.EnumMake
import PyProof.ZipIter
import PyProof.InstStore
import PyProof.InstStoreFacts
import PyProof.ExcInit
import PyProof.ExcClass2
import PyProof.NsDelKeeps
import PyProof.ExcArgsOwn
import PyProof.Rows.SetFrom
import PyProof.SetRoads
import KE.KIsAll
import KE.IntTextText
import KE.KIntText
import PyProof.StrBlock2
import PyProof.FString5
import PyProof.CallStr
import PyProof.StrWalks
import PyProof.StrCalls
import PyProof.StrCalls2
import PyProof.SliceStr2
import PyProof.StrBlockI
import PyProof.Rows.StrJoin2
import PyProof.CallRoads3
import PyProof.TupleKey
import PyProof.Rows.Range3
import PyProof.AutoListH
import PyProof.Rows.SortShell
import PyProof.SetRoads
import PyProof.Rows.SetFrom
import PyProof.WalkInts
import PyProof.EqAt
import PySem.Challenge.RW_tryweir_k61_too_soon_refused
open PySem.W (Frag)
open List (mem_filter mem_range filterMap_cons mem_cons_self mem_cons_of_mem mem_cons mem_append mem_append_left getElem?_set_ne mem_append_right length_cons map_cons length_map append_nil nodup_cons of_mem_zip length_take getElem?_append_right getElem?_append_left getElem?_map mem_of_getElem? length_append length_replicate size_toArray length_drop length_set all_cons any_cons replicate_succ flatten_cons append_assoc length_singleton nil_append map_nil find?_cons length_nil lookup_cons mem_singleton contains_cons getElem?_set getElem?_take getElem_of_mem getElem?_eq_getElem mem_map getElem?_range all_eq_true getElem_toArray getElem_mem contains_iff_mem map_append map_take map_drop getElem?_cons_succ map_map mem_iff_getElem? ext_getElem? set_append_right getD_eq_getElem?_getD getElem?_eq_none not_mem_nil take_succ foldl_append take_length mem_flatMap map_id)
set_option genSizeOf false
set_option bootstrap.genMatcherCode false
set_option compiler.extract_closed false
set_option genSizeOf false
set_option bootstrap.genMatcherCode false
set_option Elab.async false
set_option linter.all false
set_option maxRecDepth 100000
set_option hygiene false
local macro_rules | `(tactic| left) => `(tactic| (rw [hX];clear hX;simp only [yp]))
local macro_rules | `(tactic| right) => `(tactic| (refine Ok.seqR fun X hX=>?_))
local macro_rules | `(tactic| nofun) => `(tactic| (refine Ok.seqX fun X hX=>?_))
local macro_rules | `(tactic| simp?) => `(tactic| (exact ξ.elim))
local macro_rules | `(tactic| and_intros) => `(tactic| (first | exact Or.inl rfl | exact Or.inr rfl))
local macro_rules | `(tactic| injections) => `(tactic| (intro ρ s σ H x y v u Q I rx ry ⟨S,⟨tx,ty⟩,e,m,⟨r1,r2⟩,ξ⟩))
local macro_rules | `(tactic| rw?) => `(tactic| (split at ξ))
local macro_rules | `(tactic| exact?) => `(tactic| (exact absurd (show false = true from fx) Q4))
local macro_rules | `(tactic| apply?) => `(tactic| (intro ρ s σ H Q I h))
local macro_rules | `(tactic| infer_instance) => `(tactic| (intro ρ s σ H x y v u Q I rx ry h))
set_option hygiene true
local macro_rules | `(tactic| simp_arith) => `(tactic| erw [and_self])
local macro_rules | `(tactic| ac_rfl) => `(tactic| exact ⟨rfl, rfl, rfl, by decide +kernel, rfl, by decide +kernel, by decide +kernel⟩)
abbrev Q0:=@List.getElem?_eq_getElem
abbrev Q1:=@PySem.wpAny_bind
abbrev Q2:=@PySem.Heap.get?_push_of_some
abbrev Q3:=@Nat.le_refl
abbrev Q4:=@Bool.false_ne_true
abbrev Q5:=@Nat.lt_of_lt_of_le
abbrev Q6:=@List.getElem?_append_left
abbrev Q7:=@List.getD_eq_getElem?_getD
abbrev Q8:=@List.getElem?_append_right
abbrev Q9:=@Int.fmod_eq_emod_of_nonneg
abbrev Qa:=@List.mem_of_getElem?
abbrev Qb:=@List.getElem?_map
abbrev Qc:=@List.getElem?_set
abbrev Qd:=@Option.some.inj
abbrev Qe:=@PySem.Heap.lt_size
abbrev Qf:=@PySem.wpAny_pure
abbrev Qg:=@PySem.wpAny_mono
abbrev Qh:=@List.length_map
abbrev Qi:=@List.size_toArray
abbrev Qj:=@Nat.le_trans
abbrev Qk:=@Nat.ne_of_lt
abbrev Ql:=@PySem.Heap.get?_push_size
abbrev Qm:=@List.mem_append_right
abbrev Qn:=@List.length_append
abbrev Qo:=@Nat.lt_irrefl
abbrev Qp:=@List.length_cons
abbrev Qq:=@List.map_append
abbrev Qr:=@List.length_take
abbrev Qs:=@Bool.and_eq_true
abbrev Qu:=@PySem.wpAny_newObj_type
abbrev Qv:=@List.length_singleton
abbrev Qw:=@decide_eq_true
abbrev Qx:=@decide_eq_false
abbrev Qy:=@List.getElem?_eq_some_iff
abbrev Qz:=@if_pos
abbrev QA:=@if_neg
abbrev QB:=@List.mem_cons
abbrev QC:=@PySem.F.plainAttrs_list
abbrev QD:=@PySem.F.type_list_append
abbrev QE:=@PySem.F.slot_list_append
abbrev QF:=@List.map_cons
abbrev QG:=@List.mem_singleton
abbrev QH:=@PySem.W.mg_none_of
local macro_rules | `(⋯) => `(by omega)
local macro_rules | `(∅) => `(by decide)
namespace My
open PySem
noncomputable def zta:Stmt->Bool
 |.Assign [.Name x _] _ _=>!(x == "__name__")|_=>true
noncomputable abbrev pg:Program:=PySem.Challenge.rw_tryweir_k61_too_soon_refused.prog
noncomputable def vw:Program:={ pg with main:={ pg.main with body:=pg.main.body.filter zta } }
end My
section
open PySem PySem.W PyProof.Rows
set_option maxHeartbeats 0
namespace My
noncomputable section
abbrev xT(s:Shared):Bool:=xlAt My.vw [] s && recOk (RowW.records (OpenRow.toRowW (OpenLaw.row PySem.Challenge.rw_tryweir_k61_too_soon_refused))) s
abbrev oE(w:World):=openEnds treeTable pg w 40000
abbrev oM:List Str:=[]
abbrev oL:=looseW vw oM
end
theorem hq1(w:World):(oE w).map (fun s=>seen ((recsOf vw).map (·.name)) (ownsOf vw) [] {heap:=s.heap,drawn:=s.drawn,toks:=s.toks,os:=s.os})=some (expectedOf vw):=by kernel_rfl
theorem hq2(w:World):(oE w).map (fun s=>(s.heap.bltView,s.heap.keysOk oL ((recsOf vw).map (·.name)) ((litsOf vw).map (·.1)) ((clssOf vw oL).map (·.name))&&s.heap.accountedOkI (importedModules pg.main.body)&&s.heap.isNs mainGlobals&&s.heap.isNs builtinsNs&&tablesOk vw s.heap&&xT s&&if true=true then s.gens.size==0 else !leftWithCleanup s.gens))=some (bltViewBooted,true):=by kernel_rfl
theorem hq3(w:World):(oE w).map (fun s=>(tabsOk vw s,pinSeenD vw (drecsOf vw) s))=some (true,pinGoodD (drecsOf vw)):=by kernel_rfl
theorem hq4(w:World):(oE w).map (fun s=>(plainSeenE vw oL s,plainSeenD vw oM s,wideSeen vw s,clsSeenW vw oM s))=some (plainGoodE vw oL,plainGoodD vw oM,wideGood vw,clsGoodW vw oM):=by kernel_rfl
theorem om{α β γ:Type}{f:α->β}{g:α->γ}{o:Option α}{b c}(h:o.map f=some b)(k:o.map g=some c):o.map (fun s=>(f s,g s))=some (b,c):=by cases o with|none=>cases h|some x=>cases h;cases k;rfl
theorem on{S A B C D E F G H I:Type}{o:Option S}{a:S->A}{b:S->B}{c:S->C}{d:S->D}{e:S->E}{f:S->F}{g:S->G}{h:S->H}{i:S->I}{a0 b0 c0 d0 e0 f0 g0 h0 i0}(h1:o.map a=some a0)(h2:o.map (fun s=>(b s,c s))=some (b0,c0))(h3:o.map (fun s=>(d s,e s))=some (d0,e0))(h4:o.map (fun s=>(f s,g s,h s,i s))=some (f0,g0,h0,i0)):o.map (fun s=>(a s,b s,c s,d s,e s,f s,g s,h s,i s))=some (a0,b0,c0,d0,e0,f0,g0,h0,i0):=by cases o with|none=>cases h1|some x=>cases h1;cases h2;cases h3;cases h4;rfl
def hq(w:World):(oE w).map (fun s=>openSeen vw oM (importedModules pg.main.body) xT true s)=some (openGood vw oM):=on (hq1 w) (hq2 w) (hq3 w) (hq4 w)
end My
local macro_rules | `(tactic| o_head $H) => `(tactic| refine holds_open (q := My.vw) (loose := My.oM) (Xt := My.xT) (XP := XL My.vw []) (Yf := Hook.obs $H) (Ya := Hook.val $H) (YP := Hook.says $H) (N := 40000) (fun w => My.om (My.hq w) (by kernel_rfl)) (Hook.of $H) (Hook.keeps $H) (fun s e => xl_of s (Bool.and_eq_true_iff.mp e).1) XL.keeps (by rfl) (by rfl) (by rfl) (fun s e => recFacts_of (Bool.and_eq_true_iff.mp e).2) (by rfl) (by first | assumption | decide +kernel) (by decide +kernel) ⟨rfl, rfl, rfl, rfl, rfl, by decide +kernel⟩ ?hw ?hc)
noncomputable def My.hdD:Σ' P:Prop,P->PySem.Challenge.rw_tryweir_k61_too_soon_refused.Holds:=by
 refine⟨?P,fun hc=>?_⟩
 rotate_left
 ·w_on;o_law;k_head;(case hw=>w_witness2)
  exact hc
end
namespace L2
open PySem PySem.Spec PyProof.Rows
abbrev Key:=Sum Int Str
noncomputable def zfA:Key->Value->Bool
 |.inl k,v=>Value.isInt k v|.inr x,v=>Value.isStrOf x v
noncomputable def zs8(w:World):Key->Int
 |.inl k=>hashInt k|.inr x=>hashStr w x
theorem qT:∀{k:Key} {v:Value},zfA k v=true->(∃i t,k=Sum.inl i/\v=Value.int i t)\/(∃x t,k=Sum.inr x/\v=Value.str x t)
 |.inl i,v,h=>by obtain⟨t,e⟩:=Value.isInt_shape (k:=i) (v:=v) h;exact .inl ⟨i,t,rfl,e⟩
 |.inr x,v,h=>by obtain⟨t,e⟩:=Value.isStrOf_shape (x:=x) (v:=v) h;exact .inr ⟨x,t,rfl,e⟩
theorem zl4(i:Int)(t:Tok):zfA (.inl i) (.int i t)=true:=by simp[zfA,Value.isInt]
theorem zl3(x:Str)(t:Tok):zfA (.inr x) (.str x t)=true:=by simp[zfA,Value.isStrOf]
theorem zqQ(a b:Int):decide ((Sum.inl a:Key)=Sum.inl b)=(a==b):=by
 by_cases e:a=b
 ·subst e;simp
 ·have h:¬(Sum.inl a:Key)=Sum.inl b:=fun q=>e (Sum.inl.inj q);rw[Qx h];exact(beq_eq_false_iff_ne.mpr e).symm
theorem zqN(a b:Str):decide ((Sum.inr a:Key)=Sum.inr b)=decide (a=b):=by
 by_cases e:a=b
 ·subst e;simp
 ·have h:¬(Sum.inr a:Key)=Sum.inr b:=fun q=>e (Sum.inr.inj q);rw[Qx h,Qx e]
def zqP(a:Int)(b:Str):decide ((Sum.inl a:Key)=Sum.inr b)=false:=Qx (fun q=>nomatch q)
def zqO(a:Str)(b:Int):decide ((Sum.inr a:Key)=Sum.inl b)=false:=Qx (fun q=>nomatch q)
noncomputable def z4(prog:Program)(w:World):PySem.KeyKind prog w Key where
 is:=zfA
 hash:=zs8 w
 inj:=fun v a b ha hb=>by
  rcases qT ha with⟨i,t,rfl,rfl⟩ | ⟨x,t,rfl,rfl⟩
  ·rcases qT hb with⟨j,u,rfl,e⟩ | ⟨y,u,rfl,e⟩
   ·injection e with e1 _;rw[e1]
   ·exact nomatch e
  ·rcases qT hb with⟨j,u,rfl,e⟩ | ⟨y,u,rfl,e⟩
   ·exact nomatch e
   ·injection e with e1 _;rw[e1]
 byValue:=fun k v h=>by rcases qT h with⟨i,t,rfl,rfl⟩ | ⟨x,t,rfl,rfl⟩<;>rfl
 pyHash:=fun hv h=>by
  rcases qT hv with⟨i,t,rfl,rfl⟩ | ⟨x,t,rfl,rfl⟩
  ·exact wpAny_pyHash_int h
  ·exact wpAny_pyHash_str h
 eqBool:=fun hu hv h=>by
  rcases qT hu with⟨i,t,rfl,rfl⟩ | ⟨x,t,rfl,rfl⟩
  ·rcases qT hv with⟨j,u,rfl,rfl⟩ | ⟨y,u,rfl,rfl⟩
   ·rw[zqQ]at h;exact wpAny_eqBool_int h
   ·rw[zqP]at h;exact SeqAt.EqAt.int_str i t y u _ _ _ _ h
  ·rcases qT hv with⟨j,u,rfl,rfl⟩ | ⟨y,u,rfl,rfl⟩
   ·rw[zqO]at h;exact SeqAt.EqAt.str_int x t j u _ _ _ _ h
   ·rw[zqN]at h;exact wpAny_eqBool_str h
 «strs»:=fun k x t v h=>by
  rcases qT h with⟨i,u,rfl,e⟩ | ⟨y,u,rfl,e⟩
  ·exact nomatch e
  ·injection e with e1 _;subst e1;cases v<;>rfl
def zjO(prog:Program)(w:World)(i:Int)(t:Tok):(z4 prog w).is (.inl i) (.int i t)=true:=zl4 i t
def zjN(prog:Program)(w:World)(x:Str)(t:Tok):(z4 prog w).is (.inr x) (.str x t)=true:=zl3 x t
inductive V where
 |non | bl (b:Bool) | int (i:Int) | str (x:Str) | byt (b:Array UInt8) | flt (b:UInt64) | ref (a:Addr) | ty (n:String)
 deriving DecidableEq
noncomputable def RelV:V->Value->Prop
 |.non,u=>u=Value.none|.bl b,u=>u=Value.bool b|.int i,u=>∃t,u=Value.int i t|.str x,u=>∃t,u=Value.str x t|.byt b,u=>∃t,u=Value.bytes b t|.flt b,u=>∃t,u=Value.float b t|.ref a,u=>u=Value.ref a|.ty n,u=>u=Value.type n
noncomputable abbrev Vals:List V->List Value->Prop:=Paired RelV
variable {xs:List V}{us:List Value}
def Vals.length(r:Vals xs us):xs.length=us.length:=Paired.length r
theorem Vals.get:∀{xs:List V} {us:List Value} {i:Nat} {x:V},Vals xs us->xs[i]? = some x->∃u,us[i]? = some u/\RelV x u
 |_,_,_,_,.nil,e=>by simp at e|_,_,0,_,.cons r _,e=>by simp at e;subst e;exact⟨_,rfl,r⟩|_,_,i+1,x,.cons _ t,e=>by obtain⟨u,h1,h2⟩:=Vals.get (i:=i) (x:=x) t (by simpa using e);exact⟨u,by simpa using h1,h2⟩
theorem Vals.set{x:V}{u:Value}(r:RelV x u):∀{xs:List V} {us:List Value} (i:Nat),Vals xs us->Vals (xs.set i x) (us.set i u)
 |_,_,_,.nil=>.nil|_,_,0,.cons _ t=>.cons r t|_,_,i+1,.cons q t=>.cons q (Vals.set r i t)
theorem Vals.append:∀{xs ys:List V} {us ws:List Value},Vals xs us->Vals ys ws->Vals (xs++ys) (us++ws)
 |_,_,_,_,.nil,s=>s|_,_,_,_,.cons r t,s=>.cons r (Vals.append t s)
theorem Vals.take:∀{xs:List V} {us:List Value} (n:Nat),Vals xs us->Vals (xs.take n) (us.take n)
 |_,_,0,_=>.nil|_,_,_+1,.nil=>.nil|_,_,n+1,.cons r t=>.cons r (Vals.take n t)
theorem Vals.drop:∀{xs:List V} {us:List Value} (n:Nat),Vals xs us->Vals (xs.drop n) (us.drop n)
 |_,_,0,r=>r|_,_,_+1,.nil=>.nil|_,_,n+1,.cons _ t=>Vals.drop n t
theorem Vals.none_of:∀{xs:List V} {us:List Value} {i:Nat},Vals xs us->xs[i]? = none->us[i]? = none:=fun {xs us i} r e=>by have h1:=r.length;have h2:xs.length<=i:=List.getElem?_eq_none_iff.mp e;exact List.getElem?_eq_none_iff.mpr ⋯
noncomputable def RelO:Option V->Option Value->Prop
 |some v,some u=>RelV v u|none,none=>True|_,_=>False
noncomputable def KV{κ:Type}:List (κ × V)->List (κ × Value)->Prop:=Paired fun (p:κ × V) (q:κ × Value)=>p.1=q.1/\RelV p.2 q.2
noncomputable def kV:Key->V
 |.inl i=>.int i|.inr x=>.str x
inductive HO where
 |lst (xs:List V)
 |tup (xs:List V)
 |dK (kvs:List (Key × V)) | dT (kvs:List (List Key × V))
 |set (S:Int->Bool) (n:Nat)
 |ins (C dx:Addr) (fs:List (Str × V))
 |own (x:Addr)
 |xd (fs:List (Str × V))
 |met (f x:Addr)
 |rng (lo hi:Int)
 |frz (o:Obj) (u:HO)
 |tbl (ps:Array Value)
 |ext (φ:Heap->Prop)
abbrev Hp:=Addr->Option HO
noncomputable def upd(H:Hp)(a:Addr)(o:HO):Hp:=fun b=>if b=a then some o else H b
variable {o:HO}{H:Hp}
theorem qu{a:Addr} :upd H a o a=some o:=by unfold upd;rw[Qz rfl]
theorem zi{a b:Addr}(h:b ≠ a):upd H a o b=H b:=by unfold upd;rw[QA h]
theorem zfw{a b:Addr}{u:HO}(h:H a=some o)(h':H b=some u)(d:o ≠ u):a ≠ b:=by intro e;subst e;rw[h]at h';exact d (Qd h')
theorem yC{a b:Addr}(h:H a=some o)(h':H b=none):a ≠ b:=by intro e;subst e;rw[h]at h';cases h'
def NoDict(h:Heap)(a:Addr):Prop:=∀o,h.get? a=some o->o.dict=none
variable {h:Heap}{n:Nat}
theorem NoDict.new{its:Array Value}{n:Nat}:NoDict (h.push { cls:=.type "tuple",data:=.seq its n }) h.objs.size:=fun o e=>by rw[Ql _ rfl]at e;cases e;rfl
section
variable (P:Program)(w:World)
noncomputable def ObjOk(H:Hp)(h:Heap)(a:Addr):HO->Prop
 |.lst xs=>xs.length<=sizeLine/\∃(its:List Value) (n:Nat),Vals xs its/\h.get? a=some { cls:=.type "list",data:=.seq its.toArray n }|.tup xs=>xs.length<=sizeLine/\∃its:List Value,Vals xs its/\IsTup h a its.toArray/\NoDict h a|.dK kvs=>kvs.length<=sizeLine/\(a==sysModules)=false/\∃vs,KV kvs vs/\h.DictOf (z4 P w) a vs|.dT kvs=>kvs.length<=sizeLine/\(a==sysModules)=false/\∃xs:List (List Key × Addr × Value),
   Paired (fun (p:List Key × V) (q:List Key × Addr × Value)=>p.1=q.1/\H q.2.1=some (.tup (p.1.map kV))/\RelV p.2 q.2.2) kvs xs /\
   ∃o es ep,h.get? a=some o/\o.ExactDict/\o.data = .dict es ep/\es.toList=xs.map (entryOfKey (tupleKind (z4 P w)))/\(xs.map (·.1)).Nodup
 |.set S n=>h.SetOf (intKind P w) a S n|.ins C dx fs=>H dx=some (.own a)/\fs.length<=1000/\dx ≠ a/\h.get? a=some (PySem.W.instObj C dx) /\
   ∃mA,h.Ns1 dx mA/\(∀f,RelO (fs.lookup f) (mA f))/\PySem.Within mA (fs.map (·.1))
 |.own _=>∃o,h.get? a=some o|.xd fs=>∃mA,h.Ns1 a mA/\∀f,RelO (fs.lookup f) (mA f)|.rng lo hi=>∃t u v,h.get? a=some { cls:=.type "range",data:=.fields #[.int lo t,.int hi u,.int 1 v] }|.frz o u=>h.get? a=some o/\ObjOk H h a u|.tbl ps=>h.get? a=some { cls:=.none,data:=.fields ps }|.met f x=>h.get? a=some (PySem.W.methodObj (.ref f) (.ref x))|.ext φ=>φ h/\(∃o,h.get? a=some o)/\∀h1 h2:Heap,φ h1->(∀o,h1.get? a=some o->h2.get? a=some o)->φ h2
def HOk(H:Hp)(h:Heap):Prop:=∀a o,H a=some o->ObjOk P w H h a o
end
variable {h':Heap}{H':Hp}{P:Program}{w:World}
section
variable {a:Addr}
theorem ObjOk.lt(x:ObjOk P w H h a o):a<h.objs.size:=by cases o with|lst xs=>obtain⟨_,_,_,_,e⟩:=x;exact Qe e|tup xs=>obtain⟨_,_,_,p,_⟩:=x;exact p.lt|dK kvs=>obtain⟨_,_,_,_,o,_,_,e,_⟩:=x;exact Qe e|dT kvs=>obtain⟨_,_,_,_,o,_,_,e,_⟩:=x;exact Qe e|set S n=>obtain⟨o,_,_,_,e,_⟩:=x;exact Qe e|ins C dx fs=>obtain⟨_,_,_,e,_⟩:=x;exact Qe e|own y=>obtain⟨_,e⟩:=x;exact Qe e|xd fs=>obtain⟨_,⟨_,_,_,e,_⟩,_⟩:=x;exact Qe e|rng lo hi=>obtain⟨_,_,_,e⟩:=x;exact Qe e|frz ob u=>obtain⟨e,_⟩:=x;exact Qe e|tbl ps=>exact Qe (show h.get? a=some _ from x)|met f y=>exact Qe (show h.get? a=some _ from x)|ext φ=>obtain⟨_,⟨_,e⟩,_⟩:=x;exact Qe e
theorem Paired.mapP{α β:Type}{F G:α->β->Prop}:∀{l₁:List α} {l₂:List β},Paired F l₁ l₂->(∀a b,F a b->G a b)->Paired G l₁ l₂
 |_,_,.nil,_=>.nil|_,_,.cons r t,f=>.cons (f _ _ r) (Paired.mapP t f)
theorem ObjOk.stay(x:ObjOk P w H h a o)(k:∀b u,(b=a\/H b=some (.own a))->h.get? b=some u->h'.get? b=some u)
  (ho:∀b,H b=some (.own a)->H' b=some (.own a)) (ht:∀b xs,H b=some (.tup xs)->H' b=some (.tup xs)):ObjOk P w H' h' a o:=by
 induction o with
 |lst xs=>obtain⟨z,its,n,r,e⟩:=x;exact⟨z,its,n,r,k _ _ (.inl rfl) e⟩|tup xs=>obtain⟨z,its,r,⟨ob,e,c⟩,nd⟩:=x;exact⟨z,its,r,⟨ob,k _ _ (.inl rfl) e,c⟩,fun o q=>nd o (by rw[k _ _ (.inl rfl) e]at q;rw[e];exact q)⟩|dK kvs=>obtain⟨z,y,vs,r,ob,es,ep,e,c⟩:=x;exact⟨z,y,vs,r,ob,es,ep,k _ _ (.inl rfl) e,c⟩|dT kvs=>obtain⟨z,y,xs,r,ob,es,ep,e,c⟩:=x;exact⟨z,y,xs,Paired.mapP r fun p q z=>⟨z.1,ht _ _ z.2.1,z.2.2⟩,ob,es,ep,k _ _ (.inl rfl) e,c⟩
 |set S n=>obtain⟨ob,es,ep,t,e,c⟩:=x;exact⟨ob,es,ep,t,k _ _ (.inl rfl) e,c⟩|ins C dx fs=>obtain⟨d,z,ne,e,mA,⟨od,es,ep,e2,c⟩,r⟩:=x;exact⟨ho _ d,z,ne,k _ _ (.inl rfl) e,mA,⟨od,es,ep,k _ _ (.inr d) e2,c⟩,r⟩
 |own y=>obtain⟨ob,e⟩:=x;exact⟨ob,k _ _ (.inl rfl) e⟩|xd fs=>obtain⟨mA,⟨od,es,ep,e,c⟩,r⟩:=x;exact⟨mA,⟨od,es,ep,k _ _ (.inl rfl) e,c⟩,r⟩|rng lo hi=>obtain⟨t,u,v,e⟩:=x;exact⟨t,u,v,k _ _ (.inl rfl) e⟩|frz ob u ih=>obtain⟨e,q⟩:=x;exact⟨k _ _ (.inl rfl) e,ih q⟩|tbl ps=>have e:h.get? a=some { cls:=.none,data:=.fields ps }:=x;show h'.get? a=some { cls:=.none,data:=.fields ps };exact k a _ (.inl rfl) e
 |met f y=>have e:h.get? a=some (PySem.W.methodObj (.ref f) (.ref y)):=x;show h'.get? a=some (PySem.W.methodObj (.ref f) (.ref y));exact k a _ (.inl rfl) e
 |ext φ=>obtain⟨p,⟨o,e⟩,st⟩:=x;exact⟨st _ _ p fun o q=>k _ _ (.inl rfl) q,⟨o,k _ _ (.inl rfl) e⟩,st⟩
def HOk.lt(x:HOk P w H h)(e:H a=some o):a<h.objs.size:=(x a o e).lt
theorem HOk.fresh(x:HOk P w H h)(e:h.objs.size<=a):H a=none:=by cases q:H a with|none=>rfl|some u=>exact absurd (Q5 (x.lt q) e) (Qo _)
theorem HOk.kept(x:HOk P w H h)(k:∀b u,h.get? b=some u->h'.get? b=some u):HOk P w H h':=fun a o e=>(x a o e).stay (fun b u _ q=>k b u q) (fun _ q=>q) fun _ _ q=>q
theorem HOk.laid(x:HOk P w H h)(k:∀b u,h.get? b=some u->h'.get? b=some u)(hp:h.objs.size<=a)(new:ObjOk P w (upd H a o) h' a o):HOk P w (upd H a o) h':=fun b u e=>by
 have hn:=x.fresh hp
 by_cases hb:b=a
 ·subst hb;rw[qu]at e;cases e;exact new
 ·rw[zi hb]at e;exact(x b u e).stay (fun c v _ q=>k c v q) (fun c q=>by rw[zi (yC q hn)];exact q) fun c xs q=>by rw[zi (yC q hn)];exact q
end
def Rd(H:Hp)(a:Addr)(u:HO):Prop:=H a=some u\/∃o,H a=some (.frz o u)
theorem Rd.ok{a:Addr}{u:HO}(r:Rd H a u)(x:HOk P w H h):ObjOk P w H h a u:=by
 rcases r with r | ⟨o,r⟩
 ·exact x a u r
 ·obtain⟨_,q⟩:=x a _ r;exact q
noncomputable def Mut:Option HO->Prop
 |some (.lst _)=>True|some (.dK _)=>True|some (.dT _)=>True|some (.set _ _)=>True|some (.ins _ _ _)=>True|some (.ext _)=>True|_=>False
section
variable {x e:Addr}{o':HO}
theorem HOk.write(ok:HOk P w H h)(mu:Mut (H x))(he:e=x\/H e=some (.own x))(k:∀b u,b ≠ e->h.get? b=some u->h'.get? b=some u)(heo:∃u,h'.get? e=some u)
  (new:ObjOk P w (upd H x o') h' x o'):HOk P w (upd H x o') h':=fun b u q=>by
 have nown:∀c y,H c=some (.own y)->c ≠ x:=fun c y r z=>by subst z;rw[r]at mu;exact mu
 have ntup:∀c xs,H c=some (.tup xs)->c ≠ x:=fun c xs r z=>by subst z;rw[r]at mu;exact mu
 by_cases hb:b=x
 ·subst hb;rw[qu]at q;cases q;exact new
 ·rw[zi hb]at q
  by_cases hbe:b=e
  ·have q':H b=some (.own x):=by
    rcases he with z | z
    ·exact absurd (hbe.trans z) hb
    ·rw[hbe];exact z
   rw[q]at q';cases q'
   obtain⟨v,hv⟩:=heo;exact⟨v,by rw[hbe];exact hv⟩
  ·refine(ok b u q).stay (fun c v hc r=>k c v ?_ r) (fun c r=>by rw[zi (nown c b r)];exact r) fun c xs r=>by rw[zi (ntup c xs r)];exact r
   rcases hc with rfl | hc
   ·exact hbe
   ·rintro rfl;rcases he with z | z
    ·exact nown c b hc z
    ·rw[hc]at z;cases z;exact hb rfl
end
structure Un (fs ex:List Addr) (H H':Hp) (h h':Heap):Prop where
 keep:∀b o,h.get? b=some o->H b=none->b ∉ fs->b ∉ ex->h'.get? b=some o
 slot:∀b o,h.get? b=some o->H b=none->b ∈ fs->b ∉ ex->∃sl,h'.get? b=some { o with slots:=sl }
 free:∀b o,h.get? b=some o->H b=none->b ∉ ex->H' b=none
 there:∀b o,h.get? b=some o->b ∉ ex->∃o',h'.get? b=some o'
 tups:∀b xs,H b=some (.tup xs)->H' b=some (.tup xs)
 frzs:∀b o u,H b=some (.frz o u)->H' b=some (.frz o u)
 tbls:∀b ps,H b=some (.tbl ps)->∃more,H' b=some (.tbl (ps++more))
section
variable {fs fs' ex ex':List Addr}{H1 H2:Hp}{h1 h2:Heap}{a x e:Addr}
theorem Un.any(u:Un fs ex H H1 h h1){b:Addr}{ob:Obj}(q:h.get? b=some ob)(n:H b=none)(hx:b ∉ ex):∃sl,h1.get? b=some { ob with slots:=sl }:=by
 by_cases hb:b ∈ fs
 ·exact u.slot b ob q n hb hx
 ·exact⟨ob.slots,u.keep b ob q n hb hx⟩
theorem Un.kept(k:∀b u,h.get? b=some u->h'.get? b=some u):Un fs ex H H h h':=
 ⟨fun b ob q _ _ _=>k b ob q,fun b ob q _ _ _=>⟨ob.slots,k b ob q⟩,fun _ _ _ n _=>n,fun b ob q _=>⟨ob,k b ob q⟩,fun _ _ q=>q,fun _ _ _ q=>q,fun _ ps q=>⟨#[],by rw[q];simp⟩⟩
def Un.refl:Un fs ex H H h h:=Un.kept fun _ _ q=>q
theorem Un.laid(k:∀b u,h.get? b=some u->h'.get? b=some u)(hp:h.objs.size<=a)(hn:H a=none):Un fs ex H (upd H a o) h h' where
 keep:=fun b u q _ _ _=>k b u q
 slot:=fun b u q _ _ _=>⟨u.slots,k b u q⟩
 free:=fun b u q n _=>by rw[zi (Qk (Q5 (Qe q) hp))];exact n
 there:=fun b u q _=>⟨u,k b u q⟩
 tups:=fun b xs q=>by rw[zi (yC q hn)];exact q
 frzs:=fun b u xs q=>by rw[zi (yC q hn)];exact q
 tbls:=fun b ps q=>⟨#[],by rw[zi (yC q hn),q];simp⟩
theorem Un.write(mu:Mut (H x))(he:e=x\/H e=some (.own x))(k:∀b u,b ≠ e->h.get? b=some u->h'.get? b=some u)(heo:∃u,h'.get? e=some u):Un fs ex H (upd H x o) h h':=by
 have hx:∀b,H b=none->b ≠ x:=fun b n z=>by subst z;rw[n]at mu;exact mu
 have hb:∀b,H b=none->b ≠ e:=fun b n z=>by
  subst z;rcases he with r | r
  ·exact hx b n r
  ·rw[n]at r;cases r
 have hm:∀b u,H b=some u->¬Mut (some u)->b ≠ x:=fun b u q nm z=>by subst z;rw[q]at mu;exact nm mu
 refine⟨fun b u q n _ _=>k b u (hb b n) q,fun b u q n _ _=>⟨u.slots,k b u (hb b n) q⟩,fun b u q n _=>by rw[zi (hx b n)];exact n,fun b u q _=>?_,
  fun b xs q=>by rw[zi (hm b _ q fun z=>z)];exact q,fun b u xs q=>by rw[zi (hm b _ q fun z=>z)];exact q,fun b ps q=>⟨#[],by rw[zi (hm b _ q fun z=>z),q];simp⟩⟩
 by_cases hbe:b=e
 ·subst hbe;exact heo
 ·exact⟨u,k b u hbe q⟩
end
noncomputable def trk(h:Heap)(H:Hp):List Addr:=(List.range h.objs.size).filter fun a=>(H a).isSome
noncomputable def zeD(h:Heap)(H:Hp):Heap:=PySem.W.hideAll h (trk h H)
def zl9(h:Heap)(H:Hp):(zeD h H).objs.size=h.objs.size:=PySem.W.hideAll_size _ _
theorem znq{b:Addr}{o:Obj}(e:h.get? b=some o)(n:H b=none):(zeD h H).get? b=some o:=
 PySem.W.hideAll_get _ e fun hm=>by have q:(H b).isSome=true:=(mem_filter.mp hm).2;rw[n]at q;simp at q
theorem zoL{b:Addr}{o:Obj}(e:(zeD h H).get? b=some o):h.get? b=some o/\H b=none:=by
 have e':h.get? b=some o:=PySem.W.of_hideAll (trk h H) e;refine⟨e',?_⟩;cases q:H b with
 |none=>rfl|some x=>have hm:b ∈ trk h H:=mem_filter.mpr ⟨mem_range.mpr (Qe e'),by simp[q]⟩;have z:(zeD h H).get? b=none:=PySem.W.hideAll_none (trk h H) hm;rw[z]at e;cases e
noncomputable def zpC(g h:Heap)(L:Addr):List (Addr × Obj):=(List.range h.objs.size).filterMap fun a=>if a=L\/(g.get? a).isSome=true then none else(h.get? a).map fun o=>(a,o)
noncomputable def rest(g h:Heap)(L d:Addr):List (Addr × Obj):=(zpC g h L).filter fun p=>decide (p.1 ≠ d)
structure Mod (K:Frag) (mg:Str->Option Value) (base:Heap):Prop where
 kin:K.In base
 glob:base.Ns mainGlobals mg
 blt:∃mb,base.Ns builtinsNs mb/\∀x:Str,x ≠ "__name__"->mb x=bootBuiltins x
 nolimit:base.NoLimit
structure Cx where
 prog:Program
 w:World
 K:Frag
 mg:Str->Option Value
 base:Heap
 A:Around
 N:List Str
 s₀:Shared
 H₀:Hp
 env:Env
 outer:List Env
 stack:List Env
 ex:List Addr
 fn:Str->Bool
 calm:Bool
 pn:List (Addr × Obj)
 xe:Value->Shared->Prop
noncomputable def frs(l:List Env):List Addr:=l.filterMap (·.frame)
noncomputable abbrev Cx.fs(X:Cx):List Addr:=frs X.outer
def Vis(sc:Scope)(x:Str):Prop:=sc.names.lookup x=some .local\/sc.names.lookup x=some .cell\/sc.names.lookup x=some .free
def Loc(sc:Scope)(x:Str):Prop:=sc.names.lookup x=some .local\/sc.names.lookup x=some .cell
def Look(env:Env)(h:Heap)(m:Str->Option Value)(x:Str)(u:Value):Prop:=
 (env.kindOf x=some .local/\m x=some u)\/((env.kindOf x=some .cell\/env.kindOf x=some .free)/\∃c,env.cells.lookup x=some c/\h.IsCell c (some u))
structure Cx.Ok (X:Cx):Prop where
 mod:Mod X.K X.mg X.base
 kind:X.env.scope.kind = .function
 glob:X.env.globals=mainGlobals
 blt:X.env.builtins=builtinsNs
 above:X.s₀.heap.objs.size<=X.env.locals
 inj:∀x y c,X.env.cells.lookup x=some c->X.env.cells.lookup y=some c->x=y
 has:∀x,(X.env.kindOf x=some .cell\/X.env.kindOf x=some .free)->∃c,X.env.cells.lookup x=some c
 cab:∀x c,X.fn x=true->X.env.cells.lookup x=some c->X.s₀.heap.objs.size<=c
 hd:X.calm=true->X.A.handled=none
 frames:X.A.frames=some X.stack
 stk:X.stack=X.outer\/(X.stack=X.env::X.outer/\X.env.frame=some X.env.locals)
 exf:∀b ∈ X.ex,b ≠ X.env.locals/\∀x c,X.env.cells.lookup x=some c->c ≠ b
 bs:∀b o,X.base.get? b=some o->X.s₀.heap.get? b=some o/\X.H₀ b=none
 bsz:X.base.objs.size<=X.s₀.heap.objs.size
 noex:∀b o,X.base.get? b=some o->b ∉ X.ex
 exfs:∀b ∈ X.ex,b ∉ X.fs
 funs:X.s₀.heap.FunFrames X.base X.outer
 frf:∀b ∈ X.fs,X.H₀ b=none
structure Inv (X:Cx) (ρ:List (Addr × Obj)) (σ:List (Option V)) (H:Hp) (s:Shared):Prop where
 ok:X.Ok
 os:s.os=X.s₀.os
 bare:AllBare s.gens
 base:Un X.fs X.ex X.H₀ H X.s₀.heap s.heap
 loc:∃m,s.heap.Ns X.env.locals m/\∀(i:Nat) (x:Str) (v:V),X.N[i]? = some x->σ[i]? = some (some v)->Vis X.env.scope x->∃u,RelV v u/\Look X.env s.heap m x u
 cell:∀x c,X.env.cells.lookup x=some c->∃v,s.heap.IsCell c v
 free:H X.env.locals=none
 freeC:∀x c,X.env.cells.lookup x=some c->H c=none
 pin:∀p ∈ X.pn++ρ,s.heap.get? p.1=some p.2/\H p.1=none/\p.1 ≠ X.env.locals/\p.1 ∉ X.fs/\∀v,p.2.data ≠ .cell v
 hok:HOk X.prog X.w H s.heap
 len:σ.length=X.N.length
variable {it:Addr}{A:Around}{g':Array GenState}{X:Cx}{d':Drawn}{ρ:List (Addr × Obj)}{ch:List Addr}{N:List Str}{M:Model}{i j t':Nat}{s s':Shared}{x:Str}{v:V}{u:Value}{E:Value->Shared->Prop}
section
variable {σ:List (Option V)}
theorem Cx.Ok.nofr(ok:X.Ok){b:Addr}{o:Obj}(e:X.base.get? b=some o):b ∉ X.fs:=fun hb=>by have:=(ok.funs.mem hb).1;rw[e]at this;cases this
theorem Inv.bs(I:Inv X ρ σ H s):∀b o,X.base.get? b=some o->s.heap.get? b=some o/\H b=none:=fun b o e=>⟨I.base.keep b o (I.ok.bs b o e).1 (I.ok.bs b o e).2 (I.ok.nofr e) (I.ok.noex b o e),I.base.free b o (I.ok.bs b o e).1 (I.ok.bs b o e).2 (I.ok.noex b o e)⟩
def Inv.bk(I:Inv X ρ σ H s):∀b o,X.base.get? b=some o->s.heap.get? b=some o:=fun b o e=>(I.bs b o e).1
def Inv.mod(I:Inv X ρ σ H s):Mod X.K X.mg X.base:=I.ok.mod
def Inv.kIn(I:Inv X ρ σ H s):X.K.In s.heap:=I.ok.mod.kin.keeps I.bk
theorem Inv.fr(I:Inv X ρ σ H s):∃m,Fr X.base X.env.locals s.heap m:=
 let ⟨m,hn,_⟩:=I.loc
 ⟨m,hn,I.bk,Qj I.ok.bsz I.ok.above⟩
def Inv.lt(I:Inv X ρ σ H s):X.env.locals<s.heap.objs.size:=let ⟨_,hn,_⟩:=I.loc;hn.lt
def Inv.sz(I:Inv X ρ σ H s):X.s₀.heap.objs.size<=s.heap.objs.size:=Qj I.ok.above (Nat.le_of_lt I.lt)
theorem Inv.nofs(I:Inv X ρ σ H s){a:Addr}(h:s.heap.objs.size<=a):a ∉ X.fs:=fun hb=>by obtain⟨_,o,ho,_⟩:=I.ok.funs.mem hb;exact absurd (Q5 (Qe ho) (Qj I.sz h)) (Qo _)
theorem Inv.cne(I:Inv X ρ σ H s):∀x c,X.env.cells.lookup x=some c->c ≠ X.env.locals:=fun x c e z=>by obtain⟨v,o,ho,hd⟩:=I.cell x c e;obtain⟨m,⟨o',es,ep,ho',hd',_⟩,_⟩:=I.loc;rw[z,ho']at ho;cases ho;rw[hd']at hd;cases hd
theorem Inv.funs(I:Inv X ρ σ H s):s.heap.FunFrames X.base X.outer:=by
 have all:∀(l:List Env),(∀b ∈ frs l,b ∈ X.fs)->X.s₀.heap.FunFrames X.base l->s.heap.FunFrames X.base l:=by
  intro l
  induction l with
  |nil=>intro _ _;trivial|cons env r ih=>intro hs hl;obtain⟨hk,⟨L,o,hf,hn,ho,hd⟩,hr⟩:=hl;have hL:L ∈ X.fs:=hs L (by unfold frs;rw[filterMap_cons,hf];exact mem_cons_self);obtain⟨sl,e⟩:=I.base.slot L o ho (I.ok.frf L hL) hL fun z=>I.ok.exfs L z hL;exact⟨hk,⟨L,_,hf,hn,e,hd⟩,ih (fun b hb=>hs b (by unfold frs;rw[filterMap_cons,hf];exact mem_cons_of_mem _ hb)) hr⟩
 exact all X.outer (fun _ hb=>hb) I.ok.funs
theorem Inv.stack(I:Inv X ρ σ H s):s.heap.FunFrames X.base X.stack:=by
 rcases I.ok.stk with e | ⟨e,hf⟩
 ·rw[e];exact I.funs
 ·rw[e];obtain⟨m,hn,_⟩:=I.loc;refine .cons (by rw[I.ok.kind];decide) hf hn ?_ I.funs;exact Heap.get?_none_of_le (Qj I.ok.bsz I.ok.above)
theorem Inv.stkSub(I:Inv X ρ σ H s):∀b ∈ frs X.stack,b ∈ X.env.locals::X.fs:=fun b hb=>by
 rcases I.ok.stk with e | ⟨e,hf⟩
 ·rw[e]at hb;exact mem_cons_of_mem _ hb
 ·rw[e]at hb;unfold frs at hb;rw[filterMap_cons,hf]at hb;exact hb
theorem Inv.stkFree(I:Inv X ρ σ H s):∀b ∈ frs X.stack,H b=none:=fun b hb=>by
 rcases QB.mp (I.stkSub b hb)with e | hb
 ·rw[e];exact I.free
 ·obtain⟨_,o,ho,_⟩:=I.ok.funs.mem hb;exact I.base.free b o ho (I.ok.frf b hb) fun z=>I.ok.exfs b z hb
theorem Inv.step{t':Nat}{d':Drawn}(I:Inv X ρ σ H s)
 (hch:∀b ∈ ch,(b ∈ X.ex\/X.s₀.heap.objs.size<=b)/\b ≠ X.env.locals/\(∀x c,X.env.cells.lookup x=some c->c ≠ b)/\∀p ∈ X.pn++ρ,p.1 ≠ b)
 (keep:∀b o,b ≠ X.env.locals->b ∉ X.fs->b ∉ ch->s.heap.get? b=some o->H b=none->h'.get? b=some o)
 (slot:∀b o,b ≠ X.env.locals->b ∈ X.fs->b ∉ ch->s.heap.get? b=some o->H b=none->∃sl,h'.get? b=some { o with slots:=sl }) (free:∀b o,b ∉ ch->s.heap.get? b=some o->H b=none->H' b=none)
 (there:∀b o,b ∉ ch->s.heap.get? b=some o->∃o',h'.get? b=some o')
 (tups:∀b xs,H b=some (.tup xs)->H' b=some (.tup xs)) (frzs:∀b o u,H b=some (.frz o u)->H' b=some (.frz o u)) (tbls:∀b ps,H b=some (.tbl ps)->∃more,H' b=some (.tbl (ps++more)))
 (ns:∀m,s.heap.Ns X.env.locals m->h'.Ns X.env.locals m) (hok:HOk X.prog X.w H' h') (hg:AllBare g') :
  Inv X ρ σ H' { s with heap:=h',gens:=g',drawn:=d',toks:=t' }:=by
 have neL:∀b o,X.s₀.heap.get? b=some o->b ≠ X.env.locals:=fun b o e=>Qk (Q5 (Qe e) I.ok.above);have neC:∀b o,X.s₀.heap.get? b=some o->b ∉ X.ex->b ∉ ch:=fun b o e hx hb=>by
  rcases (hch b hb).1 with z | z
  ·exact hx z
  ·exact absurd (Q5 (Qe e) z) (Qo _)
 have cellK:∀x c,X.env.cells.lookup x=some c->∀v,s.heap.IsCell c v->h'.IsCell c v:=fun x c e v h9=>by
  obtain⟨o,ho,hd⟩:=h9;have nch:c ∉ ch:=fun z=>(hch c z).2.2.1 x c e rfl
  by_cases hc:c ∈ X.fs
  ·obtain⟨sl,q⟩:=slot c o (I.cne x c e) hc nch ho (I.freeC x c e);exact⟨_,q,hd⟩
  ·exact⟨o,keep c o (I.cne x c e) hc nch ho (I.freeC x c e),hd⟩
 refine⟨I.ok,I.os,hg,⟨fun b o e n hb hx=>?_,fun b o e n hb hx=>?_,fun b o e n hx=>?_,fun b o e hx=>?_,fun b xs e=>tups b xs (I.base.tups b xs e),fun b o xs e=>frzs b o xs (I.base.frzs b o xs e),fun b ps e=>?_⟩,?_,fun x c e=>?_,?_,fun x c e=>?_,fun p hp=>?_,hok,I.len⟩
 ·exact keep b o (neL b o e) hb (neC b o e hx) (I.base.keep b o e n hb hx) (I.base.free b o e n hx)
 ·obtain⟨sl,e1⟩:=I.base.slot b o e n hb hx;obtain⟨sl',e2⟩:=slot b _ (neL b o e) hb (neC b o e hx) e1 (I.base.free b o e n hx);exact⟨sl',e2⟩
 ·obtain⟨o',e1⟩:=I.base.there b o e hx;exact free b o' (neC b o e hx) e1 (I.base.free b o e n hx)
 ·obtain⟨o',e1⟩:=I.base.there b o e hx;exact there b o' (neC b o e hx) e1
 ·obtain⟨m1,e1⟩:=I.base.tbls b ps e;obtain⟨m2,e2⟩:=tbls b _ e1;exact⟨m1++m2,by rw[e2,Array.append_assoc]⟩
 ·obtain⟨m,hn,hl⟩:=I.loc;refine⟨m,ns m hn,fun i x v e1 e2 e3=>?_⟩;obtain⟨u,r,l⟩:=hl i x v e1 e2 e3;refine⟨u,r,?_⟩;rcases l with l | ⟨k,c,e,z⟩
  ·exact .inl l
  ·exact .inr ⟨k,c,e,cellK x c e _ z⟩
 ·obtain⟨v,z⟩:=I.cell x c e;exact⟨v,cellK x c e v z⟩
 ·obtain⟨m,⟨o,_,_,ho,_⟩,_⟩:=I.loc;exact free _ o (fun z=>(hch _ z).2.1 rfl) ho I.free
 ·obtain⟨v,o,ho,hd⟩:=I.cell x c e;exact free c o (fun z=>(hch c z).2.2.1 x c e rfl) ho (I.freeC x c e)
 ·obtain⟨e,n,ne,nf,d⟩:=I.pin p hp;have nch:p.1 ∉ ch:=fun z=>(hch p.1 z).2.2.2 p hp rfl;exact⟨keep p.1 p.2 ne nf nch e n,free p.1 p.2 nch e n,ne,nf,d⟩
theorem Inv.un{t':Nat}(I:Inv X ρ σ H s)(u:Un X.fs [] H H' s.heap h')(hok:HOk X.prog X.w H' h'):Inv X ρ σ H' { s with heap:=h',toks:=t' }:=by
 obtain⟨m,⟨o,es,ep,ho,r⟩,_⟩:=id I.loc;obtain⟨sl,hL⟩:=u.any ho I.free (by simp);exact I.step (g':=s.gens) (d':=s.drawn) (ch:=[]) (fun _ z=>nomatch z) (fun b o _ hb _ e n=>u.keep b o e n hb (by simp)) (fun b o _ hb _ e n=>u.slot b o e n hb (by simp)) (fun b o _ e n=>u.free b o e n (by simp)) (fun b o _ e=>u.there b o e (by simp)) u.tups u.frzs u.tbls (fun m' hm=>by
  obtain⟨o',es',ep',ho',r'⟩:=hm;rw[ho]at ho';cases ho'
  exact⟨_,es',ep',hL,r'⟩) hok I.bare
theorem Inv.call{t':Nat}{d':Drawn}(I:Inv X ρ σ H s)(u:Un (frs X.stack) ch H H' s.heap h')(hok:HOk X.prog X.w H' h')(hg:AllBare g')
 (hch:∀b ∈ ch,(b ∈ X.ex\/X.s₀.heap.objs.size<=b)/\b ≠ X.env.locals/\(∀x c,X.env.cells.lookup x=some c->c ≠ b)/\∀p ∈ X.pn++ρ,p.1 ≠ b) :
  Inv X ρ σ H' { s with heap:=h',gens:=g',drawn:=d',toks:=t' }:=by
 obtain⟨m,⟨o,es,ep,ho,r⟩,_⟩:=id I.loc;obtain⟨sl,hL⟩:=u.any ho I.free fun z=>(hch _ z).2.1 rfl;exact I.step (ch:=ch) hch (fun b o hL hb hc e n=>u.keep b o e n (fun z=>(QB.mp (I.stkSub b z)).elim hL hb) hc) (fun b o _ _ hc e n=>u.any e n hc) (fun b o hc e n=>u.free b o e n hc) (fun b o hc e=>u.there b o e hc) u.tups u.frzs u.tbls (fun m' hm=>by
  obtain⟨o',es',ep',ho',r'⟩:=hm;rw[ho]at ho';cases ho'
  exact⟨_,es',ep',hL,r'⟩) hok hg
theorem Inv.turned{t':Nat}(I:Inv X ρ σ H s)(k:∀b o,b ≠ it->s.heap.get? b=some o->h'.get? b=some o)(hn:H it=none)(hL:it ≠ X.env.locals)
 (h1:it ∈ X.ex\/X.s₀.heap.objs.size<=it) (h2:∀x c,X.env.cells.lookup x=some c->c ≠ it) (h3:∀p ∈ X.pn++ρ,p.1 ≠ it):Inv X ρ σ H { s with heap:=h',toks:=t' }:=by
 have nit:∀b u,H b=some u->b ≠ it:=fun b u e z=>by rw[z,hn]at e;cases e
 refine I.step (g':=s.gens) (d':=s.drawn) (ch:=[it]) (fun b hb=>?_) (fun b o _ _ hc e _=>k b o (fun z=>hc (by simp[z])) e) (fun b o _ _ hc e _=>⟨o.slots,k b o (fun z=>hc (by simp[z])) e⟩) (fun _ _ _ _ n=>n)
  (fun b o hc e=>⟨o,k b o (fun z=>hc (by simp[z])) e⟩) (fun _ _ e=>e) (fun _ _ _ e=>e) (fun b ps e=>⟨#[],by rw[e];simp⟩) (fun m hm=>?_) (fun b u e=>?_) I.bare
 ·have e:b=it:=by simpa using hb
  subst e;exact⟨h1,hL,h2,h3⟩
 ·obtain⟨o,es,ep,ho,r⟩:=hm;exact⟨o,es,ep,k _ o (Ne.symm hL) ho,r⟩
 ·refine(I.hok b u e).stay (fun c v hc q=>k c v ?_ q) (fun _ q=>q) fun _ _ q=>q;rcases hc with z | z
  ·rw[z];exact nit b u e
  ·exact nit c _ z
def Inv.tok(I:Inv X ρ σ H s)(t:Nat):Inv X ρ σ H { s with toks:=t }:=I.un (h':=s.heap) (t':=t) Un.refl I.hok
def Inv.kept{t':Nat}(I:Inv X ρ σ H s)(k:∀b u,s.heap.get? b=some u->h'.get? b=some u):Inv X ρ σ H { s with heap:=h',toks:=t' }:=I.un (Un.kept k) (I.hok.kept k)
theorem Inv.laid{a:Addr}{t':Nat}(I:Inv X ρ σ H s)(k:∀b u,s.heap.get? b=some u->h'.get? b=some u)(hp:s.heap.objs.size<=a)(new:ObjOk X.prog X.w (upd H a o) h' a o) :
  Inv X ρ σ (upd H a o) { s with heap:=h',toks:=t' }:=I.un (Un.laid k hp (I.hok.fresh hp)) (I.hok.laid k hp new)
theorem Inv.write{x e:Addr}{t':Nat}(I:Inv X ρ σ H s)(mu:Mut (H x))(he:e=x\/H e=some (.own x))(k:∀b u,b ≠ e->s.heap.get? b=some u->h'.get? b=some u)(heo:∃u,h'.get? e=some u)
 (new:ObjOk X.prog X.w (upd H x o) h' x o):Inv X ρ σ (upd H x o) { s with heap:=h',toks:=t' }:=I.un (Un.write mu he k heo) (I.hok.write mu he k heo new)
theorem Inv.pins_of{pins':List (Addr × Obj)}(I:Inv X ρ σ H s)(h:∀p ∈ pins',s.heap.get? p.1=some p.2/\H p.1=none/\p.1 ≠ X.env.locals/\p.1 ∉ X.fs/\∀v,p.2.data ≠ .cell v):Inv X pins' σ H s:=
 ⟨I.ok,I.os,I.bare,I.base,I.loc,I.cell,I.free,I.freeC,fun p hp=>(mem_append.mp hp).elim (fun z=>I.pin p (mem_append_left _ z)) (h p),I.hok,I.len⟩
theorem zgi(hN:N.Nodup)(a:N[i]? = some x)(b:N[j]? = some x):i=j:=by obtain⟨h1,e1⟩:=Qy.mp a;obtain⟨h2,e2⟩:=Qy.mp b;exact(List.getElem_inj hN).mp (e1.trans e2.symm)
theorem zhV{Q:Unit->Shared->Prop}(I:Inv X ρ σ H s)(hN:X.N.Nodup)(hi:X.N[i]? = some x)(hx:Loc X.env.scope x)(r:RelV v u)
 (h:∀s',Inv X ρ (σ.set i (some v)) H s'->(∃a,Heap.SameBut a s.heap s'.heap/\(a=X.env.locals\/X.env.cells.lookup x=some a))->Q () s') (hf:X.fn x=true\/X.env.scope.names.lookup x=some .local:=by first | exact .inl rfl | exact .inr rfl | assumption):wpAny M A (storeName X.env x u) Q E s:=by
 obtain⟨m,hn,hl⟩:=id I.loc;have hcls:(X.env.scope.kind == .class || (X.env.scope.kind == .module && X.env.locals != X.env.globals))=false:=by rw[I.ok.kind];rfl
 have hiσ:i<σ.length:=by rw[I.len];exact(Qy.mp hi).1
 have cne:=I.cne;have tracked:∀{a:Addr} {h':Heap},(∃o,s.heap.get? a=some o/\H a=none)->Heap.SameBut a s.heap h'->HOk X.prog X.w H h':=fun {a h'} ha hs b ob e=>by
  obtain⟨_,_,hfree⟩:=ha;refine(I.hok b ob e).stay (fun c w' hc q=>(hs.2 c ?_).trans q) (fun _ q=>q) fun _ _ q=>q;rintro rfl;rcases hc with rfl | hc
  ·rw[hfree]at e;cases e
  ·rw[hfree]at hc;cases hc
 rcases hx with hk | hk
 ·refine wpAny_storeName_local hk hn (fun h' hn' hs=>?_) hcls;obtain⟨oL,_,_,hoL,_⟩:=id hn;refine h _ ⟨I.ok,I.os,I.bare,⟨fun b o e n hb hx=>?_,fun b o e n hb hx=>?_,I.base.free,fun b o e hx=>?_,I.base.tups,I.base.frzs,I.base.tbls⟩,⟨_,hn',fun j y v' e1 e2 e3=>?_⟩,fun y c e=>?_,I.free,I.freeC,fun p hp=>?_,tracked ⟨oL,hoL,I.free⟩ hs,by simpa using I.len⟩ ⟨_,hs,.inl rfl⟩
  ·exact(hs.2 b (Qk (Q5 (Qe e) I.ok.above))).trans (I.base.keep b o e n hb hx)
  ·obtain⟨sl,e1⟩:=I.base.slot b o e n hb hx;exact⟨sl,(hs.2 b (Qk (Q5 (Qe e) I.ok.above))).trans e1⟩
  ·obtain⟨o',e1⟩:=I.base.there b o e hx;exact⟨o',(hs.2 b (Qk (Q5 (Qe e) I.ok.above))).trans e1⟩
  ·by_cases hj:j=i
   ·subst hj;rw[hi]at e1;cases e1
    rw[List.getElem?_set_self hiσ]at e2;cases e2;exact⟨u,r,.inl ⟨hk,by simp⟩⟩
   ·rw[getElem?_set_ne (Ne.symm hj)]at e2;obtain⟨u',r',q⟩:=hl j y v' e1 e2 e3;refine⟨u',r',?_⟩;rcases q with⟨k,e⟩ | ⟨k,c,e,z⟩
    ·refine .inl ⟨k,?_⟩;have:y ≠ x:=fun e=>hj (zgi hN e1 (e ▸ hi));simp[this,e]
    ·exact .inr ⟨k,c,e,z.sameBut hs (cne y c e)⟩
  ·obtain⟨w',z⟩:=I.cell y c e;exact⟨w',z.sameBut hs (cne y c e)⟩
  ·obtain⟨e,n,ne,nf,d⟩:=I.pin p hp;exact⟨(hs.2 p.1 ne).trans e,n,ne,nf,d⟩
 ·have hfn:X.fn x=true:=by
   rcases hf with z | z
   ·exact z
   ·rw[z]at hk;cases hk
  obtain⟨c,hc⟩:=I.ok.has x (.inl hk);obtain⟨w',z⟩:=I.cell x c hc;refine wpAny_storeName_cell I.ok.kind hk hc z (fun h' hc' hs=>?_);obtain⟨oc,hoc,hocd⟩:=id z;refine h { s with heap:=h' } ⟨I.ok,I.os,I.bare,⟨fun b o e n hb hx=>?_,fun b o e n hb hx=>?_,I.base.free,fun b o e hx=>?_,I.base.tups,I.base.frzs,I.base.tbls⟩,⟨m,hn.sameBut hs (Ne.symm (cne x c hc)),fun j y v' e1 e2 e3=>?_⟩,fun y c' e=>?_,I.free,I.freeC,fun p hp=>?_,tracked ⟨oc,hoc,I.freeC x c hc⟩ hs,by simpa using I.len⟩ ⟨c,hs,.inr hc⟩
  ·exact(hs.2 b (Qk (Q5 (Qe e) (I.ok.cab x c hfn hc)))).trans (I.base.keep b o e n hb hx)
  ·obtain⟨sl,e1⟩:=I.base.slot b o e n hb hx;exact⟨sl,(hs.2 b (Qk (Q5 (Qe e) (I.ok.cab x c hfn hc)))).trans e1⟩
  ·obtain⟨o',e1⟩:=I.base.there b o e hx;exact⟨o',(hs.2 b (Qk (Q5 (Qe e) (I.ok.cab x c hfn hc)))).trans e1⟩
  ·by_cases hj:j=i
   ·subst hj;rw[hi]at e1;cases e1
    rw[List.getElem?_set_self hiσ]at e2;cases e2;exact⟨u,r,.inr ⟨.inl hk,c,hc,hc'⟩⟩
   ·rw[getElem?_set_ne (Ne.symm hj)]at e2;obtain⟨u',r',q⟩:=hl j y v' e1 e2 e3;refine⟨u',r',?_⟩;rcases q with q | ⟨k,c',e,z'⟩
    ·exact .inl q
    ·refine .inr ⟨k,c',e,z'.sameBut hs ?_⟩;rintro rfl;exact hj (zgi hN e1 (I.ok.inj _ _ _ e hc ▸ hi))
  ·by_cases hcc:c'=c
   ·subst hcc;exact⟨_,hc'⟩
   ·obtain⟨w2,z2⟩:=I.cell y c' e;exact⟨w2,z2.sameBut hs hcc⟩
  ·obtain⟨e,n,ne,nf,d⟩:=I.pin p hp;refine⟨(hs.2 p.1 ?_).trans e,n,ne,nf,d⟩;intro q;rw[q,hoc]at e;have q':oc=p.2:=Qd e;exact d w' (by rw[←q'];exact hocd)
theorem zda{Q:Unit->Shared->Prop}(I:Inv X ρ σ H s)(hN:X.N.Nodup)(hi:X.N[i]? = some x)(hx:Loc X.env.scope x)(r:RelV v u)
 (h:∀s',Inv X ρ (σ.set i (some v)) H s'->Q () s') (hf:X.fn x=true\/X.env.scope.names.lookup x=some .local:=by first | exact .inl rfl | exact .inr rfl | assumption):wpAny M A (storeName X.env x u) Q E s:=
 zhV I hN hi hx r (fun s' I' _=>h s' I') hf
theorem Inv.call'(I:Inv X ρ σ H s)(ho:s'.os=s.os)(u:Un (frs X.stack) ch H H' s.heap s'.heap)(hok:HOk X.prog X.w H' s'.heap)(hg:AllBare s'.gens)
 (hch:∀b ∈ ch,(b ∈ X.ex\/X.s₀.heap.objs.size<=b)/\b ≠ X.env.locals/\(∀x c,X.env.cells.lookup x=some c->c ≠ b)/\∀p ∈ X.pn++ρ,p.1 ≠ b):Inv X ρ σ H' s':=by
 obtain⟨h',g',d',t',o'⟩:=s';have e:o'=s.os:=ho;subst e;exact I.call (g':=g') (t':=t') (d':=d') u hok hg hch
end
abbrev XK:=Value->Option Addr->Hp->Prop
abbrev St:=List (Option V)
abbrev VK:=V->Hp->Prop
abbrev TE:=St->Hp->VK->Prop
abbrev TT:=St->Hp->(Bool->Hp->Prop)->Prop
abbrev TA:=St->Hp->(List V->Hp->Prop)->Prop
structure Ends where
 nx:St->Hp->Prop
 rt:VK
 bk:St->Hp->Prop:=fun _ _=>False
 ct:St->Hp->Prop:=fun _ _=>False
abbrev TS:=Ends->St->Hp->Prop
def EP(X:Cx)(ρ:List (Addr × Obj))(σ:St)(Q:VK)(u:Value)(s':Shared):Prop:=∃v H',Inv X ρ σ H' s'/\RelV v u/\Q v H'
def TP(X:Cx)(ρ:List (Addr × Obj))(σ:St)(Q:Bool->Hp->Prop)(b:Bool)(s':Shared):Prop:=∃H',Inv X ρ σ H' s'/\Q b H'
def AP(X:Cx)(ρ:List (Addr × Obj))(σ:St)(Q:List V->Hp->Prop)(us:List Value)(s':Shared):Prop:=∃vs H',Inv X ρ σ H' s'/\Vals vs us/\Q vs H'
def SP(X:Cx)(ρ:List (Addr × Obj))(D:Ends)(f:Flow)(s':Shared):Prop:=
 match f with
 |.next=>∃σ' H',Inv X ρ σ' H' s'/\D.nx σ' H'|.brk=>∃σ' H',Inv X ρ σ' H' s'/\D.bk σ' H'|.cont=>∃σ' H',Inv X ρ σ' H' s'/\D.ct σ' H'|.ret u=>∃v σ' H',Inv X ρ σ' H' s'/\RelV v u/\D.rt v H'
def PE(X:Cx)(e:Expr)(t:TE):Prop:=
 ∀(ρ:List (Addr × Obj)) (s:Shared) (σ:St) (H:Hp) (Q:VK),Inv X ρ σ H s->t σ H Q->wpAny (model X.prog X.w) X.A (eval e X.env) (EP X ρ σ Q) X.xe s
def PT(X:Cx)(e:Expr)(t:TT):Prop:=
 ∀(ρ:List (Addr × Obj)) (s:Shared) (σ:St) (H:Hp) (Q:Bool->Hp->Prop),Inv X ρ σ H s->t σ H Q->wpAny (model X.prog X.w) X.A (isTrue e X.env (eval e X.env)) (TP X ρ σ Q) X.xe s
def PW(X:Cx)(e:Expr)(t:TT):Prop:=
 ∀(whole:Sem Value) (ρ:List (Addr × Obj)) (s:Shared) (σ:St) (H:Hp) (Q:Bool->Hp->Prop),Inv X ρ σ H s->t σ H Q->wpAny (model X.prog X.w) X.A (isTrue e X.env whole) (TP X ρ σ Q) X.xe s
variable {e:Expr}
def PW.pt{t:TT}(h:PW X e t):PT X e t:=h _
def PA(X:Cx)(es:List Expr)(t:TA):Prop:=
 ∀(pos:Pos) (ρ:List (Addr × Obj)) (s:Shared) (σ:St) (H:Hp) (Q:List V->Hp->Prop),Inv X ρ σ H s->t σ H Q->wpAny (model X.prog X.w) X.A (spliced (backTo pos (starEach es X.env))) (AP X ρ σ Q) X.xe s
def PS(X:Cx)(st:Stmt)(t:TS):Prop:=
 ∀(ρ:List (Addr × Obj)) (s:Shared) (σ:St) (H:Hp) (D:Ends),Inv X ρ σ H s->t D σ H->wpAny (model X.prog X.w) X.A (exec st X.env) (SP X ρ D) X.xe s
def PSs(X:Cx)(st:List Stmt)(t:TS):Prop:=
 ∀(ρ:List (Addr × Obj)) (s:Shared) (σ:St) (H:Hp) (D:Ends),Inv X ρ σ H s->t D σ H->wpAny (model X.prog X.w) X.A (execs st X.env) (SP X ρ D) X.xe s
def thn{α:Type}{t:Sem α}{Q Q':α->Shared->Prop}(h:wpAny M A t Q E s)(hQ:∀a s,Q a s->Q' a s):wpAny M A t Q' E s:=Qg h hQ fun _ _ x=>x
variable {op:CmpOp}{pos:Pos}{σ:St}{t ta tb:TE}{R:V->V->Hp->Prop}{Q:Value->Shared->Prop}
section
theorem bin{a b:Expr}(ha:PE X a ta)(hb:PE X b tb)(I:Inv X ρ σ H s)(h:ta σ H fun x H1=>tb σ H1 fun y H2=>R x y H2)
 {α:Type} {Q:α->Shared->Prop} {f:Value->Value->Sem α}
 (hf:∀v u s2 x y H2,Inv X ρ σ H2 s2->RelV x v->RelV y u->R x y H2->wpAny (model X.prog X.w) X.A (f v u) Q X.xe s2) :
  wpAny (model X.prog X.w) X.A (eval a X.env) (fun v s₁=>wpAny (model X.prog X.w) X.A (eval b X.env) (fun u s₂=>wpAny (model X.prog X.w) X.A (f v u) Q X.xe s₂) X.xe s₁) X.xe s:=by
 refine thn (ha ρ s σ H _ I h) fun v s1 ⟨x,H1,I1,r1,q1⟩=>?_;refine thn (hb ρ s1 σ H1 _ I1 q1) fun u s2 ⟨y,H2,I2,r2,q2⟩=>?_;exact hf v u s2 x y H2 I2 r1 r2 q2
noncomputable def zkU(i:Nat):TE:=fun σ H Q=>∃v,σ[i]? = some (some v)/\Q v H
noncomputable def tC(v:V):TE:=fun _ H Q=>Q v H
theorem zi3(hN:X.N[i]? = some x)(hv:Vis X.env.scope x)(hd:(x==("__debug__":Str))=false:=by decide)(hcd:(x==("__classdict__":Str))=false:=by decide):PE X (.Name x pos) (zkU i):=by
 apply?;obtain⟨v,e,h⟩:=h;obtain⟨m,hn,hl⟩:=I.loc;obtain⟨u,r,l⟩:=hl i x v hN e hv;have ξ:EP X ρ σ Q u s:=⟨v,H,I,r,h⟩;rcases l with⟨hk,hm⟩ | ⟨hk,c,hc,hcell⟩
 ·exact wpAny_Name (wpAny_loadName_local I.ok.kind hk hn hm ξ) hd
 ·rcases hk with hk | hk
  ·exact wpAny_Name (wpAny_loadName_cell I.ok.kind hk hc hcell ξ) hd
  ·exact wpAny_Name (wpAny_loadName_free I.ok.kind hk hc hcell ξ hcd) hd
def zlQ{i j pos}:PE X (.Constant (.int i) j pos) (tC (.int i)):=fun _ _ _ H _ I h=>wpAny_Constant_int ⟨.int i,H,I.tok _,⟨_,rfl⟩,h⟩
def zr6{b j pos}:PE X (.Constant (.bool b) j pos) (tC (.bl b)):=fun _ _ _ H _ I h=>Constant_bool ⟨.bl b,H,I,rfl,h⟩
def zqk{j pos}:PE X (.Constant .none j pos) (tC .non):=fun _ _ _ H _ I h=>Constant_none ⟨.non,H,I,rfl,h⟩
def zqh{x j pos}:PE X (.Constant (.str x) j pos) (tC (.str x)):=fun _ _ _ H _ I h=>Calls.Constant_str ⟨.str x,H,I.tok _,⟨_,rfl⟩,h⟩
def Gl(X:Cx)(x:Str):Prop:=X.env.kindOf x=some .globalImplicit
theorem zc4(I:Inv X ρ σ H s)(hg:Gl X x)(hm:X.mg x=some u)(h:Q u s)
 (hd:(x==("__debug__":Str))=false:=by decide):wpAny (model X.prog X.w) X.A (eval (.Name x pos) X.env) Q E s:=
 Calls.Name_function_global I.ok.kind hg (Calls.loadGlobal_global (by rw[I.ok.glob];exact I.mod.glob.keeps I.bk) hm h) hd
theorem zfa(I:Inv X ρ σ H s)(hg:Gl X x)(hm:X.mg x=none)(hv:bootBuiltins x=some u)(h:Q u s)
 (hn:x ≠ "__name__":=by decide) (hd:(x==("__debug__":Str))=false:=by decide):wpAny (model X.prog X.w) X.A (eval (.Name x pos) X.env) Q E s:=by
 obtain⟨mb,h1,h2⟩:=I.mod.blt;exact Calls.Name_function_global I.ok.kind hg (Calls.loadGlobal_builtin (by rw[I.ok.glob];exact I.mod.glob.keeps I.bk) hm (by rw[I.ok.blt];exact h1.keeps I.bk) ((h2 x hn).trans hv) h) hd
theorem zd7(hg:Gl X x)(hm:X.mg x=some u)(r:RelV v u)(hd:(x==("__debug__":Str))=false:=by decide):PE X (.Name x pos) (tC v):=
 fun _ _ _ H _ I h=>zc4 I hg hm ⟨v,H,I,r,h⟩ hd
theorem zkh(hg:Gl X x)(hm:X.mg x=none)(hv:bootBuiltins x=some u)(r:RelV v u)(hn:x ≠ "__name__":=by decide)(hd:(x==("__debug__":Str))=false:=by decide):PE X (.Name x pos) (tC v):=
 fun _ _ _ H _ I h=>zfa I hg hm hv ⟨v,H,I,r,h⟩ hn hd
variable {a b:Expr}
def PC(X:Cx)(op:CmpOp)(a b:Expr)(t:TE):Prop:=
 ∀(ρ:List (Addr × Obj)) (s:Shared) (σ:St) (H:Hp) (Q:VK),Inv X ρ σ H s->t σ H Q->
  wpAny (model X.prog X.w) X.A (eval a X.env) (fun v s₁=>wpAny (model X.prog X.w) X.A (eval b X.env) (fun u s₂=>wpAny (model X.prog X.w) X.A (compareOp op v u) (EP X ρ σ Q) X.xe s₂) X.xe s₁) X.xe s
theorem znc(b:Expr)(h:op ≠ .In)(h2:op ≠ .NotIn):behindInMarks op b=false:=by
 have e1:(op==CmpOp.In)=false:=by cases op<;>first | rfl | exact absurd rfl h
 have e2:(op==CmpOp.NotIn)=false:=by cases op<;>first | rfl | exact absurd rfl h2
 cases b<;>simp[behindInMarks,e1,e2]
noncomputable def tB(t:TE):TT:=fun σ H Q=>t σ H fun x H1=>∃c,x = .bl c/\Q c H1
theorem ztA(h:PC X op a b t)(h1:behindInMarks op b=false:=by first | exact znc _ ∅ ∅ | rfl):PT X (.Compare a [op] [b] pos) (tB t):=by intro ρ s σ H Q I hw;refine wpAny_isTrue_Compare1 (thn (h ρ s σ H _ I hw) fun v s1 h1=>thn h1 fun u s2 h2=>thn h2 fun c s3 ⟨x,H1,I1,r1,q1⟩=>?_) h1;obtain⟨d,rfl,q⟩:=q1;cases r1;exact wpAny_truthy_bool ⟨H1,I1,q⟩
theorem zp5(h:PE X e t)(he:∀whole,isTrue e X.env whole=(do let v ←whole;standAt e.pos;holding [v] (truthy v)):=by intro _;rfl):PT X e (tB t):=by intro ρ s σ H Q I hw;refine isTrue_plain (thn (h ρ s σ H _ I hw) fun v s1 ⟨x,H1,I1,r1,q1⟩=>?_) (he _);obtain⟨d,rfl,q⟩:=q1;cases r1;exact wpAny_truthy_bool ⟨H1,I1,q⟩
variable {tA tB':TT}{rest:List Expr}
noncomputable def zsS(t u:TT):TT:=fun σ H Q=>t σ H fun c H1=>if c=true then u σ H1 Q else Q false H1
noncomputable def tOr(t u:TT):TT:=fun σ H Q=>t σ H fun c H1=>if c=true then Q true H1 else u σ H1 Q
noncomputable def zsM(t:TT):TT:=fun σ H Q=>t σ H fun c H1=>Q (!c) H1
theorem zon(ha:PT X a tA):PW X (.BoolOp .And [a] pos) tA:=by intro wh ρ s σ H Q I h;refine isTrue_and (thn (ha ρ s σ H Q I h) fun c s1 e=>?_);cases c with|true=>exact isTrue_and_nil e|false=>exact e
theorem zp3(ha:PT X a tA):PW X (.BoolOp .Or [a] pos) tA:=by intro wh ρ s σ H Q I h;refine isTrue_or (thn (ha ρ s σ H Q I h) fun c s1 e=>?_);cases c with|false=>exact isTrue_or_nil e|true=>exact e
theorem zp4(ha:PT X a tA)(hb:PW X (.BoolOp .And (b::rest) pos) tB'):PW X (.BoolOp .And (a::b::rest) pos) (zsS tA tB'):=by intro wh ρ s σ H Q I h;refine isTrue_and (thn (ha ρ s σ H _ I h) fun c s1 ⟨H1,I1,q1⟩=>?_);cases c with|true=>exact hb wh ρ s1 σ H1 Q I1 q1|false=>exact⟨H1,I1,q1⟩
theorem zr1(ha:PT X a tA)(hb:PW X (.BoolOp .Or (b::rest) pos) tB'):PW X (.BoolOp .Or (a::b::rest) pos) (tOr tA tB'):=by intro wh ρ s σ H Q I h;refine isTrue_or (thn (ha ρ s σ H _ I h) fun c s1 ⟨H1,I1,q1⟩=>?_);cases c with|true=>exact⟨H1,I1,q1⟩|false=>exact hb wh ρ s1 σ H1 Q I1 q1
theorem zp6(ha:PT X a tA):PT X (.UnaryOp .Not a pos) (zsM tA):=by apply?;exact isTrue_not (ha ρ s σ H (fun c H1=>Q (!c) H1) I h)
noncomputable def zrR(ta tb:TE):TE:=fun σ H Q=>ta σ H fun x H1=>∃c,x = .bl c/\if c=true then tb σ H1 Q else Q (.bl false) H1
noncomputable def zsL(ta tb:TE):TE:=fun σ H Q=>ta σ H fun x H1=>∃c,x = .bl c/\if c=true then Q (.bl true) H1 else tb σ H1 Q
noncomputable def zrL(ta:TE):TE:=fun σ H Q=>ta σ H fun x H1=>∃c,x = .bl c/\Q (.bl (!c)) H1
def zqi{op}(h:PE X a t):PE X (.BoolOp op [a] pos) t:=fun ρ s σ H Q I hw=>BoolOp_one (h ρ s σ H Q I hw)
theorem zqo(ha:PE X a ta)(hb:PE X (.BoolOp .And (b::rest) pos) tb):PE X (.BoolOp .And (a::b::rest) pos) (zrR ta tb):=by apply?;refine BoolOp_and (thn (ha ρ s σ H _ I h) fun v s1 ⟨x,H1,I1,r1,q1⟩=>?_);obtain⟨c,rfl,q1⟩:=q1;cases r1;refine wpAny_truthy_bool ?_;cases c with|true=>exact hb ρ s1 σ H1 Q I1 q1|false=>exact⟨.bl false,H1,I1,rfl,q1⟩
theorem zr4(ha:PE X a ta)(hb:PE X (.BoolOp .Or (b::rest) pos) tb):PE X (.BoolOp .Or (a::b::rest) pos) (zsL ta tb):=by apply?;refine BoolOp_or (thn (ha ρ s σ H _ I h) fun v s1 ⟨x,H1,I1,r1,q1⟩=>?_);obtain⟨c,rfl,q1⟩:=q1;cases r1;refine wpAny_truthy_bool ?_;cases c with|false=>exact hb ρ s1 σ H1 Q I1 q1|true=>exact⟨.bl true,H1,I1,rfl,q1⟩
theorem zqj(ha:PE X a ta):PE X (.UnaryOp .Not a pos) (zrL ta):=by apply?;refine UnaryOp_ (thn (ha ρ s σ H _ I h) fun v s1 ⟨x,H1,I1,r1,q1⟩=>?_);obtain⟨c,rfl,q1⟩:=q1;cases r1;exact not_of (wpAny_truthy_bool ⟨.bl (!c),H1,I1,rfl,q1⟩)
noncomputable def tIf(t:TT)(ta tb:TE):TE:=fun σ H Q=>t σ H fun c H1=>if c=true then ta σ H1 Q else tb σ H1 Q
theorem zm6{c:Expr}(hc:PT X c tA)(ha:PE X a ta)(hb:PE X b tb):PE X (.IfExp c a b pos) (tIf tA ta tb):=by apply?;refine wpAny_IfExp (thn (hc ρ s σ H _ I h) fun d s1 ⟨H1,I1,q1⟩=>?_);cases d with|true=>exact ha ρ s1 σ H1 Q I1 q1|false=>exact hb ρ s1 σ H1 Q I1 q1
end
def SqL(K:Frag)(H:Hp)(a:Addr)(xs:List V):Prop:=
 Rd H a (.lst xs) \/
  ∃(o:Obj) (its:Array Value) (n:Nat),K.lookup a=some o/\o.cls = .type "list"/\o.dict=none/\o.data = .seq its n/\its.size<=sizeLine/\Vals xs its.toList
def SqT(K:Frag)(H:Hp)(a:Addr)(xs:List V):Prop:=
 Rd H a (.tup xs) \/
  ∃(o:Obj) (its:Array Value) (n:Nat),K.lookup a=some o/\o.cls = .type "tuple"/\o.dict=none/\o.data = .seq its n/\its.size<=sizeLine/\Vals xs its.toList
noncomputable def ztm:Value->Option V
 |.none=>some .non|.bool b=>some (.bl b)|.int i _=>some (.int i)|.str x _=>some (.str x)|.bytes b _=>some (.byt b)|.float b _=>some (.flt b)|.ref a=>some (.ref a)|.type n=>some (.ty n)|_=>none
theorem RelV.abs{x:V}(r:RelV x u):ztm u=some x:=by cases x with|non=>cases r;rfl|bl _=>cases r;rfl|int _=>obtain⟨t,rfl⟩:=r;rfl|str _=>obtain⟨t,rfl⟩:=r;rfl|byt _=>obtain⟨t,rfl⟩:=r;rfl|flt _=>obtain⟨t,rfl⟩:=r;rfl|ref _=>cases r;rfl|ty _=>cases r;rfl
variable {y:V}
def RelV.inj{x:V}(r:RelV x u)(q:RelV y u):x=y:=Qd (r.abs.symm.trans q.abs)
theorem Vals.inj:∀{xs ys:List V} {us:List Value},Vals xs us->Vals ys us->xs=ys
 |_,_,_,.nil,.nil=>rfl|_,_,_,.cons r t,.cons r' t'=>by rw[r.inj r',Vals.inj t t']
section
variable {a:Addr}{ys:List V}
theorem Inv.list(I:Inv X ρ σ H s)(h:SqL X.K H a xs):∃its:List Value,Vals xs its/\PlainL s.heap a its.toArray/\xs.length<=sizeLine:=by
 rcases h with h | ⟨o,its,n,hk,hc,hd,hs,hz,r⟩
 ·obtain⟨z,its,n,r,e⟩:=h.ok I.hok;exact⟨its,r,⟨_,n,e,rfl,rfl,rfl⟩,z⟩
 ·refine⟨its.toList,r,⟨o,n,I.kIn a o hk,hc,hd,by simpa using hs⟩,?_⟩;have e:=r.length;simp only[Array.length_toList]at e;omega
theorem Inv.tuple(I:Inv X ρ σ H s)(h:SqT X.K H a xs):∃its:List Value,Vals xs its/\IsTup s.heap a its.toArray/\xs.length<=sizeLine:=by
 rcases h with h | ⟨o,its,n,hk,hc,_,hs,hz,r⟩
 ·obtain⟨z,its,r,p,_⟩:=h.ok I.hok;exact⟨its,r,p,z⟩
 ·refine⟨its.toList,r,⟨o,I.kIn a o hk,hc,n,by simpa using hs⟩,?_⟩;have e:=r.length;simp only[Array.length_toList]at e;omega
theorem Inv.list_inj(I:Inv X ρ σ H s)(h:SqL X.K H a xs)(h':SqL X.K H a ys):xs=ys:=by
 obtain⟨its,r,⟨o,n,e,_,_,d⟩,_⟩:=I.list h;obtain⟨its',r',⟨o',n',e',_,_,d'⟩,_⟩:=I.list h';rw[e]at e';cases e'
 rw[d]at d';injection d' with d1 _;have:its=its':=by simpa using congrArg Array.toList d1
 subst this;exact r.inj r'
theorem Inv.tuple_inj(I:Inv X ρ σ H s)(h:SqT X.K H a xs)(h':SqT X.K H a ys):xs=ys:=by
 obtain⟨its,r,⟨o,e,_,n,d⟩,_⟩:=I.tuple h;obtain⟨its',r',⟨o',e',_,n',d'⟩,_⟩:=I.tuple h';rw[e]at e';cases e'
 rw[d]at d';injection d' with d1 _;have:its=its':=by simpa using congrArg Array.toList d1
 subst this;exact r.inj r'
end
noncomputable abbrev Cx.wish(X:Cx)(E:Value->Shared->Prop):Cx:={ X with xe:=E }
noncomputable abbrev Cx.nox(X:Cx):Cx:=X.wish fun _ _=>False
theorem Cx.Ok.wish(ok:X.Ok)(E:Value->Shared->Prop):(X.wish E).Ok:=
 ⟨ok.mod,ok.kind,ok.glob,ok.blt,ok.above,ok.inj,ok.has,ok.cab,ok.hd,ok.frames,ok.stk,ok.exf,ok.bs,ok.bsz,ok.noex,ok.exfs,ok.funs,ok.frf⟩
theorem Cx.Ok.unwish(ok:(X.wish E).Ok):X.Ok:=
 ⟨ok.mod,ok.kind,ok.glob,ok.blt,ok.above,ok.inj,ok.has,ok.cab,ok.hd,ok.frames,ok.stk,ok.exf,ok.bs,ok.bsz,ok.noex,ok.exfs,ok.funs,ok.frf⟩
section
def Inv.wish(I:Inv X ρ σ H s)(E:Value->Shared->Prop):Inv (X.wish E) ρ σ H s:=⟨I.ok.wish E,I.os,I.bare,I.base,I.loc,I.cell,I.free,I.freeC,I.pin,I.hok,I.len⟩
def Inv.unwish(I:Inv (X.wish E) ρ σ H s):Inv X ρ σ H s:=⟨I.ok.unwish,I.os,I.bare,I.base,I.loc,I.cell,I.free,I.freeC,I.pin,I.hok,I.len⟩
theorem SP.unwish{D:Ends}{f:Flow}(h:SP (X.wish E) ρ D f s'):SP X ρ D f s':=by cases f with|next=>obtain⟨σ',H',I,q⟩:=h;exact⟨σ',H',I.unwish,q⟩|brk=>obtain⟨σ',H',I,q⟩:=h;exact⟨σ',H',I.unwish,q⟩|cont=>obtain⟨σ',H',I,q⟩:=h;exact⟨σ',H',I.unwish,q⟩|ret u=>obtain⟨v,σ',H',I,r,q⟩:=h;exact⟨v,σ',H',I.unwish,r,q⟩
theorem PE.nox(h:PE X.nox e t):PE X e t:=fun ρ s σ H Q I hw=>Qg (h ρ s σ H Q (I.wish _) hw) (fun _ _ ⟨v,H',I',r,q⟩=>⟨v,H',I'.unwish,r,q⟩) fun _ _ z=>False.elim z
theorem PT.nox{t:TT}(h:PT X.nox e t):PT X e t:=fun ρ s σ H Q I hw=>Qg (h ρ s σ H Q (I.wish _) hw) (fun _ _ ⟨H',I',q⟩=>⟨H',I'.unwish,q⟩) fun _ _ z=>False.elim z
theorem PSs.nox{st:List Stmt}{t:TS}(h:PSs X.nox st t):PSs X st t:=fun ρ s σ H D I hw=>Qg (h ρ s σ H D (I.wish _) hw) (fun _ _ q=>q.unwish) fun _ _ z=>False.elim z
end
variable {te:TE}
section
variable {st:Stmt}{rest:List Stmt}{t u:TS}
noncomputable def zrM:TS:=fun D σ H=>D.nx σ H
noncomputable def zsJ(t u:TS):TS:=fun D σ H=>t { D with nx:=u D } σ H
def zot:PSs X [] zrM:=fun _ _ σ H _ I h=>wpAny_execs_nil ⟨σ,H,I,h⟩
theorem zm2(h1:PS X st t)(h2:PSs X rest u):PSs X (st::rest) (zsJ t u):=by
 intro ρ s σ H D I h;refine wpAny_execs_cons (thn (h1 ρ s σ H { D with nx:=u D } I h) fun f s1 q=>?_);cases f with
 |next=>obtain⟨σ',H',I',q⟩:=q;exact h2 ρ s1 σ' H' D I' q
 |ret v=>exact q|brk=>exact q|cont=>exact q
theorem zkd(h1:PS X st t):PSs X [st] t:=by intro ρ s σ H D I h;refine wpAny_execs_cons (thn (h1 ρ s σ H D I h) fun f s1 q=>?_);cases f with|next=>exact wpAny_execs_nil q|ret v=>exact q|brk=>exact q|cont=>exact q
theorem Inv.quiet(I:Inv X ρ σ H s):interactive X.env=false:=by simp[interactive,I.ok.kind]
noncomputable def zrO(te:TE):TS:=fun D σ H=>te σ H fun _ H1=>D.nx σ H1
theorem zov(he:PE X e te)(hs:swapsWith e none pos.line X.env=pure false:=by rfl):PS X (.Expr e pos) (zrO te):=by intro ρ s σ H D I h;exact wpAny_Expr_any (thn (he ρ s σ H _ I h) fun v s1 ⟨x,H1,I1,r1,q1⟩=>⟨σ,H1,I1,q1⟩) I.quiet hs
noncomputable def zsK(te:TE):TS:=fun D σ H=>te σ H D.rt
theorem zp9(he:PE X e te):PS X (.Return (some e) pos) (zsK te):=by intro ρ s σ H D I h;exact wpAny_Return_some (thn (he ρ s σ H _ I h) fun v s1 ⟨x,H1,I1,r1,q1⟩=>⟨x,σ,H1,I1,r1,q1⟩)
noncomputable def zpO(c:TT)(t u:TS):TS:=fun D σ H=>c σ H fun b H1=>if b=true then t D σ H1 else u D σ H1
theorem zr2{c:Expr}{a b:List Stmt}{tc:TT}(hc:PT X c tc)(ha:PSs X a t)(hb:PSs X b u):PS X (.If c a b pos) (zpO tc t u):=by intro ρ s σ H D I h;refine wpAny_If (thn (hc ρ s σ H _ I h) fun d s1 ⟨H1,I1,q1⟩=>?_);cases d with|true=>exact ha ρ s1 σ H1 D I1 q1|false=>exact hb ρ s1 σ H1 D I1 q1
end
abbrev TG:=V->St->Hp->(St->Hp->Prop)->Prop
abbrev TGs:=List V->St->Hp->(St->Hp->Prop)->Prop
def PG(X:Cx)(target:Expr)(t:TG):Prop:=
 ∀(ρ:List (Addr × Obj)) (s:Shared) (σ:St) (H:Hp) (v:V) (u:Value) (Q:St->Hp->Prop),Inv X ρ σ H s->RelV v u->t v σ H Q->
  wpAny (model X.prog X.w) X.A (assign target X.env u) (fun _ s'=>∃σ' H',Inv X ρ σ' H' s'/\Q σ' H') X.xe s
def PGs(X:Cx)(ts:List Expr)(t:TGs):Prop:=
 ∀(ρ:List (Addr × Obj)) (s:Shared) (σ:St) (H:Hp) (vs:List V) (us:List Value) (Q:St->Hp->Prop),Inv X ρ σ H s->Vals vs us->t vs σ H Q->
  wpAny (model X.prog X.w) X.A (assignInOrder ((assignEach ts X.env).map (·.2)) us) (fun _ s'=>∃σ' H',Inv X ρ σ' H' s'/\Q σ' H') X.xe s
abbrev zhP:=V->V->V->Hp->(Hp->Prop)->Prop
def zeP(X:Cx)(t:zhP):Prop:=
 ∀(ρ:List (Addr × Obj)) (s:Shared) (σ:St) (H:Hp) (o i v:V) (ov iv u:Value) (Q:Hp->Prop),Inv X ρ σ H s->RelV o ov->RelV i iv->RelV v u->t o i v H Q->
  wpAny (model X.prog X.w) X.A (setItem ov iv u) (fun _ s'=>∃H',Inv X ρ σ H' s'/\Q H') X.xe s
abbrev TIp:=V->V->Hp->VK->Prop
def PIp(X:Cx)(op:Operator)(t:TIp):Prop:=
 ∀(ρ:List (Addr × Obj)) (s:Shared) (σ:St) (H:Hp) (x y:V) (v u:Value) (Q:VK),Inv X ρ σ H s->RelV x v->RelV y u->t x y H Q->
  wpAny (model X.prog X.w) X.A (inplaceOp op v u) (EP X ρ σ Q) X.xe s
variable {tg:Expr}{es:List Expr}{pos' tpos:Pos}{ti to:TE}{g:TG}
section
noncomputable def ziC(i:Nat):TG:=fun v σ H Q=>Q (σ.set i (some v)) H
theorem zo(hN:X.N.Nodup)(hi:X.N[i]? = some x)(hx:Loc X.env.scope x)(hf:X.fn x=true\/X.env.scope.names.lookup x=some .local:=by first | exact .inl rfl | exact .inr rfl | assumption):PG X (.Name x pos) (ziC i):=by intro ρ s σ H v u Q I r h;exact wpAny_assign_Name (zda I hN hi hx r (fun s' I'=>⟨_,H,I',h⟩) hf)
noncomputable def ztf:TGs:=fun vs σ H Q=>vs=[]/\Q σ H
noncomputable def zlh(t:TG)(u:TGs):TGs:=fun vs σ H Q=>∃v r,vs=v::r/\t v σ H fun σ' H'=>u r σ' H' Q
theorem zoA:PGs X [] ztf:=by intro ρ s σ H vs us Q I r h;obtain⟨e,h⟩:=h;subst e;cases r;exact assignInOrder_nil ⟨σ,H,I,h⟩
theorem qD{t:TG}{u:TGs}(h1:PG X e t)(h2:PGs X es u)
 (hs:(assignEach (e::es) X.env).map (·.2)=assign e X.env::(assignEach es X.env).map (·.2):=by rfl):PGs X (e::es) (zlh t u):=by
 intro ρ s σ H vs us Q I r h;obtain⟨v,vr,e1,h⟩:=h;subst e1;cases r with
 |cons r rr=>rw[hs];refine assignInOrder_cons (thn (h1 ρ s σ H _ _ _ I r h) fun _ s1 ⟨σ1,H1,I1,q1⟩=>?_);exact h2 ρ s1 σ1 H1 _ _ Q I1 rr q1
noncomputable def znA(K:Frag)(n:Nat)(t:TGs):TG:=fun v σ H Q=>∃a xs,v = .ref a/\SqT K H a xs/\xs.length=n/\t xs σ H Q
theorem zbx{k:Nat}{t:TGs}(hc:X.calm=true)(h:PGs X es t)
 (hn:(assignEach es X.env).length=n:=by rfl) (hst:(assignEach es X.env).findIdx? (·.1)=none:=by rfl):PG X (.Tuple es k pos) (znA X.K n t):=by
 intro ρ s σ H v u Q I r hw;obtain⟨a,xs,e1,hq,hl,hw⟩:=hw;subst e1;cases r;obtain⟨its,rv,ht,hz⟩:=I.tuple hq;refine assign_Tuple_tuple (I.ok.hd hc) ht (by simp[hn,←hl,rv.length]) hst fun h' hx=>?_;have I1:Inv X ρ σ H { s with heap:=h' }:=I.kept (t':=s.toks) fun b o e=>hx b o (Qk (Qe e)) e;exact h ρ _ σ H xs _ Q I1 (by simpa using rv) hw
noncomputable def zte(to ti:TE)(t:zhP):TG:=fun v σ H Q=>to σ H fun o H1=>ti σ H1 fun i H2=>t o i v H2 fun H3=>Q σ H3
theorem zqf{o i:Expr}{t:zhP}(ho:PE X o to)(hi:PE X i ti)(hs:zeP X t)
 (ha:∀v,assign (.Subscript o i pos) X.env v=(do
 let ov ←holding [v] (eval o X.env)
 let iv ←holding [v,ov] (eval i X.env)
 standAt pos
 holding [v,ov,iv] (setItem ov iv v)
 release [v,ov,iv] []):=by intro _;rfl):PG X (.Subscript o i pos) (zte to ti t):=by
 intro ρ s σ H v u Q I r h;rw[ha];refine Q1 (wpAny_holding (thn (ho ρ s σ H _ I h) fun ov s1 ⟨x,H1,I1,r1,q1⟩=>?_));refine Q1 (wpAny_holding (thn (hi ρ s1 σ H1 _ I1 q1) fun iv s2 ⟨y,H2,I2,r2,q2⟩=>?_));refine Q1 (wpAny_standAt (Q1 (wpAny_holding (thn (hs ρ s2 σ H2 x y v ov iv u _ I2 r1 r2 r q2) fun _ s3 ⟨H3,I3,q3⟩=>?_))));exact wpAny_release ⟨σ,H3,I3,q3⟩
noncomputable def zpQ(te:TE)(g:TG):TS:=fun D σ H=>te σ H fun x H1=>g x σ H1 D.nx
theorem zqd(he:PE X e te)(hg:PG X tg g)(hs:swapsWithSole [tg] e pos.line X.env=pure false:=by rfl)(hw:swappedStores [tg] e X.env=pure none:=by rfl)
 (h1:(assignEach [tg] X.env).map (·.2)=[assign tg X.env]:=by rfl):PS X (.Assign [tg] e pos) (zpQ te g):=by
 intro ρ s σ H D I h;refine wpAny_Assign_stores (thn (he ρ s σ H _ I h) fun v s1 ⟨x,H1,I1,r1,q1⟩=>?_) hs hw;rw[h1];exact thn (hg ρ s1 σ H1 x v _ I1 r1 q1) fun _ s2 q=>q
theorem zp8(hN:X.N.Nodup)(hi:X.N[i]? = some x)(hx:Loc X.env.scope x)(he:PE X e te)(hs:swapsWith e (some (.Name x pos')) pos.line X.env=pure false:=by rfl)(hf:X.fn x=true\/X.env.scope.names.lookup x=some .local:=by first | exact .inl rfl | exact .inr rfl | assumption) :
  PS X (.Assign [.Name x pos'] e pos) (zpQ te (ziC i)):=by
 intro ρ s σ H D I h;refine wpAny_Assign_Name (thn (he ρ s σ H _ I h) fun v s1 ⟨y,H1,I1,r1,q1⟩=>?_) hs;exact zda I1 hN hi hx r1 (fun s2 I2=>⟨_,H1,I2,q1⟩) hf
noncomputable def zsR(i:Nat)(te:TE)(ti:TIp):TS:=fun D σ H=>∃x,σ[i]? = some (some x)/\te σ H fun y H1=>ti x y H1 fun z H2=>D.nx (σ.set i (some z)) H2
theorem zqc{op:Operator}{ti:TIp}(hN:X.N.Nodup)(hi:X.N[i]? = some x)(hx:Loc X.env.scope x)(he:PE X e te)(ho:PIp X op ti)(hf:X.fn x=true\/X.env.scope.names.lookup x=some .local:=by first | exact .inl rfl | exact .inr rfl | assumption) :
  PS X (.AugAssign (.Name x pos') op e pos) (zsR i te ti):=by
 intro ρ s σ H D I h;obtain⟨v,e1,h⟩:=h;obtain⟨m,hn,hl⟩:=I.loc;have vis:Vis X.env.scope x:=by rcases hx with k | k;exact .inl k;exact .inr (.inl k)
 obtain⟨u,r,l⟩:=hl i x v hi e1 vis;refine wpAny_AugAssign_Name ?_;have go:wpAny (model X.prog X.w) X.A (eval e X.env) (fun w s₂=>wpAny (model X.prog X.w) X.A (inplaceOp op u w) (fun r s₃=>wpAny (model X.prog X.w) X.A (storeName X.env x r) (fun _=>SP X ρ D .next) X.xe s₃) X.xe s₂) X.xe s:=by refine thn (he ρ s σ H _ I h) fun w s1 ⟨y,H1,I1,r1,q1⟩=>?_;refine thn (ho ρ s1 σ H1 v y u w _ I1 r r1 q1) fun z s2 ⟨zv,H2,I2,r2,q2⟩=>?_;exact zda I2 hN hi hx r2 (fun s3 I3=>⟨_,H2,I3,q2⟩) hf
 rcases l with⟨hk,hm⟩ | ⟨hk,c,hc,hcell⟩
 ·exact wpAny_loadName_local I.ok.kind hk hn hm go
 ·rcases hk with hk | hk
  ·exact wpAny_loadName_cell I.ok.kind hk hc hcell go
  ·rcases hx with k | k
   ·have:X.env.scope.names.lookup x=some .free:=hk;rw[k]at this;cases this
   ·have:X.env.scope.names.lookup x=some .free:=hk;rw[k]at this;cases this
noncomputable def zrQ(to ti te:TE)(tget:V->V->Hp->VK->Prop)(tip:TIp)(tset:zhP):TS:=fun D σ H=>to σ H fun o H1=>ti σ H1 fun i H2=>tget o i H2 fun x H3=>te σ H3 fun y H4=>tip x y H4 fun z H5=>tset o i z H5 fun H6=>D.nx σ H6
def zjE(X:Cx)(t:V->V->Hp->VK->Prop):Prop:=
 ∀(ρ:List (Addr × Obj)) (s:Shared) (σ:St) (H:Hp) (o i:V) (ov iv:Value) (Q:VK),Inv X ρ σ H s->RelV o ov->RelV i iv->t o i H Q->
  wpAny (model X.prog X.w) X.A (getItem ov iv) (EP X ρ σ Q) X.xe s
theorem zow{o i:Expr}{tget:V->V->Hp->VK->Prop}{tip:TIp}{tset:zhP}{op:Operator}(ho:PE X o to)(hi:PE X i ti)(hg:zjE X tget)(he:PE X e te)(hp:PIp X op tip)(hs:zeP X tset)
 (ha:∀ov iv new,augStore i ov iv new=(do holding [new,ov,iv] (setItem ov iv new);release [new,ov,iv] [];pure .next):=by intros;rfl):PS X (.AugAssign (.Subscript o i tpos) op e pos) (zrQ to ti te tget tip tset):=by
 intro ρ s σ H D I h;refine wpAny_AugAssign_SubscriptAny (thn (ho ρ s σ H _ I h) fun ov s1 ⟨x1,H1,I1,r1,q1⟩=>?_) ha;refine thn (hi ρ s1 σ H1 _ I1 q1) fun iv s2 ⟨x2,H2,I2,r2,q2⟩=>?_;refine thn (hg ρ s2 σ H2 x1 x2 ov iv _ I2 r1 r2 q2) fun old s3 ⟨x3,H3,I3,r3,q3⟩=>?_;refine thn (he ρ s3 σ H3 _ I3 q3) fun v s4 ⟨x4,H4,I4,r4,q4⟩=>?_;refine thn (hp ρ s4 σ H4 x3 x4 old v _ I4 r3 r4 q4) fun new s5 ⟨x5,H5,I5,r5,q5⟩=>?_;exact thn (hs ρ s5 σ H5 x1 x2 x5 ov iv new _ I5 r1 r2 r5 q5) fun _ s6 ⟨H6,I6,q6⟩=>⟨σ,H6,I6,q6⟩
noncomputable def ipI(f:Int->Int->Int):TIp:=fun x y H Q=>∃i j,x = .int i/\y = .int j/\Q (.int (f i j)) H
theorem zqV:PIp X .Add (ipI fun i j=>i+j):=by
 intro ρ s σ H x y v u Q I r1 r2 h;obtain⟨i,j,e1,e2,q⟩:=h;subst e1;subst e2
 obtain⟨t,rfl⟩:=r1;obtain⟨t',rfl⟩:=r2;exact iadd_int ⟨.int _,H,I.tok _,⟨_,rfl⟩,q⟩
end
structure It where
 go:Nat->Hp->Prop
 yld:Nat->Hp->V->Hp->Prop
 stop:Nat->Hp->Prop
def zdZ(X:Cx)(ρ:List (Addr × Obj))(H:Hp)(b:Addr):Prop:=
 H b=none/\b ≠ X.env.locals/\b ∉ X.fs/\(b ∈ X.ex\/X.s₀.heap.objs.size<=b)/\(∀x c,X.env.cells.lookup x=some c->c ≠ b)/\∀p ∈ X.pn++ρ,p.1 ≠ b
theorem Inv.fpOk{b:Addr}(I:Inv X ρ σ H s)(hb:s.heap.objs.size<=b)(hn:H' b=none):zdZ X ρ H' b:=by
 refine⟨hn,Nat.ne_of_gt (Q5 I.lt hb),I.nofs hb,.inr (Qj I.sz hb),fun x c e z=>?_,fun p hp z=>?_⟩
 ·obtain⟨v,q⟩:=I.cell x c e;exact absurd (Q5 q.lt (by rw[z];exact hb)) (Qo _)
 ·exact absurd (Q5 (Qe (I.pin p hp).1) (by rw[z];exact hb)) (Qo _)
structure Turn (P:Program) (w:World) (K:Frag) (tg:Expr) (J:It) (fp:List Addr) (it:Addr) (tn:Nat->Heap->Prop):Prop where
 mem:it ∈ fp
 obj:∀i h,tn i h->∀b ∈ fp,∃o,h.get? b=some o/\∀v,o.data ≠ .cell v
 keep:∀i h h',tn i h->(∀b ∈ fp,∀o,h.get? b=some o->h'.get? b=some o)->tn i h'
 item:∀(X:Cx),X.prog=P->X.w=w->X.K=K->X.calm=true->∀(i:Nat) (ρ:List (Addr × Obj)) (s:Shared) (σ:St) (H:Hp) (E:Value->Shared->Prop),Inv X ρ σ H s->(∀b ∈ fp,zdZ X ρ H b)->tn i s.heap->J.go i H->
  wpAny (model P w) X.A (pyNext (.ref it)) (fun r s1=>∃u,r=some u /\
   wpAny (model P w) X.A (letOwnedTupleGo tg (.ref it) u) (fun _ s2=>∃x H',Inv X ρ σ H' s2/\RelV x u/\J.yld i H x H'/\tn (i+1) s2.heap/\∀b ∈ fp,H' b=none) E s1) E s
 done:∀(X:Cx),X.prog=P->X.w=w->X.K=K->X.calm=true->∀(i:Nat) (ρ:List (Addr × Obj)) (s:Shared) (σ:St) (H:Hp) (E:Value->Shared->Prop),Inv X ρ σ H s->(∀b ∈ fp,zdZ X ρ H b)->tn i s.heap->J.stop i H->
  wpAny (model P w) X.A (pyNext (.ref it)) (fun r s1=>r=none/\Inv X ρ σ H s1) E s
 self:∀(A:Around) (i:Nat) (s:Shared) (Q:Value->Shared->Prop) (E:Value->Shared->Prop),tn i s.heap->Q (.ref it) s->wpAny (model P w) A (pyIter (.ref it)) Q E s
abbrev TI:=St->Hp->(It->Hp->Prop)->Prop
def PIE(X:Cx)(ρ:List (Addr × Obj))(σ:St)(tg:Expr)(R:It->Hp->Prop)(itv:Value)(s2:Shared):Prop:=
 ∃(it:Addr) (fp:List Addr) (tn:Nat->Heap->Prop) (J:It) (H':Hp),itv = .ref it/\Inv X ρ σ H' s2/\Turn X.prog X.w X.K tg J fp it tn/\tn 0 s2.heap/\(∀b ∈ fp,zdZ X ρ H' b)/\R J H'
def PI(X:Cx)(tg iter:Expr)(wi:TI):Prop:=
 ∀(ρ:List (Addr × Obj)) (s:Shared) (σ:St) (H:Hp) (R:It->Hp->Prop),Inv X ρ σ H s->wi σ H R->
  wpAny (model X.prog X.w) X.A (eval iter X.env) (fun v s1=>wpAny (model X.prog X.w) X.A (pyIter v) (PIE X ρ σ tg R) X.xe s1) X.xe s
theorem zlf{o:Obj}{n:String}{vs:Array Value}{Q:Unit->Shared->Prop}(ho:s.heap.get? it=some o)(hc:o.cls = .type n)(hd:o.data = .fields vs)
 (hn:["enumerate","zip","dict_itemiterator","dict_reverseitemiterator","odict_iterator","itertools.zip_longest","itertools.pairwise"].contains n=false) (hQ:Q () s):wpAny M A (letOwnedTupleGo tg (.ref it) u) Q E s:=by
 unfold letOwnedTupleGo;cases tg<;>first
  |exact Qf hQ
  | (cases u<;>first
    |exact Qf hQ
    | (refine Q1 (wpAny_load ho ?_)
       rw[hc,hd];show wpAny M A (if(["enumerate","zip","dict_itemiterator","dict_reverseitemiterator","odict_iterator","itertools.zip_longest","itertools.pairwise"].contains n && vs[0]? == some (rawInt _))=true then _ else _) Q E s;rw[QA (by intro h;rw[hn,Bool.false_and]at h;cases h)];exact Qf hQ))
noncomputable def Itl(K:Frag)(a:Addr):It:=
 ⟨fun i H=>∃xs x,SqL K H a xs/\xs[i]? = some x,fun i H x H'=>H'=H/\∀xs,SqL K H a xs->xs[i]? = some x,fun i H=>∃xs,SqL K H a xs/\xs.length<=i⟩
noncomputable def Itt(K:Frag)(a:Addr):It:=
 ⟨fun i H=>∃xs x,SqT K H a xs/\xs[i]? = some x,fun i H x H'=>H'=H/\∀xs,SqT K H a xs->xs[i]? = some x,fun i H=>∃xs,SqT K H a xs/\xs.length<=i⟩
noncomputable def Itr(lo:Int)(n:Nat):It:=⟨fun i _=>i<n,fun i H x H'=>H'=H/\x = .int (lo+i),fun i _=>n<=i⟩
variable {K:Frag}
theorem zly(a it:Addr):Turn P w K tg (Itl K a) [it] it (fun i h=>h.IsListIter it a i) where
 mem:=by simp
 obj:=fun i h st b hb=>by
  have e:b=it:=by simpa using hb
  subst e;obtain⟨o,e,c,d⟩:=st;exact⟨o,e,fun v z=>by rw[d]at z;cases z⟩
 keep:=fun i h h' st k=>st.at fun o e=>k it (by simp) o e
 item:=by intro X hP hw hK hc i ρ s σ H E I hf st hg;subst hP hw hK;obtain⟨xs,x,hq,hx⟩:=hg;obtain⟨its,rv,p,hz⟩:=I.list hq;obtain⟨u,hu,ru⟩:=rv.get hx;obtain⟨f0,f1,f2,f3,f4,f5⟩:=hf it (by simp);refine wpAny_pyNext_list_item st p.isList (x:=u) (by simpa using hu) fun h' st' sb=>?_;have I1:Inv X ρ σ H { s with heap:=h' }:=I.turned (t':=s.toks) (fun b o hb e=>(sb.2 b hb).trans e) f0 f1 f3 f4 f5;obtain⟨o,e,c,d⟩:=id st';exact⟨u,rfl,zlf (s:={ s with heap:=h' }) e c d ∅ ⟨x,H,I1,ru,⟨rfl,fun ys hy=>by rw[I.list_inj hy hq];exact hx⟩,st',fun b hb=>(hf b hb).1⟩⟩
 done:=by intro X hP hw hK hc i ρ s σ H E I hf st hg;subst hP hw hK;obtain⟨xs,hq,hx⟩:=hg;obtain⟨its,rv,p,hz⟩:=I.list hq;obtain⟨f0,f1,f2,f3,f4,f5⟩:=hf it (by simp);have hl:=rv.length;exact wpAny_pyNext_list_end (I.ok.hd hc) st p.isList (by simp;omega) fun h' eb=>⟨rfl,I.turned (t':=s.toks) (fun b o hb e=>eb b o hb e) f0 f1 f3 f4 f5⟩
 self:=fun _ _ _ _ _ st h=>wpAny_pyIter_listiter st h
theorem zkP(a it:Addr):Turn P w K tg (Itt K a) [it] it (fun i h=>h.IsTupleIter it a i) where
 mem:=by simp
 obj:=fun i h st b hb=>by
  have e:b=it:=by simpa using hb
  subst e;obtain⟨o,e,c,d⟩:=st;exact⟨o,e,fun v z=>by rw[d]at z;cases z⟩
 keep:=fun i h h' st k=>st.at fun o e=>k it (by simp) o e
 item:=by intro X hP hw hK hc i ρ s σ H E I hf st hg;subst hP hw hK;obtain⟨xs,x,hq,hx⟩:=hg;obtain⟨its,rv,p,hz⟩:=I.tuple hq;obtain⟨u,hu,ru⟩:=rv.get hx;obtain⟨f0,f1,f2,f3,f4,f5⟩:=hf it (by simp);refine wpAny_pyNext_tuple_item st (show s.heap.IsTuple a its.toArray from p) (x:=u) (by simpa using hu) fun h' st' sb=>?_;have I1:Inv X ρ σ H { s with heap:=h' }:=I.turned (t':=s.toks) (fun b o hb e=>(sb.2 b hb).trans e) f0 f1 f3 f4 f5;obtain⟨o,e,c,d⟩:=id st';exact⟨u,rfl,zlf (s:={ s with heap:=h' }) e c d ∅ ⟨x,H,I1,ru,⟨rfl,fun ys hy=>by rw[I.tuple_inj hy hq];exact hx⟩,st',fun b hb=>(hf b hb).1⟩⟩
 done:=by intro X hP hw hK hc i ρ s σ H E I hf st hg;subst hP hw hK;obtain⟨xs,hq,hx⟩:=hg;obtain⟨its,rv,p,hz⟩:=I.tuple hq;obtain⟨f0,f1,f2,f3,f4,f5⟩:=hf it (by simp);have hl:=rv.length;exact wpAny_pyNext_tuple_end (I.ok.hd hc) st (show s.heap.IsTuple a its.toArray from p) (by simp;omega) fun h' eb=>⟨rfl,I.turned (t':=s.toks) (fun b o hb e=>eb b o hb e) f0 f1 f3 f4 f5⟩
 self:=fun _ _ _ _ _ st h=>wpAny_pyIter_tupleiter st h
theorem zkQ(it:Addr)(lo:Int)(n:Nat):Turn P w K tg (Itr lo n) [it] it (fun i h=>IsRangeIter h it (lo+(i:Nat)*1) ((n:Int)-(i:Nat)) 1) where
 mem:=by simp
 obj:=fun i h st b hb=>by
  have e:b=it:=by simpa using hb
  subst e;exact⟨_,st,fun v z=>by have z':Data.fields _=Data.cell v:=z;cases z'⟩
 keep:=fun i h h' st k=>k it (by simp) _ st
 item:=by intro X hP hw hK hc i ρ s σ H E I hf st hg;subst hP hw hK;obtain⟨f0,f1,f2,f3,f4,f5⟩:=hf it (by simp);have W:=Walks.range (prog:=X.prog) (w:=X.w) (I.ok.hd hc) it lo 1 n;refine W.item i s _ _ hg st fun v h' tk hv st' kk=>?_;obtain⟨t,rfl⟩:=hv;have I1:Inv X ρ σ H { s with heap:=h',toks:=tk }:=I.turned (fun b o hb e=>kk b o (by simpa using hb) e) f0 f1 f3 f4 f5;refine⟨_,rfl,zlf (s:={ s with heap:=h',toks:=tk }) (n:="range_iterator") st' rfl rfl ∅ ⟨.int (lo+i),H,I1,⟨t,?_⟩,⟨rfl,rfl⟩,st',fun b hb=>(hf b hb).1⟩⟩;rw[Int.mul_one]
 done:=by intro X hP hw hK hc i ρ s σ H E I hf st hg;subst hP hw hK;obtain⟨f0,f1,f2,f3,f4,f5⟩:=hf it (by simp);exact wpAny_pyNext_range_end (I.ok.hd hc) st (by have:n<=i:=hg;omega) fun h' eb=>⟨rfl,I.turned (t':=s.toks) (fun b o hb e=>eb b o hb e) f0 f1 f3 f4 f5⟩
 self:=fun _ _ _ _ _ st h=>wpAny_pyIter_rangeiter st h
variable {l:Expr}{fp:List Addr}{body:List Stmt}{p:Pos}{tl:TE}
section
noncomputable def zsk(K:Frag)(tl:TE):TI:=fun σ H R=>tl σ H fun x H1=>∃a,x = .ref a/\(∃xs,SqL K H1 a xs)/\R (Itl K a) H1
noncomputable def ztc(K:Frag)(tl:TE):TI:=fun σ H R=>tl σ H fun x H1=>∃a,x = .ref a/\(∃xs,SqT K H1 a xs)/\R (Itt K a) H1
theorem zke(hl:PE X l tl):PI X tg l (zsk X.K tl):=by
 intro ρ s σ H R I h;refine thn (hl ρ s σ H _ I h) fun v s1 ⟨x,H1,I1,r1,q1⟩=>?_;obtain⟨a,e,⟨xs,hq⟩,q⟩:=q1;subst e;cases r1;obtain⟨its,rv,p,hz⟩:=I1.list hq;refine wpAny_pyIter_list p.isList ?_;refine⟨s1.heap.objs.size,[s1.heap.objs.size],_,_,H1,rfl,I1.kept (t':=s1.toks) fun b o e=>Q2 _ e,zly a _,⟨_,Ql _ rfl,rfl,rfl⟩,fun b hb=>?_,q⟩;have e:b=s1.heap.objs.size:=by simpa using hb
 subst e;exact I1.fpOk (Q3 _) (I1.hok.fresh (Q3 _))
theorem zqe(hl:PE X l tl):PI X tg l (ztc X.K tl):=by
 intro ρ s σ H R I h;refine thn (hl ρ s σ H _ I h) fun v s1 ⟨x,H1,I1,r1,q1⟩=>?_;obtain⟨a,e,⟨xs,hq⟩,q⟩:=q1;subst e;cases r1;obtain⟨its,rv,p,hz⟩:=I1.tuple hq;refine wpAny_pyIter_tuple (show s1.heap.IsTuple a its.toArray from p) ?_;refine⟨s1.heap.objs.size,[s1.heap.objs.size],_,_,H1,rfl,I1.kept (t':=s1.toks) fun b o e=>Q2 _ e,zkP a _,⟨_,Ql _ rfl,rfl,rfl⟩,fun b hb=>?_,q⟩;have e:b=s1.heap.objs.size:=by simpa using hb
 subst e;exact I1.fpOk (Q3 _) (I1.hok.fresh (Q3 _))
theorem zmZ{R:It->Hp->Prop}{lo hi:Int}{t u v:Tok}{tk:Nat}(I:Inv X ρ σ H s)(h1:-(2 ^ 62)<=lo)(h2:lo<2 ^ 62)(h3:-(2 ^ 62)<=hi)(h4:hi<2 ^ 62)
 (q:R (Itr lo (hi-lo).toNat) H):wpAny (model X.prog X.w) X.A (pyIter (.ref s.heap.objs.size)) (PIE X ρ σ tg R) E { s with heap:=s.heap.push { cls:=.type "range",data:=.fields #[.int lo t,.int hi u,.int 1 v] },toks:=tk }:=by
 refine wpAny_pyIter_range (IsRange.new ..) (small_one h1 h2 h3 h4) ?_;have I1:Inv X ρ σ H { s with heap:=s.heap.push { cls:=.type "range",data:=.fields #[.int lo t,.int hi u,.int 1 v] },toks:=tk }:=I.kept fun b o e=>Q2 _ e;refine⟨(s.heap.push { cls:=.type "range",data:=.fields #[.int lo t,.int hi u,.int 1 v] }).objs.size,[(s.heap.push { cls:=.type "range",data:=.fields #[.int lo t,.int hi u,.int 1 v] }).objs.size],_,_,H,rfl,
  I1.kept (t':=tk) fun b o e=>Q2 _ e,zkQ _ lo (hi-lo).toNat,?_,fun b hb=>?_,q⟩
 ·have e1:lo+((0:Nat):Int)*1=lo:=by simp
  have e2:(((hi-lo).toNat:Nat):Int)-((0:Nat):Int)=Builtin.Range.rangeSize lo hi 1:=by rw[rangeSize_one];split<;>omega
  show IsRangeIter _ _ (lo+((0:Nat):Int)*1) ((((hi-lo).toNat:Nat):Int)-((0:Nat):Int)) 1;rw[e1,e2];exact Ql _ rfl
 ·have e:b=(s.heap.push { cls:=.type "range",data:=.fields #[.int lo t,.int hi u,.int 1 v] }).objs.size:=by simpa using hb
  subst e;exact I1.fpOk (Q3 _) (I1.hok.fresh (Q3 _))
noncomputable def zsj(ta:TA):TI:=fun σ H R=>ta σ H fun vs H1=>∃j:Int,vs=[.int j]/\-(2 ^ 62)<=j/\j<2 ^ 62/\R (Itr 0 j.toNat) H1
theorem zlO{a:Expr}{ta:TA}(hg:Gl X "range")(hm:X.mg "range" = none)(ha:PA X [a] ta)(hs:starEach [a] X.env=[(false,eval a X.env)]:=by rfl):PI X tg (.Call (.Name "range" p) [a] [] pos) (zsj ta):=by
 intro ρ s σ H R I h;refine Call_ (zfa I hg hm boot_range (PyProof.Rows.callWith_type1 (thn (ha pos ρ s σ H _ I h) fun us s1 ⟨vs,H1,I1,r1,q1⟩=>?_) hs rfl));obtain⟨j,e,q1,q2,q⟩:=q1;subst e;cases r1 with
 |cons r rr=>cases rr;obtain⟨t,rfl⟩:=r;exact call_range_1 (zmZ I1 ⋯ ⋯ q1 q2 (by simpa using q))
noncomputable def zsP(wi:TI)(g:TG)(tb:TS):TS:=fun D σ H=>wi σ H fun J H1=>∃W:Nat->Nat->St->Hp->Prop,(∃m,W 0 m σ H1)/\∀i m σ H,W i m σ H->
 (J.stop i H/\D.nx σ H)\/(J.go i H/\∃N:St->Hp->Prop,(∀σ' H',N σ' H'->∃m',m'<m/\W (i+1) m' σ' H')/\∀x H',J.yld i H x H'->g x σ H' fun σ2 H2=>tb { D with nx:=N,ct:=N,bk:=D.nx } σ2 H2)
noncomputable def zd5(fp:List Addr)(h:Heap):List (Addr × Obj):=fp.filterMap fun b=>(h.get? b).map fun o=>(b,o)
theorem zbl{b:Addr}{o:Obj}(hb:b ∈ fp)(e:h.get? b=some o):(b,o) ∈ zd5 fp h:=List.mem_filterMap.mpr ⟨b,hb,by rw[e];rfl⟩
theorem zlT{p:Addr × Obj}(hp:p ∈ zd5 fp h):p.1 ∈ fp/\h.get? p.1=some p.2:=by
 obtain⟨b,hb,e⟩:=List.mem_filterMap.mp hp;cases q:h.get? b with
 |none=>rw[q]at e;cases e|some o=>rw[q]at e;have e':(b,o)=p:=Qd e;subst e';exact⟨hb,q⟩
theorem Inv.pinned(I:Inv X ρ σ H s)(hf:∀b ∈ fp,zdZ X ρ H b)(ho:∀b ∈ fp,∃o,s.heap.get? b=some o/\∀v,o.data ≠ .cell v):Inv X (ρ++zd5 fp s.heap) σ H s:=
 I.pins_of fun p hp=>(mem_append.mp hp).elim (fun z=>I.pin p (Qm _ z)) fun z=>by
  obtain⟨hb,e⟩:=zlT z;obtain⟨f0,f1,f2,_⟩:=hf p.1 hb;obtain⟨o,e',d⟩:=ho p.1 hb;rw[e]at e';cases e'
  exact⟨e,f0,f1,f2,d⟩
def Inv.unpinned{pl:List (Addr × Obj)}(I:Inv X (ρ++pl) σ H s):Inv X ρ σ H s:=I.pins_of fun p hp=>I.pin p (Qm _ (mem_append_left _ hp))
theorem zqa{iter:Expr}{wi:TI}{tb:TS}(hp:PassesOwn (model X.prog X.w) X.A X.env X.xe)(hc:X.calm=true)(hi:PI X tg iter wi)(hg:PG X tg g)(hb:PSs X body tb)
 (hs:∀x,foldedSetIterable iter X.env x=pure x:=by intro _;rfl):PS X (.For tg iter body [] pos) (zsP wi g tb):=by
 intro ρ s σ H D I h;refine wpAny_For (thn (hi ρ s σ H _ I h) fun v s1 h1=>thn h1 fun itv s2 h2=>?_) hs;obtain⟨it,fp,tn,J,H2,e,I2,T,st2,f2,W,⟨m0,w0⟩,turn⟩:=h2;subst e
 have stat:∀{H':Hp},(∀b ∈ fp,H' b=none)->∀b ∈ fp,zdZ X ρ H' b:=fun hn b hb=>⟨hn b hb,(f2 b hb).2⟩;refine codeAny_forLoop_any (fun n s'=>∃i σ' H',Inv X ρ σ' H' s'/\tn i s'.heap/\(∀b ∈ fp,H' b=none)/\W i n σ' H') ?_ m0 ⟨0,σ,H2,I2,st2,fun b hb=>(f2 b hb).1,w0⟩;rintro n s3 ⟨i,σ3,H3,I3,st3,fr3,w3⟩;rcases turn i n σ3 H3 w3 with⟨stop,qn⟩ | ⟨go,N,hN,step⟩
 ·refine wpAny_passesOwn hp (thn (T.done X rfl rfl rfl hc i ρ s3 σ3 H3 X.xe I3 (stat fr3) st3 stop) fun r s4 ⟨hr,I4⟩=>?_);subst hr;exact wpAny_execs_nil ⟨σ3,H3,I4,qn⟩
 ·refine wpAny_passesOwn hp (thn (T.item X rfl rfl rfl hc i ρ s3 σ3 H3 X.xe I3 (stat fr3) st3 go) fun r s4 ⟨u,hr,h4⟩=>?_);subst hr;refine wpAny_passesOwn hp (thn h4 fun _ s5 ⟨x,H5,I5,r5,y5,st5,fr5⟩=>?_);have I5':=I5.pinned (stat fr5) (T.obj _ _ st5);refine wpAny_passesOwn hp (thn (hg _ s5 σ3 H5 x u _ I5' r5 (step x H5 y5)) fun _ s6 ⟨σ6,H6,I6,q6⟩=>?_);refine wpAny_passesOwn hp (thn (hb _ s6 σ6 H6 _ I6 q6) fun f s7 q7=>?_);have again:∀{σ7:St} {H7:Hp},Inv X (ρ++zd5 fp s5.heap) σ7 H7 s7->N σ7 H7->∃m,m<n/\∃i σ' H',Inv X ρ σ' H' s7/\tn i s7.heap/\(∀b ∈ fp,H' b=none)/\W i m σ' H':=fun {σ7 H7} I7 n7=>by obtain⟨m',hm,w7⟩:=hN σ7 H7 n7;refine⟨m',hm,i+1,σ7,H7,I7.unpinned,T.keep _ _ _ st5 fun b hb o e=>(I7.pin (b,o) (Qm _ (Qm _ (zbl hb e)))).1,fun b hb=>?_,w7⟩;obtain⟨o,e,d⟩:=T.obj _ _ st5 b hb;exact(I7.pin (b,o) (Qm _ (Qm _ (zbl hb e)))).2.1
  cases f with|next=>obtain⟨σ7,H7,I7,n7⟩:=q7;exact again I7 n7|cont=>obtain⟨σ7,H7,I7,n7⟩:=q7;exact again I7 n7|brk=>obtain⟨σ7,H7,I7,q7⟩:=q7;exact⟨σ7,H7,I7.unpinned,q7⟩|ret v=>obtain⟨x7,σ7,H7,I7,r7,q7⟩:=q7;exact⟨x7,σ7,H7,I7.unpinned,r7,q7⟩
end
abbrev R2:=V->V->Hp->VK->Prop
def OpR(X:Cx)(f:Value->Value->Sem Value)(r:R2):Prop:=
 ∀(ρ:List (Addr × Obj)) (s:Shared) (σ:St) (H:Hp) (x y:V) (v u:Value) (Q:VK),Inv X ρ σ H s->RelV x v->RelV y u->r x y H Q->
  wpAny (model X.prog X.w) X.A (f v u) (EP X ρ σ Q) X.xe s
def UnR(X:Cx)(f:Value->Sem Value)(r:V->Hp->VK->Prop):Prop:=
 ∀(ρ:List (Addr × Obj)) (s:Shared) (σ:St) (H:Hp) (x:V) (v:Value) (Q:VK),Inv X ρ σ H s->RelV x v->r x H Q->
  wpAny (model X.prog X.w) X.A (f v) (EP X ρ σ Q) X.xe s
def CallR(X:Cx)(f:Value)(r:List V->Hp->VK->Prop):Prop:=
 ∀(ρ:List (Addr × Obj)) (s:Shared) (σ:St) (H:Hp) (xs:List V) (us:List Value) (Q:VK),Inv X ρ σ H s->Vals xs us->r xs H Q->
  wpAny (model X.prog X.w) X.A (call f us) (EP X ρ σ Q) X.xe s
noncomputable section
def tOp(r:R2)(ta tb:TE):TE:=fun σ H Q=>ta σ H fun x H1=>tb σ H1 fun y H2=>r x y H2 Q
def tUn(r:V->Hp->VK->Prop)(ta:TE):TE:=fun σ H Q=>ta σ H fun x H1=>r x H1 Q
def rI(C:Int->Int->Prop)(g:Int->Int->V):R2:=fun x y H Q=>∃i j,x = .int i/\y = .int j/\C i j/\Q (g i j) H
def rI0(g:Int->Int->V):R2:=fun x y H Q=>∃i j,x = .int i/\y = .int j/\Q (g i j) H
def rU(g:Int->V):V->Hp->VK->Prop:=fun x H Q=>∃i,x = .int i/\Q (g i) H
end
variable {tc:TE}{f:Value->Value->Sem Value}
section
variable {a b c:Expr}
theorem znL(ha:PE X a ta)(hb:PE X b tb)(I:Inv X ρ σ H s)
 (h:ta σ H fun x H1=>tb σ H1 fun y H2=>R x y H2) 
 (hf:∀v u s2 x y H2,Inv X ρ σ H2 s2->RelV x v->RelV y u->R x y H2->wpAny (model X.prog X.w) X.A (f v u) Q X.xe s2) :
  wpAny (model X.prog X.w) X.A (eval a X.env) (fun v s₁=>wpAny (model X.prog X.w) X.A (eval b X.env) (fun u s₂=>wpAny (model X.prog X.w) X.A (f v u) Q X.xe s₂) X.xe s₁) X.xe s:=by
 refine thn (ha ρ s σ H _ I h) fun v s1 ⟨x,H1,I1,r1,q1⟩=>?_;refine thn (hb ρ s1 σ H1 _ I1 q1) fun u s2 ⟨y,H2,I2,r2,q2⟩=>?_;exact hf v u s2 x y H2 I2 r1 r2 q2
theorem znT{op:Operator}{r:R2}(ho:OpR X (binaryOp op) r)(ha:PE X a ta)(hb:PE X b tb):PE X (.BinOp a op b pos) (tOp r ta tb):=by apply?;exact wpAny_BinOp (znL ha hb I h fun v u s2 x y H2 I2 rx ry q=>ho ρ s2 σ H2 x y v u Q I2 rx ry q)
theorem zr3{op:UnaryOp}{r:V->Hp->VK->Prop}(ho:UnR X (unaryOp op) r)(ha:PE X a ta):PE X (.UnaryOp op a pos) (tUn r ta):=by apply?;exact UnaryOp_ (thn (ha ρ s σ H _ I h) fun v s1 ⟨x,H1,I1,r1,q1⟩=>ho ρ s1 σ H1 x v Q I1 r1 q1)
theorem opI{C:Int->Int->Prop}{g:Int->Int->Int}
 (rule:∀(i j:Int) (t u:Tok) (s:Shared) (Q:Value->Shared->Prop) (E:Value->Shared->Prop),C i j->Q (.int (g i j) s.toks) { s with toks:=s.toks+1 }->wpAny (model X.prog X.w) X.A (f (.int i t) (.int j u)) Q E s) :
  OpR X f (rI C fun i j=>.int (g i j)):=by
 infer_instance
 obtain⟨i,j,rfl,rfl,hc,q⟩:=h;obtain⟨t,rfl⟩:=rx;obtain⟨t',rfl⟩:=ry;exact rule i j t t' s _ _ hc ⟨.int (g i j),H,I.tok _,⟨_,rfl⟩,q⟩
theorem zqx{g:Int->Int->Int}
 (rule:∀(i j:Int) (t u:Tok) (s:Shared) (Q:Value->Shared->Prop) (E:Value->Shared->Prop),Q (.int (g i j) s.toks) { s with toks:=s.toks+1 }->wpAny (model X.prog X.w) X.A (f (.int i t) (.int j u)) Q E s) :
  OpR X f (rI0 fun i j=>.int (g i j)):=by
 infer_instance
 obtain⟨i,j,rfl,rfl,q⟩:=h;obtain⟨t,rfl⟩:=rx;obtain⟨t',rfl⟩:=ry;exact rule i j t t' s _ _ ⟨.int (g i j),H,I.tok _,⟨_,rfl⟩,q⟩
theorem zk7{g:Int->Int->Bool}
 (rule:∀(i j:Int) (t u:Tok) (s:Shared) (Q:Value->Shared->Prop) (E:Value->Shared->Prop),Q (.bool (g i j)) s->wpAny (model X.prog X.w) X.A (f (.int i t) (.int j u)) Q E s) :
  OpR X f (rI0 fun i j=>.bl (g i j)):=by
 infer_instance
 obtain⟨i,j,rfl,rfl,q⟩:=h;obtain⟨t,rfl⟩:=rx;obtain⟨t',rfl⟩:=ry;exact rule i j t t' s _ _ ⟨.bl (g i j),H,I,rfl,q⟩
def ztn(i j:Int):Prop:=0<=j/\j<=1000000/\i.natAbs<2 ^ 64
def CMul(i j:Int):Prop:=(-(2 ^ 64)<i/\i<2 ^ 64)\/(-(2 ^ 64)<j/\j<2 ^ 64)
theorem CMul.ok{i j:Int}(h:CMul i j):IntMulOk i j:=by
 rcases h with⟨h1,h2⟩ | ⟨h1,h2⟩
 ·exact .of_left (intBits_le_64 h1 h2)
 ·exact .of_right (intBits_le_64 h1 h2)
def zqw:OpR X (binaryOp .Add) (rI0 fun i j=>.int (i+j)):=zqx fun _ _ _ _ _ _ _ q=>add_int q
def zqp:OpR X (binaryOp .Sub) (rI0 fun i j=>.int (i-j)):=zqx fun _ _ _ _ _ _ _ q=>sub_int q
def zoH:OpR X (binaryOp .Mod) (rI (fun _ j=>j ≠ 0) fun i j=>.int (i.fmod j)):=opI fun _ _ _ _ _ _ _ hc q=>mod_int' hc q
def zqr:OpR X (binaryOp .Pow) (rI ztn fun i j=>.int (i ^ j.toNat)):=opI fun _ _ _ _ _ _ _ hc q=>pow_int_small hc.1 hc.2.1 hc.2.2 q
theorem unI{f:Value->Sem Value}{g:Int->Int}
  (rule:∀(i:Int) (t:Tok) (s:Shared) (Q:Value->Shared->Prop) (E:Value->Shared->Prop),Q (.int (g i) s.toks) { s with toks:=s.toks+1 }->wpAny (model X.prog X.w) X.A (f (.int i t)) Q E s) :
  UnR X f (rU fun i=>.int (g i)):=by
 intro ρ s σ H x v Q I rx h;obtain⟨i,rfl,q⟩:=h;obtain⟨t,rfl⟩:=rx;exact rule i t s _ _ ⟨.int (g i),H,I.tok _,⟨_,rfl⟩,q⟩
def zpL:UnR X (unaryOp .USub) (rU fun i=>.int (-i)):=unI fun _ _ _ _ _ q=>neg_int q
end
section
variable {a b c:Expr}
theorem zmj{Q:VK}{k k':Bool}(I:Inv X ρ σ H s)(q:Q (.bl k) H)(e:k=k'):EP X ρ σ Q (.bool k') s:=by subst e;exact⟨.bl k,H,I,rfl,q⟩
def zr7:OpR X (compareOp .Lt) (rI0 fun i j=>.bl (decide (i<j))):=zk7 fun _ _ _ _ _ _ _ q=>lt_int q
def zr8:OpR X (compareOp .LtE) (rI0 fun i j=>.bl (decide (i<=j))):=zk7 fun _ _ _ _ _ _ _ q=>le_int q
def zr9:OpR X (compareOp .Gt) (rI0 fun i j=>.bl (decide (j<i))):=zk7 fun _ _ _ _ _ _ _ q=>gt_int q
def zsa:OpR X (compareOp .GtE) (rI0 fun i j=>.bl (decide (j<=i))):=zk7 fun _ _ _ _ _ _ _ q=>ge_int q
theorem zqs:OpR X (compareOp .Is) (fun x y H Q=>y = .non/\Q (.bl (decide (x = .non))) H):=by
 infer_instance
 obtain⟨rfl,q⟩:=h;cases ry;refine is_none_gen (zmj I q ?_);cases x<;>first
  |(cases rx;rfl)
  |(obtain⟨t,rfl⟩:=rx;rfl)
theorem zoE:OpR X (compareOp .IsNot) (fun x y H Q=>y = .non/\Q (.bl (!decide (x = .non))) H):=by
 infer_instance
 obtain⟨rfl,q⟩:=h;cases ry;refine isnot_none_gen (zmj I q ?_);cases x<;>first
  |(cases rx;rfl)
  |(obtain⟨t,rfl⟩:=rx;rfl)
theorem zu(b:Expr)(h:op ≠ .In:=by decide)(h2:op ≠ .NotIn:=by decide):behindInMarks op b=false:=by
 have e1:(op==CmpOp.In)=false:=by cases op<;>first | rfl | exact absurd rfl h
 have e2:(op==CmpOp.NotIn)=false:=by cases op<;>first | rfl | exact absurd rfl h2
 cases b<;>simp[behindInMarks,e1,e2]
theorem zoC{r:R2}(ho:OpR X (compareOp op) r)(ha:PE X a ta)(hb:PE X b tb)(hm:behindInMarks op b=false):PE X (.Compare a [op] [b] pos) (tOp r ta tb):=by apply?;exact wpAny_Compare1 (znL ha hb I h fun v u s2 x y H2 I2 rx ry q=>ho ρ s2 σ H2 x y v u Q I2 rx ry q) hm
noncomputable def zrJ(t:TE):TT:=fun σ H Q=>t σ H fun x H'=>∃k,x = .bl k/\Q k H'
theorem zos{r:R2}(ho:OpR X (compareOp op) r)(ha:PE X a ta)(hb:PE X b tb)(hm:behindInMarks op b=false):PT X (.Compare a [op] [b] pos) (zrJ (tOp r ta tb)):=by
 apply?;refine wpAny_isTrue_Compare1 (thn (ha ρ s σ H _ I h) fun v s1 ⟨x,H1,I1,r1,q1⟩=>thn (hb ρ s1 σ H1 _ I1 q1) fun u s2 ⟨y,H2,I2,r2,q2⟩=>thn (ho ρ s2 σ H2 x y v u _ I2 r1 r2 q2) fun c s3 ⟨z,H3,I3,r3,k,e,q3⟩=>?_) hm
 subst e;cases r3;exact wpAny_truthy_bool ⟨H3,I3,q3⟩
noncomputable def zlB(r r':R2)(ta tb tc:TE):TE:=fun σ H Q=>ta σ H fun x H1=>tb σ H1 fun y H2=>r x y H2 fun z H3=>∃k,z = .bl k /\
 (if k=true then tc σ H3 fun w' H4=>r' y w' H4 Q else Q (.bl false) H3)
theorem zm8{op':CmpOp}{r r':R2}(ho:OpR X (compareOp op) r)(ho':OpR X (compareOp op') r')(ha:PE X a ta)(hb:PE X b tb)(hc:PE X c tc)
 (hm:lastMarks [op,op'] [b,c]=false:=by with_unfolding_all rfl):PE X (.Compare a [op,op'] [b,c] pos) (zlB r r' ta tb tc):=by
 apply?;refine Compare_chain (thn (ha ρ s σ H _ I h) fun v s1 ⟨x,H1,I1,r1,q1⟩=>chain_link (thn (hb ρ s1 σ H1 _ I1 q1) fun u s2 ⟨y,H2,I2,r2,q2⟩=>thn (ho ρ s2 σ H2 x y v u _ I2 r1 r2 q2) fun d s3 ⟨z,H3,I3,r3,k,e,q3⟩=>?_)) hm
 subst e;cases r3;refine wpAny_truthy_bool ?_;cases k with|false=>exact ite_ff ⟨.bl false,H3,I3,rfl,q3⟩|true=>exact ite_tt (chain_last (thn (hc ρ s3 σ H3 _ I3 q3) fun w' s4 ⟨z',H4,I4,r4,q4⟩=>ho' ρ s4 σ H4 y z' u w' Q I4 r2 r4 q4))
theorem zcB:(sizeLine:Nat)<2 ^ 63:=by rw[sizeLine_eq];decide
theorem zk6:OpR X (binaryOp .Add) (fun x y H Q=>∃i j,x = .str i/\y = .str j/\i.length+j.length<=sizeLine/\Q (.str (i++j)) H):=by
 infer_instance
 obtain⟨i,j,rfl,rfl,hz,q⟩:=h;obtain⟨t,rfl⟩:=rx;obtain⟨t',rfl⟩:=ry;exact add_str (fun t' tk=>⟨.str (i++j),H,I.tok _,⟨_,rfl⟩,q⟩) hz
theorem vals1{x:V}(r:Vals [x] us):∃u,us=[u]/\RelV x u:=by cases r with|cons r1 r2=>cases r2;exact⟨_,rfl,r1⟩
theorem vals2{x:V}(r:Vals [x,y] us):∃u w',us=[u,w']/\RelV x u/\RelV y w':=by
 cases r with
 |cons r1 r2=>cases r2 with|cons r3 r4=>cases r4;exact⟨_,_,rfl,r1,r3⟩
theorem zmz(hc:X.calm=true):CallR X (.builtin "max") (fun xs H Q=>∃i j,xs=[.int i,.int j]/\Q (.int (if j > i then j else i)) H):=by
 intro ρ s σ H xs us Q I r h;obtain⟨i,j,rfl,q⟩:=h;obtain⟨u,w',rfl,⟨t,rfl⟩,⟨t',rfl⟩⟩:=vals2 r;refine max_two_ints (I.ok.hd hc) fun h' tk k=>⟨_,H,I.kept k,?_,q⟩
 by_cases hj:j > i
 ·rw[Qz hj,Qz hj];exact⟨_,rfl⟩
 ·rw[QA hj,QA hj];exact⟨_,rfl⟩
theorem zmy(hc:X.calm=true):CallR X (.builtin "min") (fun xs H Q=>∃i j,xs=[.int i,.int j]/\Q (.int (if j<i then j else i)) H):=by
 intro ρ s σ H xs us Q I r h;obtain⟨i,j,rfl,q⟩:=h;obtain⟨u,w',rfl,⟨t,rfl⟩,⟨t',rfl⟩⟩:=vals2 r;refine min_two_ints (I.ok.hd hc) fun h' tk k=>⟨_,H,I.kept k,?_,q⟩
 by_cases hj:j<i
 ·rw[Qz hj,Qz hj];exact⟨_,rfl⟩
 ·rw[QA hj,QA hj];exact⟨_,rfl⟩
end
structure ObjM (h:Heap) (x dx C:Addr) (mA:Str->Option Value):Prop where
 obj:h.get? x=some (PySem.W.instObj C dx)
 ns:h.Ns1 dx mA
 ne:dx ≠ x
variable {dx:Addr}{mA:Str->Option Value}
theorem zlZ(n:h.Ns1 dx mA):∃od,h.get? dx=some od/\∀name,PySem.W.lookIn name od=some (mA name):=by
 obtain⟨o,es,ep,ho,hd,hk,_,hm⟩:=n;refine⟨o,ho,fun name=>?_⟩;have e:=hm name;unfold nsFind findBy at e;rw[←Array.find?_toList]at e;unfold PySem.W.lookIn;rw[hd];dsimp only;split
 ·rename_i y q;rw[q]at e;exact congrArg some e
 ·rename_i q;rw[q]at e;have a:es.toList.any (·.refKey)=false:=by rw[List.any_eq_false];intro y hy;obtain⟨z,t,hkey⟩:=hk y (Array.mem_toList_iff.mp hy);simp[DictEntry.refKey,hkey]
  have a':¬es.toList.any (·.refKey)=true:=by rw[a];exact Q4
  rw[QA a'];exact congrArg some e
variable {C:Addr}
theorem ObjM.look{x:Addr}(I:ObjM h x dx C mA):∃od,PySem.W.InstAt h x (PySem.W.instObj C dx) C (some od)/\∀name,PySem.W.lookIn name od=some (mA name):=
 let ⟨od,ho,hl⟩:=zlZ I.ns
 ⟨od,⟨I.obj,rfl,rfl,ho⟩,hl⟩
variable {kw:List (Str × Value)}{prog:Program}{name:Str}
section
variable {x f:Addr}{v:Value}
theorem get_map{expr:Bool}(X:K.In s.heap)(I:ObjM s.heap x dx C mA)(hg:PySem.W.plainGet K C name=true)(hh:PySem.W.hasDictIn K C=true)
 (ha:PySem.W.findIn K (.ref C) name=some none) (hv:mA name=some v) (hv':PySem.W.handedIn v=true) (h:Q v { s with toks:=s.toks+1 }) :
  wpAny (model prog w) A (getAttr (.ref x) name expr) Q E s:=by
 obtain⟨od,J,hl⟩:=I.look;exact PySem.W.get_value X J (PySem.W.plainGet_of hg).1 (PySem.W.findObj_own hh ha rfl (by rw[hl,hv])) hv' h
theorem zoi{ns:List Str}{Q:Unit->Shared->Prop}(X:K.In s.heap)(I:ObjM s.heap x dx C mA)
  (hs:PySem.W.findIn K (.ref C) "__setattr__" = some (some (.builtin "object.__setattr__"))) (hp:PySem.W.plainOver K C=true) (ht:PySem.W.takerIn K C name=some none) (hh:PySem.W.hasDictIn K C=true)
  (hw:PySem.Within mA ns) (hsz:ns.length<=sizeLine)
  (h:∀h',ObjM h' x dx C (fun y=>if y=name then some v else mA y)->Heap.SameBut dx s.heap h'->Q () { s with heap:=h',toks:=s.toks+2 }) :
  wpAny (model prog w) A (setAttr (.ref x) name v) Q E s:=by
 obtain⟨od,J,hl⟩:=I.look;refine PySem.W.set_plain X J hs (PySem.W.osa_open (s:={ s with toks:=s.toks+1 }) (r:=none) X J hp ht fun b=>?_);obtain⟨cd,hc,hd'⟩:=PySem.W.any_some hh;have hx:s.heap.get? x=some ⟨.ref C,some dx,.plain,#[]⟩:=I.obj;refine Q1 (Qf (Q1 (Q1 (wpAny_loadPart hx (Q1 (PySem.W.Looks.here (s:={ s with toks:=s.toks+1 }) (PySem.W.looks_clsIn X hc) ?_))))));rw[hd'];refine Qf (a:=some dx) (Q1 (Qf (Q1 ?_)));refine wpAny_nsSet1 (s:={ s with toks:=s.toks+1 }) I.ns fun h' hn2 hs2=>?_;obtain⟨oD,esD,epD,hoD,hdD,hcD⟩:=hn2.count (PySem.Within.cons name v hw);refine Q1 (wpAny_lookBehind hoD (by rw[hdD];exact pastItsLine_dict (Qj hcD (by rw[Qp];omega))) ?_);exact Qf (h _ ⟨(hs2.2 _ (Ne.symm I.ne)).trans I.obj,hn2,I.ne⟩ hs2)
theorem znf{R:Result->Shared->Prop}{vs:List Value}(X:K.In s.heap)(hm:PySem.W.makesIn K C=true)
 (hi:PySem.W.findIn K (.ref C) "__init__" = some (some (.ref f))) (hf:PySem.W.typeIn K (.ref f)=some (.type "function"))
 (h:codeAny (model prog w) (A.under (.builtin "type.__call__" ⟨.ref C::vs,kw⟩)) (.call (.ref f) ⟨.ref (s.heap.objs.size+1)::vs,kw⟩) (PySem.W.InitBack (s.heap.objs.size+1) R)
 { s with heap:=(s.heap.push PySem.W.emptyDict).push (PySem.W.instObj C s.heap.objs.size) }) :
  codeAny (model prog w) A (.call (.ref C) ⟨vs,kw⟩) R s:=by
 obtain⟨hh,g,d,t,os⟩:=s;exact PySem.W.make_core (PySem.W.makes_of X hm) (PySem.W.looks_findIn X hi) (fun self=>PySem.W.bind_fn X self hf) (.inl rfl) h
end
noncomputable def z6(f:Str)(v:V):List (Str × V)->List (Str × V)
 |[]=>[(f,v)]|(g,x)::r=>if g=f then(g,v)::r else(g,x)::z6 f v r
theorem zfQ(f g:Str)(v:V):∀fs:List (Str × V),(z6 f v fs).lookup g=if g=f then some v else fs.lookup g
 |[]=>by
  show List.lookup g [(f,v)]=_
  by_cases h:g=f
  ·have hb:(g==f)=true:=beq_iff_eq.mpr h;simp only[List.lookup,hb,Qz h]
  ·have hb:(g==f)=false:=beq_eq_false_iff_ne.mpr h;simp only[List.lookup,hb,QA h]
 |(k,x)::r=>by
  have ih:=zfQ f g v r;rw[show z6 f v ((k,x)::r)=(if k=f then(k,v)::r else(k,x)::z6 f v r)from rfl]
  by_cases hk:k=f
  ·rw[Qz hk]
   by_cases h:g=k
   ·have hb:(g==k)=true:=beq_iff_eq.mpr h;simp only[List.lookup,hb,Qz (h.trans hk)]
   ·have hb:(g==k)=false:=beq_eq_false_iff_ne.mpr h;simp only[List.lookup,hb,QA (fun e:g=f=>h (e.trans hk.symm))]
  ·rw[QA hk]
   by_cases h:g=k
   ·have hb:(g==k)=true:=beq_iff_eq.mpr h;simp only[List.lookup,hb,QA (fun e:g=f=>hk (h.symm.trans e))]
   ·have hb:(g==k)=false:=beq_eq_false_iff_ne.mpr h;simp only[List.lookup,hb];exact ih
theorem zfc(f:Str)(v:V):∀fs:List (Str × V),f ∈ (z6 f v fs).map (·.1)/\∀g,g ∈ fs.map (·.1)->g ∈ (z6 f v fs).map (·.1)
 |[]=>⟨by simp[z6],fun g h=>by simp at h⟩|(k,x)::r=>by
  obtain⟨i1,i2⟩:=zfc f v r;rw[show z6 f v ((k,x)::r)=(if k=f then(k,v)::r else(k,x)::z6 f v r)from rfl]
  by_cases hk:k=f
  ·rw[Qz hk];subst hk;exact⟨by simp,fun g h=>by simpa using h⟩
  ·rw[QA hk];refine⟨?_,fun g h=>?_⟩
   ·rw[QF];exact mem_cons_of_mem _ i1
   ·rw[QF]at h ⊢;rcases QB.mp h with e | e
    ·exact QB.mpr (.inl e)
    ·exact mem_cons_of_mem _ (i2 g e)
theorem zfS(f:Str)(v:V):∀fs:List (Str × V),(z6 f v fs).length<=fs.length+1
 |[]=>by simp[z6]|(k,x)::r=>by
  have ih:=zfS f v r;rw[show z6 f v ((k,x)::r)=(if k=f then(k,v)::r else(k,x)::z6 f v r)from rfl]
  by_cases hk:k=f
  ·rw[Qz hk,Qp,Qp];omega
  ·rw[QA hk,Qp,Qp];omega
theorem RelO.some_of{o:Option Value}(r:RelO (some v) o):∃u,o=some u/\RelV v u:=by cases o with|none=>exact(show False from r).elim|some u=>exact⟨u,rfl,r⟩
theorem zma(r:RelV v u):PySem.W.handedIn u=true:=by cases v with|non=>cases (show u=Value.none from r);rfl|bl b=>cases (show u=Value.bool b from r);rfl|int i=>obtain⟨t,e⟩:=(show ∃t,u=Value.int i t from r);cases e;rfl|str x=>obtain⟨t,e⟩:=(show ∃t,u=Value.str x t from r);cases e;rfl|byt b=>obtain⟨t,e⟩:=(show ∃t,u=Value.bytes b t from r);cases e;rfl|flt b=>obtain⟨t,e⟩:=(show ∃t,u=Value.float b t from r);cases e;rfl|ref a=>cases (show u=Value.ref a from r);rfl|ty n=>cases (show u=Value.type n from r);rfl
section
variable {a:Addr}{fs fs':List (Str × V)}
theorem zku(hok:HOk P w H h)(e:H a=some (.ins C dx fs)):∃mA,ObjM h a dx C mA/\(∀f,RelO (fs.lookup f) (mA f))/\PySem.Within mA (fs.map (·.1))/\fs.length<=1000/\H dx=some (.own a):=by obtain⟨d,z,ne,ob,mA,n,r,q⟩:=(show ObjOk P w H h a (.ins C dx fs)from hok a _ e);exact⟨mA,⟨ob,n,ne⟩,r,q,z,d⟩
end
structure Cls (K:Frag) (C:Addr):Prop where
 pg:PySem.W.plainGet K C Str.empty=true
 hd:PySem.W.hasDictIn K C=true
 po:PySem.W.plainOver K C=true
 sa:PySem.W.findIn K (.ref C) "__setattr__" = some (some (.builtin "object.__setattr__"))
def Cls.get(c:Cls K C)(f:Str):PySem.W.plainGet K C f=true:=c.pg
def NoAttr(K:Frag)(C:Addr)(f:Str):Prop:=PySem.W.findIn K (.ref C) f=some none
theorem NoAttr.taker{f:Str}(n:NoAttr K C f):PySem.W.takerIn K C f=some none:=by unfold PySem.W.takerIn;rw[show PySem.W.findIn K (.ref C) f=some none from n];rfl
structure Con (K:Frag) (C:Addr) (f:Str) (v:V) (u:Value):Prop where
 at_:PySem.W.findIn K (.ref C) f=some (some u)
 rel:RelV v u
 get:PySem.W.specialIn K u "__get__" = some none
 cp:PySem.W.copiedNames.contains f=false
structure Meth (K:Frag) (C:Addr) (m:Str) (f:Addr):Prop where
 at_:PySem.W.findIn K (.ref C) m=some (some (.ref f))
 fn:PySem.W.isFn K (.ref f)=true
 kp:PySem.W.keepIn K (.ref f)=true
section
variable {a:Addr}{fs:List (Str × V)}{f:Str}
theorem zgS{b:Bool}(I:Inv X ρ σ H s)(e:H a=some (.ins C dx fs))(c:Cls X.K C)(n:NoAttr X.K C f)(l:fs.lookup f=some v)
 (h:∀u s',Inv X ρ σ H s'->RelV v u->Q u s'):wpAny (model X.prog X.w) A (getAttr (.ref a) f b) Q E s:=by
 obtain⟨mA,O,r,_,_,_⟩:=zku I.hok e;obtain⟨u,hu,ru⟩:=RelO.some_of (v:=v) (o:=mA f) (by rw[←l];exact r f);exact get_map I.kIn O (c.get f) c.hd n hu (zma ru) (h u _ (I.tok _) ru)
theorem zgC{Q:Unit->Shared->Prop}(I:Inv X ρ σ H s)(e:H a=some (.ins C dx fs))(c:Cls X.K C)(n:NoAttr X.K C f)(hl:fs.length<1000)(ry:RelV y u)
 (h:∀s',Inv X ρ σ (upd H a (.ins C dx (z6 f y fs))) s'->Q () s'):wpAny (model X.prog X.w) A (setAttr (.ref a) f u) Q E s:=by
 obtain⟨mA,O,r,wi,_,ho⟩:=zku I.hok e;have hz:(fs.map (·.1)).length<=sizeLine:=by rw[Qh,sizeLine_eq];omega
 refine zoi I.kIn O c.sa c.po n.taker c.hd wi hz fun h' O' sb=>h _ ?_;have hd:∃o,h'.get? dx=some o:=let ⟨o,_,_,e',_⟩:=O'.ns;⟨o,e'⟩
 refine I.write (x:=a) (e:=dx) (by rw[e];exact True.intro) (.inr ho) (fun b q hb z=>(sb.2 b hb).trans z) hd ?_;refine⟨by rw[zi O.ne];exact ho,?_,O.ne,O'.obj,_,O'.ns,fun g=>?_,fun g hg=>?_⟩
 ·have:=zfS f y fs;omega
 ·show RelO ((z6 f y fs).lookup g) (if g=f then some u else mA g);rw[zfQ]
  by_cases q:g=f
  ·rw[Qz q,Qz q];exact ry
  ·rw[QA q,QA q];exact r g
 ·by_cases q:g=f
  ·rw[q];exact(zfc f y fs).1
  ·refine(zfc f y fs).2 g (wi g fun z=>hg ?_);show(if g=f then some u else mA g)=none;rw[QA q];exact z
theorem Inv.made(I:Inv X ρ σ H s):Inv X ρ σ (upd (upd H s.heap.objs.size (.own (s.heap.objs.size+1))) (s.heap.objs.size+1) (.ins C s.heap.objs.size []))
  { s with heap:=(s.heap.push PySem.W.emptyDict).push (PySem.W.instObj C s.heap.objs.size) }:=by
 have e1:(s.heap.push PySem.W.emptyDict).get? s.heap.objs.size=some PySem.W.emptyDict:=Ql s.heap rfl;have e2:((s.heap.push PySem.W.emptyDict).push (PySem.W.instObj C s.heap.objs.size)).get? (s.heap.objs.size+1)=some (PySem.W.instObj C s.heap.objs.size):=by
  have:=Ql (s.heap.push PySem.W.emptyDict) (o:=PySem.W.instObj C s.heap.objs.size) rfl
  rwa [Heap.size_push]at this
 have e3:(s.heap.push PySem.W.emptyDict).Ns s.heap.objs.size (fun _=>none):=⟨PySem.W.emptyDict,#[],_,e1,rfl,(fun e he=>absurd he (by simp)),fun _=>rfl⟩;have I1:=I.laid (a:=s.heap.objs.size) (o:=.own (s.heap.objs.size+1)) (h':=s.heap.push PySem.W.emptyDict) (t':=s.toks) (fun b u q=>Q2 _ q) (Q3 _) ⟨_,e1⟩;refine I1.laid (a:=s.heap.objs.size+1) (o:=.ins C s.heap.objs.size []) (t':=s.toks) (fun b u q=>Q2 _ q) (Nat.le_of_eq (Heap.size_push _ _)) ?_;have ne:s.heap.objs.size ≠ s.heap.objs.size+1:=Qk (Nat.lt_succ_self _);refine⟨by rw[zi ne,qu],Nat.zero_le _,ne,e2,fun _=>none,(Heap.Ns1.of_empty e3).at fun o q=>Q2 _ q,fun _=>True.intro,fun y hy=>absurd rfl hy⟩
theorem zkI{env:Env}(hb:attributeBase e f env (eval e env)=eval e env)
 (h:wpAny (model prog w) A (eval e env) (fun o s₁=>wpAny (model prog w) A (getAttr o f true) Q E s₁) E s):wpAny (model prog w) A (eval (.Attribute e f pos) env) Q E s:=
 Attribute_any_ h (by rw[arm_eval_Attribute,hb])
end
noncomputable def zsQ(K:Frag)(ta:TE)(f:Str):TE:=fun σ H Q=>ta σ H fun x H1=>∃a C dx fs v,x = .ref a/\H1 a=some (.ins C dx fs)/\Cls K C/\NoAttr K C f/\fs.lookup f=some v/\Q v H1
noncomputable def zsU(K:Frag)(ta tv:TE)(f:Str):TS:=fun D σ H=>tv σ H fun y H1=>ta σ H1 fun x H2=>∃a C dx fs,x = .ref a/\H2 a=some (.ins C dx fs)/\Cls K C/\NoAttr K C f/\fs.length<1000 /\
 D.nx σ (upd H2 a (.ins C dx (z6 f y fs)))
def zrD(X:Cx)(op:Operator)(rd:V->V->Hp->VK->Prop):Prop:=
 ∀(ρ:List (Addr × Obj)) (s:Shared) (σ:St) (H:Hp) (x y:V) (u v:Value) (Q:VK),Inv X ρ σ H s->RelV x u->RelV y v->rd x y H Q->wpAny (model X.prog X.w) X.A (inplaceOp op u v) (EP X ρ σ Q) X.xe s
noncomputable def zok(K:Frag)(ta tv:TE)(rd:V->V->Hp->VK->Prop)(f:Str):TS:=fun D σ H=>ta σ H fun x H1=>∃a C dx fs v,x = .ref a/\H1 a=some (.ins C dx fs)/\Cls K C/\NoAttr K C f/\fs.lookup f=some v /\
 tv σ H1 fun y H2=>rd v y H2 fun z H3=>∃dx' fs',H3 a=some (.ins C dx' fs')/\fs'.length<1000/\D.nx σ (upd H3 a (.ins C dx' (z6 f z fs')))
section
variable {o value:Expr}{f:Str}{tv:TE}
theorem zqm(he:PE X e ta)(hb:attributeBase e f X.env (eval e X.env)=eval e X.env):PE X (.Attribute e f pos) (zsQ X.K ta f):=by apply?;refine zkI hb (thn (he ρ s σ H _ I h) fun u s1 ⟨x,H1,I1,rx,a,C,dx,fs,v,ex,ea,c,n,l,q⟩=>?_);subst ex;obtain rfl:u=Value.ref a:=rx;exact zgS I1 ea c n l fun u' s2 I2 ru=>⟨v,H1,I2,ru,q⟩
theorem zqb(ha:PE X o ta)(hv:PE X value tv)(hs:swapsWith value (some (.Attribute o f pos')) pos.line X.env=pure false):PS X (.Assign [.Attribute o f pos'] value pos) (zsU X.K ta tv f):=by intro ρ s σ H D I h;refine plainObj_wpAny_Assign_Attribute (thn (hv ρ s σ H _ I h) fun u s1 ⟨y,H1,I1,ry,q⟩=>thn (ha ρ s1 σ H1 _ I1 q) fun ov s2 ⟨x,H2,I2,rx,a,C,dx,fs,ex,ea,c,n,l,q2⟩=>?_) hs;subst ex;obtain rfl:ov=Value.ref a:=rx;exact zgC I2 ea c n l ry fun s3 I3=>⟨σ,_,I3,q2⟩
theorem zlL{op:Operator}{rd:V->V->Hp->VK->Prop}(ha:PE X o ta)(hv:PE X value tv)(hop:zrD X op rd):PS X (.AugAssign (.Attribute o f tpos) op value pos) (zok X.K ta tv rd f):=by intro ρ s σ H D I h;refine wpAny_AugAssign_AttributeAny (thn (ha ρ s σ H _ I h) fun ov s1 ⟨x,H1,I1,rx,a,C,dx,fs,v,ex,ea,c,n,l,q⟩=>?_);subst ex;obtain rfl:ov=Value.ref a:=rx;refine zgS I1 ea c n l fun u s2 I2 ru=>thn (hv ρ s2 σ H1 _ I2 q) fun w3 s3 ⟨y,H2,I3,ry,q3⟩=>thn (hop ρ s3 σ H2 v y u w3 _ I3 ru ry q3) fun w4 s4 ⟨z,H3,I4,rz,dx',fs',ea',l',q4⟩=>?_;exact zgC I4 ea' c n l' rz fun s5 I5=>⟨σ,_,I5,q4⟩
noncomputable def zs1:V->V->Hp->VK->Prop:=fun x y H Q=>∃i j,x = .int i/\y = .int j/\Q (.int (i+j)) H
theorem zqX:zrD X .Add zs1:=by rintro ρ s σ H x y u v Q I rx ry ⟨i,j,rfl,rfl,q⟩;obtain⟨t,rfl⟩:=(show ∃t,u=Value.int i t from rx);obtain⟨t',rfl⟩:=(show ∃t',v=Value.int j t' from ry);exact PyProof.Rows.iadd_int ⟨.int (i+j),H,I.tok _,⟨_,rfl⟩,q⟩
end
section
variable {c:Value}{b:Bool}
inductive TyOf (K:Frag) (H:Hp):V->Value->Prop where
 |non:TyOf K H .non (.type "NoneType")
 |bl (x:Bool):TyOf K H (.bl x) (.type "bool")
 |int (i:Int):TyOf K H (.int i) (.type "int")
 |str (x:Str):TyOf K H (.str x) (.type "str")
 |flt (x:UInt64):TyOf K H (.flt x) (.type "float")
 |lst {a:Addr} {xs:List V} (e:H a=some (.lst xs)):TyOf K H (.ref a) (.type "list")
 |frz {a:Addr} {o:Obj} {xs:List V} (e:H a=some (.frz o (.lst xs))):TyOf K H (.ref a) (.type "list")
 |tup {a:Addr} {xs:List V} (e:H a=some (.tup xs)):TyOf K H (.ref a) (.type "tuple")
 |dK {a:Addr} {kvs:List (Key × V)} (e:H a=some (.dK kvs)):TyOf K H (.ref a) (.type "dict")
 |dT {a:Addr} {kvs:List (List Key × V)} (e:H a=some (.dT kvs)):TyOf K H (.ref a) (.type "dict")
 |ins {a C dx:Addr} {fs:List (Str × V)} (e:H a=some (.ins C dx fs)) (cl:Cls K C) (ha:PySem.W.findIn K (.ref C) "__class__" = some (some (.builtin "object.__class__")))
   (hn:PySem.W.specialIn K (.builtin "object.__class__") "__get__" = some (some (.builtin "getset_descriptor.__get__"))) (htk:PySem.W.takesIn K (.builtin "object.__class__")=some true)
   (hm:PySem.W.mroIn K C (.type "object")=some true):TyOf K H (.ref a) (.ref C)
end
structure Room (k:Nat) (A:Around):Prop where
 hd:A.handled=none
 dp:A.depth+3*k+5<recursionLimit
 un:A.units+16*k+200<cLine
theorem Room.mono{k:Nat}(r:Room k A)(h:j<=k):Room j A:=⟨r.hd,by have:=r.dp;omega,by have:=r.un;omega⟩
theorem Room.deeper{k:Nat}(r:Room (k+1) A)(env:Env):Room k (A.deeper env):=
 ⟨r.hd,by have:=r.dp;show A.depth+1+3*k+5<_;omega,by have:=r.un;show A.units+3+16*k+200<_;omega⟩
theorem Room.in1{k:Nat}(r:Room (k+1) A):Room k A.in1:=
 ⟨r.hd,by have:=r.dp;show A.depth+3*k+5<_;omega,by have:=r.un;show A.units+1+16*k+200<_;omega⟩
theorem zlb:(A.under (.builtin "type.__call__" ⟨.ref C::us,kw⟩)).depth=A.depth+1:=by first | rfl | simp[Around.under,Code.weight,Code.isCreation,Code.isGuard,Code.isCaller,Code.frames,Code.isFrame,guardIds]
theorem zla:(A.under (.builtin "type.__call__" ⟨.ref C::us,kw⟩)).units=A.units+1:=by first | rfl | simp[Around.under,Code.cUnits,Code.frames,Code.isFrame]
theorem Room.make{k:Nat}(r:Room (k+1) A)(C:Addr)(us:List Value)(kw:List (Str × Value)):Room k (A.under (.builtin "type.__call__" ⟨.ref C::us,kw⟩)):=
 ⟨r.hd,by have:=r.dp;rw[zlb];omega,by have:=r.un;rw[zla];omega⟩
theorem Room.depth{k:Nat}(r:Room k A):A.depth<recursionLimit:=by have:=r.dp;omega
theorem Room.units{k:Nat}(r:Room k A):A.units+64<cLine:=by have:=r.un;omega
theorem Room.units0{k:Nat}(r:Room k A):A.units<cLine:=by have:=r.un;omega
noncomputable def zsN:TA:=fun _ H Q=>Q [] H
noncomputable def zrP(ta:TE)(tr:TA):TA:=fun σ H Q=>ta σ H fun x H1=>tr σ H1 fun xs H2=>Q (x::xs) H2
section
variable {t:TA}
def zgN:PA X [] zsN:=fun _ _ _ _ H Q I h=>Calls.spliced_nil ⟨[],H,I,.nil,h⟩
theorem zbX(ha:PE X e te)(hr:PA X es t)(hs:starEach (e::es) X.env=(false,eval e X.env)::starEach es X.env:=by rfl):PA X (e::es) (zrP te t):=by intro pos ρ s σ H Q I h;rw[hs];show wpAny _ _ (spliced ((false,eval e X.env)::backTo pos (starEach es X.env))) _ _ s;refine Calls.spliced_cons (thn (ha ρ s σ H _ I h) fun u s1 ⟨x,H1,I1,r1,q1⟩=>?_);exact thn (hr pos ρ s1 σ H1 _ I1 q1) fun us s2 ⟨xs,H2,I2,r2,q2⟩=>⟨x::xs,H2,I2,.cons r1 r2,q2⟩
noncomputable def zsI(t:TA):TE:=fun σ H Q=>t σ H fun xs H1=>xs.length<=sizeLine/\∀p,H1 p=none->Q (.ref p) (upd H1 p (.tup xs))
noncomputable def zsO(t:TA):TE:=fun σ H Q=>t σ H fun xs H1=>xs.length<=sizeLine/\∀p,H1 p=none->Q (.ref p) (upd H1 p (.lst xs))
theorem zlP{x1}(h:PA X es t):PE X (.Tuple es x1 pos) (zsI t):=by intro ρ s σ H Q I hq;refine wpAny_Tuple_spliced (thn (h pos ρ s σ H _ I hq) fun us s1 ⟨xs,H1,I1,r,z,q⟩=>⟨by rw[←r.length];exact z,?_⟩);have hf:H1 s1.heap.objs.size=none:=I1.hok.fresh (Q3 _);refine⟨.ref s1.heap.objs.size,upd H1 s1.heap.objs.size (.tup xs),I1.laid (t':=s1.toks) (fun b u e=>Q2 _ e) (Q3 _) ?_,rfl,q _ hf⟩;exact⟨z,us,r,⟨_,Ql _ rfl,rfl,_,rfl⟩,NoDict.new⟩
theorem zql(h:PA X es t):PE X (.List es pos) (zsO t):=by intro ρ s σ H Q I hq;refine wpAny_List_spliced (thn (h pos ρ s σ H _ I hq) fun us s1 ⟨xs,H1,I1,r,z,q⟩=>⟨by rw[←r.length];exact z,?_⟩);have hf:H1 s1.heap.objs.size=none:=I1.hok.fresh (Q3 _);refine⟨.ref s1.heap.objs.size,upd H1 s1.heap.objs.size (.lst xs),I1.laid (t':=s1.toks) (fun b u e=>Q2 _ e) (Q3 _) ?_,rfl,q _ hf⟩;exact⟨z,us,0,r,Ql _ rfl⟩
end
abbrev Sp:=List V->Hp->VK->XK->Prop
abbrev CXT:=List Env->Hp->Shared->XK->Value->Shared->Prop
structure Env0 (P:Program) (w:World) (K:Frag) (mg:Str->Option Value) (base:Heap) (A:Around) (outer:List Env) (s:Shared) (H:Hp):Prop where
 frames:A.frames=some outer
 mod:Mod K mg base
 bs:∀b o,base.get? b=some o->s.heap.get? b=some o/\H b=none
 bsz:base.objs.size<=s.heap.objs.size
 funs:s.heap.FunFrames base outer
 frf:∀b ∈ frs outer,H b=none
 hok:HOk P w H s.heap
 bare:AllBare s.gens
def CE(outer:List Env)(P:Program)(w:World)(H:Hp)(s:Shared)(Q:VK)(u:Value)(s':Shared):Prop:=
 ∃v H',s'.os=s.os/\AllBare s'.gens/\Un (frs outer) [] H H' s.heap s'.heap/\HOk P w H' s'.heap/\RelV v u/\Q v H'
def CR(CX:CXT)(outer:List Env)(P:Program)(w:World)(H:Hp)(s:Shared)(Q:VK)(E:XK)(r:Result)(s':Shared):Prop:=
 match r with
 |.ok (.ret u)=>CE outer P w H s Q u s'|.ok _=>False|.error e=>CX outer H s E e s'
structure FnOk (P:Program) (w:World) (K:Frag) (mg:Str->Option Value) (base:Heap) (CX:CXT) (k:Nat) (f:Addr) (fd:FuncData) (ps:List Str) (sp:Sp):Prop where
 len:∀vs H Q E,sp vs H Q E->vs.length=ps.length
 run:∀(A:Around) (outer:List Env) (s:Shared) (H:Hp) (args:Args) (us:List Value) (vs:List V) (Q:VK) (E:XK),Room k A->Env0 P w K mg base A outer s H->BindsTo s fd args (ps.zip us)->Vals vs us->sp vs H Q E->
  codeAny (model P w) A (.call (.ref f) args) (CR CX outer P w H s Q E) s
variable {CX:CXT}{fd:FuncData}{base:Heap}{ps:List Str}{sp:Sp}{mg:Str->Option Value}
theorem FnOk.mono{k:Nat}{f:Addr}(F:FnOk P w K mg base CX j f fd ps sp)(h:j<=k) :
  FnOk P w K mg base CX k f fd ps sp:=⟨F.len,fun A outer s H args us vs Q E hr=>F.run A outer s H args us vs Q E (hr.mono h)⟩
variable {outer:List Env}
theorem Env0.make(e:Env0 P w K mg base A outer s H)(C:Addr)(us:List Value)(kw:List (Str × Value)) :
  Env0 P w K mg base (A.under (.builtin "type.__call__" ⟨.ref C::us,kw⟩)) outer s H:=⟨by first | exact e.frames | (simpa[Around.under,Code.envs,Code.isFrame,pushEnvs]using e.frames),e.mod,e.bs,e.bsz,e.funs,e.frf,e.hok,e.bare⟩
section
theorem Inv.env0(I:Inv X ρ σ H s):Env0 X.prog X.w X.K X.mg X.base X.A X.stack s H:=
 ⟨I.ok.frames,I.ok.mod,I.bs,Qj I.ok.bsz I.sz,I.stack,I.stkFree,I.hok,I.bare⟩
theorem Inv.after{Q:VK}(I:Inv X ρ σ H s)(h:CE X.stack X.prog X.w H s Q u s'):EP X ρ σ Q u s':=by obtain⟨v,H',os,bare,un,hok,r,q⟩:=h;obtain⟨hh,g,d,t,os'⟩:=s';obtain rfl:os'=s.os:=os;exact⟨v,H',I.call (h':=hh) (g':=g) (d':=d) (t':=t) (ch:=[]) un hok bare (fun b z=>absurd z (by simp)),r,q⟩
end
noncomputable def znQ(sp:Sp)(dvs:List V)(E:XK)(t:TA):TE:=fun σ H Q=>t σ H fun vs H1=>sp (vs++dvs) H1 Q E
noncomputable def zrN(C:Addr)(sp:Sp)(dvs:List V)(E:XK)(t:TA):TE:=fun σ H Q=>t σ H fun vs H1=>∀x dx,H1 x=none->H1 dx=none->dx ≠ x->
 sp (.ref x::(vs++dvs)) (upd (upd H1 dx (.own x)) x (.ins C dx [])) (fun v H2=>v = .non/\Q (.ref x) H2) E
def Binds(K:Frag)(fd:FuncData)(ps:List Str)(ds:List Value):Prop:=
 ∀(s:Shared) (us:List Value),K.In s.heap->(us++ds).length=ps.length->BindsTo s fd ⟨us,[]⟩ (ps.zip (us++ds))
theorem Binds.all(h:∀us:List Value,us.length=ps.length->bindArgs fd ⟨us,[]⟩=pure (ps.zip us)):Binds K fd ps []:=fun s us _ hl=>by rw[append_nil]at hl ⊢;exact .of_eq (h us hl)
def Passes(CX:CXT)(X:Cx)(E:XK):Prop:=∀(ρ:List (Addr × Obj)) (σ:St) (H:Hp) (s:Shared) (e:Value) (s':Shared),Inv X ρ σ H s->CX X.stack H s E e s'->X.xe e s'
variable {vs:List V}{apos:Pos}{m:Str}
section
variable {k:Nat}{f:Addr}{dvs:List V}{ds:List Value}{E:XK}{o:Expr}{t:TA}
theorem zpV{Q:VK}(F:FnOk X.prog X.w X.K X.mg X.base CX k f fd ps sp)(hr:Room k X.A)(hb:Binds X.K fd ps ds)(hd:Vals dvs ds)(hx:Passes CX X E)
 (I:Inv X ρ σ H s) (r:Vals vs us) (h:sp (vs++dvs) H Q E):wpAny (model X.prog X.w) X.A (call (.ref f) us) (EP X ρ σ Q) X.xe s:=by
 have r2:Vals (vs++dvs) (us++ds):=r.append hd;have hl:(us++ds).length=ps.length:=by rw[←r2.length];exact F.len _ _ _ _ h
 refine wpAny_call (codeAny_mono (F.run X.A X.stack s H ⟨us,[]⟩ (us++ds) (vs++dvs) Q E hr I.env0 (hb s us I.kIn hl) r2 h) fun r s' hq=>?_);cases r with
 |error e=>exact hx ρ σ H s e s' I hq|ok fl=>cases fl with|ret u=>exact I.after hq|next=>exact False.elim hq|brk=>exact False.elim hq|cont=>exact False.elim hq
theorem zkg(F:FnOk X.prog X.w X.K X.mg X.base CX k f fd ps sp)(hr:Room k X.A)(hg:Gl X x)(hm:X.mg x=some (.ref f))(hk:PySem.W.keepIn X.K (.ref f)=true)(hb:Binds X.K fd ps ds)(hd:Vals dvs ds)(hx:Passes CX X E)
  (ha:PA X (e::es) t) (hdb:(x==("__debug__":Str))=false:=by decide) (he:starEach (e::es) X.env=(false,eval e X.env)::starEach es X.env:=by rfl) (hpl:(backTo pos (starEach es X.env)).any (·.1)=false:=by rfl) :
  PE X (.Call (.Name x p) (e::es) [] pos) (znQ sp dvs E t):=by
 apply?;refine wpAny_Call_Name_kw (zc4 I hg hm ?_ hdb);refine PySem.W.callWith_K (h₀:=X.base) I.ok.mod.kin hk (thn (ha pos ρ s σ H _ I h) fun us s1 ⟨vs,H1,I1,r,q⟩=>⟨I1.kIn,?_⟩) he hpl;exact zpV F hr hb hd hx I1 r q
structure Mk (K:Frag) (C f:Addr):Prop where
 makes:PySem.W.makesIn K C=true
 init:PySem.W.findIn K (.ref C) "__init__" = some (some (.ref f))
 fn:PySem.W.isFn K (.ref f)=true
 kp:PySem.W.keepIn K (.ref C)=true
theorem zmV{Q:VK}(M:Mk X.K C f)(F:FnOk X.prog X.w X.K X.mg X.base CX k f fd ps sp)(hr:Room (k+1) X.A)(hb:Binds X.K fd ps ds)(hd:Vals dvs ds)
 (hx:Passes CX X E) (I:Inv X ρ σ H s) (r:Vals vs us)
 (h:∀x dx,H x=none->H dx=none->dx ≠ x->sp (.ref x::(vs++dvs)) (upd (upd H dx (.own x)) x (.ins C dx [])) (fun v H2=>v = .non/\Q (.ref x) H2) E) :
  wpAny (model X.prog X.w) X.A (call (.ref C) us) (EP X ρ σ Q) X.xe s:=by
 have hq:=h (s.heap.objs.size+1) s.heap.objs.size (I.hok.fresh (Nat.le_succ _)) (I.hok.fresh (Q3 _)) (Qk (Nat.lt_succ_self _));have I2:=Inv.made (C:=C) I;have r2:Vals (V.ref (s.heap.objs.size+1)::(vs++dvs)) (Value.ref (s.heap.objs.size+1)::(us++ds)):=.cons rfl (r.append hd);have hl:(Value.ref (s.heap.objs.size+1)::us++ds).length=ps.length:=by have e:=r2.length;rw[F.len _ _ _ _ hq]at e;exact e.symm
 refine wpAny_call (znf (f:=f) I.kIn M.makes M.init (beq_iff_eq.mp M.fn) (codeAny_mono (F.run _ X.stack _ _ ⟨Value.ref (s.heap.objs.size+1)::us,[]⟩ (Value.ref (s.heap.objs.size+1)::(us++ds)) _ _ E (hr.make C us [])
  (I2.env0.make C us []) (hb _ (Value.ref (s.heap.objs.size+1)::us) I2.kIn hl) r2 hq) fun r s' hq'=>?_))
 cases r with
 |error e=>exact hx ρ σ _ _ e s' I2 hq'|ok fl=>
  cases fl with
  |ret u=>obtain⟨v,H',I3,rv,ev,q3⟩:=I2.after hq';subst ev;exact⟨rv,⟨V.ref (s.heap.objs.size+1),H',I3,rfl,q3⟩⟩
  |next=>exact False.elim hq'|brk=>exact False.elim hq'|cont=>exact False.elim hq'
theorem zoB(M:Mk X.K C f)(F:FnOk X.prog X.w X.K X.mg X.base CX k f fd ps sp)(hr:Room (k+1) X.A)(hg:Gl X x)(hm:X.mg x=some (.ref C))(hb:Binds X.K fd ps ds)(hd:Vals dvs ds)(hx:Passes CX X E)
  (ha:PA X (e::es) t) (hdb:(x==("__debug__":Str))=false:=by decide) (he:starEach (e::es) X.env=(false,eval e X.env)::starEach es X.env:=by rfl) (hpl:(backTo pos (starEach es X.env)).any (·.1)=false:=by rfl) :
  PE X (.Call (.Name x p) (e::es) [] pos) (zrN C sp dvs E t):=by
 apply?;refine wpAny_Call_Name_kw (zc4 I hg hm ?_ hdb);refine PySem.W.callWith_K (h₀:=X.base) I.ok.mod.kin M.kp (thn (ha pos ρ s σ H _ I h) fun us s1 ⟨vs,H1,I1,r,q⟩=>⟨I1.kIn,?_⟩) he hpl;exact zmV M F hr hb hd hx I1 r q
end
section
variable {k:Nat}{f:Addr}{ks:List Str}{E:XK}{kpos:Pos}{o:Expr}{kws:List Keyword}{t tk:TA}{nm:Option Str}
structure KBinds (K:Frag) (fd:FuncData) (ps ks:List Str) (g:List Value->List Value->List Value) (gV:List V->List V->List V):Prop where
 to:∀(s:Shared) (us ws:List Value),K.In s.heap->(g us ws).length=ps.length->BindsTo s fd ⟨us,ks.zip ws⟩ (ps.zip (g us ws))
 rel:∀{vs:List V} {us:List Value} {zs:List V} {ws:List Value},Vals vs us->Vals zs ws->Vals (gV vs zs) (g us ws)
end
structure FnScope (N P:List Str) (sc:Scope):Prop where
 kind:sc.kind = .function
 co:sc.isCoroutine=false
 gen:sc.isGenerator=false
 nd:N.Nodup
 pre:N.take P.length=P
 par:∀x ∈ P,sc.names.lookup x=some .local\/sc.names.lookup x=some .cell
 nofree:∀y ∈ sc.names,y.2 ≠ .free
theorem zie{kindOf:Str->Option NameKind}{x:Str}:∀{binds:List (Str × Value)} {m:Str->Option Value},(∀v,(x,v) ∉ binds)->bindL kindOf binds m x=m x
 |[],_,_=>rfl|(n,v)::r,m,h=>by
  unfold bindL;rw[zie fun w hw=>h w (mem_cons_of_mem _ hw)];split
  ·have:x ≠ n:=by rintro rfl;exact h v mem_cons_self
   simp[this]
  ·rfl
theorem zig{kindOf:Str->Option NameKind}{x:Str}:∀{binds:List (Str × Value)} {m:Str->Option Value},(∀v,(x,v) ∉ binds)->bindC kindOf binds m x=m x
 |[],_,_=>rfl|(n,v)::r,m,h=>by
  unfold bindC;rw[zig fun w hw=>h w (mem_cons_of_mem _ hw)];split
  ·rfl
  ·have:x ≠ n:=by rintro rfl;exact h v mem_cons_self
   simp[this]
theorem zif{kindOf:Str->Option NameKind}{x:Str}{v:Value}:∀{P:List Str} {vs:List Value} {i:Nat} {m:Str->Option Value},P.Nodup->P[i]? = some x->vs[i]? = some v->kindOf x=some .local->
  bindL kindOf (P.zip vs) m x=some v
 |[],_,_,_,_,h,_,_=>by simp at h|_::_,[],_,_,_,_,h,_=>by simp at h|p::P,w::vs,0,m,nd,h1,h2,hk=>by
  simp at h1 h2;subst h1;subst h2
  show bindL kindOf ((p,w)::P.zip vs) m p=_;unfold bindL;rw[zie fun v hv=>(nodup_cons.mp nd).1 (of_mem_zip hv).1,Qz hk];simp
 |p::P,w::vs,i+1,m,nd,h1,h2,hk=>by show bindL kindOf ((p,w)::P.zip vs) m x=_;unfold bindL;exact zif (i:=i) (nodup_cons.mp nd).2 (by simpa using h1) (by simpa using h2) hk
theorem zih{kindOf:Str->Option NameKind}{x:Str}{v:Value}:∀{P:List Str} {vs:List Value} {i:Nat} {m:Str->Option Value},P.Nodup->P[i]? = some x->vs[i]? = some v->kindOf x ≠ some .local->
  bindC kindOf (P.zip vs) m x=some v
 |[],_,_,_,_,h,_,_=>by simp at h|_::_,[],_,_,_,_,h,_=>by simp at h|p::P,w::vs,0,m,nd,h1,h2,hk=>by
  simp at h1 h2;subst h1;subst h2
  show bindC kindOf ((p,w)::P.zip vs) m p=_;unfold bindC;rw[zig fun v hv=>(nodup_cons.mp nd).1 (of_mem_zip hv).1,QA hk];simp
 |p::P,w::vs,i+1,m,nd,h1,h2,hk=>by show bindC kindOf ((p,w)::P.zip vs) m x=_;unfold bindC;exact zih (i:=i) (nodup_cons.mp nd).2 (by simpa using h1) (by simpa using h2) hk
noncomputable def start(N:List Str)(vs:List V):St:=vs.map some++List.replicate (N.length-vs.length) none
noncomputable def zbS(CX:CXT)(P:Program)(w:World)(K:Frag)(mg:Str->Option Value)(base:Heap)(N:List Str)(qual:Str)(scope:Scope)(f:Addr)(cd:Value)(A:Around)(outer:List Env)(s:Shared)(H:Hp)(E:XK):Cx where
 prog:=P
 w:=w
 K:=K
 mg:=mg
 base:=base
 A:=A.deeper (envOfC qual scope s.heap.objs.size f cd)
 N:=N
 s₀:=s
 H₀:=H
 env:=envOfC qual scope s.heap.objs.size f cd
 outer:=outer
 stack:=envOfC qual scope s.heap.objs.size f cd::outer
 ex:=[]
 calm:=true
 fn:=fun _=>true
 pn:=[]
 xe:=fun e s'=>wpAny (model P w) (A.deeper (envOfC qual scope s.heap.objs.size f cd)) (leaving (envOfC qual scope s.heap.objs.size f cd) e) (fun _ s''=>CX outer H s E e s'') (fun e' s''=>CX outer H s E e' s'') s'
theorem zjt{sc:Scope}(h:sc.names.lookup x=some .cell):∃c,(cellsFrom n sc.names []).lookup x=some c:=by have q:=PySem.W.cellsFrom_some sc.names n [] (.inl h);exact Option.isSome_iff_exists.mp q
variable {scope:Scope}{qual:Str}
theorem zl6{f:Addr}{cd:Value}{s1:Shared}{E:XK} 
 (S:FnScope N ps scope) (hd:A.handled=none) (e0:Env0 P w K mg base A outer s H) (hl:vs.length=ps.length) (r:Vals vs us)
 (x:InCallC s s.heap.objs.size (bindL (envOfC qual scope s.heap.objs.size f cd).kindOf (ps.zip us) fun _=>none) (cellsFrom (s.heap.objs.size+1) scope.names []) (bindC (envOfC qual scope s.heap.objs.size f cd).kindOf (ps.zip us) fun _=>none) s1) :
  Inv (zbS CX P w K mg base N qual scope f cd A outer s H E) [] (start N vs) H s1:=by
 have hpl:ps.length<=N.length:=by have:=congrArg List.length S.pre;rw[Qr]at this;omega
 obtain⟨h1,tk,rfl,hk⟩:=x.done;have noA:∀b:Addr,b ∉ (zbS CX P w K mg base N qual scope f cd A outer s H E).ex:=fun b z=>absurd (show b ∈ ([]:List Addr)from z) (by simp);refine⟨⟨e0.mod,S.kind,rfl,rfl,Q3 _,fun y z c h1 h2=>?_,fun y hy=>?_,fun y c _ h=>?_,fun _=>hd,Around.frames_deeper e0.frames,.inr ⟨rfl,rfl⟩,fun b z=>absurd z (noA b),e0.bs,e0.bsz,fun b _ _=>noA b,fun b z=>absurd z (noA b),e0.funs,e0.frf⟩,
  rfl,e0.bare,Un.kept hk,⟨_,x.toInCall.ns,fun i y v h1 h2 h3=>?_⟩,fun y c h=>⟨_,x.cell y c h⟩,e0.hok.fresh (Q3 _),fun y c h=>?_,fun p hp=>absurd (show p ∈ ([]:List (Addr × Obj))from hp) (by simp),e0.hok.kept hk,?_⟩
 ·exact name_of_addr x.apart (PySem.mem_of_lookup h1) (PySem.mem_of_lookup h2)
 ·have hy:scope.names.lookup y=some .cell\/scope.names.lookup y=some .free:=hy;rcases hy with hy | hy
  ·exact zjt hy
  ·exact absurd rfl (S.nofree _ (PySem.mem_of_lookup hy))
 ·exact Nat.le_of_lt (x.above y c (PySem.mem_of_lookup h))
 ·have hi:i<vs.length:=by
   unfold start at h2
   by_cases hi:i<vs.length
   ·exact hi
   ·rw[Q8 (by simpa using hi)]at h2;rw[List.getElem?_replicate]at h2;split at h2<;>cases h2
  have ha:vs[i]? = some v:=by unfold start at h2;rw[Q6 (by simpa using hi),Qb]at h2;cases e:vs[i]? with|none=>rw[e]at h2;cases h2|some a=>rw[e]at h2;cases h2;rfl
  obtain⟨u,hu,rv⟩:=r.get ha;have hp:ps[i]? = some y:=by rw[←S.pre,List.getElem?_take_of_lt ⋯];exact h1
  have ndP:ps.Nodup:=by rw[←S.pre];exact S.nd.sublist (List.take_sublist _ _)
  refine⟨u,rv,?_⟩;rcases S.par y (Qa hp)with k | k
  ·exact .inl ⟨k,zif ndP hp hu k⟩
  ·obtain⟨c,e⟩:=zjt (n:=s.heap.objs.size+1) k;refine .inr ⟨.inl k,c,e,?_⟩;have q:=x.cell y c e;rw[zih ndP hp hu (by show scope.names.lookup y ≠ _;rw[k];decide)]at q;exact q
 ·exact e0.hok.fresh (Nat.le_of_lt (x.above y c (PySem.mem_of_lookup h)))
 ·unfold start;show _=N.length;rw[Qn,Qh,length_replicate];omega
theorem znZ{k:Nat}{f:Addr}{params:Arguments}{dV kV doc pm cdv ct oc:Value}{an od:Option Addr}
 {osl:Array (Option Value)} (lk:K.lookup f=some ⟨oc,od,.func (PySem.W.fnOf name qual params body scope dV kV doc pm an cdv ct),osl⟩) (hcd:PySem.W.codeIn K cdv qual=true) (S:FnScope N ps scope)
 (len:∀vs H Q E,sp vs H Q E->vs.length=ps.length)
 (hbody:∀(A:Around) (outer:List Env) (s:Shared) (H:Hp) (vs:List V) (Q:VK) (E:XK),Room k (A.deeper (envOfC qual scope s.heap.objs.size f cdv))->sp vs H Q E->
 ∃t,PSs (zbS CX P w K mg base N qual scope f cdv A outer s H E) body t/\t { nx:=fun _ H'=>Q .non H',rt:=Q } (start N vs) H) :
  FnOk P w K mg base CX (k+1) f (PySem.W.fnOf name qual params body scope dV kV doc pm an cdv ct) ps sp:=by
 refine⟨len,fun A outer s H args us vs Q E hr e0 hb r hsp=>?_⟩;have hl:=len _ _ _ _ hsp;have KX:K.In s.heap:=e0.mod.kin.keeps fun b o e=>(e0.bs b o e).1;have lim:s.heap.NoLimit:=e0.mod.nolimit.keeps fun b o e=>(e0.bs b o e).1;have hkind:∀y ∈ ps.zip us,scope.names.lookup y.1=some .local\/(scope.names.lookup y.1=some .cell/\((cellsFrom (s.heap.objs.size+1) scope.names []).lookup y.1).isSome=true):=fun ⟨n,v⟩ hy=>by
  rcases S.par n (of_mem_zip hy).1 with q | q
  ·exact .inl q
  ·exact .inr ⟨q,PySem.W.cellsFrom_some _ _ _ (.inl q)⟩
 refine codeAny_call_function hr.depth (KX _ _ lk) rfl S.co S.gen rfl (PySem.W.codeRec_of KX hcd) (hb _ _ _ _ ?_);refine wpAny_newFunctionEnv_cells S.kind hkind fun env he s1 x=>?_;subst he;refine⟨lim.keeps x.toInCall.keep,codeAny_func ?_⟩;obtain⟨t,ht,hq⟩:=hbody A outer s H vs Q E (hr.deeper _) hsp;have I:Inv (zbS CX P w K mg base N qual scope f cdv A outer s H E) [] (start N vs) H s1:=zl6 S hr.hd e0 hl r x;refine Qg (ht [] s1 (start N vs) H _ I hq) (fun fl s' hs=>?_) fun e s' hs=>hs;have ξ:∀{σ':St} {H':Hp} {v:V} {u:Value},Inv (zbS CX P w K mg base N qual scope f cdv A outer s H E) [] σ' H' s'->RelV v u->Q v H'->CE outer P w H s Q u s':=
  fun {σ' H' v u} J rv q=>⟨v,H',J.os,J.bare,J.base,J.hok,rv,q⟩
 cases fl with
 |ret u=>obtain⟨v,σ',H',J,rv,q⟩:=hs;exact ξ J rv q
 |next=>obtain⟨σ',H',J,q⟩:=hs;exact ξ (v:=V.non) (u:=Value.none) J rfl q
 |brk=>obtain⟨_,_,_,q⟩:=hs;exact False.elim q
 |cont=>obtain⟨_,_,_,q⟩:=hs;exact False.elim q
section
variable {t:TA}{id T:String}{r:List V->Hp->VK->Prop}
noncomputable def tCB(r:List V->Hp->VK->Prop)(t:TA):TE:=fun σ H Q=>t σ H fun vs H1=>r vs H1 Q
theorem zgf(hc:CallR X (.builtin id) r)(hg:Gl X x)(hm:X.mg x=none)(hv:bootBuiltins x=some (.builtin id))(ha:PA X (e::es) t)(hn:x ≠ "__name__":=by decide)(hdb:(x==("__debug__":Str))=false:=by decide)
  (he:starEach (e::es) X.env=(false,eval e X.env)::starEach es X.env:=by rfl) (hpl:(backTo pos (starEach es X.env)).any (·.1)=false:=by rfl):PE X (.Call (.Name x p) (e::es) [] pos) (tCB r t):=by
 apply?;refine wpAny_Call_Name_kw (zfa I hg hm hv ?_ hn hdb);exact PyProof.Rows.callWith_builtin1 (thn (ha pos ρ s σ H _ I h) fun us s1 ⟨vs,H1,I1,r1,q1⟩=>hc ρ s1 σ H1 vs us Q I1 r1 q1) he hpl
theorem zhX(hc:CallR X (.type T) r)(hg:Gl X x)(hm:X.mg x=none)(hv:bootBuiltins x=some (.type T))(ha:PA X (e::es) t)(hn:x ≠ "__name__":=by decide)(hdb:(x==("__debug__":Str))=false:=by decide)
  (he:starEach (e::es) X.env=(false,eval e X.env)::starEach es X.env:=by rfl) (hpl:(backTo pos (starEach es X.env)).any (·.1)=false:=by rfl):PE X (.Call (.Name x p) (e::es) [] pos) (tCB r t):=by
 apply?;refine wpAny_Call_Name_kw (zfa I hg hm hv ?_ hn hdb);exact PyProof.Rows.callWith_type1 (thn (ha pos ρ s σ H _ I h) fun us s1 ⟨vs,H1,I1,r1,q1⟩=>hc ρ s1 σ H1 vs us Q I1 r1 q1) he hpl
end
end L2
namespace HT
open PySem PyProof.Rows
variable {sl t:Addr}{vl vu:Value}{Q:Value->Shared->Prop}
section
variable {prog:Program}{w:World}{A:Around}{E:Value->Shared->Prop}{s:Shared}
theorem zpy{b:Addr}{vs ws:List Value}(ht:IsTup s.heap t vs.toArray)(hb:IsTup s.heap b ws.toArray)(hv:vs ≠ [])
 (h1:ws=[]->Q (.ref t) s) (h2:ws ≠ []->Q (.ref s.heap.objs.size) { s with heap:=s.heap.push { cls:=.type "tuple",data:=.seq (vs++ws).toArray } })
 (hsz:vs.length+ws.length<=sizeLine):wpAny (model prog w) A (binaryOp .Add (.ref t) (.ref b)) Q E s:=by
 obtain⟨⟨cls,dd,data,sl⟩,ho,hc,n,hd⟩:=id ht;obtain⟨⟨cls2,dd2,data2,sl2⟩,ho2,hc2,n2,hd2⟩:=id hb;simp only at hc hd hc2 hd2;subst hc hd hc2 hd2;have e:vs.toArray++ws.toArray=(vs++ws).toArray:=by simp
 by_cases hw:ws=[]
 ·exact concat_meets ⟨_,ho,rfl⟩ ⟨_,ho2,rfl⟩ noFill_tuple_add seq_tuple_add PySem.F.slot_tuple_add PySem.F.entry_tuple_add (PySem.F.args_tuple_add_2 _ _)
   (tuple_addW1 t b vs.toArray ws.toArray n n2 dd dd2 sl sl2 (by simpa using hv) (by simp[hw])) ⟨ho,ho2,h1 hw⟩
 ·refine concat_meets ⟨_,ho,rfl⟩ ⟨_,ho2,rfl⟩ noFill_tuple_add seq_tuple_add PySem.F.slot_tuple_add PySem.F.entry_tuple_add (PySem.F.args_tuple_add_2 _ _)
   (tuple_addW2 t b vs.toArray ws.toArray n n2 dd dd2 sl sl2 (by simpa using hv) (by simpa using hw) (by rw[Qi,Qi];exact hsz)) ⟨ho,ho2,?_⟩
  rw[e];exact h2 hw
noncomputable def sIx(n d:Nat):Option Int->Nat
 |none=>d|some v=>if v<0 then(v+(n:Int)).toNat else min v.toNat n
def zmU(n d:Nat):sIx n d none=d:=rfl
theorem zhp(n d k:Nat):sIx n d (some (k:Int))=min k n:=by show(if(k:Int)<0 then((k:Int)+(n:Int)).toNat else min (k:Int).toNat n)=min k n;rw[QA ⋯,Int.toNat_natCast]
theorem zpU(n d:Nat)(hd:d<=n)(o:Option Int):sIx n d o<=n:=by
 cases o with
 |none=>exact hd|some v=>
  show(if v<0 then(v+(n:Int)).toNat else min v.toNat n)<=n
  by_cases hv:v<0
  ·rw[Qz hv];omega
  ·rw[QA hv];exact Nat.min_le_right _ _
theorem zkF(v:Int)(n d:Nat):(if v<0 then max (v+(n:Int)) 0 else min v (n:Int))=((sIx n d (some v):Nat):Int):=by
 show(if v<0 then max (v+(n:Int)) 0 else min v (n:Int))=(((if v<0 then(v+(n:Int)).toNat else min v.toNat n):Nat):Int)
 by_cases hv:v<0
 ·simp only[Qz hv];omega
 ·simp only[QA hv];omega
theorem zlr(lo hi:Option Int)(n:Nat):Builtin.Slice.sliceAdjust lo hi 1 (n:Int)=(((sIx n 0 lo:Nat):Int),((sIx n n hi:Nat):Int)):=by
 have h1:¬((1:Int)<0):=by omega
 unfold Builtin.Slice.sliceAdjust;simp only[h1,if_false];refine Prod.ext ?_ ?_
 ·cases lo with|none=>rfl|some v=>exact zkF v n 0
 ·cases hi with|none=>rfl|some v=>exact zkF v n n
theorem zk5(i j:Nat):Builtin.Slice.slicePlaces (i:Int) (j:Int) 1=j-i:=by
 unfold Builtin.Slice.slicePlaces;have h1:(1:Int) > 0:=by omega
 simp only[h1,if_true,Int.ediv_one];split<;>omega
theorem zgB{v:Value}{o:Option Int}{Q:Option Int->Shared->Prop}(p:IsPart v o)(h:Q o s):wpAny (model prog w) A (Builtin.Slice.slicePartIndex v) Q E s:=by cases p with|none=>exact slicePart_none h|int i t=>exact slicePart_int h
theorem zdb{lo hi:Option Int}{n:Nat}{Q:Int × Int × Nat->Shared->Prop}(hs:s.heap.IsSliceOf sl vl vu .none)(pl:IsPart vl lo)(pu:IsPart vu hi)
 (h:Q (((sIx n 0 lo:Nat):Int),1,sIx n n hi-sIx n 0 lo) s):wpAny (model prog w) A (Builtin.Slice.sliceApplied (.ref sl) (pure (n:Int))) Q E s:=by
 obtain⟨os,hos,hcs,hds⟩:=id hs;unfold Builtin.Slice.sliceApplied Builtin.Slice.sliceFields;refine Q1 (Q1 (wpAny_field hos hds (x:=vl) rfl (Q1 (wpAny_field hos hds (x:=vu) rfl (Q1 (wpAny_field hos hds (x:=.none) rfl (Qf ?_)))))));refine Q1 (slicePart_none ?_);show wpAny _ _ (if((1:Int)==0)=true then _ else _) _ _ s;rw[QA ∅];refine Q1 (zgB pl (Q1 (zgB pu (Q1 (Qf ?_)))));show wpAny _ _ (match Builtin.Slice.sliceAdjust lo hi 1 (n:Int)with | (lo,hi)=>pure (lo,(1:Int),Builtin.Slice.slicePlaces lo hi 1)) _ _ s;rw[zlr lo hi n];show wpAny _ _ (pure (((sIx n 0 lo:Nat):Int),(1:Int),Builtin.Slice.slicePlaces ((sIx n 0 lo:Nat):Int) ((sIx n n hi:Nat):Int) 1)) _ _ s;rw[zk5];exact Qf h
theorem zm3(xs:Array Value)(i k:Nat):((List.range k).filterMap fun (m:Nat)=>xs[((i:Int)+(m:Int)*1).toNat]?).toArray=((xs.toList.drop i).take k).toArray:=by
 have e:(fun (m:Nat)=>xs[((i:Int)+(m:Int)*1).toNat]?)=fun m=>xs[i+m]?:=by
  funext m;have:((i:Int)+(m:Int)*1).toNat=i+m:=by omega
  rw[this]
 rw[e];have:=pick_run xs i k;rw[List.filterMap_map]at this;have e2:((fun x=>xs[x]?) ∘ fun x=>i+x)=fun m=>xs[i+m]?:=rfl;rw[e2]at this;rw[this]
theorem zfO{items:Array Value}{lo hi:Option Int}(ht:IsTup s.heap t items)(hs:s.heap.IsSliceOf sl vl vu .none)(pl:IsPart vl lo)(pu:IsPart vu hi)
 (hw:¬(sIx items.size 0 lo=0/\sIx items.size items.size hi=items.size))
 (h:Q (.ref s.heap.objs.size) { s with heap:=s.heap.push { cls:=.type "tuple",data:=.seq ((items.toList.drop (sIx items.size 0 lo)).take (sIx items.size items.size hi-sIx items.size 0 lo)).toArray } })
 (hsz:items.size<=sizeLine):wpAny (model prog w) A (getItem (.ref t) (.ref sl)) Q E s:=by
 have htake:sizeOk (.seq ((items.toList.drop (sIx items.size 0 lo)).take (sIx items.size items.size hi-sIx items.size 0 lo)).toArray):=by show((items.toList.drop (sIx items.size 0 lo)).take (sIx items.size items.size hi-sIx items.size 0 lo)).toArray.size<=sizeLine;rw[Qi,Qr,length_drop,Array.length_toList];omega
 have hj:sIx items.size items.size hi<=items.size:=zpU _ _ (Q3 _) hi;obtain⟨os,hos,hcs,hds⟩:=id hs;have hTs:s.TypeIs (.ref sl) "slice":=⟨os,hos,hcs⟩;unfold getItem
 try with_reducible refine wpAny_holding ?_
 first | refine Q1 (Qf ?_) | skip
 refine Q1 (wpAny_sequenceKey ht.typeIs ∅ ?_);refine Q1 (wpAny_callSpecial?_slot (name:=Str.ofString "__getitem__") ht.typeIs PyProof.Rows.slot_tuple_getitem
  (wpAny_call_entry PyProof.Rows.slot_tuple_getitem ht.typeIs entry_tuple_getitem ?_ (args_tuple_getitem _ _)))
 show wpAny _ _ (Builtin.Tuple.tupleItemsOf (.ref t) >>= _) _ _ s;refine Q1 (tupleItemsOf_ ht ?_);refine Q1 (wpAny_typeOf hTs ?_);rw[Qz ∅];refine Q1 (zdb hs pl pu ?_);have hno:¬((((sIx items.size 0 lo:Nat):Int)==0 && (1:Int)==1 && (sIx items.size items.size hi-sIx items.size 0 lo)==items.size)=true):=by intro q;rw[Qs,Qs]at q;have q1:((sIx items.size 0 lo:Nat):Int)=0:=eq_of_beq q.1.1;have q2:sIx items.size items.size hi-sIx items.size 0 lo=items.size:=eq_of_beq q.2;exact hw ⟨⋯,⋯⟩
 show wpAny _ _ (if(((sIx items.size 0 lo:Nat):Int)==0 && (1:Int)==1 && (sIx items.size items.size hi-sIx items.size 0 lo)==items.size)=true then _ else _) _ _ s;rw[QA hno,zm3]
 first
  |exact Q1 (m:=Builtin.Tuple.tupleExact _) (Qu (Qf ⟨_,rfl,Qf h⟩) htake)
  |exact Q1 (m:=Builtin.Tuple.tupleExact _) (Qu (Q1 (Qf (Qf ⟨_,rfl,Qf h⟩))) htake)
  |exact Q1 (Q1 (m:=Builtin.Tuple.tupleExact _) (Qu (Qf (Qf ⟨_,rfl,Qf h⟩)) htake))
  |exact Q1 (Q1 (m:=Builtin.Tuple.tupleExact _) (Qu (Qf ⟨_,rfl,Qf h⟩) htake))
end
end HT
namespace L2
open PySem PySem.Spec PyProof.Rows
abbrev TO:=St->Hp->(Option Int->Hp->Prop)->Prop
def PO(X:Cx)(e:Option Expr)(t:TO):Prop:=
 ∀(ρ:List (Addr × Obj)) (s:Shared) (σ:St) (H:Hp) (Q:Option Int->Hp->Prop),Inv X ρ σ H s->t σ H Q->
  wpAny (model X.prog X.w) X.A (evalPart e X.env) (fun u s'=>∃o H',Inv X ρ σ H' s'/\IsPart u o/\Q o H') X.xe s
noncomputable def zod:TO:=fun _ H Q=>Q none H
noncomputable def zrK(t:TE):TO:=fun σ H Q=>t σ H fun x H1=>∃i,x = .int i/\Q (some i) H1
variable {X:Cx}{e:Expr}{xs:List V}{pos:Pos}
section
variable {te:TE}{lo hi:Option Expr}{tl th:TO}{p2:Pos}
theorem zoy:PO X none zod:=by apply?;rw[evalPart_none];exact Qf ⟨none,H,I,.none,h⟩
theorem zox(h:PE X e te):PO X (some e) (zrK te):=by intro ρ s σ H Q I hw;rw[evalPart_some];refine thn (h ρ s σ H _ I hw) fun u s1 ⟨x,H1,I1,r1,q1⟩=>?_;obtain⟨i,rfl,q⟩:=q1;obtain⟨t,rfl⟩:=r1;exact⟨some i,H1,I1,.int i t,q⟩
def SlR(X:Cx)(r:V->Option Int->Option Int->Hp->VK->Prop):Prop:=
 ∀(ρ:List (Addr × Obj)) (s:Shared) (σ:St) (H:Hp) (x:V) (v vl vu:Value) (lo hi:Option Int) (sl:Addr) (Q:VK),Inv X ρ σ H s->RelV x v->s.heap.IsSliceOf sl vl vu .none->IsPart vl lo->IsPart vu hi->r x lo hi H Q->
  ∃T id,typeLookup (.type T) "__getitem__" = pure (some (.builtin id))/\s.TypeIs v T/\wpAny (model X.prog X.w) X.A (getItem v (.ref sl)) (EP X ρ σ Q) X.xe s
noncomputable def tSl(r:V->Option Int->Option Int->Hp->VK->Prop)(te:TE)(tl th:TO):TE:=fun σ H Q=>te σ H fun x H1=>tl σ H1 fun l H2=>th σ H2 fun u H3=>r x l u H3 Q
theorem zm5{r:V->Option Int->Option Int->Hp->VK->Prop}(hr:SlR X r)(he:PE X e te)(hl:PO X lo tl)(hu:PO X hi th):PE X (.Subscript e (.Slice lo hi none p2) pos) (tSl r te tl th):=by apply?;refine Subscript_ (thn (he ρ s σ H _ I h) fun v s1 ⟨x,H1,I1,r1,q1⟩=>?_);refine wpAny_Slice (thn (hl ρ s1 σ H1 _ I1 q1) fun vl s2 ⟨l,H2,I2,pl,q2⟩=>thn (hu ρ s2 σ H2 _ I2 q2) fun vu s3 ⟨u,H3,I3,pu,q3⟩=>?_);rw[evalPart_none];refine Qf ?_;have I4:Inv X ρ σ H3 { s3 with heap:=s3.heap.push { cls:=.type "slice",data:=.fields #[vl,vu,.none] } }:=I3.kept (t':=s3.toks) fun b ob q=>Q2 _ q;obtain⟨T,id,hT,ht,hg⟩:=hr ρ { s3 with heap:=s3.heap.push { cls:=.type "slice",data:=.fields #[vl,vu,.none] } } σ H3 x v vl vu l u s3.heap.objs.size Q I4 r1 (Heap.IsSliceOf.new ..) pl pu q3;show wpAny (model X.prog X.w) X.A (subscriptTail e (.Slice lo hi none p2) v (.ref s3.heap.objs.size)) (EP X ρ σ Q) X.xe { s3 with heap:=s3.heap.push { cls:=.type "slice",data:=.fields #[vl,vu,.none] } };exact tail_any (ops:=[.ref s3.heap.objs.size,v]) ht hT hg (by with_unfolding_all rfl)
noncomputable def cutV(xs:List V)(lo hi:Option Int):List V:=(xs.drop (HT.sIx xs.length 0 lo)).take (HT.sIx xs.length xs.length hi-HT.sIx xs.length 0 lo)
theorem zf1(xs:List V)(lo hi:Option Int):(cutV xs lo hi).length<=xs.length:=by unfold cutV;rw[Qr,length_drop];omega
noncomputable def zsX(K:Frag):V->Option Int->Option Int->Hp->VK->Prop:=fun x lo hi H Q=>∃a xs,x = .ref a/\SqT K H a xs /\
 ¬(HT.sIx xs.length 0 lo=0/\HT.sIx xs.length xs.length hi=xs.length)/\∀p,H p=none->Q (.ref p) (upd H p (.tup (cutV xs lo hi)))
theorem zpS:SlR X (zsX X.K):=by
 intro ρ s σ H x v vl vu lo hi sl Q I rx hs pl pu h;obtain⟨a,xs,rfl,hx,hw,q⟩:=h;cases rx;obtain⟨its,r,ht,hz⟩:=I.tuple hx;have hlen:its.toArray.size=xs.length:=by rw[Qi];exact r.length.symm
 refine⟨"tuple",_,PyProof.Rows.slot_tuple_getitem.lookup,ht.typeIs,?_⟩;refine HT.zfO ht hs pl pu (by rw[hlen];exact hw) ?_ (by rw[hlen];exact hz);rw[hlen];refine⟨.ref s.heap.objs.size,_,I.laid (t':=s.toks) (o:=.tup (cutV xs lo hi)) (fun b ob q=>Q2 _ q) (Q3 _) ?_,rfl,q _ (I.hok.fresh (Q3 _))⟩;exact⟨Qj (zf1 xs lo hi) hz,_,(r.drop (HT.sIx xs.length 0 lo)).take (HT.sIx xs.length xs.length hi-HT.sIx xs.length 0 lo),IsTup.new _ _,NoDict.new⟩
noncomputable def zrX(K:Frag):R2:=fun x y H Q=>∃a b xs ys,x = .ref a/\y = .ref b/\SqT K H a xs/\SqT K H b ys/\xs ≠ []/\xs.length+ys.length<=sizeLine /\
 (ys=[]->Q (.ref a) H)/\(ys ≠ []->∀p,H p=none->Q (.ref p) (upd H p (.tup (xs++ys))))
theorem Vals.nil_iff{us:List Value}(r:Vals xs us):us=[] ↔ xs=[]:=by cases r with|nil=>simp|cons _ _=>simp
theorem zoI:OpR X (binaryOp .Add) (zrX X.K):=by
 infer_instance
 obtain⟨a,b,xs,ys,rfl,rfl,ha,hb,hx,hz,q1,q2⟩:=h;cases rx;cases ry;obtain⟨its,r1,p1,_⟩:=I.tuple ha;obtain⟨its2,r2,p2,_⟩:=I.tuple hb;refine HT.zpy p1 p2 (fun z=>hx (r1.nil_iff.mp z)) (fun z=>⟨.ref a,H,I,rfl,q1 (r2.nil_iff.mp z)⟩) (fun z=>?_) (by rw[←r1.length,←r2.length];exact hz);refine⟨.ref s.heap.objs.size,_,I.laid (t':=s.toks) (o:=.tup (xs++ys)) (fun b ob q=>Q2 _ q) (Q3 _) ?_,rfl,q2 (fun w=>z (r2.nil_iff.mpr w)) _ (I.hok.fresh (Q3 _))⟩;exact⟨by rw[Qn];exact hz,_,r1.append r2,IsTup.new _ _,NoDict.new⟩
end
noncomputable def ixN(n:Nat)(i:Int):Option Nat:=if 0<=i then(if i<n then some i.toNat else none)else if -(n:Int)<=i then some (i+n).toNat else none
noncomputable def atI{α:Type}(xs:List α)(i:Int):Option α:=(ixN xs.length i).bind fun j=>xs[j]?
variable {i:Int}{j n:Nat}
theorem zkt(h:ixN n i=some j):seqIndex? i n=some j/\j<n/\-(n:Int)<=i/\i<n:=by
 unfold ixN at h
 by_cases h0:0<=i
 ·rw[Qz h0]at h
  by_cases h1:i<n
  ·rw[Qz h1]at h;have e:i.toNat=j:=Qd h;exact⟨by rw[seqIndex_of h0 h1,e],⋯,⋯,h1⟩
  ·rw[QA h1]at h;cases h
 ·rw[QA h0]at h
  by_cases h1:-(n:Int)<=i
  ·rw[Qz h1]at h;have e:(i+n).toNat=j:=Qd h;exact⟨by rw[seqIndex_neg ⋯ h1,e],⋯,h1,⋯⟩
  ·rw[QA h1]at h;cases h
theorem zfM{α:Type}{xs:List α}{v:α}(h:atI xs i=some v):∃j,seqIndex? i xs.length=some j/\xs[j]? = some v/\j<xs.length/\-(xs.length:Int)<=i/\i<xs.length:=by
 unfold atI at h;cases e:ixN xs.length i with
 |none=>rw[e]at h;cases h|some j=>rw[e]at h;obtain⟨h1,h2,h3,h4⟩:=zkt e;exact⟨j,h1,h,h2,h3,h4⟩
theorem qX{α:Type}{xs:List α}{v:α}(h:xs[j]? = some v):atI xs (j:Int)=some v:=by
 have hj:j<xs.length:=(Qy.mp h).1;have e:ixN xs.length (j:Int)=some j:=by unfold ixN;rw[Qz ⋯,Qz ⋯];simp
 unfold atI;rw[e];exact h
def zhQ(b:Expr):Prop:=∀o i,subscripted b false o i=operate [o,i] (getItem o i)
def IxR(X:Cx)(r:R2):Prop:=
 ∀(value slice:Expr) (ρ:List (Addr × Obj)) (s:Shared) (σ:St) (H:Hp) (x y:V) (v u:Value) (Q:VK),Inv X ρ σ H s->RelV x v->RelV y u->r x y H Q->
  subscripted slice false v u=operate [v,u] (getItem v u)->wpAny (model X.prog X.w) X.A (subscriptTail value slice v u) (EP X ρ σ Q) X.xe s
def MtR(X:Cx)(id:String)(r:V->List V->Hp->VK->Prop):Prop:=
 ∀(ρ:List (Addr × Obj)) (s:Shared) (σ:St) (H:Hp) (x:V) (xs:List V) (v:Value) (us:List Value) (Q:VK),Inv X ρ σ H s->RelV x v->Vals xs us->r x xs H Q->
  wpAny (model X.prog X.w) X.A (call (.builtin id) (v::us)) (EP X ρ σ Q) X.xe s
variable {p:Addr}{H:Hp}{ρ:List (Addr × Obj)}{ys:List V}{its its':List Value}{s:Shared}{σ:St}{x y:V}{u:Value}
section
variable {a b:Expr}{ta tb:TE}
theorem IxR.or{r r':R2}(h:IxR X r)(h':IxR X r'):IxR X (fun x y H Q=>r x y H Q\/r' x y H Q):=by
 intro value slice ρ s σ H x y v u Q I rx ry q hs;rcases q with q | q
 ·exact h value slice ρ s σ H x y v u Q I rx ry q hs
 ·exact h' value slice ρ s σ H x y v u Q I rx ry q hs
theorem zr5{r:R2}(hr:IxR X r)(ha:PE X a ta)(hb:PE X b tb)(hs:zhQ b):PE X (.Subscript a b pos) (tOp r ta tb):=by apply?;exact Subscript_ (znL ha hb I h fun v u s2 x y H2 I2 rx ry q=>hr a b ρ s2 σ H2 x y v u Q I2 rx ry q (hs _ _))
noncomputable def zm0(K:Frag):R2:=fun x y H Q=>∃p xs i v,x = .ref p/\y = .int i/\SqL K H p xs/\atI xs i=some v/\Q v H
noncomputable def zpZ(K:Frag):R2:=fun x y H Q=>∃p xs i v,x = .ref p/\y = .int i/\SqT K H p xs/\atI xs i=some v/\Q v H
noncomputable def zp0:R2:=fun x y H Q=>∃z i c,x = .str z/\y = .int i/\z.length<=sizeLine/\atI z.cps.toList i=some c/\Q (.str ⟨#[c]⟩) H
theorem zo2:IxR X (zm0 X.K):=by
 intro value slice ρ s σ H x y v u Q I rx ry h hs;obtain⟨p,xs,i,z,rfl,rfl,hq,he,q⟩:=h;cases rx;obtain⟨t,rfl⟩:=ry;obtain⟨its,r,pl,hz⟩:=I.list hq;obtain⟨j,h1,h2,h3,h4,h5⟩:=zfM he;obtain⟨w,ew,rw'⟩:=r.get h2;have hl:=r.length;have hn:=zcB;have ξ:EP X ρ σ Q w s:=⟨z,H,I,rw',q⟩
 by_cases h0:0<=i
 ·have hj:i.toNat=j:=by rw[seqIndex_of h0 h5]at h1;exact Qd h1
  exact item_listR pl.isList h0 ⋯ (by rw[hj];simpa using ew) ξ hs
 ·have hj:(i+(its.toArray.size:Int)).toNat=j:=by rw[seqIndex_neg ⋯ h4]at h1;rw[Qi,←hl];exact Qd h1
  exact subscriptTail_builtinR (x:=w) pl.isList.typeIs slot_list_getitem.lookup
   (wpAny_getItem_list_neg (Q:=fun r s'=>r=w/\EP X ρ σ Q r s') pl.isList ⋯ (by rw[Qi]<;>omega) ⋯ (by rw[hj];simpa using ew) ⟨rfl,ξ⟩) hs
theorem zqR:IxR X (zpZ X.K):=by
 intro value slice ρ s σ H x y v u Q I rx ry h hs;obtain⟨p,xs,i,z,rfl,rfl,hq,he,q⟩:=h;cases rx;obtain⟨t,rfl⟩:=ry;obtain⟨its,r,pl,hz⟩:=I.tuple hq;obtain⟨j,h1,h2,h3,h4,h5⟩:=zfM he;obtain⟨w,ew,rw'⟩:=r.get h2;have hl:=r.length;have hn:=zcB;have ξ:EP X ρ σ Q w s:=⟨z,H,I,rw',q⟩;exact subscriptTail_builtinR (x:=w) pl.typeIs slot_tuple_getitem.lookup
  (getItem_tuple (j:=j) (Q:=fun r s'=>r=w/\EP X ρ σ Q r s') pl ⋯ ⋯ (by rw[Qi,←hl];exact h1) (by simpa using ew) ⟨rfl,ξ⟩) hs
theorem zqS:IxR X zp0:=by
 intro value slice ρ s σ H x y v u Q I rx ry h hs;obtain⟨z,i,c,rfl,rfl,hz,he,q⟩:=h;obtain⟨t,rfl⟩:=rx;obtain⟨t',rfl⟩:=ry;obtain⟨j,h1,h2,h3,h4,h5⟩:=zfM he;have hl:z.cps.toList.length=z.length:=by simp[Str.length]
 rw[hl]at h1 h4 h5;have hn:=zcB;exact tail_any (typeIs_str s z t) slot_str_getitem.lookup (getItem_str (c:=c) (by have e1:decide (i < -(2 ^ 63:Int))=false:=Qx ⋯;have e2:decide (i ≥ 2 ^ 63)=false:=Qx ⋯;rw[e1,e2,Bool.or_false]) (by rw[h1];simpa using h2) ⟨.str ⟨#[c]⟩,H,I.tok _,⟨_,rfl⟩,q⟩) hs
noncomputable def rIx(K:Frag):R2:=fun x y H Q=>zm0 K x y H Q\/zpZ K x y H Q\/zp0 x y H Q
def zqT:IxR X (rIx X.K):=zo2.or (zqR.or zqS)
theorem zk8(its:List Value)(n j:Nat)(u:Value):Obj.mapSeq (·.setIfInBounds j u) { cls:=.type "list",data:=.seq its.toArray n }={ cls:=.type "list",data:=.seq (its.set j u).toArray n }:=by simp[Obj.mapSeq]
theorem Inv.lst(I:Inv X ρ σ H s)(h:H p=some (.lst xs)) :
  ∃(its:List Value) (n:Nat),Vals xs its/\s.heap.get? p=some { cls:=.type "list",data:=.seq its.toArray n }/\xs.length<=sizeLine:=by
 obtain⟨z,its,n,r,e⟩:=I.hok p _ h;exact⟨its,n,r,e,z⟩
theorem Inv.lstUpd{n':Nat}{f:Obj->Obj}(I:Inv X ρ σ H s)(h:H p=some (.lst xs))
 (ho:s.heap.get? p=some { cls:=.type "list",data:=.seq its.toArray n }) (hf:f { cls:=.type "list",data:=.seq its.toArray n }={ cls:=.type "list",data:=.seq its'.toArray n' }) (r:Vals ys its') (hz:ys.length<=sizeLine) (t:Nat) :
  Inv X ρ σ (upd H p (.lst ys)) { s with heap:=s.heap.update p f,toks:=t }:=by
 have e:(s.heap.update p f).get? p=some { cls:=.type "list",data:=.seq its'.toArray n' }:=by rw[Heap.get?_update_self f ho (by rw[hf]<;>rfl),hf]
 refine I.write (x:=p) (e:=p) (by rw[h];trivial) (.inl rfl) (fun b u hb q=>(Heap.get?_update_other _ _ (Ne.symm hb)).trans q) ⟨_,e⟩ ?_;exact⟨hz,its',n',r,e⟩
noncomputable def zrU:V->V->V->Hp->(Hp->Prop)->Prop:=fun o i v H Q=>∃p xs k j,o = .ref p/\i = .int k/\H p=some (.lst xs)/\ixN xs.length k=some j/\Q (upd H p (.lst (xs.set j v)))
theorem set_list:zeP X zrU:=by
 intro ρ s σ H o i v ov iv u Q I ro ri rv h;obtain⟨p,xs,k,j,rfl,rfl,hp,hj,q⟩:=h;cases ro;obtain⟨t,rfl⟩:=ri;obtain⟨its,n,r,ho,hz⟩:=I.lst hp;obtain⟨h1,h2,h3,h4⟩:=zkt hj;have hl:=r.length;have hn:=zcB;have I':Inv X ρ σ (upd H p (.lst (xs.set j v))) { s with heap:=s.heap.update p (Obj.mapSeq (·.setIfInBounds j u)) }:=
  I.lstUpd hp ho (zk8 its n j u) (r.set rv j) (by rw[length_set];exact hz) s.toks
 by_cases h0:0<=k
 ·have hk:k.toNat=j:=by rw[seqIndex_of h0 h4]at h1;exact Qd h1
  exact PySem.W.ki_setAt ho h0 ⋯ (by rw[Qi,←hl];exact h4) (by rw[hk];exact⟨_,I',q⟩)
 ·have hk:(k+(its.toArray.size:Int)).toNat=j:=by rw[seqIndex_neg ⋯ h3]at h1;rw[Qi,←hl];exact Qd h1
  exact PySem.W.ki_setBack ho ⋯ (by rw[Qi,←hl];exact h3) ⋯ (by rw[hk];exact⟨_,I',q⟩)
theorem ziP(lo hi:Option Int)(n:Nat):(sliceBounds lo hi none n).1=((HT.sIx n 0 lo:Nat):Int)/\(sliceBounds lo hi none n).2.1=((HT.sIx n n hi:Nat):Int)/\(sliceBounds lo hi none n).2.2=1:=by
 refine⟨?_,?_,rfl⟩
 ·cases lo with
  |none=>simp[sliceBounds,HT.sIx]|some i=>
   simp only[sliceBounds,HT.sIx,Option.getD_none,show(1:Int) > 0 by decide,if_true]
   by_cases h:i<0
   ·simp only[h,if_true]<;>omega
   ·simp only[h,if_false]<;>omega
 ·cases hi with
  |none=>simp[sliceBounds,HT.sIx]|some i=>
   simp only[sliceBounds,HT.sIx,Option.getD_none,show(1:Int) > 0 by decide,if_true]
   by_cases h:i<0
   ·simp only[h,if_true]<;>omega
   ·simp only[h,if_false]<;>omega
theorem zil(its:List Value)(lo hi:Option Int):slicePick its.toArray lo hi none=((its.drop (HT.sIx its.length 0 lo)).take (HT.sIx its.length its.length hi-HT.sIx its.length 0 lo)).toArray:=by obtain⟨h1,h2,h3⟩:=ziP lo hi its.toArray.size;unfold slicePick;rw[h1,h2,h3];simp only[sliceRange_one,pick_run,Qi]<;>rfl
noncomputable def zsY(K:Frag):V->Option Int->Option Int->Hp->VK->Prop:=fun x lo hi H Q=>∃a xs,x = .ref a/\SqL K H a xs/\∀p,H p=none->Q (.ref p) (upd H p (.lst (cutV xs lo hi)))
theorem zoh:SlR X (zsY X.K):=by intro ρ s σ H x v vl vu lo hi sl Q I rx hs pl pu h;obtain⟨a,xs,rfl,hx,q⟩:=h;cases rx;obtain⟨its,r,ht,hz⟩:=I.list hx;have hlen:=r.length;refine⟨"list",_,slot_list_getitem.lookup,ht.isList.typeIs,?_⟩;refine wpAny_getItem_list_slice ht.isList hs pl pu .none (by simp) ?_ (by rw[Qi]<;>omega);rw[zil,←hlen];refine⟨.ref s.heap.objs.size,_,I.laid (t':=s.toks) (o:=.lst (cutV xs lo hi)) (fun b ob q=>Q2 _ q) (Q3 _) ?_,rfl,q _ (I.hok.fresh (Q3 _))⟩;exact⟨Qj (zf1 xs lo hi) hz,_,0,(r.drop (HT.sIx xs.length 0 lo)).take (HT.sIx xs.length xs.length hi-HT.sIx xs.length 0 lo),Ql _ rfl⟩
noncomputable def zaF:V->Bool
 |.non=>true|.bl _=>true|.int _=>true|.str _=>true|_=>false
noncomputable def eqV:V->V->Bool
 |.non,.non=>true|.bl a,.bl b=>a==b|.bl a,.int b=>(if a then 1 else 0)==b|.int a,.bl b=>a==(if b then 1 else 0)|.int a,.int b=>a==b|.str a,.str b=>a==b|_,_=>false
theorem zjo{A:Around}{v:Value}(ry:RelV y u)(rx:RelV x v)(fy:zaF y=true)(fx:zaF x=true):SeqAt.EqAt A s u v (eqV y x):=by
 cases y with
 |non=>cases ry;cases x with|non=>cases rx;exact SeqAt.EqAt.same _|bl b=>cases rx;exact SeqAt.EqAt.none_bool b|int b=>obtain⟨t,rfl⟩:=rx;exact SeqAt.EqAt.none_int b t|str b=>obtain⟨t,rfl⟩:=rx;exact SeqAt.EqAt.none_str b t|_=>exact?
 |bl a=>cases ry;cases x with|non=>cases rx;exact SeqAt.EqAt.bool_none a|bl b=>cases rx;exact SeqAt.EqAt.bool_bool a b|int b=>obtain⟨t,rfl⟩:=rx;exact SeqAt.EqAt.bool_int a b t|str b=>obtain⟨t,rfl⟩:=rx;exact SeqAt.EqAt.bool_str a b t|_=>exact?
 |int a=>obtain⟨t',rfl⟩:=ry;cases x with|non=>cases rx;exact SeqAt.EqAt.int_none a t'|bl b=>cases rx;exact SeqAt.EqAt.int_bool a t' b|int b=>obtain⟨t,rfl⟩:=rx;exact SeqAt.EqAt.int_int a t' b t|str b=>obtain⟨t,rfl⟩:=rx;exact SeqAt.EqAt.int_str a t' b t|_=>exact?
 |str a=>obtain⟨t',rfl⟩:=ry;cases x with|non=>cases rx;exact SeqAt.EqAt.str_none a t'|bl b=>cases rx;exact SeqAt.EqAt.str_bool a t' b|int b=>obtain⟨t,rfl⟩:=rx;exact SeqAt.EqAt.str_int a t' b t|str b=>obtain⟨t,rfl⟩:=rx;exact SeqAt.EqAt.str_str a t' b t|_=>exact?
 |_=>exact absurd (show false=true from fy) Q4
noncomputable def eqU(x:V)(u:Value):Bool:=match u with
 |.none=>eqV .non x|.bool b=>eqV (.bl b) x|.int i _=>eqV (.int i) x|.str z _=>eqV (.str z) x|_=>false
theorem zjn(r:RelV y u)(f:zaF y=true):eqU x u=eqV y x:=by cases y with|non=>cases r;rfl|bl b=>cases r;rfl|int i=>obtain⟨t,rfl⟩:=r;rfl|str z=>obtain⟨t,rfl⟩:=r;rfl|_=>exact absurd (show false=true from f) Q4
theorem zhO{x:V}:∀{xs:List V} {us:List Value},Vals xs us->xs.all zaF=true->us.any (eqU x)=xs.any fun y=>eqV y x
 |_,_,.nil,_=>rfl|y::xs,u::us,.cons r t,f=>by rw[all_cons,Qs]at f;rw[any_cons,any_cons,zjn r f.1,zhO t f.2]
theorem zeA{A:Around}{s:Shared}{x:V}{v:Value}(rx:RelV x v)(fx:zaF x=true):∀{xs:List V} {us:List Value},Vals xs us->xs.all zaF=true->∀u ∈ us,SeqAt.EqAt A s u v (eqU x u)
 |_,_,.nil,_=>fun u hu=>by cases hu|y::xs,u::us,.cons r t,f=>fun u' hu=>by
  rw[all_cons,Qs]at f;rcases QB.mp hu with rfl | hu
  ·rw[zjn r f.1];exact zjo r rx f.1 fx
  ·exact zeA rx fx t f.2 u' hu
noncomputable def inV(x:V)(xs:List V):Bool:=xs.any fun y=>eqV y x
noncomputable def rIn(K:Frag)(neg:Bool):R2:=fun x y H Q=>∃p xs,y = .ref p/\(SqL K H p xs\/SqT K H p xs)/\zaF x=true/\xs.all zaF=true/\Q (.bl (if neg then !inV x xs else inV x xs)) H
theorem zlS:OpR X (compareOp .In) (rIn X.K false):=by
 infer_instance
 obtain⟨p,xs,rfl,hq,fx,fs,q⟩:=h;cases ry;rcases hq with hq | hq
 ·obtain⟨its,r,pl,hz⟩:=I.list hq;refine SeqAt.in_listAt (eqU x) pl.isList (fun w hw=>zeA rx fx r fs w (by simpa using hw)) ⟨.bl _,H,I,rfl,?_⟩;rw[show its.toArray.any (eqU x)=its.any (eqU x) by simp,zhO r fs];exact q
 ·obtain⟨its,r,pl,hz⟩:=I.tuple hq;refine SeqAt.in_tupleAt (eqU x) pl (fun w hw=>zeA rx fx r fs w (by simpa using hw)) ⟨.bl _,H,I,rfl,?_⟩;rw[show its.toArray.any (eqU x)=its.any (eqU x) by simp,zhO r fs];exact q
theorem zjw:CallR X (.builtin "len") (fun xs H Q=>∃p ys,xs=[.ref p]/\(SqL X.K H p ys\/SqT X.K H p ys)/\Q (.int ys.length) H):=by
 intro ρ s σ H xs us Q I r h;obtain⟨p,ys,rfl,hq,q⟩:=h;obtain⟨u,rfl,rx⟩:=vals1 r;cases rx;have hn:=zcB;rcases hq with hq | hq
 ·obtain⟨its,r',pl,hz⟩:=I.list hq;have hlen:=r'.length;exact Calls.call_len_list pl.isList (by simp only[Qi]<;>omega) ⟨.int ys.length,H,I.tok _,⟨s.toks+1,by rw[Qi,hlen]⟩,q⟩
 ·obtain⟨its,r',pl,hz⟩:=I.tuple hq;have hlen:=r'.length;exact len_tuple pl (by simp only[Qi]<;>omega) ⟨.int ys.length,H,I.tok _,⟨s.toks+1,by rw[Qi,hlen]⟩,q⟩
theorem zjv:CallR X (.builtin "len") (fun xs H Q=>∃z,xs=[.str z]/\z.length<=sizeLine/\Q (.int z.length) H):=by intro ρ s σ H xs us Q I r h;obtain⟨z,rfl,hz,q⟩:=h;obtain⟨u,rfl,t,rfl⟩:=vals1 r;have hn:=zcB;exact len_str ⋯ ⟨.int z.length,H,I.tok _,⟨_,rfl⟩,q⟩
theorem zju:CallR X (.type "list") (fun xs H Q=>∃p ys,xs=[.ref p]/\(SqL X.K H p ys\/SqT X.K H p ys)/\∀l,H l=none->Q (.ref l) (upd H l (.lst ys))):=by
 intro ρ s σ H xs us Q I r h;obtain⟨p,ys,rfl,hq,q⟩:=h;obtain⟨u,rfl,rx⟩:=vals1 r;cases rx;have ξ:∀(its:List Value),Vals ys its->ys.length<=sizeLine->∀(h':Heap) (c':Nat),(∀b o',s.heap.get? b=some o'->h'.get? b=some o')->
   h'.get? s.heap.objs.size=some { cls:=.type "list",dict:=none,data:=.seq its.toArray c',slots:=#[] }->EP X ρ σ Q (.ref s.heap.objs.size) { s with heap:=h' }:=fun its r' hz h' c' kp e=>
  ⟨.ref s.heap.objs.size,_,I.laid (t':=s.toks) kp (Q3 _) (show ObjOk X.prog X.w _ h' _ (.lst ys)from⟨hz,its,c',r',e⟩),rfl,q _ (I.hok.fresh (Q3 _))⟩
 rcases hq with hq | hq
 ·obtain⟨its,r',pl,hz⟩:=I.list hq;have hlen:=r'.length;obtain⟨o,ho,hc,n,hd⟩:=pl.isList;exact call_list_seq p (.inl rfl) ho hc hd (fun h' c' kp e=>ξ its r' hz h' c' kp e) (by simp only[Qi]<;>omega)
 ·obtain⟨its,r',pl,hz⟩:=I.tuple hq;have hlen:=r'.length;obtain⟨o,ho,hc,n,hd⟩:=pl;exact call_list_seq p (.inr rfl) ho hc hd (fun h' c' kp e=>ξ its r' hz h' c' kp e) (by simp only[Qi]<;>omega)
theorem ziq:CallR X (.type "tuple") (fun xs H Q=>∃p ys,xs=[.ref p]/\((SqL X.K H p ys/\∀l,H l=none->Q (.ref l) (upd H l (.tup ys)))\/(SqT X.K H p ys/\Q (.ref p) H))):=by
 intro ρ s σ H xs us Q I r h;obtain⟨p,ys,rfl,h⟩:=h;obtain⟨u,rfl,rx⟩:=vals1 r;cases rx;rcases h with⟨hq,q⟩ | ⟨hq,q⟩
 ·obtain⟨its,r',pl,hz⟩:=I.list hq;have hlen:=r'.length;refine call_tuple_list pl.isList (fun h' kp=>?_) (by simp only[Qi]<;>omega);have I1:Inv X ρ σ H { s with heap:=h' }:=I.kept (t':=s.toks) kp;have I2:Inv X ρ σ (upd H h'.objs.size (.tup ys)) { s with heap:=h'.push { cls:=.type "tuple",data:=.seq its.toArray } }:=
   I1.laid (t':=s.toks) (fun b o e=>Q2 _ e) (Q3 _) (show ObjOk X.prog X.w _ _ _ (.tup ys)from⟨hz,its,r',IsTup.new _ _,NoDict.new⟩)
  exact⟨.ref h'.objs.size,_,I2,rfl,q _ (I1.hok.fresh (Q3 _))⟩
 ·obtain⟨its,r',pl,hz⟩:=I.tuple hq;exact call_tuple_same pl ⟨.ref p,H,I,rfl,q⟩
def tyV(K:Frag)(T:String)(x:V)(H:Hp):Prop:=match x with
 |.str _=>T = "str"|.int _=>T = "int"|.ref p=>(T = "list"/\∃xs,SqL K H p xs)\/(T = "tuple"/\∃o,K.lookup p=some o/\o.cls = .type "tuple"/\o.dict=none) \/
   (T = "dict"/\((∃kvs,Rd H p (.dK kvs))\/∃kvs,H p=some (.dT kvs)))\/(T = "set"/\∃S n,H p=some (.set S n))
 |_=>False
theorem zpM{ρ:List (Addr × Obj)}{σ:St}{H:Hp}{s:Shared}{T:String}{x:V}{v:Value}(I:Inv X ρ σ H s)(r:RelV x v)(ty:tyV X.K T x H) :
  s.TypeIs v T/\∀a,v = .ref a->∃ob,s.heap.get? a=some ob/\ob.dict=none:=by
 cases x with
 |str z=>obtain⟨t,rfl⟩:=r;cases (show T = "str" from ty);exact⟨typeIs_str s z t,fun _ e=>nomatch e⟩
 |int i=>obtain⟨t,rfl⟩:=r;cases (show T = "int" from ty);exact⟨typeIs_int s i t,fun _ e=>nomatch e⟩
 |ref p=>
  cases r;rcases ty with⟨rfl,xs,hq⟩ | ⟨rfl,o,hk,hc,hd⟩ | ⟨rfl,hk⟩ | ⟨rfl,S,n,hk⟩
  ·obtain⟨its,_,pl,_⟩:=I.list hq;refine⟨pl.isList.typeIs,fun a e=>?_⟩;cases e;obtain⟨o,n,e,c,hd,_⟩:=pl;exact⟨o,e,hd⟩
  ·refine⟨⟨o,I.kIn p o hk,hc⟩,fun a e=>?_⟩;cases e;exact⟨o,I.kIn _ o hk,hd⟩
  ·have z:∃o,s.heap.get? p=some o/\o.ExactDict:=by
    rcases hk with⟨kvs,hk⟩ | ⟨kvs,hk⟩
    ·obtain⟨_,_,_,_,o,_,_,e,ex,_⟩:=(show ObjOk X.prog X.w H s.heap p (.dK kvs)from hk.ok I.hok);exact⟨o,e,ex⟩
    ·obtain⟨_,_,_,_,o,_,_,e,ex,_⟩:=I.hok p _ hk;exact⟨o,e,ex⟩
   obtain⟨o,e,ex⟩:=z;refine⟨⟨o,e,ex.1⟩,fun a e2=>?_⟩;cases e2;exact⟨o,e,ex.2.1⟩
  ·obtain⟨o,_,_,_,e,ex,_⟩:=I.hok p _ hk;refine⟨⟨o,e,ex.1⟩,fun a e2=>?_⟩;cases e2;exact⟨o,e,ex.2.1⟩
 |_=>exact False.elim ty
noncomputable def tBM(K:Frag)(T:String)(r:V->List V->Hp->VK->Prop)(to:TE)(t:TA):TE:=fun σ H Q=>to σ H fun x H1=>tyV K T x H1/\t σ H1 fun xs H2=>r x xs H2 Q
variable {o:Expr}{es:List Expr}{to:TE}{t:TA}{name:Str}{apos cpos:Pos}{T id:String}{r:V->List V->Hp->VK->Prop}
theorem zaq(pa:PlainAttrs T)(slot:Slot T name id)(hty:typeOf (.builtin id)=pure (.type "method_descriptor"))(hm:MtR X id r)(ho:PE X o to)(ha:PA X (e::es) t)
  (hbase:attributeBase o name X.env (eval o X.env)=eval o X.env:=by rfl)
  (hfew:((backTo cpos (starEach (e::es) X.env)).all (fun x=>!x.1) && (backToKw cpos (keywordEach [] X.env)).all (fun x=>x.1.isSome)
   && decide ((e::es).length+([]:List Keyword).length+(if([]:List Keyword).isEmpty then 0 else 1)<30))=true:=by rfl)
  (hline:(apos.endLine==cpos.line)=true:=by rfl) (hs:starEach (e::es) X.env=(false,eval e X.env)::starEach es X.env:=by rfl) (hplain:(backTo cpos (starEach es X.env)).any (·.1)=false:=by rfl) :
  PE X (.Call (.Attribute o name apos) (e::es) [] cpos) (tBM X.K T r to t):=by
 apply?;refine wpAny_Call_method_late hbase hfew hline rfl (thn (ho ρ s σ H _ I h) fun v s1 ⟨x,H1,I1,r1,ty,q1⟩=>?_);obtain⟨h1,h2⟩:=zpM I1 r1 ty;refine⟨T,id,pa,slot,hty,h1,h2,?_⟩;have hA:=ha cpos ρ s1 σ H1 _ I1 q1;rw[hs]at hA ⊢;refine Calls.callWith_builtin (by show(false || (backTo cpos (starEach es X.env)).any (·.1))=false;rw[hplain]<;>rfl) (Calls.evalArgs_plain ?_);exact thn hA fun us s2 ⟨vs,H2,I2,r2,q2⟩=>hm ρ s2 σ H2 x vs v us Q I2 r1 r2 q2
end
def MtM(X:Cx)(id:String)(r:V->List V->Hp->VK->Prop):Prop:=
 ∀(ρ:List (Addr × Obj)) (s:Shared) (σ:St) (H:Hp) (x:V) (xs:List V) (v:Value) (us:List Value) (Q:VK),Inv X ρ σ H s->RelV x v->Vals xs us->r x xs H Q->
  wpAny (model X.prog X.w) X.A (call (.builtin id) (v::us)) (EP X ρ σ Q) X.xe s
theorem Vals.one:∀{x:V} {us:List Value},Vals [x] us->∃u,us=[u]/\RelV x u
 |_,_,.cons r .nil=>⟨_,rfl,r⟩
theorem Vals.two:∀{x y:V} {us:List Value},Vals [x,y] us->∃u v,us=[u,v]/\RelV x u/\RelV y v
 |_,_,_,.cons r (.cons q .nil)=>⟨_,_,rfl,r,q⟩
theorem Vals.zero:∀{us:List Value},Vals [] us->us=[]
 |_,.nil=>rfl
theorem Vals.eraseIdx:∀{xs:List V} {us:List Value} (i:Nat),Vals xs us->Vals (xs.eraseIdx i) (us.eraseIdx i)
 |_,_,_,.nil=>.nil|_,_,0,.cons _ t=>t|_,_,i+1,.cons r t=>.cons r (Vals.eraseIdx i t)
theorem Vals.rep{xs:List V}{us:List Value}(h:Vals xs us):∀k:Nat,Vals (List.replicate k xs).flatten (List.replicate k us).flatten
 |0=>.nil|k+1=>by rw[replicate_succ,replicate_succ,flatten_cons,flatten_cons];exact Vals.append h (Vals.rep h k)
theorem foldl_rep(its:List Value):∀(k:Nat) (acc:List Value),
  List.foldl (fun x1 x2=>x1++x2) acc.toArray (List.replicate k its.toArray)=(acc++(List.replicate k its).flatten).toArray
 |0,acc=>by simp|k+1,acc=>by
  have e:acc.toArray++its.toArray=(acc++its).toArray:=by simp
  have e2:(acc++its)++(List.replicate k its).flatten=acc++(List.replicate (k+1) its).flatten:=by rw[replicate_succ,flatten_cons,append_assoc]
  rw[←e2,←foldl_rep its k (acc++its),←e,replicate_succ,List.foldl_cons]
variable {t':Nat}
section
variable {l b:Addr}{zs:List V}
theorem Inv.lset{f:Array Value->Array Value}{t':Nat}(I:Inv X ρ σ H s)(hH:H l=some (.lst xs))
 (e:s.heap.get? l=some { cls:=.type "list",data:=.seq its.toArray n }) (hf:f its.toArray=its'.toArray) (hv:Vals ys its') (hz:ys.length<=sizeLine) :
  Inv X ρ σ (upd H l (.lst ys)) { s with heap:=s.heap.update l (Obj.mapSeq f),toks:=t' }:=by
 have q:=PySem.IsL.update e f;rw[hf]at q;refine I.write (x:=l) (e:=l) (by rw[hH];exact trivial) (.inl rfl) (fun b' u hb hu=>(Heap.get?_update_other s.heap (Obj.mapSeq f) (Ne.symm hb)).trans hu) ⟨_,q⟩ ?_;exact⟨hz,its',_,hv,q⟩
theorem Inv.lnew{t':Nat}(I:Inv X ρ σ H s)(hv:Vals ys its)(hz:ys.length<=sizeLine) :
  Inv X ρ σ (upd H s.heap.objs.size (.lst ys)) { s with heap:=s.heap.push { cls:=.type "list",data:=.seq its.toArray },toks:=t' }:=
 I.laid (fun _ _ q=>Q2 _ q) (Q3 _) ⟨hz,its,0,hv,Ql _ rfl⟩
def Inv.fresh(I:Inv X ρ σ H s):H s.heap.objs.size=none:=I.hok.fresh (Q3 _)
theorem Inv.lstM(I:Inv X ρ σ H s)(hH:H l=some (.lst xs)):xs.length<=sizeLine/\∃(its:List Value) (n:Nat),Vals xs its/\xs.length=its.length/\s.heap.get? l=some { cls:=.type "list",data:=.seq its.toArray n }:=by obtain⟨z,its,n,r,e⟩:=I.hok l _ hH;exact⟨z,its,n,r,r.length,e⟩
theorem zi5(h:n<=sizeLine):Builtin.List.listTooLong n=false:=by unfold Builtin.List.listTooLong;exact Qx ⋯
end
section
noncomputable def zhr:V->List V->Hp->VK->Prop:=fun x vs H Q=>∃l xs y,x = .ref l/\vs=[y]/\H l=some (.lst xs)/\xs.length<sizeLine/\Q .non (upd H l (.lst (xs++[y])))
theorem yM:MtM X "list.append" zhr:=by intro ρ s σ H x vs v us Q I rx rv h;obtain⟨l,xs,y,rfl,rfl,hH,hz,q⟩:=h;cases rx;obtain⟨u,rfl,ru⟩:=rv.one;obtain⟨z,its,n,r,hl,e⟩:=I.lstM hH;refine call_meets F.slot_list_append ⟨_,e,rfl⟩ F.entry_list_append (F.args_list_append_2 _ _) (PySem.list_append l its.toArray n u (by rw[Qi];omega)) ⟨e,?_⟩;refine⟨.non,_,I.lset (its':=its++[u]) hH e (by simp) (r.append (.cons ru .nil)) ?_,rfl,q⟩;rw[Qn,Qv];omega
noncomputable def zs0:R2:=fun x y H Q=>∃l k xs,x = .ref l/\y = .int k/\H l=some (.lst xs)/\-(2 ^ 63)<=k/\k<2 ^ 63/\xs.length*k.toNat<=sizeLine /\
 ∀p,H p=none->Q (.ref p) (upd H p (.lst (List.replicate k.toNat xs).flatten))
theorem len_rep{α:Type}(xs:List α)(k:Nat):(List.replicate k xs).flatten.length=k*xs.length:=by induction k with|zero=>simp|succ k ih=>rw[replicate_succ,flatten_cons,Qn,ih,Nat.succ_mul,Nat.add_comm]
theorem zqq:OpR X (binaryOp .Mult) zs0:=by
 infer_instance
 obtain⟨l,k,xs,rfl,rfl,hH,h1,h2,hz,q⟩:=h;cases rx;obtain⟨t,rfl⟩:=ry;obtain⟨z,its,n,r,hl,e⟩:=I.lstM hH;have hlen:its.toArray.size*k.toNat<=sizeLine:=by rw[Qi,←hl];exact hz
 have hcap:¬its.toArray.size*k.toNat > (2 ^ 63-1) / 8:=by
  have:(sizeLine:Nat)<=(2 ^ 63-1) / 8:=by decide
  omega
 have hfit:¬(!Builtin.List.listFitsIndex k)=true:=by rw[fitsIndex_both h1 h2];exact Q4
 have hlong:¬Builtin.List.listTooLong (its.toArray.size*k.toNat)=true:=by rw[zi5 hlen];exact Q4
 have hnew:List.foldl (fun x1 x2=>x1++x2) #[] (List.replicate (if its.toArray.isEmpty=true then 0 else k.toNat) its.toArray)=(List.replicate k.toNat its).flatten.toArray:=by
  have f0:∀m:Nat,List.foldl (fun x1 x2=>x1++x2) #[] (List.replicate m its.toArray)=(List.replicate m its).flatten.toArray:=fun m=>by have:=foldl_rep its m [];rw[nil_append]at this;exact this
  rw[f0];cases its with|nil=>simp|cons a r'=>rw[QA (by simp)]
 refine wpAny_binaryOp_repeat_ref (T:="list") (U:="int") ∅ ⟨_,e,rfl⟩ (fun s'=>typeIs_int s' k t) noFill_list_mul F.fills_int_mul F.slot_int_rmul repeat_list F.slot_int_index.lookup
  (call_meets F.slot_int_rmul (typeIs_int s k t) F.entry_int_rmul (F.args_int_rmul_2 _ _) (int___rmul___int_list k t l its.toArray n)
   ⟨e,rfl,⟨_,e,rfl⟩,call_meets F.slot_list_mul ⟨_,e,rfl⟩ F.entry_list_mul (F.args_list_mul_2 _ _) (AutoListH.list___mul___list_int_3 l its.toArray n k t hfit hcap hlong) ⟨e,?_⟩⟩)
 rw[hnew];exact⟨.ref _,_,I.lnew (t':=s.toks) (r.rep k.toNat) (by rw[len_rep,Nat.mul_comm];exact hz),rfl,q _ I.fresh⟩
end
end L2
namespace Att
open PySem PySem.W PySem.Calls PyProof.Rows
variable {h:Heap}{P:Params}
theorem zgQ:∀(ns:List Int) (vs:List Value),WellAll P h vs (ns.map WData.int)->IntsAre vs ns:=by
 intro ns
 induction ns with
 |nil=>intro vs w;rw[map_nil]at w;cases w;exact .nil
 |cons n ns ih=>
  intro vs w;rw[QF]at w;cases w with
  |cons a b=>cases a;exact .cons _ _ (ih _ b)
variable {n:Nat}{l:OpenLaw}
theorem zlE(hn:l.most=some n){args:List WData}{vals:List Value}
 (hpre:l.row.toRowW.claim.pre args=true) (hwl:WellAll P h vals args) :
  ∃a vs ns,vals=[Value.ref a]/\args=[WData.list (ns.map WData.int)]/\h.get? a=some { cls:=.type "list",data:=.seq vs.toArray }/\IntsAre vs ns/\ns.length<=n:=by
 have hsh:WShape.hasAll [] args [.list .int]=true:=(pre_splitW hpre).1;have hc:l.pre.holds [] { args:=args }=true:=(pre_splitW hpre).2;obtain⟨d,r,rfl,h1,h2⟩:=hasAllW_cons hsh;obtain rfl:=hasAllW_nil h2;obtain⟨xs,rfl,h3⟩:=hasW_list h1;obtain⟨ns,rfl⟩:=items_int h3;have hlen:ns.length<=n:=by
  unfold OpenLaw.pre at hc;have h4:(WTm.not (.lt (.lit (.int (n:Int))) (.len (.arg 0)))).holds [] { args:=[.list (ns.map .int)] }=true:=by have h4:=(holds_andW hc).1;rw[hn]at h4;exact h4
  have h5:=condW_of h4 (w_not (w_lt w_lit (w_len_list (w_arg rfl))));rw[Qh]at h5;refine Nat.le_of_not_lt fun q=>?_;have q':(n:Int)<((ns.length:Nat):Int):=by omega
  first
   |(rw[Qw q']at h5;exact absurd h5 ∅)
   |(simp at h5;omega)
 cases hwl with
 |cons w1 w2=>cases w2;cases w1 with|list ho hall=>exact⟨_,_,ns,rfl,rfl,ho,zgQ ns _ hall,hlen⟩
theorem zlN(l:OpenLaw)(args:List WData):l.row.toRowW.claim.post args (.bool true) args=true:=
 postW_of (r:=l.row.toRowW) (X:=(true==true))
  (show WShape.has [] (.bool true) .bool=true by first | rfl | decide | simp[WShape.has,WShape.arms,WShape.armsAll])
  (show(WTm.eq .res (.lit (.bool true))).value [] { args:=args,res:=some (.bool true),after:=args }=some (.bool (true==true))from w_eq_bool (w_res rfl) w_lit) rfl
theorem zjX{q:Program}{loose:List Str}{XP:(Str->Option Value)->Heap->Prop}{YP:World->Heap->Prop}{d:DefRec}
 (hn:l.most=some n) (hdf:d.params.defaults=[])
 (call:∀(w:World) (s₀ s₁:Shared) (mg mb:Str->Option Value) (fa:Addr) (o:Obj) (pm cd doc:Value) (a:Addr) (vs:List Value) (ns:List Int),
 Ground q loose [] XP w s₀ mg mb s₁.heap->YP w s₁.heap->
 s₁.heap.get? fa=some o->o.data = .func (docDef d.name d.params d.body d.scope pm cd doc)->s₁.heap.CodeRec cd d.name->mg d.name=some (.ref fa)->
 s₁.heap.get? a=some { cls:=.type "list",data:=.seq vs.toArray }->IntsAre vs ns->ns.length<=n->s₁.gens = #[]->
 codeAny (model l.prog w) callerA (.call (.ref fa) ⟨[.ref a],[]⟩) (fun r s'=>r = .ok (.ret (.bool true))/\OldK s₁.heap s'.heap/\s'.os=s₁.os/\AllBare s'.gens) s₁) :
  WalkO q loose XP YP l.row.toRowW d [] (fun f vs=>PySem.call f vs):=by
 intro w s₀ s₁ mg mb G Y fa o pm cd doc dV kV ho hd hcd hD hmg hg args vals as hpre hlay hrd hwl hlo;obtain rfl:dV = .none:=Dflts.none hD hdf;obtain rfl:kV = .none:=Dflts.noKw hD;obtain⟨a,vs,ns,rfl,rfl,hobj,hints,hlen⟩:=zlE hn hpre hwl;refine enter_call (codeAny_mono (call w s₀ s₁ mg mb fa o pm cd doc a vs ns G Y ho (fd_plain hd) hcd hmg hobj hints hlen hg) fun r s' hq=>?_);obtain⟨rfl,h2,h3,h4⟩:=hq;exact⟨.inl ⟨.bool true,.bool true,[],rfl,fun _=>rfl,.bool true,zlN l _,fun _=>⟨List.Pairwise.nil,fun _ hm=>(nomatch hm)⟩⟩,h2,h3,h4⟩
end Att
namespace L2
open PySem PySem.Spec PyProof.Rows
theorem zhT:∀{vs:List Value} {ns:List Int},IntsAre vs ns->Vals (ns.map V.int) vs
 |_,_,.nil=>.nil|_,_,.cons n t h=>.cons ⟨t,rfl⟩ (zhT h)
def zls(H:Hp):Prop:=∀b,H b=none\/∃o xs,H b=some (.frz o (.lst xs))
variable {CX:CXT}{K:Frag}{fd:FuncData}{P:Program}{sp:Sp}{x:Str}{mg:Str->Option Value}{w:World}
theorem znj{mb:Str->Option Value}{k:Nat}{fa a:Addr}{s₁:Shared}{vs:List Value}{ns:List Int}
 (KX:K.In s₁.heap) (hns:s₁.heap.Ns mainGlobals mg) (hb:s₁.heap.Ns builtinsNs mb) (hbb:∀x:Str,x ≠ "__name__"->mb x=bootBuiltins x) (hlim:s₁.heap.NoLimit) (hg:s₁.gens = #[])
 (ha:s₁.heap.get? a=some { cls:=.type "list",data:=.seq vs.toArray }) (hi:IntsAre vs ns) (hl:ns.length<=sizeLine) (hr:Room k callerA)
 (F:∀base:Heap,K.In base->base.Ns mainGlobals mg->FnOk P w K mg base CX k fa fd [x] sp) (hbind:∀(s:Shared) (u:Value),BindsTo s fd ⟨[u],[]⟩ [(x,u)])
 (hsp:∀H:Hp,zls H->SqL K H a (ns.map V.int)->sp [.ref a] H (fun v _=>v = .bl true) fun _ _ _=>False)
 (hCX:∀H e s',CX [] H s₁ (fun _ _ _=>False) e s'->False) :
  codeAny (model P w) callerA (.call (.ref fa) ⟨[.ref a],[]⟩) (fun r s'=>r = .ok (.ret (.bool true))/\OldK s₁.heap s'.heap/\s'.os=s₁.os/\AllBare s'.gens) s₁:=by
 have rv:=zhT hi;have lenV:=hi.length
 have core:∀H:Hp,zls H->SqL K H a (ns.map V.int)->HOk P w H s₁.heap->(∀b,H b ≠ none->b=a)->(H a ≠ none->K.lookup a=none)->
   codeAny (model P w) callerA (.call (.ref fa) ⟨[.ref a],[]⟩) (fun r s'=>r = .ok (.ret (.bool true))/\OldK s₁.heap s'.heap/\s'.os=s₁.os/\AllBare s'.gens) s₁:=by
  intro H hO hS hok hA hK;have base_of:∀{b:Addr} {o:Obj},s₁.heap.get? b=some o->H b=none->(zeD s₁.heap H).get? b=some o:=fun e n=>znq e n;have noA:∀{b:Addr} {o:Obj} {es:Array DictEntry} {ep:Nat},s₁.heap.get? b=some o->o.data = .dict es ep->H b=none:=fun {b o es ep} e d=>by
   cases q:H b with
   |none=>rfl|some u=>
    have e':b=a:=hA b (by rw[q];simp);subst e';rw[ha]at e;cases e
    have d':Data.seq vs.toArray _=Data.dict es ep:=d;cases d'
  have nsK:∀{b:Addr} {m:Str->Option Value},s₁.heap.Ns b m->(zeD s₁.heap H).Ns b m:=fun {b m} ⟨o,es,ep,e,d,r⟩=>⟨o,es,ep,base_of e (noA e d),d,r⟩;have hKb:K.In (zeD s₁.heap H):=fun b o e=>base_of (KX b o e) (by
   cases q:H b with
   |none=>rfl|some u=>have e':b=a:=hA b (by rw[q];simp);subst e';rw[hK (by rw[q];simp)]at e;cases e)
  have hM:Mod K mg (zeD s₁.heap H):=⟨hKb,nsK hns,⟨mb,nsK hb,hbb⟩,let ⟨mc,h1,h2⟩:=hlim;⟨mc,nsK h1,h2⟩⟩;have e0:Env0 P w K mg (zeD s₁.heap H) callerA [] s₁ H:=⟨rfl,hM,fun b o e=>zoL e,Nat.le_of_eq (zl9 _ _),trivial,fun b hb=>absurd (show b ∈ ([]:List Addr)from hb) (by simp),hok,.of_eq hg⟩;refine codeAny_mono ((F _ hKb (nsK hns)).run callerA [] s₁ H ⟨[.ref a],[]⟩ [.ref a] [.ref a] _ _ hr e0 (hbind s₁ (.ref a)) (.cons rfl .nil) (hsp H hO hS)) fun r s' h=>?_;cases r with
  |error e=>exact(hCX H e s' h).elim|ok fl=>
   cases fl with
   |next=>exact False.elim h|brk=>exact False.elim h|cont=>exact False.elim h|ret u=>
    obtain⟨v,H',os,bare,un,hok',r',q⟩:=h;have q':v = .bl true:=q;subst q';obtain rfl:u=Value.bool true:=r';refine⟨rfl,OldK.of_keep fun b o e=>?_,os,bare⟩;cases q:H b with
    |none=>exact un.keep b o e q (by intro z;exact absurd (show b ∈ ([]:List Addr)from z) (by simp)) (by simp)|some u=>
     rcases hO b with z | ⟨ob,xs,z⟩
     ·rw[q]at z;cases z
     ·have z2:=un.frzs b ob _ z;obtain⟨e1,_⟩:=hok b _ z;obtain⟨e2,_⟩:=hok' b _ z2;rw[e]at e1;cases e1
      exact e2
 cases hk:K.lookup a with
 |some o=>have e:=KX a o hk;rw[ha]at e;cases e;refine core (fun _=>none) (fun _=>.inl rfl) (.inr ⟨_,vs.toArray,_,hk,rfl,rfl,rfl,by rw[Qi,lenV];exact hl,by simpa using rv⟩) (fun b u z=>by have z':(none:Option HO)=some u:=z;cases z') (fun b z=>absurd rfl z) fun z=>absurd rfl z
 |none=>
  refine core (fun b=>if b=a then some (.frz { cls:=.type "list",data:=.seq vs.toArray } (.lst (ns.map V.int)))else none) (fun b=>?_) (.inl (.inr ⟨{ cls:=.type "list",data:=.seq vs.toArray },Qz rfl⟩)) (fun b u z=>?_) (fun b z=>?_) fun _=>hk
  ·by_cases hb:b=a
   ·exact .inr ⟨_,_,Qz hb⟩
   ·exact .inl (QA hb)
  ·by_cases hb:b=a
   ·have z':=(Qz hb).symm.trans z;cases z';subst hb;exact⟨ha,by rw[Qh];exact hl,vs,_,rv,ha⟩
   ·have z':=(QA hb).symm.trans z;cases z'
  ·by_cases hb:b=a
   ·exact hb
   ·exact absurd (QA hb) z
noncomputable abbrev KOf{K:Frag}{h:Heap}(_:K.In h):Frag:=K
variable {XP:(Str->Option Value)->Heap->Prop}{d:DefRec}{loose:List Str}{n:Nat}{q:Program}{l:PySem.W.OpenLaw}{YP:World->Heap->Prop}
theorem zn7{k:Nat}{K:Params->Frag}{CX:World->CXT}{sp:World->Sp} 
 (hn:l.most=some n) (hn2:n<=sizeLine) (hdf:d.params.defaults=[]) (hr:Room k callerA)
 (hY:∀(w:World) (h:Heap),YP w h->(K w.params).In h)
 (F:∀(w:World) (mg:Str->Option Value) (fa:Addr) (h:Heap),(K w.params).In h->h.Ns mainGlobals mg->mg d.name=some (.ref fa)->
 ∃fd:FuncData,(∀(s:Shared) (u:Value),BindsTo s fd ⟨[u],[]⟩ [(x,u)]) /\
 ∀base:Heap,(K w.params).In base->base.Ns mainGlobals mg->FnOk l.prog w (K w.params) mg base (CX w) k fa fd [x] (sp w))
 (hsp:∀(w:World) (H:Hp) (a:Addr) (ns:List Int),ns.length<=n->zls H->SqL (K w.params) H a (ns.map V.int)->sp w [.ref a] H (fun v _=>v = .bl true) fun _ _ _=>False)
 (hCX:∀(w:World) (H:Hp) (s:Shared) (e:Value) (s':Shared),CX w [] H s (fun _ _ _=>False) e s'->False) :
  PySem.W.WalkO q loose XP YP l.row.toRowW d [] (fun f vs=>PySem.call f vs):=by
 refine Att.zjX hn hdf fun w s₀ s₁ mg mb fa o pm cd doc a vs ns G Y ho hd hcd hmg hobj hints hlen hg=>?_;have KX:=hY w _ Y;obtain⟨fd,hb,hF⟩:=F w mg fa _ KX G.T.g hmg;exact znj KX G.T.g G.T.b G.T.builtins G.T.nolimit hg hobj hints (Qj hlen hn2) hr hF hb (fun H hO hS=>hsp w H a ns hlen hO hS) fun H e s'=>hCX w H s₁ e s'
theorem zmJ{k:Nat}{K:Params->Frag}{sp:Frag->Sp} 
 (hn:l.most=some n) (hn2:n<=sizeLine) (hdf:d.params.defaults=[]) (hr:Room k callerA)
 (hY:∀(w:World) (h:Heap),YP w h->(K w.params).In h)
 (F:∀(w:World) (mg:Str->Option Value) (fa:Addr) (h:Heap),(K w.params).In h->h.Ns mainGlobals mg->mg d.name=some (.ref fa)->
 ∃fd:FuncData,(∀(s:Shared) (u:Value),BindsTo s fd ⟨[u],[]⟩ [(x,u)]) /\
 ∀base:Heap,(K w.params).In base->base.Ns mainGlobals mg->FnOk l.prog w (K w.params) mg base CX k fa fd [x] (sp (K w.params)))
 (hsp:∀(K:Frag) (H:Hp) (a:Addr) (ns:List Int),ns.length<=n->zls H->SqL K H a (ns.map V.int)->sp K [.ref a] H (fun v _=>v = .bl true) fun _ _ _=>False)
 (hCX:∀(H:Hp) (s:Shared) (e:Value) (s':Shared),CX [] H s (fun _ _ _=>False) e s'->False) :
  PySem.W.WalkO q loose XP YP l.row.toRowW d [] (fun f vs=>PySem.call f vs):=
 zn7 (K:=K) (CX:=fun _=>CX) (sp:=fun w=>sp (K w.params)) hn hn2 hdf hr hY F (fun w H a ns h1 h2 h3=>hsp (K w.params) H a ns h1 h2 h3) fun _ H s e s'=>hCX H s e s'
noncomputable def inClass(s:Stmt)(j:Nat):Stmt:=match s with
 |.ClassDef _ _ _ body _ _ _ _ _ _ _=>body.getD j (.Pass ⟨0,0,0,0⟩)|_=>.Pass ⟨0,0,0,0⟩
noncomputable def zaa(s:Stmt):Arguments:=match s with
 |.FunctionDef _ a _ _ _ _ _ _ _ _=>a|_=>{ posonlyargs:=[],args:=[],vararg:=none,kwonlyargs:=[],kw_defaults:=[],kwarg:=none,defaults:=[] }
noncomputable def qE(s:Stmt):List Stmt:=match s with
 |.FunctionDef _ _ b _ _ _ _ _ _ _=>b|_=>[]
noncomputable def ye(s:Stmt):Scope:=match s with
 |.FunctionDef _ _ _ _ _ _ sc _ _ _=>sc|_=>{ kind:=.function,names:=[],isGenerator:=false,isCoroutine:=false }
noncomputable abbrev CX0:CXT:=fun _ _ _ _ _ _=>False
noncomputable abbrev E0:XK:=fun _ _ _=>False
variable {X:Cx}
def znU:Passes CX0 X E0:=fun _ _ _ _ _ _ _ h=>h.elim
structure Fun (K:Frag) (x qual:Str) (st:Stmt) (f:Addr) (fd:FuncData):Prop where
 ex:∃(oc:Value) (od:Option Addr) (kV doc pm:Value) (an:Option Addr) (cdv ct:Value) (osl:Array (Option Value)),
  fd=PySem.W.fnOf x qual (zaa st) (qE st) (ye st) .none kV doc pm an cdv ct/\K.lookup f=some ⟨oc,od,.func fd,osl⟩/\PySem.W.codeIn K cdv qual=true
 kp:PySem.W.keepIn K (.ref f)=true
variable {f:Addr}{ps:List Str}{st:Stmt}{qual:Str}
section
variable {base:Heap}
theorem Fun.ok{N:List Str}{k:Nat}(F:Fun K x qual st f fd)(S:FnScope N ps (ye st))(len:∀vs H Q E,sp vs H Q E->vs.length=ps.length)
 (hbody:∀(cdv:Value) (A:Around) (outer:List Env) (s:Shared) (H:Hp) (vs:List V) (Q:VK) (E:XK),Room k (A.deeper (envOfC qual (ye st) s.heap.objs.size f cdv))->sp vs H Q E->
 ∃t,PSs (zbS CX0 P w K mg base N qual (ye st) f cdv A outer s H E).nox (qE st) t/\t { nx:=fun _ H'=>Q .non H',rt:=Q } (start N vs) H):FnOk P w K mg base CX0 (k+1) f fd ps sp:=by
 obtain⟨oc,od,kV,doc,pm,an,cdv,ct,osl,rfl,lk,hcd⟩:=F.ex;refine znZ lk hcd S len fun A outer s H vs Q E hr hsp=>?_;obtain⟨t,h,q⟩:=hbody cdv A outer s H vs Q E hr hsp;exact⟨t,h.nox,q⟩
theorem Fun.binds(F:Fun K x qual st f fd)
 (h:∀(kV doc pm:Value) (an:Option Addr) (cdv ct:Value) (us:List Value),us.length=ps.length->bindArgs (PySem.W.fnOf x qual (zaa st) (qE st) (ye st) .none kV doc pm an cdv ct) ⟨us,[]⟩=pure (ps.zip us)):Binds K fd ps []:=by
 obtain⟨oc,od,kV,doc,pm,an,cdv,ct,osl,rfl,lk,hcd⟩:=F.ex;exact .all (h kV doc pm an cdv ct)
theorem zg0{oc:Value}{od an:Option Addr}{osl:Array (Option Value)}{kV doc pm cdv ct:Value}(l:K.lookup f=some ⟨oc,od,.func (PySem.W.fnOf x qual (zaa st) (qE st) (ye st) .none kV doc pm an cdv ct),osl⟩)
 (c:PySem.W.codeIn K cdv qual=true) (k:PySem.W.keepIn K (.ref f)=true):Fun K x qual st f (PySem.W.fnOf x qual (zaa st) (qE st) (ye st) .none kV doc pm an cdv ct):=⟨⟨oc,od,kV,doc,pm,an,cdv,ct,osl,rfl,l,c⟩,k⟩
end
theorem zbU(h:n<=1000):n<sizeLine:=Nat.lt_of_le_of_lt h ∅
section
theorem U(i:Nat){pos:Pos}(hN:X.N[i]? = some x:=by rfl)(hv:Vis X.env.scope x:=by first | exact Or.inl rfl | exact Or.inr (Or.inl rfl) | exact Or.inr (Or.inr rfl))(hd:(x==("__debug__":Str))=false:=by decide)
 (hcd:(x==("__classdict__":Str))=false:=by decide):PE X (.Name x pos) (zkU i):=zi3 hN hv hd hcd
end
end L2
set_option maxHeartbeats 4000000
namespace L2
open PySem PySem.Spec PyProof.Rows
variable {o:Option V}{y:V}{u:Value}
section
variable {κ:Type}[DecidableEq κ]
noncomputable def zaU(kvs:List (κ × V))(k:κ):Option V:=(kvs.find? fun kv=>decide (kv.1=k)).map (·.2)
noncomputable def putK(kvs:List (κ × V))(k:κ)(v:V):List (κ × V):=
 if(kvs.any fun kv=>decide (kv.1=k))=true then kvs.map (fun kv=>if kv.1=k then(kv.1,v)else kv)else kvs++[(k,v)]
noncomputable def ztQ(kvs:List (κ × V))(k:κ):List (κ × V):=kvs.filter fun kv=>decide (kv.1 ≠ k)
theorem zf6{p:κ × V}{r:List (κ × V)}{k:κ}(e:p.1=k):zaU (p::r) k=some p.2:=by simp[zaU,find?_cons,e]
theorem zf7{p:κ × V}{r:List (κ × V)}{k:κ}(e:¬p.1=k):zaU (p::r) k=zaU r k:=by simp[zaU,find?_cons,e]
theorem ziL(k:κ):∀kvs:List (κ × V),(kvs.any fun kv=>decide (kv.1=k))=(zaU kvs k).isSome
 |[]=>rfl|p::r=>by
  rw[any_cons]
  by_cases e:p.1=k
  ·simp only[zf6 e,Qw e,Bool.true_or,Option.isSome_some]
  ·rw[zf7 e,Qx e,Bool.false_or];exact ziL k r
theorem zfR(kvs:List (κ × V))(k:κ)(v:V):(putK kvs k v).length<=kvs.length+1:=by
 unfold putK;split
 ·rw[Qh];omega
 ·rw[Qn,Qp,length_nil];omega
theorem RelO.isSome_eq{u:Option Value}(r:RelO o u):o.isSome=u.isSome:=by
 cases o with
 |none=>cases u with|none=>rfl|some _=>exact(show False from r).elim
 |some _=>cases u with|none=>exact(show False from r).elim|some _=>rfl
theorem KV.val{kvs:List (κ × V)}{vs:List (κ × Value)}(r:KV kvs vs)(k:κ):RelO (zaU kvs k) (valueAt vs k):=by
 unfold KV at r
 induction r with
 |nil=>exact True.intro|@cons p q ps qs h t ih=>
  obtain⟨h1,h2⟩:=h
  by_cases e:p.1=k
  ·have e':q.1=k:=h1.symm.trans e;have b:valueAt (q::qs) k=some q.2:=by simp[valueAt,find?_cons,e']
   rw[zf6 e,b];exact h2
  ·have e':¬q.1=k:=fun z=>e (h1.trans z);have b:valueAt (q::qs) k=valueAt qs k:=by simp[valueAt,find?_cons,e']
   rw[zf7 e,b];exact ih
theorem KV.any{kvs:List (κ × V)}{vs:List (κ × Value)}(r:KV kvs vs)(k:κ):(kvs.any fun kv=>decide (kv.1=k))=vs.any fun kv=>decide (kv.1=k):=by
 unfold KV at r
 induction r with|nil=>rfl|cons h t ih=>rw[any_cons,any_cons,ih,h.1]
theorem KV.repl{kvs:List (κ × V)}{vs:List (κ × Value)}(r:KV kvs vs)(k:κ)(ry:RelV y u) :
  KV (kvs.map fun kv=>if kv.1=k then(kv.1,y)else kv) (vs.map fun kv=>if kv.1=k then(kv.1,u)else kv):=by
 unfold KV at r ⊢
 induction r with
 |nil=>exact .nil|@cons p q ps qs h t ih=>
  rw[QF,QF];refine .cons ?_ ih;obtain⟨h1,h2⟩:=h
  by_cases e:p.1=k
  ·rw[Qz e,Qz (h1.symm.trans e)];exact⟨h1,ry⟩
  ·rw[QA e,QA (fun z=>e (h1.trans z))];exact⟨h1,h2⟩
theorem KV.put{kvs:List (κ × V)}{vs:List (κ × Value)}(r:KV kvs vs)(k:κ)(ry:RelV y u):KV (putK kvs k y) (stored vs k u):=by
 unfold putK stored;rw[r.any k]
 by_cases e:(vs.any fun kv=>decide (kv.1=k))=true
 ·rw[Qz e,Qz e];exact r.repl k ry
 ·rw[QA e,QA e];exact Paired.snoc r ⟨rfl,ry⟩
def KV.length{kvs:List (κ × V)}{vs:List (κ × Value)}(r:KV kvs vs):kvs.length=vs.length:=Paired.length r
end
variable {P:Program}{w:World}
theorem ziA{k:Key}(r:RelV (kV k) u):(z4 P w).is k u=true:=by cases k with|inl i=>obtain⟨t,e⟩:=(show ∃t,u=Value.int i t from r);subst e;exact zjO P w i t|inr x=>obtain⟨t,e⟩:=(show ∃t,u=Value.str x t from r);subst e;exact zjN P w x t
theorem zh0{P:Program}{w:World}:∀{ks:List Key} {us:List Value},Vals (ks.map kV) us->ItemsAre (z4 P w) ks us
 |[],_,r=>by rw[map_nil]at r;cases r;exact .nil|k::ks,_,r=>by rw[QF]at r;cases r with|cons h t=>exact .cons (ziA h) (zh0 t)
noncomputable abbrev KT(H:Hp):List (List Key × V)->List (List Key × Addr × Value)->Prop:=Paired fun p q=>p.1=q.1/\H q.2.1=some (.tup (p.1.map kV))/\RelV p.2 q.2.2
variable {H:Hp}{xs:List (List Key × Addr × Value)}{kvs:List (List Key × V)}
theorem KT.val(r:KT H kvs xs)(k:List Key):RelO (zaU kvs k) ((atKey xs k).map (·.2)):=by
 induction r with
 |nil=>exact True.intro|@cons p q ps qs h t ih=>
  obtain⟨h1,_,h2⟩:=h
  by_cases e:p.1=k
  ·have e':q.1=k:=h1.symm.trans e;have b:atKey (q::qs) k=some q.2:=by simp[atKey,find?_cons,e']
   rw[zf6 e,b];exact h2
  ·have e':¬q.1=k:=fun z=>e (h1.trans z);have b:atKey (q::qs) k=atKey qs k:=by simp[atKey,find?_cons,e']
   rw[zf7 e,b];exact ih
theorem KT.repl(r:KT H kvs xs)(k:List Key)(ry:RelV y u) :
  KT H (kvs.map fun kv=>if kv.1=k then(kv.1,y)else kv) (xs.map (putAt k u)):=by
 induction r with
 |nil=>exact .nil|@cons p q ps qs h t ih=>
  rw[QF,QF];refine .cons ?_ ih;obtain⟨h1,h2,h3⟩:=h;unfold putAt
  by_cases e:p.1=k
  ·rw[Qz e,Qz (h1.symm.trans e)];exact⟨h1,h2,ry⟩
  ·rw[QA e,QA (fun z=>e (h1.trans z))];exact⟨h1,h2,h3⟩
theorem KT.put(r:KT H kvs xs)(k:List Key){b:Addr}(hb:H b=some (.tup (k.map kV)))(ry:RelV y u) :
  KT H (putK kvs k y) (storedH xs k b u):=by
 have e:(kvs.any fun kv=>decide (kv.1=k))=(atKey xs k).isSome:=by rw[ziL,(r.val k).isSome_eq,Option.isSome_map]
 unfold putK storedH;rw[e]
 by_cases q:(atKey xs k).isSome=true
 ·rw[Qz q,Qz q];exact r.repl k ry
 ·rw[QA q,QA q];exact Paired.snoc r ⟨rfl,hb,ry⟩
variable {H':Hp}
theorem KT.keeps(r:KT H kvs xs)(ht:∀b ys,H b=some (.tup ys)->H' b=some (.tup ys)):KT H' kvs xs:=
 Paired.mapP r fun _ _ z=>⟨z.1,ht _ _ z.2.1,z.2.2⟩
variable {h:Heap}
section
variable {a:Addr}
def znR{u:HO}(ok:HOk P w H h)(e:Rd H a u):ObjOk P w H h a u:=e.ok ok
theorem zg5{kvs:List (Key × V)}(ok:HOk P w H h)(e:Rd H a (.dK kvs)):kvs.length<=sizeLine/\(a==sysModules)=false/\∃vs,KV kvs vs/\h.DictOf (z4 P w) a vs:=
 show ObjOk P w H h a (.dK kvs)from znR ok e
def zsz{kvs:List (Key × V)}(ok:HOk P w H h)(e:H a=some (.dK kvs)):kvs.length<=sizeLine/\(a==sysModules)=false/\∃vs,KV kvs vs/\h.DictOf (z4 P w) a vs:=zg5 ok (.inl e)
theorem zgP{ks:List Key}(ok:HOk P w H h)(e:H a=some (.tup (ks.map kV))):(tupleKind (z4 P w)).is h ks a:=by obtain⟨_,its,r,⟨o,h1,h2,n,h3⟩,_⟩:=(show ObjOk P w H h a (.tup (ks.map kV))from ok a _ e);exact⟨o,its.toArray,n,h1,h2,h3,by simpa using zh0 r⟩
theorem ziE(ok:HOk P w H h)(e:Rd H a (.dT kvs)):kvs.length<=sizeLine/\(a==sysModules)=false /\
  ∃xs,KT H kvs xs/\h.DictOfH (tupleKind (z4 P w)) a xs:=by
 obtain⟨z,y,xs,r,o,es,ep,h1,h2,h3,h4,h5⟩:=(show ObjOk P w H h a (.dT kvs)from znR ok e);refine⟨z,y,xs,r,o,es,ep,h1,h2,h3,h4,fun x hx=>?_,h5⟩;have all:∀{l:List (List Key × V)} {m:List (List Key × Addr × Value)},KT H l m->∀x ∈ m,(tupleKind (z4 P w)).is h x.1 x.2.1:=by
  intro l m q
  induction q with
  |nil=>intro x hx;exact nomatch hx|@cons p q ps qs hq t ih=>
   intro x hx;rcases QB.mp hx with e | hx
   ·subst e;exact zgP ok (by rw[←hq.1];exact hq.2.1)
   ·exact ih x hx
 exact all r x hx
theorem zsy(ok:HOk P w H h)(e:H a=some (.dT kvs)):kvs.length<=sizeLine/\(a==sysModules)=false /\
  ∃xs,KT H kvs xs/\h.DictOfH (tupleKind (z4 P w)) a xs:=ziE ok (.inl e)
end
def DGet(H:Hp)(a:Addr)(y:V)(r:Option V):Prop:=
 (∃kvs k,Rd H a (.dK kvs)/\y=kV k/\r=zaU kvs k)\/∃kvs k b,Rd H a (.dT kvs)/\y = .ref b/\H b=some (.tup (k.map kV))/\r=zaU kvs k
def DPut(H:Hp)(a:Addr)(y v:V)(H':Hp):Prop:=
 (∃kvs k,H a=some (.dK kvs)/\y=kV k/\kvs.length<sizeLine/\H'=upd H a (.dK (putK kvs k v))) \/
 ∃kvs k b,H a=some (.dT kvs)/\y = .ref b/\H b=some (.tup (k.map kV))/\kvs.length<sizeLine/\H'=upd H a (.dT (putK kvs k v))
variable {v:V}
theorem DPut.k{a:Addr}{kvs:List (Key × V)}{k:Key}(e:H a=some (.dK kvs))(hl:kvs.length<sizeLine):DPut H a (kV k) v (upd H a (.dK (putK kvs k v))):=.inl ⟨kvs,k,e,rfl,hl,rfl⟩
variable {A:Around}{X:Cx}{h':Heap}{ρ:List (Addr × Obj)}{s:Shared}{σ:St}{E Q:Value->Shared->Prop}
section
variable {a:Addr}{r:Value}
theorem Inv.big(I:Inv X ρ σ H s):sysModules<s.heap.objs.size:=by have h:mainGlobals<s.heap.objs.size:=(I.mod.glob.keeps I.bk).lt;exact Nat.lt_trans ∅ h
theorem zmq(hu:A.units+1<cLine)(I:Inv X ρ σ H s)(g:DGet H a y (some v))(ry:RelV y u)(h:∀w' s',Inv X ρ σ H s'->RelV v w'->Q w' s') :
  wpAny (model X.prog X.w) A (getItem (.ref a) u) Q E s:=by
 rcases g with⟨kvs,k,e,ey,l⟩ | ⟨kvs,k,b,e,ey,eb,l⟩
 ·subst ey;obtain⟨z,hd,vs,rel,dd⟩:=zg5 I.hok e;obtain⟨w',hw,rw'⟩:=RelO.some_of (v:=v) (o:=valueAt vs k) (by rw[l];exact rel.val k);exact wpAny_getItem_of (ziA ry) dd.mapOf hw (h w' _ (I.tok _) rw')
 ·subst ey;cases (show u=Value.ref b from ry);obtain⟨z,hd,xs,rel,dd⟩:=ziE I.hok e;obtain⟨w',hw,rw'⟩:=RelO.some_of (v:=v) (o:=(atKey xs k).map (·.2)) (by rw[l];exact rel.val k);obtain⟨p,hp,hp2⟩:=Option.map_eq_some_iff.mp hw;refine wpAny_getItem_heap (tupleKind_room_in1 hu) (zgP I.hok eb) dd hp ?_;rw[hp2];exact h w' _ (I.tok _) rw'
theorem zth(hu:A.units+1<cLine)(I:Inv X ρ σ H s)(g:DGet H a y o)(ry:RelV y u)(h:∀s',Inv X ρ σ H s'->Q (.bool o.isSome) s') :
  wpAny (model X.prog X.w) A (compareOp .In u (.ref a)) Q E s:=by
 rcases g with⟨kvs,k,e,ey,l⟩ | ⟨kvs,k,b,e,ey,eb,l⟩
 ·subst ey;obtain⟨z,hd,vs,rel,dd⟩:=zg5 I.hok e;refine wpAny_in_of (ziA ry) hd dd.mapOf ?_;rw[←(rel.val k).isSome_eq,←l];exact h _ (I.tok _)
 ·subst ey;cases (show u=Value.ref b from ry);obtain⟨z,hd,xs,rel,dd⟩:=ziE I.hok e;refine wpAny_in_heap (tupleKind_room_in1 hu) (zgP I.hok eb) hd dd ?_;have q:=(rel.val k).isSome_eq;rw[Option.isSome_map]at q;rw[←q,←l];exact h _ (I.tok _)
theorem zkE{t':Nat}{ob:HO}(I:Inv X ρ σ H s)(mu:Mut (H a))(hs:Heap.SameBut a s.heap h')(he:∃q,h'.get? a=some q)(new:ObjOk X.prog X.w (upd H a ob) h' a ob) :
  Inv X ρ σ (upd H a ob) { s with heap:=h',toks:=t' }:=
 I.write (x:=a) (e:=a) mu (.inl rfl) (fun b q hb z=>(hs.2 b hb).trans z) he new
theorem zrx{kvs:List (Key × V)}{vs:List (Key × Value)}(z:kvs.length<=sizeLine)(hd:(a==sysModules)=false)(rel:KV kvs vs)(dd:h'.DictOf (z4 P w) a vs) :
  ObjOk P w H' h' a (.dK kvs):=⟨z,hd,vs,rel,dd⟩
theorem zmp{Q:Unit->Shared->Prop}(hu:A.units+1<cLine)(I:Inv X ρ σ H s)(g:DPut H a y v H')(ry:RelV y u)(rv:RelV v r)(h:∀s',Inv X ρ σ H' s'->Q () s') :
  wpAny (model X.prog X.w) A (setItem (.ref a) u r) Q E s:=by
 rcases g with⟨kvs,k,e,ey,l,eH⟩ | ⟨kvs,k,b,e,ey,eb,l,eH⟩
 ·subst ey eH;obtain⟨z,hd,vs,rel,dd⟩:=zsz I.hok e;have hz:vs.length<=sizeLine:=by rw[←rel.length];exact z
  have hl:(putK kvs k v).length<=sizeLine:=by have:=zfR kvs k v;omega
  refine wpAny_setItem_pairs (hsz:=hz) (ziA ry) dd fun h' dd' hs=>h _ ?_;have he:∃q,h'.get? a=some q:=let ⟨q,_,_,hq,_⟩:=dd';⟨q,hq⟩
  exact zkE I (by rw[e];exact True.intro) hs he (zrx hl hd (rel.put k rv) dd')
 ·subst ey eH;cases (show u=Value.ref b from ry);obtain⟨z,hd,xs,rel,dd⟩:=zsy I.hok e;have hz:xs.length<=sizeLine:=by rw[←Paired.length rel];exact z
  have hl:(putK kvs k v).length<=sizeLine:=by have:=zfR kvs k v;omega
  refine wpAny_setItem_heap (hsz:=hz) (tupleKind_room_in1 hu) (zgP I.hok eb) dd fun h' dd' hs=>h _ ?_;obtain⟨q,es,ep,hq,h2,h3,h4,_,h5⟩:=dd';refine zkE I (by rw[e];exact True.intro) hs ⟨q,hq⟩ ⟨hl,hd,_,(rel.put k eb rv).keeps fun c ys ec=>?_,q,es,ep,hq,h2,h3,h4,h5⟩;rw[zi (zfw ec e (fun z=>nomatch z))];exact ec
end
section
variable {a:Addr}{kvs:List (Key × V)}{k:Key}
theorem zsA(I:Inv X ρ σ H s)(e:Rd H a (.dK kvs))(h:∀t s',Inv X ρ σ H s'->Q (.int kvs.length t) s'):wpAny (model X.prog X.w) A (call (.builtin "len") [.ref a]) Q E s:=by obtain⟨z,hd,vs,rel,dd⟩:=zg5 I.hok e;refine call_len_dict hd dd (by rw[←rel.length];rw[sizeLine_eq]at z;omega) ?_;rw[←rel.length];exact h _ _ (I.tok _)
end
theorem zjV{a:Addr}(I:Inv X ρ σ H s)(g:DGet H a y o):s.TypeIs (.ref a) "dict":=by
 rcases g with⟨kvs,k,e,_,_⟩ | ⟨kvs,k,b,e,_,_,_⟩
 ·obtain⟨_,_,vs,_,dd⟩:=zg5 I.hok e;exact dd.typeIs
 ·obtain⟨_,_,xs,_,dd⟩:=ziE I.hok e;exact dd.typeIs
theorem znH(h:Heap)(hb:sysModules<h.objs.size):ObjOk P w H (h.push { cls:=.type "dict",data:=.dict #[] }) h.objs.size (.dK []):=
 ⟨Nat.zero_le _,beq_eq_false_iff_ne.mpr (Ne.symm (Qk hb)),[],.nil,Heap.DictOf.new h⟩
noncomputable def zpP:TE:=fun _ H Q=>∀p,H p=none->Q (.ref p) (upd H p (.dK []))
variable {pos:Pos}
section
theorem zm7:PE X (.Dict [] [] pos) zpP:=fun ρ s σ H Q I h=>wpAny_Dict_empty ⟨.ref s.heap.objs.size,_,I.laid (a:=s.heap.objs.size) (o:=.dK []) (t':=s.toks) (fun _ _ q=>Q2 _ q) (Q3 _) (znH s.heap I.big),rfl,h _ (I.hok.fresh (Q3 _))⟩
end
noncomputable def zlW(kvs more:List (Key × V)):List (Key × V):=more.foldl (fun acc kv=>putK acc kv.1 kv.2) kvs
structure M1 (X:Cx) (o:Expr) (m:Str) (apos:Pos) (e:Expr) (cpos:Pos):Prop where
 base:attributeBase o m X.env (eval o X.env)=eval o X.env
 few:((backTo cpos (starEach [e] X.env)).all (fun x=>!x.1) && (backToKw cpos (keywordEach [] X.env)).all (fun x=>x.1.isSome)
  && decide (([e]:List Expr).length+([]:List Keyword).length+(if([]:List Keyword).isEmpty then 0 else 1)<30))=true
 line:(apos.endLine==cpos.line)=true
 trees:backTo cpos (starEach [e] X.env)=[(false,eval e X.env)]
structure M2 (X:Cx) (o:Expr) (m:Str) (apos:Pos) (e f:Expr) (cpos:Pos):Prop where
 base:attributeBase o m X.env (eval o X.env)=eval o X.env
 few:((backTo cpos (starEach [e,f] X.env)).all (fun x=>!x.1) && (backToKw cpos (keywordEach [] X.env)).all (fun x=>x.1.isSome)
  && decide (([e,f]:List Expr).length+([]:List Keyword).length+(if([]:List Keyword).isEmpty then 0 else 1)<30))=true
 line:(apos.endLine==cpos.line)=true
 trees:backTo cpos (starEach [e,f] X.env)=[(false,eval e X.env),(false,eval f X.env)]
def Bnd(n:Nat)(i:Int):Prop:=i.natAbs<10 ^ n
instance (n:Nat) (i:Int):Decidable (Bnd n i):=inferInstanceAs (Decidable (i.natAbs<10 ^ n))
variable {i j:Int}{n:Nat}
theorem Bnd.add(h:Bnd n i)(k:Bnd n j):Bnd (n+1) (i+j):=by unfold Bnd at *;have h1:=Int.natAbs_add_le i j;rw[Nat.pow_succ];omega
theorem Bnd.neg(h:Bnd n i):Bnd n (-i):=by unfold Bnd at *;rw[Int.natAbs_neg];exact h
theorem zkH(h:Bnd n i)(hn:n<=3000):Builtin.Int.intBits i<=2 ^ 20:=by
 unfold Builtin.Int.intBits;split
 ·exact Nat.zero_le _
 ·rename_i h0;have h1:i.natAbs ≠ 0:=by intro z;have:i=0:=Int.natAbs_eq_zero.mp z;subst this;exact h0 rfl
  have h2:i.natAbs<2 ^ (4*n):=by
   have e:(2:Nat) ^ (4*n)=16 ^ n:=by rw[Nat.pow_mul]
   rw[e];exact Q5 h (Nat.pow_le_pow_left ∅ n)
  have h3:i.natAbs.log2<4*n:=(Nat.log2_lt h1).mpr h2;have:(2:Nat) ^ 20=1048576:=by decide
  omega
def CMulB(i j:Int):Prop:=(∃m n,Bnd m i/\Bnd n j/\m<=3000/\n<=3000)\/CMul i j
theorem CMulB.ok(h:CMulB i j):IntMulOk i j:=by
 rcases h with⟨m,n,h1,h2,h3,h4⟩ | h
 ·exact IntMulOk.of_bits (zkH h1 h3) (zkH h2 h4)
 ·exact h.ok
section
def zoG:OpR X (binaryOp .Mult) (rI CMulB fun i j=>.int (i*j)):=opI fun _ _ _ _ _ _ _ hc q=>mul_int q hc.ok
noncomputable def zrY(K:Frag):R2:=fun x y H Q=>∃l b xs zs,x = .ref l/\y = .ref b/\SqL K H l xs/\SqL K H b zs/\xs.length+zs.length<=sizeLine/\∀p,H p=none->Q (.ref p) (upd H p (.lst (xs++zs)))
theorem zoJ:OpR X (binaryOp .Add) (zrY X.K):=by
 infer_instance
 obtain⟨l,b,xs,zs,rfl,rfl,hH,hB,hz,q⟩:=h;cases rx;cases ry;obtain⟨its,r,pl,z⟩:=I.list hH;obtain⟨its2,r2,pl2,z2⟩:=I.list hB;obtain⟨⟨cls,dd,data,sl⟩,n,ho,hc,hdi,hd⟩:=pl;obtain⟨⟨cls2,dd2,data2,sl2⟩,n2,ho2,hc2,hdi2,hd2⟩:=pl2;simp only at hc hd hc2 hd2;subst hc hd hc2 hd2;have e1:=r.length;have e2:=r2.length;refine concat_meets ⟨_,ho,rfl⟩ ⟨_,ho2,rfl⟩ noFill_list_add seq_list_add PySem.F.slot_list_add PySem.F.entry_list_add (PySem.F.args_list_add_2 _ _) (list_addW l b its.toArray its2.toArray n n2 dd dd2 sl sl2 (by rw[Qi,Qi];omega)) ⟨ho,ho2,?_⟩;have ea:its.toArray++its2.toArray=(its++its2).toArray:=by simp
 rw[ea];exact⟨.ref _,_,I.lnew (t':=s.toks) (r.append r2) (by rw[Qn];omega),rfl,q _ I.fresh⟩
end
structure Df (K:Frag) (mg:Str->Option Value) (x:Str) (st:Stmt) (ps:List Str):Prop where
 ex:∃(f:Addr) (fd:FuncData),Fun K x x st f fd/\Binds K fd ps []/\mg x=some (.ref f)
structure Cal (P:Program) (w:World) (K:Frag) (mg:Str->Option Value) (base:Heap) (k:Nat) (x:Str) (ps:List Str) (sp:Sp):Prop where
 ex:∃(f:Addr) (fd:FuncData),FnOk P w K mg base CX0 k f fd ps sp/\PySem.W.keepIn K (.ref f)=true/\Binds K fd ps []/\mg x=some (.ref f)
variable {f:Addr}{sl:Array (Option Value)}{K:Frag}{ps:List Str}{an od:Option Addr}{sp:Sp}{st:Stmt}{x:Str}{mg:Str->Option Value}{cd ct dc oc pm:Value}
section
variable {base:Heap}
theorem Df.ok{N:List Str}{k:Nat}(D:Df K mg x st ps)(S:FnScope N ps (ye st))(len:∀vs H Q E,sp vs H Q E->vs.length=ps.length)
 (hbody:∀(f:Addr) (cdv:Value) (A:Around) (outer:List Env) (s:Shared) (H:Hp) (vs:List V) (Q:VK) (E:XK),Room k (A.deeper (envOfC x (ye st) s.heap.objs.size f cdv))->sp vs H Q E->
 ∃t,PSs (zbS CX0 P w K mg base N x (ye st) f cdv A outer s H E).nox (qE st) t/\t { nx:=fun _ H'=>Q .non H',rt:=Q } (start N vs) H):Cal P w K mg base (k+1) x ps sp:=by
 obtain⟨f,fd,F,b,g⟩:=D.ex;exact⟨⟨f,fd,F.ok S len (hbody f),F.kp,b,g⟩⟩
theorem yx(X:K.In h)(G:h.Ns mainGlobals mg){kV:Value}
 (a:PySem.W.nsIn K mainGlobals x=some (some (.ref f)))
 (l:K.lookup f=some ⟨oc,od,.func (PySem.W.fnOf x x (zaa st) (qE st) (ye st) .none kV dc pm an cd ct),sl⟩) (c:PySem.W.codeIn K cd x=true) (k:PySem.W.keepIn K (.ref f)=true)
 (hb:∀(kV doc pm:Value) (an:Option Addr) (cdv ct:Value) (us:List Value),us.length=ps.length->bindArgs (PySem.W.fnOf x x (zaa st) (qE st) (ye st) .none kV doc pm an cdv ct) ⟨us,[]⟩=pure (ps.zip us)):Df K mg x st ps:=by
 have F:=zg0 (st:=st) l c k;exact⟨⟨f,_,F,F.binds hb,PySem.W.mg_of X G a⟩⟩
end
section
theorem zqH(X:K.In h)(G:h.Ns mainGlobals mg){kV:Value}
 (a:PySem.W.nsIn K mainGlobals "law" = some (some (.ref f)))
 (l:K.lookup f=some ⟨oc,od,.func (PySem.W.fnOf "law" "law" (zaa st) (qE st) (ye st) .none kV dc pm an cd ct),sl⟩) (c:PySem.W.codeIn K cd "law" = true) (k:PySem.W.keepIn K (.ref f)=true)
 (hb:∀(kV dc pm:Value) (an:Option Addr) (cd ct:Value) (s:Shared) (u:Value),BindsTo s (PySem.W.fnOf "law" "law" (zaa st) (qE st) (ye st) .none kV dc pm an cd ct) ⟨[u],[]⟩ [("script",u)]) :
  ∃(f:Addr) (fd:FuncData),Fun K "law" "law" st f fd/\mg "law" = some (.ref f)/\∀(s:Shared) (u:Value),BindsTo s fd ⟨[u],[]⟩ [("script",u)]:=
 ⟨f,_,zg0 (st:=st) l c k,PySem.W.mg_of X G a,fun s u=>hb _ _ _ _ _ _ s u⟩
end
section
variable {k:Nat}{p:Pos}{e:Expr}{es:List Expr}{t:TA}
theorem zqn(C:Cal X.prog X.w X.K X.mg X.base k x ps sp)(hr:Room k X.A)(hg:Gl X x)(ha:PA X (e::es) t)(hdb:(x==("__debug__":Str))=false:=by decide)
  (he:starEach (e::es) X.env=(false,eval e X.env)::starEach es X.env:=by rfl) (hpl:(backTo pos (starEach es X.env)).any (·.1)=false:=by rfl) :
  PE X (.Call (.Name x p) (e::es) [] pos) (znQ sp [] E0 t):=by
 obtain⟨f,fd,F,kp,b,g⟩:=C.ex;exact zkg F hr hg g kp b .nil znU ha hdb he hpl
end
theorem Bnd.of(h1:-(10 ^ n:Int)<i)(h2:i<10 ^ n):Bnd n i:=by
 unfold Bnd;have:((10 ^ n:Nat):Int)=(10:Int) ^ n:=by simp
 omega
theorem Bnd.hi(h:Bnd n i):i<10 ^ n:=by
 unfold Bnd at h;have:((10 ^ n:Nat):Int)=(10:Int) ^ n:=by simp
 omega
theorem Bnd.lo(h:Bnd n i):-(10 ^ n:Int)<i:=by
 unfold Bnd at h;have:((10 ^ n:Nat):Int)=(10:Int) ^ n:=by simp
 omega
theorem Bnd.gcd{a b:Int}(h:0<b)(k:Bnd n b):Bnd n ((Int.gcd a b:Nat):Int):=by unfold Bnd at *;have h1:((Int.gcd a b:Nat):Int) ∣ b:=Int.gcd_dvd_right ..;have h2:((Int.gcd a b:Nat):Int)<=b:=Int.le_of_dvd h h1;omega
noncomputable abbrev zan:List Value:=[.type "ValueError",.type "Exception",.type "BaseException",.type "object"]
structure ExcAt (K:Frag) (mg:Str->Option Value) (x:Str) (C:Addr):Prop where
 bound:mg x=some (.ref C)
 obj:∀h:Heap,K.In h->∃bm N nm q bs hdct sn sub ab col dd k0 k1 k2 k3 k5 mN,h.get? C=some (excClassObj nm q C N bs bm hdct sn sub ab col dd k0 k1 k2 k3 k5 "ValueError.__new__")/\h.Ns N mN/\mN "__init__" = none/\OwnTail h zan bm
noncomputable def zaY(es:Array DictEntry):Bool:=es.toList.all (fun e=>match e.key with | .str _ _=>true | _=>false)
theorem zki(X:K.In h){N:Addr}{n:Str}{c:Value}{d:Option Addr}{es:Array DictEntry}{ep:Nat}(l:K.lookup N=some ⟨c,d,.dict es ep,sl⟩)(sk:zaY es=true)
 (q:PySem.W.nsIn K N n=some none):∃mN,h.Ns N mN/\mN n=none:=by
 have ho:=X _ _ l;have hi:h.isNs N=true:=by unfold Heap.isNs;rw[ho];unfold zaY at sk;rw[Array.all_toList]at sk;exact sk
 refine⟨h.nsMap N,Heap.Ns.of_isNs hi,?_⟩;obtain⟨o,es',ep',ho',hd',_,hf⟩:=Heap.Ns.of_isNs hi;rw[←hf n];rw[ho]at ho';cases ho';cases hd';unfold PySem.W.nsIn at q;rw[l]at q;dsimp only at q;unfold nsFind findBy;cases e:es.toList.find? (·.key.isStr n)with
 |some e'=>rw[e]at q;cases q|none=>
  have:es.find? (fun e=>e.key.isStr n)=none:=by rw[←Array.find?_toList];exact e
  simp[this]
theorem ObjOk.there{a:Addr}{o:HO}(x:ObjOk P w H h a o):∃u,h.get? a=some u:=by cases o with|lst xs=>obtain⟨_,_,_,_,e⟩:=x;exact⟨_,e⟩|tup xs=>obtain⟨_,_,_,⟨ob,e,_⟩,_⟩:=x;exact⟨_,e⟩|dK kvs=>obtain⟨_,_,_,_,o,_,_,e,_⟩:=x;exact⟨_,e⟩|dT kvs=>obtain⟨_,_,_,_,o,_,_,e,_⟩:=x;exact⟨_,e⟩|set S n=>obtain⟨o,_,_,_,e,_⟩:=x;exact⟨_,e⟩|ins C dx fs=>obtain⟨_,_,_,e,_⟩:=x;exact⟨_,e⟩|own y=>obtain⟨_,e⟩:=x;exact⟨_,e⟩|xd fs=>obtain⟨_,⟨_,_,_,e,_⟩,_⟩:=x;exact⟨_,e⟩|rng lo hi=>obtain⟨_,_,_,e⟩:=x;exact⟨_,e⟩|frz ob u=>obtain⟨e,_⟩:=x;exact⟨_,e⟩|tbl ps=>exact⟨_,(show h.get? a=some _ from x)⟩|met f y=>exact⟨_,(show h.get? a=some _ from x)⟩|ext φ=>obtain⟨_,⟨_,e⟩,_⟩:=x;exact⟨_,e⟩
noncomputable def CXC(P:Program)(w:World)(C:Addr):CXT:=fun l H s E ev s'=>∃(e t:Addr) (B:Heap) (H':Hp),ev = .ref e/\Heap.FlyingW B l e (.ref C) (.ref t) s'.heap/\s'.os=s.os/\AllBare s'.gens /\
 Un (frs l) [] H H' s.heap s'.heap/\HOk P w H' s'.heap/\(∀b o,s'.heap.get? b=some o->b ∉ frs l->(H' b ≠ none\/∃o',s.heap.get? b=some o')->B.get? b=some o)/\(∀b ∈ frs l,H' b=none)/\E (.ref C) none H'
theorem znP{l:List Env}{h1 h2 B:Heap}(u:Un (frs l) [] H H' h h1)(hok:HOk P w H' h1)(hB:∀b o,h1.get? b=some o->b ∉ frs l->(H' b ≠ none\/∃o',h.get? b=some o')->B.get? b=some o)
 (hfr:∀b ∈ frs l,H' b=none) (hfn:∀b ∈ frs l,∀o,h1.get? b=some o->∀vs,o.data ≠ .fields vs) (st:B.StaysIn h2) (up:h1.UpToSlots h2):Un (frs l) [] H H' h h2/\HOk P w H' h2:=by
 refine⟨⟨fun b o e n nf nx=>?_,fun b o e n hf nx=>?_,u.free,fun b o e nx=>?_,u.tups,u.frzs,u.tbls⟩,fun a o e=>?_⟩
 ·exact st _ _ (hB b o (u.keep b o e n nf nx) nf (.inr ⟨o,e⟩))
 ·obtain⟨sl,e1⟩:=u.slot b o e n hf nx;obtain⟨sl2,e2⟩:=up b _ e1 (hfn b hf _ e1);exact⟨sl2,e2⟩
 ·obtain⟨o1,e1⟩:=u.there b o e nx
  by_cases hf:b ∈ frs l
  ·obtain⟨sl2,e2⟩:=up b _ e1 (hfn b hf _ e1);exact⟨_,e2⟩
  ·exact⟨_,st _ _ (hB b o1 e1 hf (.inr ⟨o,e⟩))⟩
 ·refine(hok a o e).stay (fun b v hb ev=>?_) (fun _ q=>q) fun _ _ q=>q;have ht:H' b ≠ none:=by
   rcases hb with rfl | hb
   ·rw[e];simp
   ·rw[hb];simp
  exact st _ _ (hB b v ev (fun hf=>ht (hfr b hf)) (.inl ht))
noncomputable abbrev Cx.suite(X:Cx)(ev:Addr):Cx:={ X with A:=X.A.mark (some (.ref ev)),calm:=false,xe:=fun _ _=>False }
section
variable {ev:Addr}
theorem Inv.suite(I:Inv X ρ σ H s)(ev:Addr):Inv (X.suite ev) ρ σ H s:=
 ⟨⟨I.ok.mod,I.ok.kind,I.ok.glob,I.ok.blt,I.ok.above,I.ok.inj,I.ok.has,I.ok.cab,(fun z=>by cases z),I.ok.frames,I.ok.stk,I.ok.exf,I.ok.bs,I.ok.bsz,I.ok.noex,I.ok.exfs,I.ok.funs,I.ok.frf⟩,I.os,I.bare,I.base,I.loc,I.cell,I.free,I.freeC,I.pin,I.hok,I.len⟩
def Inv.unsuite(ok:X.Ok)(I:Inv (X.suite ev) ρ σ H s):Inv X ρ σ H s:=⟨ok,I.os,I.bare,I.base,I.loc,I.cell,I.free,I.freeC,I.pin,I.hok,I.len⟩
theorem SP.unsuite(ok:X.Ok){D:Ends}{f:Flow}{s':Shared}(h:SP (X.suite ev) ρ D f s'):SP X ρ D f s':=by cases f with|next=>obtain⟨σ',H',I,q⟩:=h;exact⟨σ',H',I.unsuite ok,q⟩|brk=>obtain⟨σ',H',I,q⟩:=h;exact⟨σ',H',I.unsuite ok,q⟩|cont=>obtain⟨σ',H',I,q⟩:=h;exact⟨σ',H',I.unsuite ok,q⟩|ret u=>obtain⟨v,σ',H',I,r,q⟩:=h;exact⟨v,σ',H',I.unsuite ok,r,q⟩
end
theorem znD(x:V)(f:zaF x=true):eqV x x=true:=by cases x with|non=>rfl|bl b=>simp[eqV]|int i=>simp[eqV]|str z=>simp[eqV]|_=>exact absurd (show false=true from f) Q4
section
def CDivS(_ j:Int):Prop:=j ≠ 0/\∃n,Bnd n j/\n<=2000
theorem CDivS.ok(h:CDivS i j):Builtin.divisionGoesByPylong i j=false:=by
 obtain⟨h0,n,h1,h2⟩:=h;refine PyProof.noPylong_of_log2 ?_;have hz:j.natAbs ≠ 0:=by omega
 have e:(2:Nat) ^ (4*n)=16 ^ n:=by rw[Nat.pow_mul]
 have h3:j.natAbs<2 ^ (4*n):=by rw[e];exact Q5 h1 (Nat.pow_le_pow_left ∅ n)
 have h4:j.natAbs.log2<4*n:=(Nat.log2_lt hz).mpr h3;omega
def zm9:OpR X (binaryOp .FloorDiv) (rI CDivS fun i j=>.int (i.fdiv j)):=opI fun _ _ _ _ _ _ _ hc q=>floordiv_int hc.1 q (.inl hc.ok)
end
structure CalX (P:Program) (w:World) (K:Frag) (mg:Str->Option Value) (base:Heap) (C:Addr) (k:Nat) (x:Str) (ps:List Str) (sp:Sp):Prop where
 ex:∃(f:Addr) (fd:FuncData),FnOk P w K mg base (CXC P w C) k f fd ps sp/\PySem.W.keepIn K (.ref f)=true/\Binds K fd ps []/\mg x=some (.ref f)
theorem zc6{name:Str}{acc:List (Str × Addr)}{c:Addr}(e:((name,n)::acc).lookup x=some c):(x=name/\c=n)\/acc.lookup x=some c:=by
 rw[lookup_cons]at e;split at e
 ·rename_i h;cases e;exact .inl ⟨eq_of_beq h,rfl⟩
 ·exact .inr e
theorem zg8:∀(names:List (Str × NameKind)) (n:Nat) (acc:List (Str × Addr)),(∀x y c,acc.lookup x=some c->acc.lookup y=some c->x=y)->(∀x c,acc.lookup x=some c->c<n)->∀x y c,(cellsFrom n names acc).lookup x=some c->(cellsFrom n names acc).lookup y=some c->x=y
 |[],_,_,h,_,x,y,c,e1,e2=>h x y c e1 e2|(name,kind)::r,n,acc,h,lt,x,y,c,e1,e2=>by
  unfold cellsFrom at e1 e2;split at e1
  ·rename_i hk;rw[Qz hk]at e2;refine zg8 r (n+1) ((name,n)::acc) (fun x y c f1 f2=>?_) (fun x c f=>?_) x y c e1 e2
   ·rcases zc6 f1 with⟨g1,g2⟩ | g1<;>rcases zc6 f2 with⟨g3,g4⟩ | g3
    ·rw[g1,g3]
    ·subst g2;exact absurd (lt _ _ g3) (Qo _)
    ·subst g4;exact absurd (lt _ _ g1) (Qo _)
    ·exact h x y c g1 g3
   ·rcases zc6 f with⟨g1,g2⟩ | g1
    ·subst g2;exact Nat.lt_succ_self _
    ·exact Nat.lt_succ_of_lt (lt _ _ g1)
  ·rename_i hk;rw[QA hk]at e2;exact zg8 r n acc h lt x y c e1 e2
theorem ziF{x:Str}{c:Addr}:∀(names:List (Str × NameKind)) (n:Nat) (acc:List (Str × Addr)),(cellsFrom n names acc).lookup x=some c->acc.lookup x=some c\/n<=c
 |[],_,_,e=>.inl e|(name,kind)::r,n,acc,e=>by
  unfold cellsFrom at e;split at e
  ·rcases ziF r (n+1) _ e with f | f
   ·rcases zc6 f with⟨_,g⟩ | g
    ·exact .inr (Nat.le_of_eq g.symm)
    ·exact .inl g
   ·exact .inr ⋯
  ·exact ziF r n acc e
theorem zlo{x:Str}{c:Addr}{lo:Nat}:∀(names:List (Str × NameKind)) (n:Nat) (acc:List (Str × Addr)),lo<=n->(∀c,acc.lookup x=some c->lo<=c)->(cellsFrom n names acc).lookup x=some c->lo<=c
 |[],_,_,_,h,e=>h _ e|(name,kind)::r,n,acc,hn,h,e=>by
  unfold cellsFrom at e;split at e
  ·refine zlo r (n+1) _ (Nat.le_succ_of_le hn) (fun c f=>?_) e;rcases zc6 f with⟨_,g⟩ | g
   ·subst g;exact hn
   ·exact h _ g
  ·exact zlo r n acc hn h e
theorem zg6{x:Str}{c:Addr}:∀(names:List (Str × NameKind)) (n:Nat) (acc:List (Str × Addr)),names.lookup x=some .cell->(cellsFrom n names acc).lookup x=some c->n<=c
 |[],_,_,h,_=>by cases h|(name,kind)::r,n,acc,h,e=>by
  unfold cellsFrom at e;rw[lookup_cons]at h;split at h
  ·rename_i hx;cases h;rw[Qz (show(NameKind.cell==NameKind.cell)=true from rfl)]at e;refine zlo r (n+1) _ (Nat.le_succ _) (fun c f=>?_) e;rw[lookup_cons,hx]at f;cases f;exact Q3 _
  ·split at e
   ·exact Nat.le_of_succ_le (zg6 r (n+1) _ h e)
   ·exact zg6 r n acc h e
theorem zg7{x:Str}:∀(names:List (Str × NameKind)) (n:Nat) (acc:List (Str × Addr)),(∀y ∈ names,y.2 = .cell->y.1 ≠ x)->(cellsFrom n names acc).lookup x=acc.lookup x
 |[],_,_,_=>rfl|(name,kind)::r,n,acc,h=>by
  unfold cellsFrom;split
  ·rename_i hk;rw[zg7 r (n+1) _ fun y hy=>h y (mem_cons_of_mem _ hy),lookup_cons];have:(x==name)=false:=by cases q:x==name with|false=>rfl|true=>exact absurd (eq_of_beq q).symm (h (name,kind) mem_cons_self (eq_of_beq hk))
   rw[this]
  ·exact zg7 r n acc fun y hy=>h y (mem_cons_of_mem _ hy)
theorem zfK:∀(names:List (Str × NameKind)) (h:Heap) (acc:List (Str × Addr)),(∀x c,acc.lookup x=some c->∃v,h.IsCell c v)->∀x c,(cellsFrom h.objs.size names acc).lookup x=some c->∃v,(pushCells h names).IsCell c v
 |[],_,_,k,x,c,e=>k x c e|(name,kind)::r,h,acc,k,x,c,e=>by
  unfold cellsFrom at e;unfold pushCells;split at e
  ·rename_i hk;rw[Qz hk];refine zfK r (h.push { cls:=.type "cell",data:=.cell none }) ((name,h.objs.size)::acc) (fun x c f=>?_) x c (by rw[Heap.size_push];exact e);rcases zc6 f with⟨_,g⟩ | g
   ·subst g;exact⟨none,_,Ql _ rfl,rfl⟩
   ·obtain⟨v,q⟩:=k x c g;exact⟨v,q.keeps fun b o e=>Q2 _ e⟩
  ·rename_i hk;rw[QA hk];exact zfK r h acc k x c e
variable {cl:List (Str × Addr)}{scope:Scope}
theorem zaM{M:Model}{globals:Addr}{qual:Str}{env:Env}{builtins:Addr}{Q:Env->Shared->Prop}
 (hQ:∀h',h'.Ns s.heap.objs.size (fun _=>none)->h'=pushCells (s.heap.push { cls:=.type "dict",data:=.dict #[] }) scope.names->
 Q (newEnv scope s.heap.objs.size globals (cellsFrom (s.heap.objs.size+1) scope.names cl) qual none .none (some env) builtins) { s with heap:=h' }) :
  wpAny M A (newFunctionEnv scope globals cl [] qual none .none (some env) builtins) Q E s:=by
 simp only[newFunctionEnv,Option.isSome_some,if_true];refine Q1 (wpAny_alloc ?_);refine Q1 (wpAny_layCells _ (fun name kind cells=>by cases hkc:kind==NameKind.cell<;>simp[hkc]) _ _ _ _ ?_);rw[show({ s with heap:=s.heap.push { cls:=.type "dict",data:=.dict #[] } }:Shared).heap.objs.size=s.heap.objs.size+1 from Heap.size_push ..];refine Q1 ?_;rw[List.forIn_nil];exact Qf (Qf (hQ _ ((Heap.Ns.new s.heap (.type "dict")).keeps (pushCells_keeps _ _)) rfl))
noncomputable def zgu(scope:Scope)(cl:List (Str × Addr))(C:Addr)(env:Env):Env:={ compEnvC scope cl C env with cells:=cellsFrom (C+1) scope.names cl }
noncomputable def Cx.block(X:Cx)(scope:Scope)(cl:List (Str × Addr))(N:List Str)(ex:List Addr)(s0:Shared)(H0:Hp):Cx where
 prog:=X.prog
 w:=X.w
 K:=X.K
 mg:=X.mg
 base:=X.base
 A:=X.A
 N:=N
 s₀:=s0
 H₀:=H0
 env:=zgu scope cl s0.heap.objs.size X.env
 outer:=X.stack
 stack:=X.stack
 ex:=ex
 fn:=fun x=>scope.names.lookup x==some .cell
 calm:=X.calm
 pn:=[]
 xe:=fun _ _=>False
def PTs(X:Cx)(ifs:List Expr)(t:TT):Prop:=
 ∀(ρ:List (Addr × Obj)) (s:Shared) (σ:St) (H:Hp) (Q:Bool->Hp->Prop),Inv X ρ σ H s->t σ H Q->
  wpAny (model X.prog X.w) X.A (forIn ifs true fun c r=>if r=true then do let ok ←isTrue c X.env (eval c X.env);pure (ForInStep.yield ok)else pure (ForInStep.yield r)) (TP X ρ σ Q) X.xe s
noncomputable def zrI:TT:=fun _ H Q=>Q true H
def zor:PTs X [] zrI:=fun _ _ _ H _ I h=>wpAny_tests_nil ⟨H,I,h⟩
def zoq{c:Expr}{t:TT}(h:PT X c t):PTs X [c] t:=fun ρ s σ H Q I hq=>wpAny_tests_one (h ρ s σ H Q I hq)
noncomputable def zba(tgs:List Str)(ζ:List (Str × Nat))(σ:St):St:=tgs.map (fun _=>none)++ζ.map fun c=>(σ[c.2]?).join
noncomputable def zit(wi:TI)(g:TG)(tc:TT)(te:TE)(σ0:St->St):TE:=fun σ H Q=>wi σ H fun J H1=>∀D,H1 D=none->∃W:Nat->Nat->St->Hp->Prop,(∃m,W 0 m (σ0 σ) (upd H1 D (.lst [])))/\∀i m σ' H',W i m σ' H'->
 (J.stop i H'/\Q (.ref D) H')\/(J.go i H'/\∃N:St->Hp->Prop,(∀σ'' H'',N σ'' H''->∃m',m'<m/\W (i+1) m' σ'' H'')/\∀x H2,J.yld i H' x H2->g x σ' H2 fun σ2 H3=>tc σ2 H3 fun b H4=>if b=true then te σ2 H4 fun v H5=>∃ys,H5 D=some (.lst ys)/\ys.length<sizeLine/\N σ2 (upd H5 D (.lst (ys++[v])))else N σ2 H4)
variable {elt iter:Expr}{ifs:List Expr}
theorem zcd{prog:Program}{R:Result->Shared->Prop}{target:Expr}{it acc:Value}{env:Env}(I:Nat->Shared->Prop)
 (turn:∀n s,I n s->wpAny (model prog w) A (pyNext it) (fun r s₁=>match r with
 |none=>R (.ok .next) s₁
 | some v=>wpAny (model prog w) A (letOwnedTupleGo target it v) (fun _ s₁'=>wpAny (model prog w) A (assign target env v) (fun _ s₂=>
 wpAny (model prog w) A (forIn ifs true fun c r=>if r=true then do let ok ←isTrue c env (eval c env);pure (ForInStep.yield ok)else pure (ForInStep.yield r)) (fun ok s₃=>
 if ok=true then wpAny (model prog w) A (eval elt env) (fun x s₄=>
 wpAny (model prog w) A (call (.builtin "list.append") [acc,x]) (fun _ s₅=>∃m,m<n/\I m s₅) (notedBy (model prog w) A env fun e s'=>R (.error e) s') s₄) (notedBy (model prog w) A env fun e s'=>R (.error e) s') s₃
 else ∃m,m<n/\I m s₃) (notedBy (model prog w) A env fun e s'=>R (.error e) s') s₂) (notedBy (model prog w) A env fun e s'=>R (.error e) s') s₁') (notedBy (model prog w) A env fun e s'=>R (.error e) s') s₁) (notedBy (model prog w) A env fun e s'=>R (.error e) s') s)
 (n:Nat) (h:I n s):codeAny (model prog w) A (.compLoop (.ListComp elt [⟨target,iter,ifs,0⟩] scope pos) 0 it acc env) R s:=by
 refine codeAny_loop rfl I (fun n s hI=>?_) n h;show wpAny _ A ((compTurn (.ListComp elt [⟨target,iter,ifs,0⟩] scope pos) 0 it acc env).onRaise (fun x=>do noteFrame x env;theTreesLotGoes x)) _ _ s;refine wpAny_noted ?_;rw[compTurn_list];refine Q1 (wpAny_standAt (Q1 (Qg (turn n s hI) (fun r s₁ h₁=>?_) fun _ _ h'=>h')));cases r with
 |none=>exact Qf h₁|some v=>
  refine Q1 (Qg h₁ (fun _ s₁' h₁'=>?_) fun _ _ h'=>h');refine Q1 (Qg h₁' (fun _ s₂ h₂=>Q1 (Qg h₂ (fun ok s₃ h₃=>?_) fun _ _ h'=>h')) fun _ _ h'=>h');cases ok with
  |false=>exact Qf ⟨rfl,h₃⟩|true=>exact Q1 (Q1 (Qg h₃ (fun x s₄ h₄=>Q1 (Qg h₄ (fun _ s₅ h₅=>Qf (Qf ⟨rfl,h₅⟩)) fun _ _ h'=>h')) fun _ _ h'=>h'))
variable {tg:Expr}{wi:TI}
section
theorem zkf{tgs:List Str}{ζ:List (Str × Nat)}{g:TG}{tc:TT}{te:TE}
 (hc:X.calm=true) (hi:PI X tg iter wi) (hclos:closureFor scope X.env=pure cl) (hcell:∀y ∈ scope.names,y.2 = .cell->y.1 ∉ ζ.map (·.1)) (hkind:scope.kind = .function)
 (hnames:∀y ∈ scope.names,y.2 = .local->scope.names.lookup y.1=some .local)
 (hcl:∀y c,cl.lookup y=some c->X.env.cells.lookup y=some c)
 (hhas:∀n y,((relabel scope X.env).names.lookup y=some .cell\/(relabel scope X.env).names.lookup y=some .free)->∃c,(cellsFrom n scope.names cl).lookup y=some c)
 (hcap:∀c ∈ ζ,X.N[c.2]? = some c.1/\X.env.kindOf c.1=some .cell/\((relabel scope X.env).names.lookup c.1=some .cell\/(relabel scope X.env).names.lookup c.1=some .free))
 (hg:∀ex s0 H0,PG (X.block scope cl (tgs++ζ.map (·.1)) ex s0 H0) tg g) (hif:∀ex s0 H0,PTs (X.block scope cl (tgs++ζ.map (·.1)) ex s0 H0) ifs tc) (hel:∀ex s0 H0,PE (X.block scope cl (tgs++ζ.map (·.1)) ex s0 H0) elt te)
 (hs:∀x,foldedSetIterable iter X.env x=pure x:=by intro _;rfl) :
  PE X (.ListComp elt [⟨tg,iter,ifs,0⟩] scope pos) (zit wi g tc te (zba tgs ζ)):=by
 apply?;rw[eval_ListComp];refine wpAny_comprehension_free (use:=none) rfl hs hclos hkind hnames (thn (hi ρ s σ H _ I h) fun v s1 h1=>thn h1 fun itv s2 h2=>?_);obtain⟨it,fp,tn,J,H2,e,I2,T,st2,f2,hrest⟩:=h2;subst e
 have hD:H2 s2.heap.objs.size=none:=I2.fresh;obtain⟨W,⟨m0,w0⟩,turn⟩:=hrest _ hD;refine Qu ?_ (by show 0<=sizeLine;decide);have I3:Inv X ρ σ (upd H2 s2.heap.objs.size (.lst [])) { s2 with heap:=s2.heap.push { cls:=.type "list",data:=.seq ([]:List Value).toArray } }:=I2.lnew (t':=s2.toks) (ys:=[]) (its:=[]) .nil (by show 0<=sizeLine;decide);generalize hs3:({ s2 with heap:=s2.heap.push { cls:=.type "list",data:=.seq ([]:List Value).toArray } }:Shared)=s3 at I3;have lt2:∀b o,s2.heap.get? b=some o->s3.heap.get? b=some o:=fun b o e=>by rw[←hs3];exact Q2 _ e
 have sz3:s2.heap.objs.size<s3.heap.objs.size:=by rw[←hs3];show _<(s2.heap.push _).objs.size;rw[Heap.size_push];exact Nat.lt_succ_self _
 have st3:tn 0 s3.heap:=T.keep 0 _ _ st2 fun b _ o e=>lt2 b o e;have fplt:∀b ∈ fp,b<s2.heap.objs.size:=fun b hb=>by obtain⟨o,e,_⟩:=T.obj 0 _ st2 b hb;exact Qe e
 generalize hH3:upd H2 s2.heap.objs.size (.lst [])=H3 at I3 w0;have fr3:∀b ∈ fp,H3 b=none:=fun b hb=>by rw[←hH3,zi (Qk (fplt b hb))];exact(f2 b hb).1
 have nstk:∀b ∈ fp,b ∉ frs X.stack:=fun b hb z=>by
  obtain⟨_,n1,n2,_⟩:=f2 b hb;rcases QB.mp (I2.stkSub b z)with z | z
  ·exact n1 z
  ·exact n2 z
 refine zaM fun h4 ns4 sb4=>?_;have keep4:∀b o,s3.heap.get? b=some o->h4.get? b=some o:=fun b o e=>by rw[sb4];exact pushCells_keeps _ _ b o (Q2 _ e)
 have clt:∀x c,cl.lookup x=some c->c<s3.heap.objs.size:=fun x c e=>by obtain⟨v,q⟩:=I3.cell x c (hcl x c e);exact q.lt
 have cor:∀x c,(cellsFrom (s3.heap.objs.size+1) scope.names cl).lookup x=some c->cl.lookup x=some c\/s3.heap.objs.size+1<=c:=fun x c e=>ziF _ _ _ e;have cne:∀b ∈ fp,∀x c,(cellsFrom (s3.heap.objs.size+1) scope.names cl).lookup x=some c->c ≠ b:=fun b hb x c e=>by
  rcases cor x c e with e | e
  ·exact(f2 b hb).2.2.2.2.1 x c (hcl x c e)
  ·exact Nat.ne_of_gt (Q5 (Nat.lt_trans (fplt b hb) sz3) (Nat.le_of_succ_le e))
 have neC:∀b ∈ fp,b ≠ s3.heap.objs.size:=fun b hb=>Qk (Nat.lt_trans (fplt b hb) sz3);have ok':(X.block scope cl (tgs++ζ.map (·.1)) fp s3 H3).Ok:=
  ⟨I.ok.mod,hkind,I.ok.glob,I.ok.blt,Q3 _,zg8 _ _ _ (fun x y c e1 e2=>I.ok.inj x y c (hcl x c e1) (hcl y c e2)) (fun x c e=>Nat.lt_succ_of_lt (clt x c e)),hhas _,(fun x c z e=>Nat.le_of_succ_le (zg6 _ _ _ (eq_of_beq z) e)),I.ok.hd,I.ok.frames,.inl rfl,
   fun b hb=>⟨neC b hb,cne b hb⟩,I3.bs,Qj I.ok.bsz I3.sz,fun b o e hb=>by
    rcases (f2 b hb).2.2.2.1 with z | z
    ·exact I.ok.noex b o e z
    ·exact absurd (Q5 (Qe e) (Qj I.ok.bsz z)) (Qo _),
   nstk,I3.stack,I3.stkFree⟩
 have I4:Inv (X.block scope cl (tgs++ζ.map (·.1)) fp s3 H3) [] (zba tgs ζ σ) H3 { s3 with heap:=h4 }:=by
  refine⟨ok',rfl,I3.bare,Un.kept keep4,⟨_,ns4,fun i x v e1 e2 e3=>?_⟩,fun x c e=>?_,I3.hok.fresh (Q3 _),fun x c e=>(cor x c e).elim (fun e=>I3.freeC x c (hcl x c e)) (fun e=>I3.hok.fresh (Nat.le_of_succ_le e)),fun p hp=>by simp[Cx.block]at hp,I3.hok.kept keep4,by simp[zba,Cx.block]⟩
  ·-- a captured name
   have hlen:(tgs.map (fun _=>(none:Option V))).length=tgs.length:=by simp
   by_cases hi:i<tgs.length
   ·have:(zba tgs ζ σ)[i]? = some none:=by unfold zba;rw[Q6 (by simpa using hi)];simp[hi]
    rw[this]at e2;cases e2
   ·have e1':(tgs++ζ.map (·.1))[i]? = some x:=e1;rw[Q8 ⋯,Qb]at e1';have e2':=e2;unfold zba at e2';rw[Q8 (by simpa using hi),hlen,Qb]at e2';cases hcq:ζ[i-tgs.length]? with
    |none=>rw[hcq]at e1';cases e1'|some cq=>
     rw[hcq]at e1' e2';have ex:cq.1=x:=Qd e1';have ev:(σ[cq.2]?).join=some v:=Qd e2';obtain⟨c1,c2,c3⟩:=hcap cq (Qa hcq);have ev':σ[cq.2]? = some (some v):=by
      cases q:σ[cq.2]? with
      |none=>rw[q]at ev;cases ev|some o=>rw[q]at ev;cases o with|none=>cases ev|some v'=>rw[show v'=v from Qd ev]
     obtain⟨m,hn,hl⟩:=I3.loc;obtain⟨u,r,lk⟩:=hl cq.2 cq.1 v c1 ev' (.inr (.inl c2));rcases lk with⟨k1,_⟩ | ⟨_,c,ec,icl⟩
     ·rw[c2]at k1;cases k1
     ·obtain⟨c',ec'⟩:=hhas (s3.heap.objs.size+1) cq.1 c3;have ec2:=ec';rw[zg7 _ _ _ fun y hy hk hyx=>hcell y hy hk (by rw[hyx];exact List.mem_map_of_mem (Qa hcq))]at ec2;have:=hcl _ _ ec2;rw[ec]at this;cases this;refine⟨u,r,.inr ⟨?_,c,?_,?_⟩⟩
      ·rw[←ex];exact c3
      ·rw[←ex];exact ec'
      ·obtain⟨o,ho,hd⟩:=icl;exact⟨o,keep4 _ _ ho,hd⟩
  ·show ∃v,h4.IsCell c v;rw[sb4];refine zfK scope.names _ cl (fun x c f=>?_) x c (by rw[Heap.size_push];exact e);obtain⟨v,o,ho,hd⟩:=I3.cell x c (hcl x c f);exact⟨v,o,Q2 _ ho,hd⟩
 have stat:∀{H':Hp},(∀b ∈ fp,H' b=none)->∀b ∈ fp,zdZ (X.block scope cl (tgs++ζ.map (·.1)) fp s3 H3) [] H' b:=fun hn b hb=>⟨hn b hb,neC b hb,nstk b hb,.inl hb,cne b hb,fun p hp=>by simp[Cx.block]at hp⟩
 have st4:tn 0 h4:=T.keep 0 _ _ st3 fun b _ o e=>keep4 b o e;have loop:codeAny (model X.prog X.w) X.A (.compLoop (.ListComp elt [⟨tg,iter,ifs,0⟩] scope pos) 0 (.ref it) (.ref s2.heap.objs.size) (zgu scope cl s3.heap.objs.size X.env))
   (compPost (model X.prog X.w) X.A X.xe none (EP X ρ σ Q) (.ref s2.heap.objs.size) s3.heap.objs.size) { s3 with heap:=h4 }:=by
  refine zcd (fun n s'=>∃i σ' H',Inv (X.block scope cl (tgs++ζ.map (·.1)) fp s3 H3) [] σ' H' s'/\tn i s'.heap/\(∀b ∈ fp,H' b=none)/\W i n σ' H') ?_ m0 ⟨0,_,H3,I4,st4,fr3,w0⟩;rintro n s5 ⟨i,σ5,H5,I5,st5,fr5,w5⟩;rcases turn i n σ5 H5 w5 with⟨stop,qn⟩ | ⟨go,N,hN,step⟩
  ·refine Qg (T.done (X.block scope cl (tgs++ζ.map (·.1)) fp s3 H3) rfl rfl rfl hc i [] s5 σ5 H5 (fun _ _=>False) I5 (stat fr5) st5 stop) (fun r s6 ⟨hr,I6⟩=>?_) fun _ _ z=>False.elim z;subst hr;obtain⟨m6,hn6,_⟩:=I6.loc;refine⟨m6,hn6,fun h' sb=>?_⟩;have nb:∀b o,s3.heap.get? b=some o->b ≠ s3.heap.objs.size:=fun b o e=>Qk (Qe e);have eqb:∀b,b ≠ s3.heap.objs.size->h'.get? b=s6.heap.get? b:=fun b hb=>sb.2 b hb;have uX:Un (frs X.stack) fp H3 H5 s3.heap h':=by
    have u:=I6.base;refine⟨fun b o e a1 a2 a3=>?_,fun b o e a1 a2 a3=>?_,u.free,fun b o e a3=>?_,u.tups,u.frzs,u.tbls⟩
    ·rw[eqb b (nb b o e)];exact u.keep b o e a1 a2 a3
    ·rw[eqb b (nb b o e)];exact u.slot b o e a1 a2 a3
    ·rw[eqb b (nb b o e)];exact u.there b o e a3
   have hokX:HOk X.prog X.w H5 h':=fun a o e=>(I6.hok a o e).stay (fun b u hb eu=>by
    have hbC:b ≠ s3.heap.objs.size:=fun z=>by
     have hfC:H5 s3.heap.objs.size=none:=I6.free;rcases hb with rfl | hb
     ·rw[z,hfC]at e;cases e
     ·rw[z,hfC]at hb;cases hb
    rw[eqb b hbC];exact eu) (fun _ q=>q) fun _ _ q=>q
   have os6:s6.os=s3.os:=I6.os;exact⟨.ref s2.heap.objs.size,H5,I3.call' (s':={ s6 with heap:=h' }) (ch:=fp) os6 uX hokX I6.bare (fun b hb=>⟨(f2 b hb).2.2.2.1,(f2 b hb).2.1,(f2 b hb).2.2.2.2.1,(f2 b hb).2.2.2.2.2⟩),rfl,qn⟩
  ·refine Qg (T.item (X.block scope cl (tgs++ζ.map (·.1)) fp s3 H3) rfl rfl rfl hc i [] s5 σ5 H5 (fun _ _=>False) I5 (stat fr5) st5 go) (fun r s6 ⟨u,hr,h6⟩=>?_) fun _ _ z=>False.elim z;subst hr;refine Qg h6 (fun _ s7 ⟨x,H7,I7,r7,y7,st7,fr7⟩=>?_) fun _ _ z=>False.elim z;have I7':=I7.pinned (stat fr7) (T.obj _ _ st7);have again:∀{s9:Shared} {σ9:St} {H9:Hp},Inv (X.block scope cl (tgs++ζ.map (·.1)) fp s3 H3) ([]++zd5 fp s7.heap) σ9 H9 s9->N σ9 H9->
     ∃m,m<n/\∃i σ' H',Inv (X.block scope cl (tgs++ζ.map (·.1)) fp s3 H3) [] σ' H' s9/\tn i s9.heap/\(∀b ∈ fp,H' b=none)/\W i m σ' H':=fun {s9 σ9 H9} I9 n9=>by
    obtain⟨m',hm,w9⟩:=hN σ9 H9 n9;refine⟨m',hm,i+1,σ9,H9,I9.unpinned,T.keep _ _ _ st7 fun b hb o e=>(I9.pin (b,o) (Qm _ (Qm _ (zbl hb e)))).1,fun b hb=>?_,w9⟩;obtain⟨o,e,d⟩:=T.obj _ _ st7 b hb;exact(I9.pin (b,o) (Qm _ (Qm _ (zbl hb e)))).2.1
   refine Qg (hg fp s3 H3 _ s7 σ5 H7 x u _ I7' r7 (step x H7 y7)) (fun _ s8 ⟨σ8,H8,I8,q8⟩=>?_) fun _ _ z=>False.elim z;refine Qg (hif fp s3 H3 _ s8 σ8 H8 _ I8 q8) (fun b s9 ⟨H9,I9,q9⟩=>?_) fun _ _ z=>False.elim z;cases b with
   |false=>rw[QA Q4]at q9;rw[QA Q4];exact again I9 q9
   |true=>rw[Qz rfl]at q9;rw[Qz rfl];refine Qg (hel fp s3 H3 _ s9 σ8 H9 _ I9 q9) (fun xv s10 ⟨v,H10,I10,rv,ys,hy,hl,q10⟩=>?_) fun _ _ z=>False.elim z;refine Qg (yM (X:=X.block scope cl (tgs++ζ.map (·.1)) fp s3 H3) _ s10 σ8 H10 (.ref s2.heap.objs.size) [v] (.ref s2.heap.objs.size) [xv] (fun _ H11=>N σ8 H11) I10 rfl (.cons rv .nil) ⟨_,ys,v,rfl,rfl,hy,hl,q10⟩) (fun _ s11 ⟨_,H11,I11,_,q11⟩=>again I11 q11) fun _ _ z=>False.elim z
 exact codeAny_compStart_list loop (T.self _ 0 _ _ _ st4 loop)
end
noncomputable def Each{α:Type}(P:α->Prop):List α->Prop
 |[]=>True|a::l=>P a/\Each P l
theorem Each.of{α:Type}{P:α->Prop}:∀{l:List α},Each P l->∀a ∈ l,P a
 |_::_,⟨h,_⟩,_,.head _=>h|_::_,⟨_,h⟩,_,.tail _ m=>Each.of h _ m
variable {l:List (Str × NameKind)}
theorem lookup_mem{y:Str}{k:NameKind}(h:l.lookup y=some k):(y,k) ∈ l:=by
 induction l with
 |nil=>cases h|cons p l ih=>
  obtain⟨n,k'⟩:=p;rw[lookup_cons]at h;cases e:y==n with
  |true=>rw[e]at h;cases h;rw[eq_of_beq e];exact .head _
  |false=>rw[e]at h;exact .tail _ (ih h)
theorem zqY(h:Each (fun p=>(p.2 = .cell\/p.2 = .free)->∃c,cl.lookup p.1=some c) l)(y:Str)(q:l.lookup y=some .cell\/l.lookup y=some .free):∃c,cl.lookup y=some c:=by
 rcases q with q | q
 ·exact h.of _ (lookup_mem q) (.inl rfl)
 ·exact h.of _ (lookup_mem q) (.inr rfl)
def PI.or{wi':TI}(h:PI X tg iter wi)(h':PI X tg iter wi'):PI X tg iter (fun σ H R=>wi σ H R\/wi' σ H R):=fun ρ s σ H R I q=>q.elim (h ρ s σ H R I) (h' ρ s σ H R I)
section
noncomputable def zrZ(K:Frag):R2:=fun x y H Q=>∃a b xs ys,x = .ref a/\y = .ref b/\SqT K H a xs/\SqT K H b ys/\xs.length+ys.length<=sizeLine /\
 (xs=[]->Q (.ref b) H)/\(xs ≠ []->ys=[]->Q (.ref a) H)/\(xs ≠ []->ys ≠ []->∀p,H p=none->Q (.ref p) (upd H p (.tup (xs++ys))))
theorem zoK:OpR X (binaryOp .Add) (zrZ X.K):=by
 infer_instance
 obtain⟨a,b,xs,ys,rfl,rfl,ha,hb,hz,q0,q1,q2⟩:=h
 by_cases hx:xs=[]
 ·cases rx;cases ry;obtain⟨its,r1,p1,_⟩:=I.tuple ha;obtain⟨its2,r2,p2,_⟩:=I.tuple hb;obtain⟨⟨cls,dd,data,sl⟩,ho,hc,n,hd⟩:=id p1;obtain⟨⟨cls2,dd2,data2,sl2⟩,ho2,hc2,n2,hd2⟩:=id p2;simp only at hc hd hc2 hd2;subst hc hd hc2 hd2;have e:its=[]:=r1.nil_iff.mpr hx;exact concat_meets ⟨_,ho,rfl⟩ ⟨_,ho2,rfl⟩ noFill_tuple_add seq_tuple_add PySem.F.slot_tuple_add PySem.F.entry_tuple_add (PySem.F.args_tuple_add_2 _ _)
   (tuple_addW0 a b its.toArray its2.toArray n n2 dd dd2 sl sl2 (by simp[e])) ⟨ho,ho2,⟨.ref b,H,I,rfl,q0 hx⟩⟩
 ·exact zoI ρ s σ H _ _ v u Q I rx ry ⟨a,b,xs,ys,rfl,rfl,ha,hb,hx,hz,q1 hx,q2 hx⟩
end
end L2
namespace HT
open PySem PySem.Spec PyProof.Rows
section
variable {prog:Program}{w:World}{A:Around}{E:Value->Shared->Prop}{s:Shared}
theorem zeS{t sl:Addr}{items:Array Value}{vl vu:Value}{lo hi:Option Int}{Q:Value->Shared->Prop}(ht:IsTup s.heap t items)(hs:s.heap.IsSliceOf sl vl vu .none)(pl:IsPart vl lo)(pu:IsPart vu hi)
  (hw:sIx items.size 0 lo=0/\sIx items.size items.size hi=items.size) (h:Q (.ref t) s):wpAny (model prog w) A (getItem (.ref t) (.ref sl)) Q E s:=by
 obtain⟨os,hos,hcs,hds⟩:=id hs;have hTs:s.TypeIs (.ref sl) "slice":=⟨os,hos,hcs⟩;unfold getItem
 try with_reducible refine wpAny_holding ?_
 first | refine Q1 (Qf ?_) | skip
 refine Q1 (wpAny_sequenceKey ht.typeIs ∅ ?_);refine Q1 (wpAny_callSpecial?_slot (name:=Str.ofString "__getitem__") ht.typeIs PyProof.Rows.slot_tuple_getitem
  (wpAny_call_entry PyProof.Rows.slot_tuple_getitem ht.typeIs entry_tuple_getitem ?_ (args_tuple_getitem _ _)))
 show wpAny _ _ (Builtin.Tuple.tupleItemsOf (.ref t) >>= _) _ _ s;refine Q1 (tupleItemsOf_ ht ?_);refine Q1 (wpAny_typeOf hTs ?_);rw[Qz ∅];refine Q1 (zdb hs pl pu ?_);have hyes:(((sIx items.size 0 lo:Nat):Int)==0 && (1:Int)==1 && (sIx items.size items.size hi-sIx items.size 0 lo)==items.size)=true:=by rw[hw.1,hw.2];simp
 show wpAny _ _ (if(((sIx items.size 0 lo:Nat):Int)==0 && (1:Int)==1 && (sIx items.size items.size hi-sIx items.size 0 lo)==items.size)=true then _ else _) _ _ s;rw[Qz hyes];refine Q1 ?_;unfold Builtin.Tuple.tupleIsExact;refine Q1 (wpAny_typeOf ht.typeIs (Qf ?_));rw[Qz ∅];exact Q1 (wpAny_rule (Qf ⟨_,rfl,Qf h⟩))
end
end HT
namespace L2
open PySem PySem.Spec PyProof.Rows
variable {X:Cx}
section
noncomputable def zsZ(K:Frag):V->Option Int->Option Int->Hp->VK->Prop:=fun x lo hi H Q=>∃a xs,x = .ref a/\SqT K H a xs /\
 ((HT.sIx xs.length 0 lo=0/\HT.sIx xs.length xs.length hi=xs.length)->Q (.ref a) H)/\(¬(HT.sIx xs.length 0 lo=0/\HT.sIx xs.length xs.length hi=xs.length)->∀p,H p=none->Q (.ref p) (upd H p (.tup (cutV xs lo hi))))
theorem zog:SlR X (zsZ X.K):=by
 intro ρ s σ H x v vl vu lo hi sl Q I rx hs pl pu h;obtain⟨a,xs,rfl,hx,q1,q2⟩:=h
 by_cases hw:HT.sIx xs.length 0 lo=0/\HT.sIx xs.length xs.length hi=xs.length
 ·cases rx;obtain⟨its,r,ht,hz⟩:=I.tuple hx;have hlen:its.toArray.size=xs.length:=by rw[Qi];exact r.length.symm
  refine⟨"tuple",_,PyProof.Rows.slot_tuple_getitem.lookup,ht.typeIs,?_⟩;refine HT.zeS ht hs pl pu (by rw[hlen];exact hw) ⟨.ref a,H,I,rfl,q1 hw⟩
 ·exact zpS ρ s σ H _ v vl vu lo hi sl Q I rx hs pl pu ⟨a,xs,rfl,hx,hw,q2 hw⟩
theorem zgj:fillsNumberSlot (.type "tuple") "mul" = pure false:=
 PySem.fillsNumberSlot_seq (id:="tuple.__mul__") (r:=some (.builtin "tuple.__rmul__")) PySem.F.slot_tuple_mul.lookup (by decide +kernel) PySem.F.slot_tuple_rmul.lookup (by decide +kernel)
theorem ziZ:seqRepeat? (.type "tuple")=pure (some (.builtin "tuple.__mul__")):=by unfold seqRepeat?;rw[PySem.seqSlot_of (T:="tuple") (name:="__mul__") (id:="tuple.__mul__") PySem.F.slot_tuple_mul.lookup (by decide +kernel),PySem.seqSlot_of (T:="tuple") (name:="__rmul__") (id:="tuple.__rmul__") PySem.F.slot_tuple_rmul.lookup (by decide +kernel)];rfl
theorem zhq(a:Int)(t:Tok)(l:Addr)(items:Array Value)(n:Nat)(dd:Option Addr)(sl:Array (Option Value)) :
  Meets (Builtin.«int.__rmul__» ⟨[.int a t,.ref l],[]⟩) (fun _ R s=>s.heap.get? l=some { cls:=.type "tuple",dict:=dd,data:=.seq items n,slots:=sl }/\R (.ok (.ret Value.notImplemented)) s):=
 .of_wp fun prog w A R s h=>by obtain⟨hp,g,d,tk,os⟩:=s;obtain⟨hl,h⟩:=h;wp_walk;exact⟨_,rfl,h⟩
theorem zkS(l:Addr)(items:Array Value)(n:Nat)(x:Int)(u:Tok)(dd:Option Addr)(sl:Array (Option Value))(h0:items.isEmpty=false)(h1:2<=x)(h2:x<2 ^ 63)(h3:items.size*x.toNat<=sizeLine) :
  Meets (Builtin.«tuple.__mul__» ⟨[.ref l,.int x u],[]⟩) (fun _ R s=>s.heap.get? l=some { cls:=.type "tuple",dict:=dd,data:=.seq items n,slots:=sl }/\R (.ok (.ret (Value.ref s.heap.objs.size))) { s with heap:=s.heap.push { cls:=Value.type "tuple",data:=Data.seq (List.foldl (fun x1 x2=>x1++x2) #[] (List.replicate x.toNat items)) },toks:=s.toks }):=
 .of_wp fun prog w A R s h=>by
  obtain⟨hp,g,d,tk,os⟩:=s;obtain⟨hl,h⟩:=h
  have f1:=AutoSeq1.idx_int;have hA:¬(decide (x < -2 ^ 63) || decide (x ≥ 2 ^ 63))=true:=by simp;omega
  have hB:¬(items.isEmpty || x==1)=true:=by rw[h0];simp;omega
  have hC:¬(decide (x<=0) || items.isEmpty)=true:=by rw[h0];simp;omega
  have hm:((items.size:Nat):Int)*x=((items.size*x.toNat:Nat):Int):=by rw[Int.natCast_mul,Int.toNat_of_nonneg ⋯]
  have hs2:(sizeLine:Nat)<=(2 ^ 63-1) / 8:=by decide
  have hD:¬((items.size:Nat):Int)*x > (2 ^ 63-1) / 8:=by rw[hm];omega
  have hE:¬Builtin.Tuple.tupleTooMany (((items.size:Nat):Int)*x)=true:=by rw[hm];show ¬decide (((items.size*x.toNat:Nat):Int) > ((sizeLine:Nat):Int))=true;rw[decide_eq_true_iff];omega
  have hT:IsTup hp l items:=⟨_,hl,rfl,n,rfl⟩
  wp_walk using wpAny_loadPart' hl
  rw[QA hA];refine Q1 (tupleItemsOf_ hT ?_);show wpAny _ _ (if(items.isEmpty || x==1)=true then _ else _) _ _ _;rw[QA hB];show wpAny _ _ (if(decide (x<=0) || items.isEmpty)=true then _ else _) _ _ _;rw[QA hC];show wpAny _ _ (if((items.size:Nat):Int)*x > (2 ^ 63-1) / 8 then _ else _) _ _ _;rw[QA hD];show wpAny _ _ (if Builtin.Tuple.tupleTooMany (((items.size:Nat):Int)*x)=true then _ else _) _ _ _;rw[QA hE];have hj:(List.foldl (fun x1 x2=>x1++x2) #[] (List.replicate x.toNat items)).size<=sizeLine:=by have:=foldl_rep items.toList x.toNat [];rw[nil_append,Array.toArray_toList]at this;rw[this,Qi,len_rep,Nat.mul_comm,Array.length_toList];exact h3
  exact Q1 (m:=Builtin.Tuple.tupleExact _) (Qu (Qf ⟨_,rfl,h⟩) hj)
noncomputable def zrV(K:Frag):R2:=fun x y H Q=>∃l k xs,x = .ref l/\y = .int k/\SqT K H l xs/\xs ≠ []/\2<=k/\k<2 ^ 63/\xs.length*k.toNat<=sizeLine /\
 ∀p,H p=none->Q (.ref p) (upd H p (.tup (List.replicate k.toNat xs).flatten))
theorem zoD:OpR X (binaryOp .Mult) (zrV X.K):=by
 infer_instance
 obtain⟨l,k,xs,rfl,rfl,hH,hx,h1,h2,hz,q⟩:=h;cases rx;obtain⟨t,rfl⟩:=ry;obtain⟨its,r,pl,_⟩:=I.tuple hH;have hl:=r.length;obtain⟨⟨cls,dd,data,sl⟩,ho,hc,n,hd⟩:=id pl;simp only at hc hd;subst hc hd;have hlen:its.toArray.size*k.toNat<=sizeLine:=by rw[Qi,←hl];exact hz
 have hne:its.toArray.isEmpty=false:=by cases its with|nil=>exact absurd (r.nil_iff.mp rfl) hx|cons a b=>rfl
 have hnew:List.foldl (fun x1 x2=>x1++x2) #[] (List.replicate k.toNat its.toArray)=(List.replicate k.toNat its).flatten.toArray:=by have:=foldl_rep its k.toNat [];rw[nil_append]at this;exact this
 refine wpAny_binaryOp_repeat_ref (T:="tuple") (U:="int") ∅ ⟨_,ho,rfl⟩ (fun s'=>typeIs_int s' k t) zgj F.fills_int_mul F.slot_int_rmul ziZ F.slot_int_index.lookup
  (call_meets F.slot_int_rmul (typeIs_int s k t) F.entry_int_rmul (F.args_int_rmul_2 _ _) (zhq k t l its.toArray n dd sl)
   ⟨ho,rfl,⟨_,ho,rfl⟩,call_meets F.slot_tuple_mul ⟨_,ho,rfl⟩ F.entry_tuple_mul (F.args_tuple_mul_2 _ _) (zkS l its.toArray n k t dd sl hne h1 h2 hlen) ⟨ho,?_⟩⟩)
 rw[hnew];refine⟨.ref s.heap.objs.size,_,I.laid (t':=s.toks) (o:=.tup (List.replicate k.toNat xs).flatten) (fun b ob q=>Q2 _ q) (Q3 _) ?_,rfl,q _ (I.hok.fresh (Q3 _))⟩;exact⟨by rw[len_rep,Nat.mul_comm];exact hz,_,r.rep k.toNat,IsTup.new _ _,NoDict.new⟩
end
section
theorem zgL{i0:Nat}{y0:Str}{py spos:Pos}{tg elt iter:Expr}{ifs:List Expr}{scope:Scope}{cl:List (Str × Addr)}{pos:Pos}{tgs:List Str}{ζ:List (Str × Nat)}{wi:TI}{g:TG}{tc:TT}{te:TE}
  (hc:X.calm=true) (hi:PI X tg iter wi) (hclos:closureFor scope X.env=pure cl) (hcell:∀y ∈ scope.names,y.2 = .cell->y.1 ∉ ζ.map (·.1)) (hkind:scope.kind = .function)
  (hnames:∀y ∈ scope.names,y.2 = .local->scope.names.lookup y.1=some .local)
  (hcl:∀y c,cl.lookup y=some c->X.env.cells.lookup y=some c)
  (hhas:∀n y,((relabel scope X.env).names.lookup y=some .cell\/(relabel scope X.env).names.lookup y=some .free)->∃c,(cellsFrom n scope.names cl).lookup y=some c)
  (hcap:∀c ∈ ζ,X.N[c.2]? = some c.1/\X.env.kindOf c.1=some .cell/\((relabel scope X.env).names.lookup c.1=some .cell\/(relabel scope X.env).names.lookup c.1=some .free))
  (hg:∀ex s0 H0,PG (X.block scope cl (tgs++ζ.map (·.1)) ex s0 H0) tg g) (hif:∀ex s0 H0,PTs (X.block scope cl (tgs++ζ.map (·.1)) ex s0 H0) ifs tc) (hel:∀ex s0 H0,PE (X.block scope cl (tgs++ζ.map (·.1)) ex s0 H0) elt te)
  (hN0:X.N.Nodup) (hi0:X.N[i0]? = some y0) (hx0:Loc X.env.scope y0)
  (hsw:swapsWith (.ListComp elt [⟨tg,iter,ifs,0⟩] scope pos) (some (.Name y0 py)) spos.line X.env=pure true:=by rfl)
  (hf0:X.fn y0=true\/X.env.scope.names.lookup y0=some .local:=by first | exact .inl rfl | exact .inr rfl | assumption)
  (hs:∀x,foldedSetIterable iter X.env x=pure x:=by intro _;rfl) :
  PS X (.Assign [.Name y0 py] (.ListComp elt [⟨tg,iter,ifs,0⟩] scope pos) spos) (fun D σ H=>zit wi g tc te (zba tgs ζ) σ H fun v H'=>D.nx (σ.set i0 (some v)) H'):=by
 intro ρ s σ H DD I h;rw[exec_Assign_Name_used _ _ _ _ hsw];refine Q1 (wpAny_standAt (Q1 ?_));show wpAny _ X.A (do let _ ←comprehension (.ListComp elt [⟨tg,iter,ifs,0⟩] scope pos) scope X.env _ (newList []) false (eval iter X.env) (some (assign (.Name y0 py) X.env))) _ _ s;refine Q1 (Qg (wpAny_comprehension_free (use:=some (assign (.Name y0 py) X.env)) (Q:=fun _ s'=>SP X ρ DD .next s') rfl hs hclos hkind hnames
  (thn (hi ρ s σ H _ I h) fun v s1 h1=>thn h1 fun itv s2 h2=>?_)) (fun _ s' hq=>Qf (Qf hq)) fun _ _ e=>e)
 obtain⟨it,fp,tn,J,H2,e,I2,T,st2,f2,hrest⟩:=h2;subst e
 have hD:H2 s2.heap.objs.size=none:=I2.fresh;obtain⟨W,⟨m0,w0⟩,turn⟩:=hrest _ hD;refine Qu ?_ (by show 0<=sizeLine;decide);have I3:Inv X ρ σ (upd H2 s2.heap.objs.size (.lst [])) { s2 with heap:=s2.heap.push { cls:=.type "list",data:=.seq ([]:List Value).toArray } }:=I2.lnew (t':=s2.toks) (ys:=[]) (its:=[]) .nil (by show 0<=sizeLine;decide);generalize hs3:({ s2 with heap:=s2.heap.push { cls:=.type "list",data:=.seq ([]:List Value).toArray } }:Shared)=s3 at I3;have lt2:∀b o,s2.heap.get? b=some o->s3.heap.get? b=some o:=fun b o e=>by rw[←hs3];exact Q2 _ e
 have sz3:s2.heap.objs.size<s3.heap.objs.size:=by rw[←hs3];show _<(s2.heap.push _).objs.size;rw[Heap.size_push];exact Nat.lt_succ_self _
 have st3:tn 0 s3.heap:=T.keep 0 _ _ st2 fun b _ o e=>lt2 b o e;have fplt:∀b ∈ fp,b<s2.heap.objs.size:=fun b hb=>by obtain⟨o,e,_⟩:=T.obj 0 _ st2 b hb;exact Qe e
 generalize hH3:upd H2 s2.heap.objs.size (.lst [])=H3 at I3 w0;have fr3:∀b ∈ fp,H3 b=none:=fun b hb=>by rw[←hH3,zi (Qk (fplt b hb))];exact(f2 b hb).1
 have nstk:∀b ∈ fp,b ∉ frs X.stack:=fun b hb z=>by
  obtain⟨_,n1,n2,_⟩:=f2 b hb;rcases QB.mp (I2.stkSub b z)with z | z
  ·exact n1 z
  ·exact n2 z
 refine zaM fun h4 ns4 sb4=>?_;have keep4:∀b o,s3.heap.get? b=some o->h4.get? b=some o:=fun b o e=>by rw[sb4];exact pushCells_keeps _ _ b o (Q2 _ e)
 have clt:∀x c,cl.lookup x=some c->c<s3.heap.objs.size:=fun x c e=>by obtain⟨v,q⟩:=I3.cell x c (hcl x c e);exact q.lt
 have cor:∀x c,(cellsFrom (s3.heap.objs.size+1) scope.names cl).lookup x=some c->cl.lookup x=some c\/s3.heap.objs.size+1<=c:=fun x c e=>ziF _ _ _ e;have cne:∀b ∈ fp,∀x c,(cellsFrom (s3.heap.objs.size+1) scope.names cl).lookup x=some c->c ≠ b:=fun b hb x c e=>by
  rcases cor x c e with e | e
  ·exact(f2 b hb).2.2.2.2.1 x c (hcl x c e)
  ·exact Nat.ne_of_gt (Q5 (Nat.lt_trans (fplt b hb) sz3) (Nat.le_of_succ_le e))
 have neC:∀b ∈ fp,b ≠ s3.heap.objs.size:=fun b hb=>Qk (Nat.lt_trans (fplt b hb) sz3);have ok':(X.block scope cl (tgs++ζ.map (·.1)) fp s3 H3).Ok:=
  ⟨I.ok.mod,hkind,I.ok.glob,I.ok.blt,Q3 _,zg8 _ _ _ (fun x y c e1 e2=>I.ok.inj x y c (hcl x c e1) (hcl y c e2)) (fun x c e=>Nat.lt_succ_of_lt (clt x c e)),hhas _,(fun x c z e=>Nat.le_of_succ_le (zg6 _ _ _ (eq_of_beq z) e)),I.ok.hd,I.ok.frames,.inl rfl,
   fun b hb=>⟨neC b hb,cne b hb⟩,I3.bs,Qj I.ok.bsz I3.sz,fun b o e hb=>by
    rcases (f2 b hb).2.2.2.1 with z | z
    ·exact I.ok.noex b o e z
    ·exact absurd (Q5 (Qe e) (Qj I.ok.bsz z)) (Qo _),
   nstk,I3.stack,I3.stkFree⟩
 have I4:Inv (X.block scope cl (tgs++ζ.map (·.1)) fp s3 H3) [] (zba tgs ζ σ) H3 { s3 with heap:=h4 }:=by
  refine⟨ok',rfl,I3.bare,Un.kept keep4,⟨_,ns4,fun i x v e1 e2 e3=>?_⟩,fun x c e=>?_,I3.hok.fresh (Q3 _),fun x c e=>(cor x c e).elim (fun e=>I3.freeC x c (hcl x c e)) (fun e=>I3.hok.fresh (Nat.le_of_succ_le e)),fun p hp=>by simp[Cx.block]at hp,I3.hok.kept keep4,by simp[zba,Cx.block]⟩
  ·-- a captured name
   have hlen:(tgs.map (fun _=>(none:Option V))).length=tgs.length:=by simp
   by_cases hi:i<tgs.length
   ·have:(zba tgs ζ σ)[i]? = some none:=by unfold zba;rw[Q6 (by simpa using hi)];simp[hi]
    rw[this]at e2;cases e2
   ·have e1':(tgs++ζ.map (·.1))[i]? = some x:=e1;rw[Q8 ⋯,Qb]at e1';have e2':=e2;unfold zba at e2';rw[Q8 (by simpa using hi),hlen,Qb]at e2';cases hcq:ζ[i-tgs.length]? with
    |none=>rw[hcq]at e1';cases e1'|some cq=>
     rw[hcq]at e1' e2';have ex:cq.1=x:=Qd e1';have ev:(σ[cq.2]?).join=some v:=Qd e2';obtain⟨c1,c2,c3⟩:=hcap cq (Qa hcq);have ev':σ[cq.2]? = some (some v):=by
      cases q:σ[cq.2]? with
      |none=>rw[q]at ev;cases ev|some o=>rw[q]at ev;cases o with|none=>cases ev|some v'=>rw[show v'=v from Qd ev]
     obtain⟨m,hn,hl⟩:=I3.loc;obtain⟨u,r,lk⟩:=hl cq.2 cq.1 v c1 ev' (.inr (.inl c2));rcases lk with⟨k1,_⟩ | ⟨_,c,ec,icl⟩
     ·rw[c2]at k1;cases k1
     ·obtain⟨c',ec'⟩:=hhas (s3.heap.objs.size+1) cq.1 c3;have ec2:=ec';rw[zg7 _ _ _ fun y hy hk hyx=>hcell y hy hk (by rw[hyx];exact List.mem_map_of_mem (Qa hcq))]at ec2;have:=hcl _ _ ec2;rw[ec]at this;cases this;refine⟨u,r,.inr ⟨?_,c,?_,?_⟩⟩
      ·rw[←ex];exact c3
      ·rw[←ex];exact ec'
      ·obtain⟨o,ho,hd⟩:=icl;exact⟨o,keep4 _ _ ho,hd⟩
  ·show ∃v,h4.IsCell c v;rw[sb4];refine zfK scope.names _ cl (fun x c f=>?_) x c (by rw[Heap.size_push];exact e);obtain⟨v,o,ho,hd⟩:=I3.cell x c (hcl x c f);exact⟨v,o,Q2 _ ho,hd⟩
 have stat:∀{H':Hp},(∀b ∈ fp,H' b=none)->∀b ∈ fp,zdZ (X.block scope cl (tgs++ζ.map (·.1)) fp s3 H3) [] H' b:=fun hn b hb=>⟨hn b hb,neC b hb,nstk b hb,.inl hb,cne b hb,fun p hp=>by simp[Cx.block]at hp⟩
 have st4:tn 0 h4:=T.keep 0 _ _ st3 fun b _ o e=>keep4 b o e;have loop:codeAny (model X.prog X.w) X.A (.compLoop (.ListComp elt [⟨tg,iter,ifs,0⟩] scope pos) 0 (.ref it) (.ref s2.heap.objs.size) (zgu scope cl s3.heap.objs.size X.env))
   (compPost (model X.prog X.w) X.A X.xe (some (assign (.Name y0 py) X.env)) (fun _ s'=>SP X ρ DD .next s') (.ref s2.heap.objs.size) s3.heap.objs.size) { s3 with heap:=h4 }:=by
  refine zcd (fun n s'=>∃i σ' H',Inv (X.block scope cl (tgs++ζ.map (·.1)) fp s3 H3) [] σ' H' s'/\tn i s'.heap/\(∀b ∈ fp,H' b=none)/\W i n σ' H') ?_ m0 ⟨0,_,H3,I4,st4,fr3,w0⟩;rintro n s5 ⟨i,σ5,H5,I5,st5,fr5,w5⟩;rcases turn i n σ5 H5 w5 with⟨stop,qn⟩ | ⟨go,N,hN,step⟩
  ·refine Qg (T.done (X.block scope cl (tgs++ζ.map (·.1)) fp s3 H3) rfl rfl rfl hc i [] s5 σ5 H5 (fun _ _=>False) I5 (stat fr5) st5 stop) (fun r s6 ⟨hr,I6⟩=>?_) fun _ _ z=>False.elim z;subst hr;obtain⟨m6,hn6,_⟩:=I6.loc;have nb:∀b o,s3.heap.get? b=some o->b ≠ s3.heap.objs.size:=fun b o e=>Qk (Qe e);have uX:Un (frs X.stack) fp H3 H5 s3.heap s6.heap:=I6.base;have os6:s6.os=s3.os:=I6.os;have I6X:Inv X ρ σ H5 s6:=I3.call' (s':=s6) (ch:=fp) os6 uX I6.hok I6.bare (fun b hb=>⟨(f2 b hb).2.2.2.1,(f2 b hb).2.1,(f2 b hb).2.2.2.2.1,(f2 b hb).2.2.2.2.2⟩);have hfC:H5 s3.heap.objs.size=none:=I6.free;show wpAny _ X.A (assign (.Name y0 py) X.env (.ref s2.heap.objs.size)) _ _ s6;refine wpAny_assign_Name (zhV I6X hN0 hi0 hx0 (v:=.ref s2.heap.objs.size) rfl (fun s7 I7 ⟨a,sa,ha⟩=>?_) hf0);have aC:s3.heap.objs.size ≠ a:=fun z=>by
    rcases ha with ha | ha
    ·have h3:=I3.lt;rw[ha]at z;rw[←z]at h3;exact Qo _ h3
    ·obtain⟨v,q⟩:=I3.cell _ _ ha;have:=q.lt;rw[←z]at this;exact Qo _ this
   refine⟨m6,hn6.sameBut sa aC,fun h' sb=>?_⟩;have eqb:∀b,b ≠ s3.heap.objs.size->h'.get? b=s7.heap.get? b:=fun b hb=>sb.2 b hb;have uY:Un (frs X.stack) [s3.heap.objs.size] H5 H5 s7.heap h':=by
    refine⟨fun b o e a1 a2 a3=>?_,fun b o e a1 a2 a3=>?_,fun _ _ _ q _=>q,fun b o e a3=>?_,fun _ _ q=>q,fun _ _ _ q=>q,fun b ps q=>⟨#[],by simpa using q⟩⟩
    ·rw[eqb b (fun z=>a3 (by rw[z];exact .head _))];exact e
    ·exact⟨o.slots,by rw[eqb b (fun z=>a3 (by rw[z];exact .head _))];exact e⟩
    ·exact⟨o,by rw[eqb b (fun z=>a3 (by rw[z];exact .head _))];exact e⟩
   have hokY:HOk X.prog X.w H5 h':=fun a o e=>(I7.hok a o e).stay (fun b u hb eu=>by
    have hbC:b ≠ s3.heap.objs.size:=fun z=>by
     rcases hb with rfl | hb
     ·rw[z,hfC]at e;cases e
     ·rw[z,hfC]at hb;cases hb
    rw[eqb b hbC];exact eu) (fun _ q=>q) fun _ _ q=>q
   refine⟨σ.set i0 (some (.ref s2.heap.objs.size)),H5,I7.call' (s':={ s7 with heap:=h' }) (ch:=[s3.heap.objs.size]) rfl uY hokY I7.bare (fun b hb=>?_),qn⟩;rw[QG.mp hb];refine⟨.inr I3.sz,Nat.ne_of_gt I3.lt,fun x c e z=>?_,fun p hp z=>?_⟩
   ·obtain⟨v,q⟩:=I3.cell x c e;have:=q.lt;rw[z]at this;exact Qo _ this
   ·have:=Qe (I3.pin p hp).1;rw[z]at this;exact Qo _ this
  ·refine Qg (T.item (X.block scope cl (tgs++ζ.map (·.1)) fp s3 H3) rfl rfl rfl hc i [] s5 σ5 H5 (fun _ _=>False) I5 (stat fr5) st5 go) (fun r s6 ⟨u,hr,h6⟩=>?_) fun _ _ z=>False.elim z;subst hr;refine Qg h6 (fun _ s7 ⟨x,H7,I7,r7,y7,st7,fr7⟩=>?_) fun _ _ z=>False.elim z;have I7':=I7.pinned (stat fr7) (T.obj _ _ st7);have again:∀{s9:Shared} {σ9:St} {H9:Hp},Inv (X.block scope cl (tgs++ζ.map (·.1)) fp s3 H3) ([]++zd5 fp s7.heap) σ9 H9 s9->N σ9 H9->
     ∃m,m<n/\∃i σ' H',Inv (X.block scope cl (tgs++ζ.map (·.1)) fp s3 H3) [] σ' H' s9/\tn i s9.heap/\(∀b ∈ fp,H' b=none)/\W i m σ' H':=fun {s9 σ9 H9} I9 n9=>by
    obtain⟨m',hm,w9⟩:=hN σ9 H9 n9;refine⟨m',hm,i+1,σ9,H9,I9.unpinned,T.keep _ _ _ st7 fun b hb o e=>(I9.pin (b,o) (Qm _ (Qm _ (zbl hb e)))).1,fun b hb=>?_,w9⟩;obtain⟨o,e,d⟩:=T.obj _ _ st7 b hb;exact(I9.pin (b,o) (Qm _ (Qm _ (zbl hb e)))).2.1
   refine Qg (hg fp s3 H3 _ s7 σ5 H7 x u _ I7' r7 (step x H7 y7)) (fun _ s8 ⟨σ8,H8,I8,q8⟩=>?_) fun _ _ z=>False.elim z;refine Qg (hif fp s3 H3 _ s8 σ8 H8 _ I8 q8) (fun b s9 ⟨H9,I9,q9⟩=>?_) fun _ _ z=>False.elim z;cases b with
   |false=>rw[QA Q4]at q9;rw[QA Q4];exact again I9 q9
   |true=>rw[Qz rfl]at q9;rw[Qz rfl];refine Qg (hel fp s3 H3 _ s9 σ8 H9 _ I9 q9) (fun xv s10 ⟨v,H10,I10,rv,ys,hy,hl,q10⟩=>?_) fun _ _ z=>False.elim z;refine Qg (yM (X:=X.block scope cl (tgs++ζ.map (·.1)) fp s3 H3) _ s10 σ8 H10 (.ref s2.heap.objs.size) [v] (.ref s2.heap.objs.size) [xv] (fun _ H11=>N σ8 H11) I10 rfl (.cons rv .nil) ⟨_,ys,v,rfl,rfl,hy,hl,q10⟩) (fun _ s11 ⟨_,H11,I11,_,q11⟩=>again I11 q11) fun _ _ z=>False.elim z
 exact codeAny_compStart_list loop (T.self _ 0 _ _ _ st4 loop)
end
section
theorem znw:zjE X (zm0 X.K):=by
 infer_instance
 obtain⟨p,xs,i,z,rfl,rfl,hq,he,q⟩:=h;cases rx;obtain⟨t,rfl⟩:=ry;obtain⟨its,r,pl,hz⟩:=I.list hq;obtain⟨j,h1,h2,h3,h4,h5⟩:=zfM he;obtain⟨w,ew,rw'⟩:=r.get h2;have hl:=r.length;have hn:=zcB;have ξ:EP X ρ σ Q w s:=⟨z,H,I,rw',q⟩
 by_cases h0:0<=i
 ·have hj:i.toNat=j:=by rw[seqIndex_of h0 h5]at h1;exact Qd h1
  exact wpAny_getItem_list pl.isList h0 ⋯ (by rw[hj];simpa using ew) ξ
 ·have hj:(i+(its.toArray.size:Int)).toNat=j:=by rw[seqIndex_neg ⋯ h4]at h1;rw[Qi,←hl];exact Qd h1
  exact wpAny_getItem_list_neg pl.isList ⋯ (by rw[Qi]<;>omega) ⋯ (by rw[hj];simpa using ew) ξ
end
end L2
namespace L2
open PySem PySem.Spec PyProof.Rows PySem.Builtin PySem.Builtin.ObjectAttr
inductive Tl (h:Heap) (bmB:List Value) (ns:List Str):List Value->Prop
 |base:Tl h bmB ns bmB
 |own {a:Addr} {c:Value} {dd:Option Addr} {cd:ClassData} {sl:Array (Option Value)} {mA:Str->Option Value} {tl:List Value} (e:h.get? a=some ⟨c,dd,.cls cd,sl⟩) (hn:h.Ns cd.ns mA) (no:∀n ∈ ns,mA n=none) (t:Tl h bmB ns tl):Tl h bmB ns (.ref a::tl)
variable {C N:Addr}{A:Around}{g:Array GenState}{ab hdct:Bool}{d:Drawn}{h:Heap}{ns sn:List Str}{bm:List Value}{M:Model}{t:Nat}{dd:Option Addr}{col:Option Bool}{k0 k1 k2 k3 k5:Option Value}{os:OsState}{n nm q:Str}{mN:Str->Option Value}{newId:String}{E:Value->Shared->Prop}
section
variable {h':Heap}{bmB tl:List Value}
theorem Tl.tail(T:Tl h bmB ns tl)(hi:("__init__":Str) ∈ ns):OwnTail h bmB tl:=by induction T with|base=>exact .base|own e hn no _ ih=>exact .own e hn (no _ hi) ih
theorem Tl.along{y:Option Value}{Q:Option Value->Shared->Prop}(T:Tl h bmB ns tl)(hm:n ∈ ns)(hB:lookupAlong bmB n=pure y)(hq:Q y ⟨h,g,d,t,os⟩):wpAny M A (lookupAlong tl n) Q E ⟨h,g,d,t,os⟩:=by
 induction T with
 |base=>rw[hB];exact Qf hq|own e hn no _ ih=>rw[lookupAlong_cons];exact Q1 (wpAny_classOwn_cls e hn (by rw[no _ hm];exact ih))
variable {bs:List Value}{sub:List Value}{B:String}
theorem zdm{y:Option Value}{Q:Option Value->Shared->Prop}(hC:h.get? C=some (excClassObj nm q C N bs bm hdct sn sub ab col dd k0 k1 k2 k3 k5 newId))(hn:h.Ns N mN)(T:Tl h bmB ns bm)(hm:n ∈ ns)
 (hbm:mroOf (.type B)=pure bmB) (hB:typeLookup (.type B) n=pure y) (hq:Q ((mN n).or y) ⟨h,g,d,t,os⟩):wpAny M A (typeLookup (.ref C) n) Q E ⟨h,g,d,t,os⟩:=by
 have hr:lookupAlong bmB n=pure y:=by rw[typeLookup_eq,hbm]at hB;exact hB
 rw[typeLookup_eq];refine Q1 (wpAny_mroOf_exc hC ?_);rw[lookupAlong_cons];refine Q1 (wpAny_classOwn_exc hC hn ?_);cases hv:mN n with|some v=>rw[hv]at hq;exact Qf hq|none=>rw[hv]at hq;exact T.along hm hr hq
end
variable {o:Obj}{prog:Program}{Q:Unit->Shared->Prop}{u v:Value}{w:World}
section
variable {name:Str}{x:Addr}{bs:List Value}{sub:List Value}
theorem zkL(hC:h.get? C=some (excClassObj nm q C N bs bm true sn sub ab col dd k0 k1 k2 k3 k5 newId))(T:Tl h zan ns bm)(hi:("__init__":Str) ∈ ns)(hx:h.get? x=some o)(hc:o.cls = .ref C)(hq:Q () ⟨h,g,d,t,os⟩) :
  wpAny M A (checkBuiltinCall "object.__setattr__" ⟨[.ref x,u,v],[]⟩) Q E ⟨h,g,d,t,os⟩:=by
 have hb:(Value.ref C::bm).contains (.type "object")=true:=by rw[contains_cons,(T.tail hi).hasType PySem.F.store_ValueError.hasOwner,Bool.or_true]
 simp only[checkBuiltinCall,PySem.F.store_ValueError.kind,PySem.F.store_ValueError.split];refine Q1 ?_;unfold isInstance
 repeat (first | (with_reducible refine wpAny_loadPart_at hx ?_;rw[hc]) | (with_reducible refine wpAny_isSubtype_exc hC ?_;rw[hb]) | wp_step)
 exact hq
theorem zkK{tk:Tok}{Q:Fin->Shared->Prop}(hC:h.get? C=some (excClassObj nm q C N bs bm true sn sub ab col dd k0 k1 k2 k3 k5 newId))(hn:h.Ns N mN)(T:Tl h zan ns bm)(m2:mN name=none)(hm:name ∈ ns)
  (hB:typeLookup (.type "ValueError") name=pure none) (hx:h.get? x=some o) (hc:o.cls = .ref C) (hnc:∀c,o.data ≠ .cls c) (hd:o.dict=none)
  (hq:∀h' tk' dx,h.get? dx=none->dx ≠ x->h'.get? x=some { o with dict:=some dx }->h'.Ns1 dx (fun y=>if y=name then some v else none)->(∀b ob,b ≠ x->h.get? b=some ob->h'.get? b=some ob)->Q (.done (.ret .none)) ⟨h',g,d,tk',os⟩) :
  wpAny (model prog w) A (Builtin.«object.__setattr__» ⟨[.ref x,.str name tk,v],[]⟩) Q E ⟨h,g,d,t,os⟩:=by
 have hp:∀l,Tl h zan ns l->refuseLoop (.ref x) "__setattr__" l=pure ():=by
  intro l T
  induction T with|base=>exact PySem.F.store_ValueError.passes (.ref x)|own _ _ _ _ ih=>rw[refuseLoop_ref];exact ih
 have hp:=hp bm T;unfold Builtin.«object.__setattr__»
 repeat (first | rw[refuse_eq] | (rw[refuseLoop_ref,hp]) | (with_reducible refine wpAny_loadPart_at hx ?_;rw[hc]) | with_reducible refine wpAny_mroOf_exc hC ?_ | (with_reducible refine zdm hC hn T hm PySem.F.store_ValueError.mro hB ?_;rw[m2]) | wp_step)
 rw[hd,QA (by simp[typeHasDict])];have e1:(h.push ⟨.type "dict",none,.dict #[] 0,#[]⟩).get? x=some o:=Q2 _ hx;have ne:x ≠ h.objs.size:=Qk (Qe hx);have hfr:=(Heap.get?_some_iff.mp hx).2;have key:wpAny (model prog w) A (do let d ←alloc ⟨.type "dict",none,.dict #[] 0,#[]⟩;update x fun o=>{ o with dict:=some d };dictMade (.ref C) x d) (fun a s'=>wpAny (model prog w) A (match a with | some d=>storeInDict d (Value.str name tk) name v | none=>noDictFor (Value.ref x) (Value.ref C) name (none.or none:Option Value).isSome) Q E s') E ⟨h,g,d,t,os⟩:=by
  refine Q1 (wpAny_alloc' (Q1 (wpAny_update' e1 (Qf ?_))));generalize hg2:(h.push ⟨.type "dict",none,.dict #[] 0,#[]⟩).update x (fun o=>{ o with dict:=some h.objs.size })=h2;have gd:h2.get? h.objs.size=some ⟨.type "dict",none,.dict #[] 0,#[]⟩:=by rw[←hg2];exact(Heap.get?_update_ne _ _ _ _ ne.symm).trans (Heap.get?_push_at rfl rfl)
  have gx:h2.get? x=some { o with dict:=some h.objs.size }:=by rw[←hg2];refine Heap.get?_update_self _ e1 ?_;obtain⟨oc,od,odt,osl⟩:=o;cases odt<;>first | rfl | exact hfr
  have nd:h2.Ns h.objs.size (fun _=>none):=⟨_,#[],_,gd,rfl,fun e he=>absurd he (by simp),fun _=>rfl⟩;show wpAny _ _ (storeInDict h.objs.size (.str name tk) name v) _ _ _;unfold storeInDict newKeyGuard;refine Q1 (Qf (Q1 (wpAny_nsSet1 (Heap.Ns1.of_empty nd) fun h' n1 hs=>?_)));obtain⟨oD,esD,epD,a1,a2,a3⟩:=n1.count (Within.cons name v Within.nil);refine Q1 (wpAny_lookBehind a1 (by rw[a2];exact pastItsLine_dict (Qj a3 (by rw[Qp,length_nil,sizeLine_eq];omega))) ?_)
  wp_walk
  refine hq h' _ h.objs.size (Heap.get?_none_of_le (Q3 _)) ne.symm ((hs.2 x ne).trans gx) n1 fun b ob hb e=>(hs.2 b (Qk (Qe e))).trans ?_;rw[←hg2];exact(Heap.get?_update_ne _ _ _ _ hb).trans (Q2 _ e)
 cases hdt:o.data with|cls c=>exact absurd hdt (hnc c)|_=>exact key
theorem zsC(hC:h.get? C=some (excClassObj nm q C N bs bm true sn sub ab col dd k0 k1 k2 k3 k5 newId))(hn:h.Ns N mN)(T:Tl h zan ns bm)(hi:("__init__":Str) ∈ ns)(m1:mN "__setattr__" = none)(hs:("__setattr__":Str) ∈ ns)(m2:mN name=none)(hm:name ∈ ns)
 (hB:typeLookup (.type "ValueError") name=pure none) (hx:h.get? x=some o) (hc:o.cls = .ref C) (hnc:∀c,o.data ≠ .cls c) (hd:o.dict=none)
 (hq:∀h' tk' dx,h.get? dx=none->dx ≠ x->h'.get? x=some { o with dict:=some dx }->h'.Ns1 dx (fun y=>if y=name then some v else none)->(∀b ob,b ≠ x->h.get? b=some ob->h'.get? b=some ob)->Q () ⟨h',g,d,tk',os⟩) :
  wpAny (model prog w) A (setAttr (.ref x) name v) Q E ⟨h,g,d,t,os⟩:=by
 have f3:=PySem.F.store_ValueError.slot.bind (.ref x);unfold setAttr callSpecial? specialOf
 repeat (any_goals (first | assumption | (with_reducible refine wpAny_loadPart_at hx ?_;rw[hc]) | (with_reducible refine zdm hC hn T hs PySem.F.store_ValueError.mro PySem.F.store_ValueError.slot.lookup ?_;rw[m1]) | wp_step))
 refine codeAny_call_builtin PySem.F.store_ValueError.slot.plain PySem.F.store_ValueError.entry (zkL hC T hi hx hc (zkK hC hn T m2 hm hB hx hc hnc hd fun h' tk' dx a1 a2 a3 a4 a5=>?_))
 repeat (any_goals (first | assumption | wp_step))
 exact hq h' tk' dx a1 a2 a3 a4 a5
end
noncomputable abbrev zcc(C:Addr)(t:Addr)(od:Option Addr):Obj:=⟨.ref C,od,.fields #[.ref t,.none,.none,.none,.bool false,.none],#[]⟩
variable {s:Shared}
section
variable {fI:Addr}{bs:List Value}{sub:List Value}{rest:List Value}{oI:Obj}
theorem zkM{Q:PySem.Fin->Shared->Prop}(hC:h.get? C=some (excClassObj nm q C N bs bm hdct sn sub ab col dd k0 k1 k2 k3 k5 "ValueError.__new__"))(hn:h.Ns N mN)(T:OwnTail h zan bm)(hi:mN "__init__" = some (.ref fI))(hf:h.get? fI=some oI)(hc:oI.cls = .type "function")
  (hq:∀h' e,Heap.MadeExcOf h h' e (.ref C) rest->wpAny (model prog w) A (call (.ref fI) (.ref e::rest)) (fun r s'=>r = .none/\Q (.done (.ret (.ref e))) s') E ⟨h',g,d,t,os⟩) (hl:rest.length<=sizeLine) :
  wpAny (model prog w) A (Builtin.«type.__call__» ⟨.ref C::rest,[]⟩) Q E ⟨h,g,d,t,os⟩:=by
 have F:=PySem.F.excBase_ValueError
 repeat (first | with_reducible refine wpAny_loadPart_at hC ?_ | with_reducible refine wpAny_madeBy_exc hC ?_ | wp_step)
 refine codeAny_call_builtin_code (Code.quiet_builtin _ F.quiet) (wpAny_check_new_subT F T hC ?_);refine codeAny_exc_new_subT F T hC ?_ hl;show wpAny _ _ _ _ _ _;have k2:∀b o,h.get? b=some o->((h.push ⟨.type "tuple",none,.seq rest.toArray 0,#[]⟩).push (zcc C h.objs.size none)).get? b=some o:=fun b o e=>Q2 _ (Q2 _ e);have ge:((h.push ⟨.type "tuple",none,.seq rest.toArray 0,#[]⟩).push (zcc C h.objs.size none)).get? (h.objs.size+1)=some (zcc C h.objs.size none):=by heap_get
 have hC1:=k2 _ _ hC;have hcC:(Value.ref C::bm).contains (.ref C)=true:=by simp
 unfold isInstance
 repeat (first | with_reducible refine wpAny_loadPart_at ge ?_ | (with_reducible refine wpAny_isSubtype_exc hC1 ?_;rw[hcC]) | wp_step)
 show wpAny _ _ (typeLookup (.ref C) _) _ _ _;refine wpAny_typeLookup_tail hC1 (hn.keeps k2) (T.keeps k2) F.mroIs F.init.lookup ?_;rw[hi];refine wpAny_holding (Q1 ?_);unfold bindSpecial;refine Q1 (wpAny_typeOf (T:="function") ⟨_,k2 _ _ hf,hc⟩ ?_);rw[Qz ∅];refine Qf (Q1 (Qg (hq _ (h.objs.size+1) ⟨k2,Heap.get?_none_of_le (Nat.le_succ _),h.objs.size,ge,Heap.get?_none_of_le (Q3 _),?_⟩) (fun r s' hr=>?_) fun _ _ x=>x))
 ·exact Q2 _ (Heap.get?_push_at rfl rfl)
 ·obtain⟨rfl,hQ⟩:=hr
  wp_walk
  exact hQ
theorem zrF{Q:Value->Shared->Prop}(hC:h.get? C=some (excClassObj nm q C N bs bm hdct sn sub ab col dd k0 k1 k2 k3 k5 "ValueError.__new__"))(hn:h.Ns N mN)(T:OwnTail h zan bm)(hi:mN "__init__" = some (.ref fI))(hf:h.get? fI=some oI)(hc:oI.cls = .type "function")
  (hq:∀h' e,Heap.MadeExcOf h h' e (.ref C) rest->wpAny (model prog w) (A.under (.builtin "type.__call__" ⟨.ref C::rest,[]⟩)) (call (.ref fI) (.ref e::rest)) (fun r s'=>r = .none/\Q (.ref e) s') E ⟨h',g,d,t,os⟩) (hl:rest.length<=sizeLine) :
  wpAny (model prog w) A (call (.ref C) rest) Q E ⟨h,g,d,t,os⟩:=by
 have f1:=tc_lookup;have f2:=tc_bind (.ref C);have hT:(⟨h,g,d,t,os⟩:Shared).TypeIs (.ref C) "type":=⟨_,hC,rfl⟩;refine wpAny_call (codeAny_of_tree ?_);show wpAny _ _ (callAny (.ref C) _) _ _ _
 repeat (any_goals (first | assumption | with_reducible refine wpAny_loadPart_at hC ?_ | wp_step))
 refine⟨rfl,codeAny_call_builtin_at (Code.quiet_builtin _ (by decide +kernel)) entry_typeCall (wpAny_check_type_call_sub hC (zkM (hl:=hl) hC hn T hi hf hc fun h' e hm=>?_))⟩;exact hq h' e hm
theorem zpG{env:PySem.Env}{x:Sem Value}{Q:Flow->Shared->Prop}(hb:bm.contains (.type "BaseException")=true)(hh:A.handled=none)
 (hq:wpAny M A x (fun v s1=>∃e t od,v = .ref e/\s1.heap.get? C=some (excClassObj nm q C N bs bm hdct sn sub ab col dd k0 k1 k2 k3 k5 "ValueError.__new__")/\s1.heap.get? e=some (zcc C t od)/\E (.ref e) s1) E s) :
  wpAny M A (raiseStmt env (some x) none) Q E s:=by
 have hcB:(Value.ref C::bm).contains (.type "BaseException")=true:=by rw[contains_cons,hb,Bool.or_true]
 unfold raiseStmt;refine Q1 (Qg hq (fun v s1 h1=>?_) fun _ _ x=>x);obtain⟨e,t,od,rfl,hC,he,hE⟩:=h1;obtain⟨hp,g,d,tk,os⟩:=s1
 repeat (first | with_reducible refine wpAny_loadPart_at he ?_ | with_reducible refine wpAny_loadPart_at hC ?_ | (with_reducible refine wpAny_isSubtype_exc hC ?_;rw[hcB]) | wp_step)
 exact wpAny_raiseNew_none hh hE
end
noncomputable def Qt{α:Type}:Sem α->Prop
 |.pure _=>True|.raise _=>True|.unsupported _=>True|.finish _=>True|.rule _ k=>Qt (k ())|.at _ k=>Qt (k ())|.load _ _ k=>∀o,Qt (k o)|.update _ _ f k=>(∀o:Obj,(f o).dict=o.dict/\(o.isFreed=false->(f o).isFreed=false))/\Qt (k ())|.alloc _ k=>∀a,Qt (k a)|.loadIfAlive _ k=>∀o,Qt (k o)|.point _ k=>Qt (k ())|.fresh k=>∀a,Qt (k a)|.ask k=>∀a,Qt (k a)|.handled _ k=>∀a,Qt (k a)|.stack k=>∀a,Qt (k a)|_=>False
theorem Qt.bind{α β:Type}{k:α->Sem β}(hk:∀a,Qt (k a)):∀{t:Sem α},Qt t->Qt (t >>= k):=by
 intro t
 induction t with|pure a=>exact fun _=>hk a|raise e=>exact fun _=>trivial|unsupported e=>exact fun _=>trivial|finish e=>exact fun _=>trivial|rule _ _ ih=>exact fun h=>ih () h|«at» _ _ ih=>exact fun h=>ih () h|load _ _ _ ih=>exact fun h o=>ih o (h o)|update _ _ _ _ ih=>exact fun h=>⟨h.1,ih () h.2⟩|alloc _ _ ih=>exact fun h o=>ih o (h o)|loadIfAlive _ _ ih=>exact fun h o=>ih o (h o)|point _ _ ih=>exact fun h=>ih () h|fresh _ ih=>exact fun h o=>ih o (h o)|ask _ ih=>exact fun h o=>ih o (h o)|handled _ _ ih=>exact fun h o=>ih o (h o)|stack _ ih=>exact fun h o=>ih o (h o)|_=>exact fun h=>h.elim
def Dk(s s':Shared):Prop:=∀b o,s.heap.get? b=some o->∃o',s'.heap.get? b=some o'/\o'.dict=o.dict
def Dk.refl(s:Shared):Dk s s:=fun _ o e=>⟨o,e,rfl⟩
theorem Dk.trans{a b c:Shared}(h:Dk a b)(g:Dk b c):Dk a c:=fun x o e=>by obtain⟨o1,e1,d1⟩:=h x o e;obtain⟨o2,e2,d2⟩:=g x o1 e1;exact⟨o2,e2,d2.trans d1⟩
theorem Qt.wp{α:Type}{Γ:PySem.Ctx}{Q:α->Pos->Shared->Prop}{E:Value->Pos->Shared->Prop}:∀{t:Sem α} {p:Pos} {s:Shared},Qt t->Sem.wp M Γ t Q E p s->Sem.wp M Γ t (fun a p' s'=>Q a p' s'/\Dk s s') (fun e p' s'=>E e p' s'/\Dk s s') p s:=by
 have up:∀{t:Sem α} {p:Pos} {s s1:Shared},Dk s s1->Sem.wp M Γ t (fun a p' s'=>Q a p' s'/\Dk s1 s') (fun e p' s'=>E e p' s'/\Dk s1 s') p s1->Sem.wp M Γ t (fun a p' s'=>Q a p' s'/\Dk s s') (fun e p' s'=>E e p' s'/\Dk s s') p s1:=fun k h=>Sem.wp_mono M Γ _ (fun _ _ _ z=>⟨z.1,k.trans z.2⟩) (fun _ _ _ z=>⟨z.1,k.trans z.2⟩) _ _ h
 intro t
 induction t with
 |pure a=>exact fun _ h=>⟨h,.refl _⟩|raise e=>exact fun _ h=>⟨h,.refl _⟩|unsupported e=>exact fun _ h=>h|finish e=>exact fun _ h=>h|rule _ _ ih=>exact fun q h=>ih () q h|«at» _ _ ih=>exact fun q h=>ih () q h|load _ _ _ ih=>exact fun q ⟨o,e,h⟩=>⟨o,e,ih o (q o) h⟩|update a _ f _ ih=>
  intro p s q ⟨e,h⟩;refine⟨e,up (fun b o eb=>?_) (ih () q.2 h)⟩
  by_cases hb:b=a
  ·subst hb;exact⟨f o,Heap.get?_update_self _ eb ((q.1 o).2 (Heap.get?_some_iff.mp eb).2),(q.1 o).1⟩
  ·exact⟨o,(Heap.get?_update_ne _ _ _ _ hb).trans eb,rfl⟩
 |alloc ob _ ih=>intro p s q h;exact up (s:=s) (s1:={ s with heap:=s.heap.push ob }) (fun b o eb=>⟨o,Q2 _ eb,rfl⟩) (ih _ (q _) h)
 |loadIfAlive _ _ ih=>exact fun q h=>ih _ (q _) h|point _ _ ih=>exact fun q h=>ih () q h|fresh _ ih=>intro p s q h;exact up (s:=s) (s1:={ s with toks:=s.toks+1 }) (fun b o eb=>⟨o,eb,rfl⟩) (ih _ (q _) h)
 |ask _ ih=>exact fun q h=>ih _ (q _) h|handled _ _ ih=>exact fun q h=>ih _ (q _) h|stack _ ih=>exact fun q h=>ih _ (q _) h|_=>exact fun q _=>q.elim
def Qt.any{α:Type}{t:Sem α}{Q:α->Shared->Prop}(q:Qt t)(h:wpAny M A t Q E s):wpAny M A t (fun a s'=>Q a s'/\Dk s s') (fun e s'=>E e s'/\Dk s s') s:=fun Γ p hΓ=>q.wp (h Γ p hΓ)
theorem zjM:Qt (fieldsOf v):=by
 unfold fieldsOf;split
 ·exact Qt.bind (fun o=>by split<;>exact trivial) (fun _=>trivial)
 ·exact trivial
variable {i:Nat}
theorem zev:Qt (field v i):=by unfold field;exact Qt.bind (fun vs=>by split<;>exact trivial) zjM
theorem zp1{f:Array Value->Array Value}(o:Obj):(Obj.mapFields f o).dict=o.dict/\(o.isFreed=false->(Obj.mapFields f o).isFreed=false):=by obtain⟨c,d,dt,sl⟩:=o;cases dt<;>exact⟨rfl,fun h=>h⟩
theorem zdS{x:Value} :Qt (setField v i x):=by
 unfold setField;split
 ·unfold updateField;refine Qt.bind (fun o=>?_) (fun _=>trivial);split
  ·split
   ·exact⟨zp1,trivial⟩
   ·exact trivial
  ·exact trivial
 ·exact trivial
theorem zdg{e:Value}{f:Option Addr}:Qt (setFlight e f):=by
 unfold setFlight;refine Qt.bind (fun tb=>?_) zev;split
 ·exact zdS
 ·exact trivial
theorem zi0:∀l:List PySem.Env,Qt (readyFrames l)
 |[]=>trivial|env::outer=>by
  unfold readyFrames;split
  ·rename_i f _;refine Qt.bind (fun o=>?_) (fun _=>trivial);split
   ·exact trivial
   ·refine Qt.bind (fun b=>Qt.bind (fun k=>?_) ?_) ?_
    ·exact⟨fun o=>⟨rfl,fun h=>by obtain⟨c,d,dt,sl⟩:=o;cases dt<;>exact h⟩,zi0 outer⟩
    ·unfold keptBack;split
     ·split
      ·exact trivial
      ·unfold underTheClaimsCaller;exact fun _=>trivial
     ·exact trivial
    ·unfold behindIsImport;split
     ·exact trivial
     ·split
      ·exact trivial
      ·refine Qt.bind (fun _=>?_) zev;exact trivial
  ·exact trivial
theorem zk3{env:PySem.Env}:Qt (PySem.frameOf env):=by
 unfold PySem.frameOf;refine Qt.bind (fun l=>Qt.bind (fun o=>?_) ?_) (show Qt frameEnvs from fun _=>trivial)
 ·split<;>exact trivial
 ·unfold frameObject;split
  ·exact trivial
  ·refine Qt.bind (fun _=>?_) (zi0 _);exact trivial
theorem zjL{a b c d e:Value}{l:List Value}:Qt (EntryCells.newEntry a b c d e l):=by
 have nw:∀dt:Data,Qt (newObjAsIs (.type "traceback") dt):=fun dt _=>trivial;unfold EntryCells.newEntry newFields newObj;dsimp only;generalize (if l.isEmpty=true then List.replicate 6 Value.none else l)=m;split
 ·exact trivial
 ·exact nw _
variable {f:Addr}
theorem zm1{b:Bool}:Qt (entryPlaceOf f b):=by unfold entryPlaceOf;refine Qt.bind (fun l=>?_) (fun _=>trivial);split<;>exact trivial
theorem zkc{e:Value}{env:PySem.Env}:Qt (noteFrame e env):=by
 unfold noteFrame;split
 ·rename_i f _;refine Qt.bind (fun hd=>?_) zev;have last:Qt (PySem.frameOf env >>= fun a=>entryPlaceOf f (hd != .none) >>= fun p=>EntryCells.newEntry hd a .none (rawInt f) .none p >>= fun n=>setField e 1 n):=Qt.bind (fun a=>Qt.bind (fun p=>Qt.bind (fun n=>zdS) zjL) zm1) zk3;dsimp only;split
  ·refine Qt.bind (fun x=>?_) zev;split
   ·exact trivial
   ·exact Qt.bind (fun _=>last) zdS
  ·exact last
 ·exact trivial
theorem zgK{e:Value}{env:PySem.Env}:Qt (leaving env e):=by unfold leaving;exact Qt.bind (fun _=>zdg) zkc
noncomputable def ExO(e C:Addr)(od:Option Addr):Heap->Prop:=fun h=>∃ob,h.get? e=some ob/\ob.cls = .ref C/\ob.dict=od/\∀c,ob.data ≠ .cls c
noncomputable def ExN(e C t:Addr)(od:Option Addr):Heap->Prop:=fun h=>h.get? e=some (zcc C t od)
variable {e:Addr}{H:Hp}{od:Option Addr}{P:Program}
theorem zru(x:ExO e C od h):ObjOk P w H h e (.ext (ExO e C od)):=
 ⟨x,let ⟨ob,q,_⟩:=x;⟨ob,q⟩,fun _ _ ⟨ob,q,c⟩ k=>⟨ob,k _ q,c⟩⟩
theorem zmk{t:Addr}(x:ExN e C t od h):ObjOk P w H h e (.ext (ExN e C t od)):=
 ⟨x,⟨_,x⟩,fun _ _ q k=>k _ q⟩
noncomputable def zhg(H:Hp)(e:Addr):Hp:=fun b=>if b=e then none else H b
def zcl{b:Addr}(h:b ≠ e):zhg H e b=H b:=QA h
def zhU:zhg H e e=none:=Qz rfl
variable {X:Cx}{ρ:List (Addr × Obj)}{σ:St}
section
theorem Inv.take{o:HO}(I:Inv X ρ σ H s)(h0:X.s₀.heap.get? e=none)(hn:H e=none)(hl:e ≠ X.env.locals)(hc:∀x c,X.env.cells.lookup x=some c->c ≠ e)(hp:∀p ∈ X.pn++ρ,p.1 ≠ e)(new:ObjOk X.prog X.w (upd H e o) s.heap e o):Inv X ρ σ (upd H e o) s:=by
 have ne:∀b ob,X.s₀.heap.get? b=some ob->b ≠ e:=fun b ob q z=>by rw[z,h0]at q;cases q
 have nh:∀b u,H b=some u->b ≠ e:=fun b u q z=>by rw[z,hn]at q;cases q
 refine⟨I.ok,I.os,I.bare,⟨I.base.keep,I.base.slot,fun b ob q n x=>by rw[zi (ne b ob q)];exact I.base.free b ob q n x,I.base.there,fun b xs q=>?_,fun b u xs q=>?_,fun b ps q=>?_⟩,I.loc,I.cell,by rw[zi hl.symm];exact I.free,fun x c q=>by rw[zi (hc x c q)];exact I.freeC x c q,fun p q=>?_,?_,I.len⟩
 ·have:=I.base.tups b xs q;rw[zi (nh b _ this)];exact this
 ·have:=I.base.frzs b u xs q;rw[zi (nh b _ this)];exact this
 ·obtain⟨m,this⟩:=I.base.tbls b ps q;exact⟨m,by rw[zi (nh b _ this)];exact this⟩
 ·obtain⟨a,b,c⟩:=I.pin p q;exact⟨a,by rw[zi (hp p q)];exact b,c⟩
 ·intro b u q
  by_cases hb:b=e
  ·subst hb;rw[qu]at q;cases q;exact new
  ·rw[zi hb]at q;exact(I.hok b u q).stay (fun _ _ _ z=>z) (fun c z=>by rw[zi (nh c _ z)];exact z) fun c xs z=>by rw[zi (nh c _ z)];exact z
theorem Inv.let{φ:Heap->Prop}(I:Inv X ρ σ H s)(he:H e=some (.ext φ)):Inv X ρ σ (zhg H e) s:=by
 have nh:∀b u,H b=some u->(∀ψ,u ≠ .ext ψ)->b ≠ e:=fun b u q n z=>by rw[z,he]at q;cases q;exact n φ rfl
 have nn:∀b,H b=none->zhg H e b=none:=fun b q=>by
  unfold zhg;split
  ·rfl
  ·exact q
 refine⟨I.ok,I.os,I.bare,⟨I.base.keep,I.base.slot,fun b ob q n x=>nn b (I.base.free b ob q n x),I.base.there,fun b xs q=>?_,fun b u xs q=>?_,fun b ps q=>?_⟩,I.loc,I.cell,nn _ I.free,fun x c q=>nn _ (I.freeC x c q),fun p q=>?_,?_,I.len⟩
 ·have:=I.base.tups b xs q;rw[zcl (nh b _ this (fun _ z=>by cases z))];exact this
 ·have:=I.base.frzs b u xs q;rw[zcl (nh b _ this (fun _ z=>by cases z))];exact this
 ·obtain⟨m,this⟩:=I.base.tbls b ps q;exact⟨m,by rw[zcl (nh b _ this (fun _ z=>by cases z))];exact this⟩
 ·obtain⟨a,b,c⟩:=I.pin p q;exact⟨a,nn _ b,c⟩
 ·intro b u q
  by_cases hb:b=e
  ·subst hb;rw[zhU]at q;cases q
  ·rw[zcl hb]at q;exact(I.hok b u q).stay (fun _ _ _ z=>z) (fun c z=>by rw[zcl (nh c _ z (fun _ y=>by cases y))];exact z) fun c xs z=>by rw[zcl (nh c _ z (fun _ y=>by cases y))];exact z
end
noncomputable def CXX(P:Program)(w:World):CXT:=fun l H s E ev s'=>∃(e t C:Addr) (oe:Obj) (B:Heap) (H':Hp),ev = .ref e/\Heap.FlyingW B l e (.ref C) (.ref t) s'.heap/\s'.heap.get? e=some oe/\s'.os=s.os/\AllBare s'.gens /\
 Un (frs l) [] H H' s.heap s'.heap/\HOk P w H' s'.heap/\(∀b o,s'.heap.get? b=some o->b ∉ frs l->(H' b ≠ none\/∃o',s.heap.get? b=some o')->B.get? b=some o)/\(∀b ∈ frs l,H' b=none)/\E (.ref C) oe.dict H'
section
variable {E:XK}
theorem zkC{s1:Shared}{t:Addr}{B:Heap}(I:Inv X ρ σ H s)(hst:X.stack=X.env::X.outer)(hf:X.env.frame=some X.env.locals)(hex:X.ex=[])
 (hE:E (.ref C) od H) (hB:∀b o,s.heap.get? b=some o->b ∉ frs X.stack->(H b ≠ none\/∃o',X.s₀.heap.get? b=some o')->B.get? b=some o) (fl:Heap.FlyingW B X.outer e (.ref C) (.ref t) s1.heap) (up:s.heap.UpToSlots s1.heap) (hd:∃oe,s1.heap.get? e=some oe/\oe.dict=od)
 (os:s1.os=s.os) (ge:s1.gens=s.gens):CXX X.prog X.w X.outer X.H₀ X.s₀ E (.ref e) s1:=by
 obtain⟨oe,he,hod⟩:=hd;have u0:Un (frs X.outer) [] X.H₀ H X.s₀.heap s.heap:=by have:=I.base;rw[hex]at this;exact this
 have sub1:∀b ∈ frs X.outer,b ∈ frs X.stack:=fun b hb=>by
  rw[hst];unfold frs
  rw[filterMap_cons,hf];exact mem_cons_of_mem _ hb
 have nst:∀b o,s.heap.get? b=some o->b ∉ frs X.outer->(H b ≠ none\/∃o',X.s₀.heap.get? b=some o')->b ∉ frs X.stack:=fun b o e1 n1 q1 hm=>by
  rw[hst]at hm;unfold frs at hm;rw[filterMap_cons,hf]at hm;rcases QB.mp hm with z | z
  ·rcases q1 with q1 | ⟨o',q1⟩
   ·rw[z]at q1;exact q1 I.free
   ·rw[z]at q1;exact absurd (Qe q1) (Nat.not_lt.mpr I.ok.above)
  ·exact n1 z
 have hB1:∀b o,s.heap.get? b=some o->b ∉ frs X.outer->(H b ≠ none\/∃o',X.s₀.heap.get? b=some o')->B.get? b=some o:=fun b o e1 n1 q1=>hB b o e1 (nst b o e1 n1 q1) q1;have hfr:∀b ∈ frs X.outer,H b=none:=fun b hb=>I.stkFree b (sub1 b hb);have hfn:∀b ∈ frs X.outer,∀o,s.heap.get? b=some o->∀vs,o.data ≠ .fields vs:=fun b hb o e1=>by
  obtain⟨_,o',e2,n2⟩:=I.stack.mem (sub1 b hb);rw[e1]at e2;cases e2
  exact n2
 obtain⟨un2,hok2⟩:=znP u0 I.hok hB1 hfr hfn fl.1 up;refine⟨e,t,C,oe,B,H,rfl,fl,he,os.trans I.os,by rw[ge];exact I.bare,un2,hok2,fun b o e1 n1 q1=>?_,hfr,by rw[hod];exact hE⟩;have hex2:∃o1,s.heap.get? b=some o1:=by
  rcases q1 with q1 | ⟨o',q1⟩
  ·cases z:H b with|none=>exact absurd z q1|some u=>exact(I.hok b u z).there
  ·exact u0.there b o' q1 (by simp)
 obtain⟨o1,e2⟩:=hex2;have e3:=hB1 b o1 e2 n1 q1;have e4:=fl.1 b o1 e3;rw[e1]at e4;cases e4
 exact e3
theorem zd8(hst:X.stack=X.env::X.outer)(hf:X.env.frame=some X.env.locals)(hex:X.ex=[])
  (hxe:X.xe=fun ev s'=>wpAny (model X.prog X.w) X.A (leaving X.env ev) (fun _ s''=>CXX X.prog X.w X.outer X.H₀ X.s₀ E ev s'') (fun e' s''=>CXX X.prog X.w X.outer X.H₀ X.s₀ E e' s'') s'):Passes (CXX X.prog X.w) X E:=by
 intro ρ σ H s ev s' I ⟨e,t,C,oe,B,H',e0,fl,he,os,bare,un,hok,hB,hfr,hE⟩;subst e0;rw[hxe];have I1:Inv X ρ σ H' s':=I.call' (ch:=[]) os un hok bare (fun b z=>absurd z (by simp));have hfrm:X.A.frames=some (X.env::X.outer):=by rw[I.ok.frames,hst]
 rw[hst]at fl;have w1:=zgK.any (wpAny_leaves_onW (M:=model X.prog X.w) (E:=fun _ _=>False) (Q:=fun _ s2=>∃h',s2={ s' with heap:=h' }/\Heap.FlyingW B X.outer e (.ref C) (.ref t) h'/\s'.heap.UpToSlots h') hfrm hf fl fun h' a b=>⟨h',rfl,a,b⟩);refine Qg w1 ?_ fun _ _ z=>z.1.elim;rintro _ s2 ⟨⟨h',rfl,fl',up⟩,dk⟩;refine zkC (s1:={ s' with heap:=h' }) I1 hst hf hex hE (fun b o e1 n1 q1=>hB b o e1 n1 ?_) fl' up (dk e oe he) rfl rfl;rcases q1 with q1 | ⟨o',q1⟩
 ·exact .inl q1
 ·exact .inr (I.base.there b o' q1 (by rw[hex];simp))
theorem zpt{t:Addr}(I:Inv X ρ σ H s)(hst:X.stack=X.env::X.outer)(hf:X.env.frame=some X.env.locals)(hex:X.ex=[])
 (hxe:X.xe=fun ev s'=>wpAny (model X.prog X.w) X.A (leaving X.env ev) (fun _ s''=>CXX X.prog X.w X.outer X.H₀ X.s₀ E ev s'') (fun e' s''=>CXX X.prog X.w X.outer X.H₀ X.s₀ E e' s'') s')
 (he:s.heap.get? e=some (zcc C t od)) (hn:H e=none) (h0:X.s₀.heap.get? e=none) (hE:E (.ref C) od H):X.xe (.ref e) s:=by
 rw[hxe];have hfrm:X.A.frames=some (X.env::X.outer):=by rw[I.ok.frames,hst]
 have hff:s.heap.FunFrames X.base (X.env::X.outer):=by have:=I.stack;rw[hst]at this;exact this
 have hin:∀env ∈ (X.env::X.outer),∀b,env.frame=some b->b ∈ e::frs (X.env::X.outer):=fun env he b hb=>mem_cons_of_mem _ (List.mem_filterMap.mpr ⟨env,he,hb⟩);have w1:=zgK.any (wpAny_leaving_firstW (M:=model X.prog X.w) (E:=fun _ _=>False) (base:=PySem.W.hideAll s.heap (e::frs (X.env::X.outer))) (a0:=.ref t) (Q:=fun _ s2=>∃h',s2={ s with heap:=h' }/\Heap.LeftW (PySem.W.hideAll s.heap (e::frs (X.env::X.outer))) (X.env::X.outer) e (.ref C) (.ref t) s.heap h') hfrm (PySem.W.funFrames_hide hff hin) hf he (fun b o e1=>PySem.W.of_hideAll _ e1) (PySem.W.hideAll_none _ (mem_cons_self ..)) rfl rfl rfl fun h' a=>⟨h',rfl,a⟩);refine Qg w1 ?_ fun _ _ z=>z.1.elim;rintro _ s2 ⟨⟨h',rfl,k1,⟨_,_,k2⟩,k3,k4⟩,dk⟩;refine zkC (s1:={ s with heap:=h' }) I hst hf hex hE (fun b o e1 n1 q1=>?_) ⟨k1,PySem.W.hideAll_none _ (mem_cons_self ..),k2,k3⟩ k4 (dk e _ he) rfl rfl;refine PySem.W.hideAll_get _ e1 fun hm=>?_;rcases QB.mp hm with z | z
 ·rcases q1 with q1 | ⟨o',q1⟩
  ·rw[z]at q1;exact q1 hn
  ·rw[z,h0]at q1;cases q1
 ·rw[hst]at n1;exact n1 z
end
noncomputable abbrev xns:List Str:=["__setattr__","at","__getattribute__","__getattr__"]
structure XcAt (K:Frag) (mg:Str->Option Value) (x:Str) (C fI:Addr):Prop where
 bound:mg x=some (.ref C)
 obj:∀h:Heap,K.In h->∃bm N nm q bs sn sub ab col dd k0 k1 k2 k3 k5 mN,h.get? C=some (excClassObj nm q C N bs bm true sn sub ab col dd k0 k1 k2 k3 k5 "ValueError.__new__")/\h.Ns N mN/\mN "__init__" = some (.ref fI)/\(∀n ∈ xns,mN n=none)/\Tl h zan ("__init__" :: xns) bm
 fn:∃oI,K.lookup fI=some oI/\oI.cls = .type "function"
theorem zkr:typeLookup (.type "ValueError") "at" = pure none:=by rw[typeLookup_type,builtinLookup_eq_fast];kernel_rfl
variable {pos:Pos}
section
variable {E:XK}{o value:Expr}{ta tv:TE}{pos':Pos}
theorem Inv.new0(I:Inv X ρ σ H s)(hex:X.ex=[])(he:s.heap.get? e=none):X.s₀.heap.get? e=none/\H e=none/\e ≠ X.env.locals/\(∀x c,X.env.cells.lookup x=some c->c ≠ e)/\∀p ∈ X.pn++ρ,p.1 ≠ e:=by
 refine⟨?_,?_,fun z=>?_,fun x c q z=>?_,fun p q z=>?_⟩
 ·cases q:X.s₀.heap.get? e with
  |none=>rfl|some u=>obtain⟨o',e'⟩:=I.base.there e u q (by rw[hex];simp);rw[he]at e';cases e'
 ·cases q:H e with
  |none=>rfl|some u=>obtain⟨o',e'⟩:=(I.hok e u q).there;rw[he]at e';cases e'
 ·obtain⟨m,⟨ob,_,_,e',_⟩,_⟩:=I.loc;rw[←z,he]at e';cases e'
 ·obtain⟨v,ob,e',_⟩:=I.cell x c q;rw[z,he]at e';cases e'
 ·have:=(I.pin p q).1;rw[z,he]at this;cases this
theorem zp7(hex:X.ex=[])(ha:PE X o ta)(hv:PE X value tv)(hs:swapsWith value (some (.Attribute o "at" pos')) pos.line X.env=pure false:=by rfl):PS X (.Assign [.Attribute o "at" pos'] value pos)
  (fun D σ H=>tv σ H fun y H1=>ta σ H1 fun x H2=>∃e C fI t nm,x = .ref e/\XcAt X.K X.mg nm C fI/\H2 e=some (.ext (ExN e C t none))/\∀d,H2 d=none->d ≠ e->D.nx σ (upd (upd H2 e (.ext (ExN e C t (some d)))) d (.xd [("at",y)]))):=by
 intro ρ s σ H D I h;refine plainObj_wpAny_Assign_Attribute (thn (hv ρ s σ H _ I h) fun u s1 ⟨y,H1,I1,ry,q⟩=>thn (ha ρ s1 σ H1 _ I1 q) fun ov s2 ⟨x,H2,I2,rx,e,C,fI,t,nm,ex,O,ee,q2⟩=>?_) hs;subst ex;obtain rfl:ov=Value.ref e:=rx;obtain⟨bm,N,nm,q,bs,sn,sub,ab,col,dd,k0,k1,k2,k3,k5,mN,hC,hN,hi,hno,T⟩:=O.obj s2.heap I2.kIn;obtain⟨g0,_,_⟩:=I2.hok e _ ee;have g0:s2.heap.get? e=some (zcc C t none):=g0;obtain⟨h2,ge,dr,tk,os⟩:=s2;refine zsC hC hN T ∅ (hno _ ∅) ∅ (hno _ ∅) ∅ zkr g0 rfl (fun c z=>by cases z) rfl fun h' tk' dx a1 a2 a3 a4 a5=>?_;have I3:Inv X ρ σ (upd H2 e (.ext (ExN e C t (some dx)))) ⟨h',ge,dr,tk',os⟩:=I2.write (t':=tk') (by rw[ee];trivial) (.inl rfl) (fun b u nb e'=>a5 b u nb e') ⟨_,a3⟩ (zmk a3);obtain⟨b1,b2,b3,b4,b5⟩:=I2.new0 hex a1;have I4:Inv X ρ σ (upd (upd H2 e (.ext (ExN e C t (some dx)))) dx (.xd [("at",y)])) ⟨h',ge,dr,tk',os⟩:=I3.take b1 (by rw[zi a2];exact b2) b3 b4 b5 ⟨_,a4,fun f=>by
  by_cases hf:f = "at"
  ·subst hf;exact ry
  ·rw[QA hf];show RelO (List.lookup f [("at",y)]) none;rw[lookup_cons];simp only[beq_eq_false_iff_ne.mpr hf,List.lookup_nil]
   trivial⟩
 exact⟨σ,_,I4,q2 dx b2 a2⟩
end
variable {fd:FuncData}{x:Str}
theorem zhB{K:Frag}{mg:Str->Option Value}{base:Heap}{qual:Str}{st:Stmt}{p1 p2 p3 p4:Pos}(O:XcAt K mg x C f)(F:Fun K "__init__" qual st f fd)(S:FnScope ["self","at"] ["self","at"] (ye st))
 (hb:qE st=[.Assign [.Attribute (.Name "self" p1) "at" p2] (.Name "at" p3) p4]) (l1:(ye st).names.lookup ("self":Str)=some NameKind.local) (l2:(ye st).names.lookup ("at":Str)=some NameKind.local) :
  FnOk P w K mg base CX0 1 f fd ["self","at"] (fun vs H Q E=>(∃e t v,vs=[.ref e,v]/\H e=some (.ext (ExN e C t none))/\∀d,H d=none->d ≠ e->Q .non (upd (upd H e (.ext (ExN e C t (some d)))) d (.xd [("at",v)])))):=by
 refine F.ok S (fun vs H Q E ⟨e,t,v,h,_⟩=>by rw[h];rfl) fun cdv A outer s H vs Q E hr ⟨e,t,v,h1,h2,h3⟩=>?_;subst h1;rw[hb];refine⟨_,zkd (zp7 rfl (zi3 (i:=0) rfl (.inl l1)) (zi3 (i:=1) rfl (.inl l2))),?_⟩;exact⟨v,rfl,.ref e,rfl,e,C,f,t,x,rfl,O,h2,h3⟩
variable {cpos np:Pos}
section
variable {env:PySem.Env}
variable {bs:List Value}{sub:List Value}
theorem zk2{args:List Expr}{Q:Flow->Shared->Prop}(hb:bm.contains (.type "BaseException")=true)(hh:A.handled=none)(hp:(backTo cpos (starEach args env)).any (·.1)=false)
 (h:wpAny (model prog w) A (eval (.Name x np) env) (fun f s1=>f = .ref C/\wpAny (model prog w) A (evalArgs (.ref C) true (backTo cpos (starEach args env)) []) (fun a s2=>a.kw=[]/\s2.heap.get? C=some (excClassObj nm q C N bs bm hdct sn sub ab col dd k0 k1 k2 k3 k5 "ValueError.__new__") /\
 wpAny (model prog w) A (call (.ref C) a.pos) (fun v s3=>∃e t od,v = .ref e/\s3.heap.get? C=some (excClassObj nm q C N bs bm hdct sn sub ab col dd k0 k1 k2 k3 k5 "ValueError.__new__")/\s3.heap.get? e=some (zcc C t od)/\E (.ref e) s3) E s2) E s1) E s) :
  wpAny (model prog w) A (exec (.Raise (some (.Call (.Name x np) args [] cpos)) none pos) env) Q E s:=by
 rw[arm_exec_Raise];refine Q1 (wpAny_standAt (zpG (C:=C) (nm:=nm) (q:=q) (N:=N) (bs:=bs) (bm:=bm) (hdct:=hdct) (sn:=sn) (sub:=sub) (ab:=ab) (col:=col) (dd:=dd) (k0:=k0) (k1:=k1) (k2:=k2) (k3:=k3) (k5:=k5) hb hh ?_))
 try simp only[evalOpt,Option.map]
 refine Q1 (Qg (wpAny_Call_ofName (Qg h (fun f s1 h1=>?_) fun _ _ y=>y)) (fun v s3 h3=>Q1 (wpAny_standAt (Qf h3))) fun _ _ y=>y);obtain⟨rfl,h1⟩:=h1;unfold callWith;refine Q1 (wpAny_holding (Qg h1 (fun a s2 h2=>Q1 (wpAny_standAt ?_)) fun _ _ y=>y));obtain⟨ap,ak⟩:=a;obtain⟨hkw,hC,h2⟩:=h2;obtain rfl:ak=[]:=hkw;obtain⟨hp',g,d,tk,os⟩:=s2;simp only[hp];refine Q1 (wpAny_keeperOf_exc hC (Q1 (Qg h2 (fun v s3 h3=>Q1 (wpAny_holding (wpAny_point (Qf ?_)))) fun _ _ y=>y)));exact h3
end
variable {ta:TA}
section
variable {E:XK}{e:Expr}
theorem zlK(O:XcAt X.K X.mg x C f)(F:FnOk X.prog X.w X.K X.mg X.base CX0 1 f fd ["self","at"] (fun vs H Q E=>(∃e t v,vs=[.ref e,v]/\H e=some (.ext (ExN e C t none))/\∀d,H d=none->d ≠ e->Q .non (upd (upd H e (.ext (ExN e C t (some d)))) d (.xd [("at",v)])))))
  (hbd:Binds X.K fd ["self","at"] []) (hr:Room 2 X.A) (hg:Gl X x) (hst:X.stack=X.env::X.outer) (hf:X.env.frame=some X.env.locals) (hex:X.ex=[])
  (hxe:X.xe=fun ev s'=>wpAny (model X.prog X.w) X.A (leaving X.env ev) (fun _ s''=>CXX X.prog X.w X.outer X.H₀ X.s₀ E ev s'') (fun e' s''=>CXX X.prog X.w X.outer X.H₀ X.s₀ E e' s'') s')
  (ha:PA X [e] ta) (hd:(x==("__debug__":Str))=false:=by decide) (he:starEach [e] X.env=[(false,eval e X.env)]:=by rfl) :
  PS X (.Raise (some (.Call (.Name x np) [e] [] cpos)) none pos) (fun _ σ H=>ta σ H fun vs H1=>∃v,vs=[v]/\∀d,H1 d=none->E (.ref C) (some d) (upd H1 d (.xd [("at",v)]))):=by
 intro ρ s σ H D I h;obtain⟨bm,N,nm,q,bs,sn,sub,ab,col,dd,k0,k1,k2,k3,k5,mN,hC,hN,hi,hno,T⟩:=O.obj X.base I.ok.mod.kin;have Tt:=T.tail ∅;refine zk2 (C:=C) (nm:=nm) (q:=q) (N:=N) (bs:=bs) (bm:=bm) (hdct:=true) (sn:=sn) (sub:=sub) (ab:=ab) (col:=col) (dd:=dd) (k0:=k0) (k1:=k1) (k2:=k2) (k3:=k3) (k5:=k5) (Tt.hasType PySem.F.excBase_ValueError.hasBase) hr.hd (by rw[he];rfl) (zc4 I hg O.bound ⟨rfl,?_⟩ hd);have hq:=ha cpos ρ s σ H _ I h;rw[he]at hq ⊢;refine Calls.evalArgs_plain (Qg hq (fun us s2 ⟨vs,H2,I2,r2,v,ev,hE⟩=>?_) fun _ _ y=>y);subst ev;obtain⟨u,rfl,ru⟩:∃u,us=[u]/\RelV v u:=by cases r2 with|cons a b=>cases b;exact⟨_,rfl,a⟩
 obtain⟨oI,fk,fc⟩:=O.fn;have hC2:=I2.bk _ _ hC;refine⟨rfl,hC2,?_⟩;obtain⟨h2,g2,d2,t2,os2⟩:=s2;refine zrF hC2 (hN.keeps I2.bk) (Tt.keeps I2.bk) hi (I2.kIn _ _ fk) fc (fun h' e hm=>?_) (by show 1<=sizeLine;decide);obtain⟨t,ge,_,_⟩:=hm.there;obtain⟨b1,b2,b3,b4,b5⟩:=I2.new0 hex hm.new;have I3:Inv X ρ σ H2 ⟨h',g2,d2,t2,os2⟩:=I2.kept (t':=t2) hm.keeps;have I4:Inv X ρ σ (upd H2 e (.ext (ExN e C t none))) ⟨h',g2,d2,t2,os2⟩:=I3.take b1 b2 b3 b4 b5 (zmk ge);refine wpAny_call (codeAny_mono (F.run _ X.stack _ _ ⟨[.ref e,u],[]⟩ [.ref e,u] [.ref e,v] (fun w H'=>w = .non/\∃d,H2 d=none/\d ≠ e/\H'=upd (upd (upd H2 e (.ext (ExN e C t none))) e (.ext (ExN e C t (some d)))) d (.xd [("at",v)])) E0 (hr.make C [u] []) (I4.env0.make C [u] []) (hbd _ [.ref e,u] I4.kIn rfl) (.cons rfl (.cons ru .nil)) ⟨e,t,v,rfl,qu,fun d hd ne=>⟨rfl,d,by rw[zi ne]at hd;exact hd,ne,rfl⟩⟩) fun r s' hr'=>?_);cases r with
 |error ee=>exact hr'.elim|ok fl=>
  cases fl with
  |next=>exact hr'.elim|brk=>exact hr'.elim|cont=>exact hr'.elim|ret u'=>
   obtain⟨w',H5,os,bare,un,hok,rw',rfl,d,hd2,ne,eH⟩:=hr';have I5:Inv X ρ σ H5 s':=I4.call' (ch:=[]) os un hok bare (fun b z=>absurd z (by simp));have e5:H5 e=some (.ext (ExN e C t (some d))):=by rw[eH,zi ne.symm,qu]
   have ge5:s'.heap.get? e=some (zcc C t (some d)):=(I5.hok e _ e5).1;have I6:=I5.let e5;have eq:zhg H5 e=upd H2 d (.xd [("at",v)]):=by
    funext b;rw[eH]
    by_cases hb:b=e
    ·subst hb;rw[zhU,zi ne.symm,b2]
    ·rw[zcl hb]
     by_cases hd':b=d
     ·subst hd';rw[qu,qu]
     ·rw[zi hd',zi hb,zi hb,zi hd']
   rw[eq]at I6;refine⟨rw',e,t,some d,rfl,I6.bk _ _ hC,ge5,?_⟩;exact zpt I6 hst hf hex hxe ge5 (by rw[zi ne.symm];exact b2) b1 (hE d hd2)
end
variable {j:Nat}{p:Pos}
section
theorem zfB(I:Inv X ρ σ H s)(hN:X.N.Nodup)(hj:X.N[j]? = some n)(hk:X.env.scope.names.lookup n=some .local)(h:∀s',Inv X ρ (σ.set j none) H s'->Q () s') :
  wpAny M A (do bindName X.env n .none;unbindBehindTheSuite X.env n p) Q E s:=by
 refine Q1 (wpAny_bindName (zda (v:=.non) I hN hj (.inl hk) rfl (fun s1 I1=>?_) (.inr hk)));unfold unbindBehindTheSuite;refine wpAny_onRaise ?_;unfold unbindName;refine Q1 (wpAny_point (Q1 ?_));have hp:(X.env.scope.kind == .class || (X.env.scope.kind == .module && X.env.locals != X.env.globals))=false:=by rw[I.ok.kind];rfl
 have hkd:X.env.kindOf n=some .local:=hk;unfold deleteName;simp only[hkd,hp];rw[QA ∅];obtain⟨m,hn,hl⟩:=id I1.loc;have hjσ:j<σ.length:=by rw[I.len];exact(Qy.mp hj).1
 obtain⟨u0,r0,q0⟩:=hl j n .non hj (by rw[List.getElem?_set_self hjσ]) (.inl hk);have hm:(m n).isSome=true:=by
  rcases q0 with⟨_,e⟩ | ⟨z | z,_⟩
  ·rw[e];rfl
  ·rw[hkd]at z;cases z
  ·rw[hkd]at z;cases z
 refine Q1 (wpAny_nsDel_keeps hn fun h2 v hn2 hs=>?_);rw[hm];simp only[Bool.not_true,Bool.false_eq_true,if_false];refine Qf (wpAny_point (h _ ?_));obtain⟨oL,_,_,hoL,_⟩:=id hn;have cne:=I1.cne;have ab:∀b o,X.s₀.heap.get? b=some o->b ≠ X.env.locals:=fun b o e=>Qk (Q5 (Qe e) I.ok.above);refine⟨I1.ok,I1.os,I1.bare,⟨fun b o e q hb hx=>(hs.2 b (ab b o e)).trans (I1.base.keep b o e q hb hx),fun b o e q hb hx=>?_,I1.base.free,fun b o e hx=>?_,I1.base.tups,I1.base.frzs,I1.base.tbls⟩,⟨_,hn2,fun i y v' e1 e2 e3=>?_⟩,fun y c e=>?_,I1.free,I1.freeC,fun p hp=>?_,fun b ob e=>?_,by rw[length_set];exact I.len⟩
 ·obtain⟨sl,e1⟩:=I1.base.slot b o e q hb hx;exact⟨sl,(hs.2 b (ab b o e)).trans e1⟩
 ·obtain⟨o',e1⟩:=I1.base.there b o e hx;exact⟨o',(hs.2 b (ab b o e)).trans e1⟩
 ·have hij:j ≠ i:=by rintro rfl;rw[List.getElem?_set_self hjσ]at e2;cases e2
  rw[getElem?_set_ne hij]at e2;obtain⟨u',r',q⟩:=hl i y v' e1 (by rw[getElem?_set_ne hij];exact e2) e3;refine⟨u',r',?_⟩;rcases q with⟨k,e⟩ | ⟨k,c,e,z⟩
  ·have:y ≠ n:=fun e=>hij (zgi hN hj (e ▸ e1));exact .inl ⟨k,by simp[this,e]⟩
  ·exact .inr ⟨k,c,e,z.sameBut hs (cne y c e)⟩
 ·obtain⟨w',z⟩:=I1.cell y c e;exact⟨w',z.sameBut hs (cne y c e)⟩
 ·obtain⟨e,q,ne,nf,d⟩:=I1.pin p hp;exact⟨(hs.2 p.1 ne).trans e,q,ne,nf,d⟩
 ·refine(I1.hok b ob e).stay (fun c w' hc q=>(hs.2 c ?_).trans q) (fun _ q=>q) fun _ _ q=>q;rintro rfl;rcases hc with rfl | hc
  ·rw[I1.free]at e;cases e
  ·rw[I1.free]at hc;cases hc
end
structure Sup (K:Frag) (mg:Str->Option Value) (y:Str) (C C':Addr):Prop where
 bound:mg y=some (.ref C)
 obj:∀h:Heap,K.In h->(∃bm N nm q bs hdct sn sub ab col dd k0 k1 k2 k3 k5,h.get? C=some (excClassObj nm q C N bs bm hdct sn sub ab col dd k0 k1 k2 k3 k5 "ValueError.__new__")/\bm.contains (.type "BaseException")=true) /\
  ∃bm N nm q bs hdct sn sub ab col dd k0 k1 k2 k3 k5,h.get? C'=some (excClassObj nm q C' N bs bm hdct sn sub ab col dd k0 k1 k2 k3 k5 "ValueError.__new__")/\(Value.ref C'::bm).contains (.ref C)=true
theorem zml{nm' q':Str}{C' N':Addr}{bs bs' bm':List Value}{hd hd':Bool}{sn':List Str}{sub sub':List Value}{ab':Bool}{col':Option Bool}{dd':Option Addr}{j0 j1 j2 j3 j5:Option Value}
 {oe:Obj} {Q:Bool->Shared->Prop} (hC:h.get? C=some (excClassObj nm q C N bs bm hd sn sub ab col dd k0 k1 k2 k3 k5 "ValueError.__new__")) (hC':h.get? C'=some (excClassObj nm' q' C' N' bs' bm' hd' sn' sub' ab' col' dd' j0 j1 j2 j3 j5 "ValueError.__new__"))
 (he:h.get? e=some oe) (hc:oe.cls = .ref C') (hb:bm.contains (.type "BaseException")=true) (hm:(Value.ref C'::bm').contains (.ref C)=true) (hq:Q true ⟨h,g,d,t,os⟩):wpAny M A (excMatches (.ref e) (.ref C)) Q E ⟨h,g,d,t,os⟩:=by
 have hcB:(Value.ref C::bm).contains (.type "BaseException")=true:=by rw[contains_cons,hb,Bool.or_true]
 have f:=tc_notTuple;unfold excMatches
 repeat (first | (with_reducible refine wpAny_loadPart_at he ?_;rw[hc]) | with_reducible refine wpAny_loadPart_at hC ?_ | (with_reducible refine wpAny_isSubtype_exc hC ?_;rw[hcB]) | (with_reducible refine wpAny_isSubtype_exc hC' ?_;rw[hm]) | wp_step)
 exact hq
variable {D:Ends}{hp:Pos}{s':Shared}{b0:Stmt}{y:Str}{th:TS}{ev:Value}
section
variable {suite:List Stmt}{rest:List ExceptHandler}
theorem zmw{E:XK}{nmo:Option Str}(hg:Gl X y)(hst:X.stack=X.env::X.outer)(hf:X.env.frame=some X.env.locals)(hex:X.ex=[])(I:Inv X ρ σ H s)
  (hq:CXX X.prog X.w X.stack H s E ev s') (hS:∀C' od H',E (.ref C') od H'->Sup X.K X.mg y C C')
  (go:∀e t C' od B H' h5,(∀h6,B.StaysIn h6->h5.UpToSlots h6->Inv X ρ σ H' { s' with heap:=h6 })->Heap.FlyingW B X.stack e (.ref C') (.ref t) h5->(∃oe,h5.get? e=some oe/\oe.dict=od)->
   (X.s₀.heap.get? e=none/\H' e=none/\e ≠ X.env.locals/\(∀x c,X.env.cells.lookup x=some c->c ≠ e)/\∀p ∈ X.pn++ρ,p.1 ≠ e)->E (.ref C') od H'->
   codeAny (model X.prog X.w) (X.A.mark (some (.ref e))) (.handlers (.ref e) [.ExceptHandler none nmo (b0::suite) hp] X.env) (fun r s2=>match r with
     | .ok f=>(match nmo with
      |none=>SP X ρ D f s2
      | some n=>wpAny (model X.prog X.w) X.A (do bindName X.env n .none;unbindBehindTheSuite X.env n hp) (fun _ s3=>SP X ρ D f s3) X.xe s2)
     | .error x=>cameBackBy (model X.prog X.w) X.A X.env X.xe x s2) { s' with heap:=h5 }) (hd:(y==("__debug__":Str))=false:=by decide) :
  wpAny (model X.prog X.w) X.A (noteFrame ev X.env) (fun _ s2=>wpAny (model X.prog X.w) X.A (setFlight ev none) (fun _ s3=>wpAny (model X.prog X.w) X.A (handleBy ev X.env (.ExceptHandler (some (.Name y np)) nmo (b0::suite) hp::rest)) (SP X ρ D) X.xe s3) X.xe s2) X.xe s':=by
 obtain⟨e,t,C',oe,B,H',rfl,fl,he,os,bare,un,hok,hB,hfr,hE⟩:=hq;have hfrm:X.A.frames=some (X.env::X.outer):=by rw[I.ok.frames,hst]
 have hfn:∀b ∈ frs X.stack,∀o,s'.heap.get? b=some o->∀vs,o.data ≠ .fields vs:=fun b hb o e1=>by
  obtain⟨_,o',e2,n2⟩:=fl.2.2.1.mem hb;rw[e1]at e2;cases e2
  exact n2
 have inv_at:∀h2:Heap,B.StaysIn h2->s'.heap.UpToSlots h2->Inv X ρ σ H' { s' with heap:=h2 }:=fun h2 st up=>by obtain⟨un2,hok2⟩:=znP un hok hB hfr hfn st up;exact I.call' (s':={ s' with heap:=h2 }) (ch:=[]) os un2 hok2 bare (fun b z=>absurd z (by simp))
 have ne:s.heap.get? e=none:=by
  cases q:s.heap.get? e with
  |none=>rfl|some u=>
   have hf2:e ∉ frs X.stack:=fun hm=>by
    obtain⟨oe',h1,_⟩:=fl.there;obtain⟨oe2,vs2,h2,_,h3,_⟩:=fl.first
    exact hfn e hm oe2 h2 vs2 h3
   have:=hB e oe he hf2 (.inr ⟨u,q⟩);rw[fl.2.1]at this;cases this
 have he0:H' e=none:=by
  cases q:H' e with
  |none=>rfl|some u=>
   have hf2:e ∉ frs X.stack:=fun hm=>by
    obtain⟨oe2,vs2,h2,_,h3,_⟩:=fl.first
    exact hfn e hm oe2 h2 vs2 h3
   have:=hB e oe he hf2 (.inl (by rw[q];simp));rw[fl.2.1]at this;cases this
 obtain⟨b1,_,b3,b4,b5⟩:=I.new0 hex ne;obtain⟨⟨bm,N,nm,q,bs,hdct,sn,sub,ab,col,dd,k0,k1,k2,k3,k5,hC,hcb⟩,bm',N',nm',q',bs',hdct',sn',sub',ab',col',dd',j0,j1,j2,j3,j5,hC',hcc⟩:=(hS C' oe.dict H' hE).obj X.base I.ok.mod.kin;rw[hst]at fl;refine Qg (zkc.any (wpAny_looks_onW (M:=model X.prog X.w) (E:=fun _ _=>False) (Q:=fun _ s2=>∃h4,s2={ s' with heap:=h4 }/\Heap.HeldW B (X.env::X.outer) e (.ref C') (.ref t) X.env.locals h4/\s'.heap.UpToSlots h4) hfrm hf fl fun h' a b=>⟨h',rfl,a,b⟩)) ?_ fun _ _ z=>z.1.elim;rintro _ s4 ⟨⟨h4,rfl,hl4,up4⟩,dk4⟩;refine Qg (zdg.any (wpAny_landsW (M:=model X.prog X.w) (A:=X.A) (E:=fun _ _=>False) (s:={ s' with heap:=h4 }) (Q:=fun _ s2=>∃h5,s2={ s' with heap:=h5 }/\Heap.FlyingW B (X.env::X.outer) e (.ref C') (.ref t) h5/\h4.UpToSlots h5) hl4 fun h' a b=>⟨h',rfl,a,b⟩)) ?_ fun _ _ z=>z.1.elim;rintro _ s5 ⟨⟨h5,rfl,fl5,up5⟩,dk5⟩;have up45:=up4.trans up5;have I5:=inv_at h5 fl5.1 up45;have d5:=(dk4.trans dk5) e oe he;refine wpAny_handleBy_cons (codeAny_handlers_test ?_) (by intro z;cases z);refine zc4 (X:=X.suite e) (I5.suite e) hg (hS C' oe.dict H' hE).bound ?_ hd;obtain⟨o5,ge5,gd5⟩:=d5;obtain⟨o5',ge5',gc5⟩:=fl5.there;rw[ge5]at ge5';cases ge5'
 refine zml (I5.bk _ _ hC) (I5.bk _ _ hC') ge5 gc5 hcb hcc ?_;refine go e t C' oe.dict B H' h5 (fun h6 st up=>inv_at h6 st (up45.trans up)) (by rw[hst];exact fl5) ⟨o5,ge5,gd5⟩ ⟨b1,he0,b3,b4,b5⟩ hE
end
section
variable {suite:List Stmt}{rest:List ExceptHandler}
theorem zpx(hg:Gl X y)(hst:X.stack=X.env::X.outer)(hf:X.env.frame=some X.env.locals)(hex:X.ex=[])(hN:X.N.Nodup)(hj:X.N[j]? = some n)(hk:X.env.scope.names.lookup n=some .local)(I:Inv X ρ σ H s)
 (hq:CXX X.prog X.w X.stack H s (fun cv od H2=>∃C',cv = .ref C'/\Sup X.K X.mg y C C'/\∀e,H2 e=none->th { nx:=fun σ' H'=>D.nx (σ'.set j none) H',rt:=D.rt,bk:=fun σ' H'=>D.bk (σ'.set j none) H',ct:=fun σ' H'=>D.ct (σ'.set j none) H' } (σ.set j (some (.ref e))) (upd H2 e (.ext (ExO e C' od)))) ev s')
 (hs:∀ev,PSs (X.suite ev) (b0::suite) th) (hd:(y==("__debug__":Str))=false:=by decide) :
  wpAny (model X.prog X.w) X.A (noteFrame ev X.env) (fun _ s2=>wpAny (model X.prog X.w) X.A (setFlight ev none) (fun _ s3=>wpAny (model X.prog X.w) X.A (handleBy ev X.env (.ExceptHandler (some (.Name y np)) (some n) (b0::suite) hp::rest)) (SP X ρ D) X.xe s3) X.xe s2) X.xe s':=by
 refine zmw hg hst hf hex I hq (fun C' od H' ⟨C2,e,S,_⟩=>by cases e;exact S) (fun e t C' od B H' h5 ia fl dk nw ⟨C2,e2,S,ht⟩=>?_) hd;cases e2;obtain⟨oe,h1,h2⟩:=dk;refine codeAny_handlers_suite_as (Qg (zdg.any (lands_againW (M:=model X.prog X.w) (A:=X.A.mark (some (.ref e))) (E:=fun _ _=>False) (s:={ s' with heap:=h5 }) (Q:=fun _ s2=>∃h6,s2={ s' with heap:=h6 }/\Heap.FlyingW B X.stack e (.ref C') (.ref t) h6/\h5.UpToSlots h6) fl fun h' a b=>⟨h',rfl,a,b⟩)) ?_ fun _ _ z=>z.1.elim);rintro _ s6 ⟨⟨h6,rfl,fl6,up6⟩,dk6⟩;have I6:=ia h6 fl6.1 up6;obtain⟨o6,g1,g2⟩:=dk6 e oe h1;obtain⟨o7,vs7,g3,g4,g5,_⟩:=fl6.first
 rw[show h6.get? e=some o6 from g1]at g3;cases g3
 obtain⟨b1,b2,b3,b4,b5⟩:=nw;have I7:=I6.take (o:=.ext (ExO e C' od)) b1 b2 b3 b4 b5 (zru ⟨o6,g1,g4,g2.trans h2,fun c z=>by rw[g5]at z;cases z⟩);refine zda (M:=model X.prog X.w) (v:=.ref e) I7 hN hj (.inl hk) rfl (fun s8 I8=>?_) (.inr hk);refine Qg (hs e ρ _ _ _ _ (I8.suite e) (ht e b2)) (fun f s3 q3=>?_) fun _ _ z=>False.elim z;have q4:=q3.unsuite I8.ok;cases f with|next=>obtain⟨σ',H9,I9,q⟩:=q4;exact zfB I9 hN hj hk fun s10 I10=>⟨_,H9,I10,q⟩|brk=>obtain⟨σ',H9,I9,q⟩:=q4;exact zfB I9 hN hj hk fun s10 I10=>⟨_,H9,I10,q⟩|cont=>obtain⟨σ',H9,I9,q⟩:=q4;exact zfB I9 hN hj hk fun s10 I10=>⟨_,H9,I10,q⟩|ret u=>obtain⟨v,σ',H9,I9,r,q⟩:=q4;exact zfB I9 hN hj hk fun s10 I10=>⟨v,_,H9,I10,r,q⟩
end
theorem zsf:typeLookup (.type "ValueError") "__getattribute__" = pure (some (.builtin "BaseException.__getattribute__")):=by rw[typeLookup_type,builtinLookup_eq_fast];kernel_rfl
theorem zqC:typeLookup (.type "ValueError") "__getattr__" = pure none:=by rw[typeLookup_type,builtinLookup_eq_fast];kernel_rfl
section
variable {a dx:Addr}
 {nm q name:Str} {C N:Addr} {bs bm:List Value} {sn ns:List Str} {sub:List Value} {ab:Bool} {col:Option Bool} {dd:Option Addr} {k0 k1 k2 k3 k5:Option Value} {newId:String} {mN mA:Str->Option Value} {v:Value}
theorem zkO(hC:h.get? C=some (excClassObj nm q C N bs bm true sn sub ab col dd k0 k1 k2 k3 k5 newId))(T:Tl h zan ns bm)(hi:("__init__":Str) ∈ ns)(hx:h.get? a=some o)(hc:o.cls = .ref C)(hq:Q () ⟨h,g,d,t,os⟩) :
  wpAny M A (checkBuiltinCall "BaseException.__getattribute__" ⟨[.ref a,u],[]⟩) Q E ⟨h,g,d,t,os⟩:=by
 have hk:builtinKind "BaseException.__getattribute__" = some .slot:=by decide +kernel
 have hs:splitId "BaseException.__getattribute__" = some ("BaseException","__getattribute__"):=by decide +kernel
 have hb:(Value.ref C::bm).contains (.type "BaseException")=true:=by rw[contains_cons,(T.tail hi).hasType PySem.F.excBase_ValueError.hasBase];rfl
 have ha:=PySem.F.args_bexc_ga (.ref a) u;simp only[checkBuiltinCall,hk,hs];refine Q1 ?_;unfold isInstance
 repeat (first | (with_reducible refine wpAny_loadPart_at hx ?_;rw[hc]) | (with_reducible refine wpAny_isSubtype_exc hC ?_;rw[hb]) | wp_step)
 exact hq
theorem zkN{tk:Tok}{Q:PySem.Fin->Shared->Prop}(hC:h.get? C=some (excClassObj nm q C N bs bm true sn sub ab col dd k0 k1 k2 k3 k5 newId))(hn:h.Ns N mN)(T:Tl h zan ns bm)(m2:mN name=none)(hm:name ∈ ns)(hB:typeLookup (.type "ValueError") name=pure none)
  (hx:h.get? a=some o) (hc:o.cls = .ref C) (hnc:∀c,o.data ≠ .cls c) (hd:o.dict=some dx) (hD:h.Ns dx mA) (hv:mA name=some v) (hq:Q (.done (.ret v)) ⟨h,g,d,t,os⟩) :
  wpAny (model prog w) A (Builtin.«object.__getattribute__» ⟨[.ref a,.str name tk],[]⟩) Q E ⟨h,g,d,t,os⟩:=by
 unfold Builtin.«object.__getattribute__»
 repeat (first | (with_reducible refine wpAny_loadPart_at hx ?_;rw[hc]) | (with_reducible refine zdm hC hn T hm PySem.F.store_ValueError.mro hB ?_;rw[m2]) | wp_step)
 split
 ·rename_i c hcd;exact absurd hcd (hnc c)
 unfold instanceDict
 repeat (first | (with_reducible refine wpAny_loadPart_at hx ?_;rw[hc]) | with_reducible refine wpAny_loadPart_at hC ?_ | wp_step)
 rw[hd]
 repeat (first | (with_reducible refine wpAny_nsGet hD ?_;rw[hv]) | wp_step)
 exact hq
theorem zsD{expr:Bool}{Q:Value->Shared->Prop}(hC:h.get? C=some (excClassObj nm q C N bs bm true sn sub ab col dd k0 k1 k2 k3 k5 newId))(hn:h.Ns N mN)(T:Tl h zan ns bm)(hi:("__init__":Str) ∈ ns)(m2:mN name=none)(hm:name ∈ ns)(m3:mN "__getattribute__" = none)(h3:("__getattribute__":Str) ∈ ns)(m4:mN "__getattr__" = none)(h4:("__getattr__":Str) ∈ ns)
  (hB:typeLookup (.type "ValueError") name=pure none) (hx:h.get? a=some o) (hc:o.cls = .ref C) (hnc:∀c,o.data ≠ .cls c) (hd:o.dict=some dx) (hD:h.Ns dx mA) (hv:mA name=some v) (hh:handedOut v=pure v) (hq:Q v ⟨h,g,d,t+1,os⟩) :
  wpAny (model prog w) A (getAttr (.ref a) name expr) Q E ⟨h,g,d,t,os⟩:=by
 have f3:=PySem.F.excAttr_ValueError.ga.bind (.ref a);have hx0:(expr && onTheHeap (Value.builtin "BaseException.__getattribute__"))=false:=by cases expr<;>rfl
 have hx2:(Value.builtin "BaseException.__getattribute__" == Value.builtin "object.__getattribute__")=false:=by decide +kernel
 have hx1:(onTheHeap (Value.ref C) && Value.builtin "BaseException.__getattribute__" == Value.builtin "object.__getattribute__")=false:=by rw[hx2];rfl
 unfold getAttr
 repeat (any_goals (first | assumption | (with_reducible refine wpAny_loadPart_at hx ?_;rw[hc]) | (with_reducible refine zdm hC hn T h3 PySem.F.store_ValueError.mro zsf ?_;rw[m3]) | (with_reducible refine zdm hC hn T h4 PySem.F.store_ValueError.mro zqC ?_;rw[m4]) | wp_step))
 refine codeAny_call_builtin PySem.F.excAttr_ValueError.ga.plain PySem.F.entry_bexc_ga (zkO hC T hi hx hc (zkN hC hn T m2 hm hB hx hc hnc hd hD hv ?_));show wpAny _ _ (handedOut v) _ _ _;rw[hh];exact Qf hq
end
theorem handed{x:V}(r:RelV x v):handedOut v=pure v:=by cases x with|non=>cases r;rfl|bl b=>cases r;rfl|int i=>obtain⟨_,rfl⟩:=r;rfl|str i=>obtain⟨_,rfl⟩:=r;rfl|byt i=>obtain⟨_,rfl⟩:=r;rfl|flt i=>obtain⟨_,rfl⟩:=r;rfl|ref a=>cases r;rfl|ty n=>cases r;rfl
section
variable {e:Expr}{te:TE}
theorem zqg(he:PE X e te)(hb:attributeBase e "at" X.env (eval e X.env)=eval e X.env):PE X (.Attribute e "at" pos) (fun σ H Q=>te σ H fun x H1=>∃a C d us v nm fI,x = .ref a/\H1 a=some (.ext (ExO a C (some d)))/\H1 d=some (.xd us)/\XcAt X.K X.mg nm C fI/\us.lookup ("at":Str)=some v/\Q v H1):=by
 apply?;refine zkI hb (thn (he ρ s σ H _ I h) fun u s1 ⟨x,H1,I1,rx,a,C,d,us,v,nm,fI,ex,ea,ed,O,l,q⟩=>?_);subst ex;obtain rfl:u=Value.ref a:=rx;obtain⟨bm,N,nm,qq,bs,sn,sub,ab,col,dd,k0,k1,k2,k3,k5,mN,hC,hN,hi,hno,T⟩:=O.obj s1.heap I1.kIn;obtain⟨⟨ob,g1,g2,g3,g4⟩,_,_⟩:=I1.hok a _ ea;obtain⟨mA,n1,rel⟩:=(show ObjOk X.prog X.w H1 s1.heap d (.xd us)from I1.hok d _ ed);have rl:=rel "at";rw[l]at rl;cases hm:mA "at" with
 |none=>rw[hm]at rl;exact rl.elim|some w=>rw[hm]at rl;obtain⟨h2,ge,dr,tk,os⟩:=s1;refine zsD hC hN T ∅ (hno _ ∅) ∅ (hno _ ∅) ∅ (hno _ ∅) ∅ zkr g1 g2 g4 g3 n1.ns hm (handed rl) ⟨v,H1,I1.tok _,rl,q⟩
end
def PX(X:Cx)(sts:List Stmt)(t:XK->TS):Prop:=
 ∀(E:XK) (ρ:List (Addr × Obj)) (s:Shared) (σ:St) (H:Hp) (D:Ends),Inv X ρ σ H s->t E D σ H->
  wpAny (model X.prog X.w) X.A (execs sts X.env) (SP X ρ D) (fun ev s'=>∃H1 s1,Inv X ρ σ H1 s1/\CXX X.prog X.w X.stack H1 s1 E ev s') s
section
variable {k:Nat}{ps:List Str}{sp:Sp}{v:Str}{pos2 tp vp:Pos}{e c:Expr}{es:List Expr}{tc:TT}{suite sts b1 b2:List Stmt}{t t1 t2:XK->TS}
theorem zrT{E:XK}{Q:VK}(F:FnOk X.prog X.w X.K X.mg X.base (CXX X.prog X.w) k f fd ps sp)(hr:Room k X.A)(hg:Gl X x)(hm:X.mg x=some (.ref f))(hk:PySem.W.keepIn X.K (.ref f)=true)(hb:Binds X.K fd ps [])
 (ha:∀E',PA (X.wish E') (e::es) ta) (hdb:(x==("__debug__":Str))=false) (he:starEach (e::es) X.env=(false,eval e X.env)::starEach es X.env) (hpl:(backTo pos (starEach es X.env)).any (·.1)=false) (I:Inv X ρ σ H s) (h:ta σ H fun vs H1=>sp vs H1 Q E) :
  wpAny (model X.prog X.w) X.A (eval (.Call (.Name x p) (e::es) [] pos) X.env) (EP X ρ σ Q) (fun ev s'=>∃H1 s1,Inv X ρ σ H1 s1/\CXX X.prog X.w X.stack H1 s1 E ev s') s:=by
 refine wpAny_Call_Name_kw (zc4 (X:=X) I hg hm ?_ hdb);refine PySem.W.callWith_K (h₀:=X.base) I.ok.mod.kin hk (thn (ha (fun ev s'=>∃H1 s1,Inv X ρ σ H1 s1/\CXX X.prog X.w X.stack H1 s1 E ev s') pos ρ s σ H _ (I.wish _) h) fun us s1 ⟨vs,H1,I1,r,q⟩=>⟨I1.kIn,?_⟩) he hpl;have hl:us.length=ps.length:=by rw[←r.length];exact F.len _ _ _ _ q
 have I1':=I1.unwish;refine wpAny_call (codeAny_mono (F.run X.A X.stack s1 H1 ⟨us,[]⟩ us vs _ _ hr I1'.env0 (by have:=hb s1 us I1'.kIn (by rw[append_nil];exact hl);rw[append_nil]at this;exact this) r q) fun r s' hq=>?_);cases r with
 |error ee=>exact⟨H1,s1,I1',hq⟩|ok fl=>cases fl with|ret u=>exact I1'.after hq|next=>exact False.elim hq|brk=>exact False.elim hq|cont=>exact False.elim hq
theorem zom(F:FnOk X.prog X.w X.K X.mg X.base (CXX X.prog X.w) k f fd ps sp)(hr:Room k X.A)(hg:Gl X x)(hm:X.mg x=some (.ref f))(hk:PySem.W.keepIn X.K (.ref f)=true)(hb:Binds X.K fd ps [])(ha:∀E',PA (X.wish E') (e::es) ta)
  (hdb:(x==("__debug__":Str))=false:=by decide) (he:starEach (e::es) X.env=(false,eval e X.env)::starEach es X.env:=by rfl) (hpl:(backTo pos (starEach es X.env)).any (·.1)=false:=by rfl) (hsw:swapsWith (.Call (.Name x p) (e::es) [] pos) none pos2.line X.env=pure false:=by rfl) :
  PX X [.Expr (.Call (.Name x p) (e::es) [] pos) pos2] (fun E D σ H=>ta σ H fun vs H1=>sp vs H1 (fun _ H2=>D.nx σ H2) E):=by
 intro E ρ s σ H D I h;refine wpAny_execs_cons (Qg (Q:=SP X ρ D) (wpAny_Expr_any (thn (zrT F hr hg hm hk hb ha hdb he hpl I h) fun u s1 ⟨w,H1,I1,r,q⟩=>?_) I.quiet hsw) (fun fl s1 q=>?_) fun _ _ z=>z)
 ·exact⟨σ,H1,I1,q⟩
 ·cases fl with|next=>exact wpAny_execs_nil q|brk=>exact q|cont=>exact q|ret u=>exact q
theorem zou(hb:PX X sts t)(hgy:Gl X y)(hst:X.stack=X.env::X.outer)(hf:X.env.frame=some X.env.locals)(hex:X.ex=[])(hN:X.N.Nodup)(hj:X.N[j]? = some n)(hk:X.env.scope.names.lookup n=some .local)(hs:∀ev,PSs (X.suite ev) (b0::suite) th)(hdy:(y==("__debug__":Str))=false:=by decide) :
  PS X (.Try sts [.ExceptHandler (some (.Name y np)) (some n) (b0::suite) hp] [] [] tp) (fun D σ H=>t (fun cv od H2=>∃C',cv = .ref C'/\Sup X.K X.mg y C C'/\∀e,H2 e=none->th { nx:=fun σ' H'=>D.nx (σ'.set j none) H',rt:=D.rt,bk:=fun σ' H'=>D.bk (σ'.set j none) H',ct:=fun σ' H'=>D.ct (σ'.set j none) H' } (σ.set j (some (.ref e))) (upd H2 e (.ext (ExO e C' od)))) D σ H):=by
 intro ρ s σ H D I h;refine wpAny_Try_except (Qg (hb _ ρ s σ H D I h) (fun fl s1 q=>?_) fun ev s1 ⟨H1,s0,I1,hq⟩=>?_)
 ·cases fl with|next=>exact wpAny_execs_nil q|brk=>exact q|cont=>exact q|ret u=>exact q
 ·exact zpx hgy hst hf hex hN hj hk I1 hq hs hdy
end
end L2
namespace FT
open PySem PySem.Spec PyProof.Rows L2
noncomputable def noStar:Expr->Bool
 |.Starred _ _=>false|_=>true
variable {e:Expr}{es:List Expr}
theorem qU{env:PySem.Env}(h:noStar e=true):starEach (e::es) env=(false,eval e env)::starEach es env:=by cases e<;>first | rfl | cases h
variable {pos:Pos}
theorem zbP{env:PySem.Env} :∀{es:List Expr},es.all noStar=true->(backTo pos (starEach es env)).any (·.1)=false:=by
 intro es h;have h1:(starEach es env).any (·.1)=false:=by
  induction es with
  |nil=>rfl|cons e es ih=>rw[all_cons,Qs]at h;rw[qU h.1,any_cons,ih h.2];rfl
 have h2:∀l:List (Bool × Sem Value),l.any (·.1)=false->(backTo pos l).any (·.1)=false:=by intro l hl;unfold backTo;rw[List.any_map];exact hl
 exact h2 _ h1
inductive T where
 |non | bl (b:Bool) | int (i:Int) | str (x:Str) | ty (n:String) | tup (xs:List T) | lst (xs:List T) | ref (a:Nat) | dct (kvs:List (Key × T)) | exc (C:Addr) (fs:List (Str × T))
inductive Cell where
 |lst (xs:List T) | dic (kvs:List (Key × T)) | ins (C:Addr) (fs:List (Str × T)) | dtu (kvs:List (List Key × T))
abbrev Mem:=List Cell
abbrev Ev:=List (Option T)
inductive Out (β:Type) where
 |ok (b:β) (M:Mem) | exn (C:Addr) (fs:List (Str × T)) (M:Mem) | bad
noncomputable def Out.bind{β γ:Type}(o:Out β)(k:β->Mem->Out γ):Out γ:=match o with
 |.ok b M=>k b M|.exn C fs M=>.exn C fs M|.bad=>.bad
def zc7{β γ:Type}(b:β)(M:Mem)(k:β->Mem->Out γ):(Out.ok b M).bind k=k b M:=rfl
def ztk{β γ:Type}(k:β->Mem->Out γ):(Out.bad:Out β).bind k = .bad:=rfl
structure Sit where
 α:Nat->Addr
 M:Mem
 H:Hp
 hid:List Addr
def Sit.off(S:Sit)(p:Addr):Prop:=(∀a,a<S.M.length->S.α a ≠ p)/\p ∉ S.hid
def KL(K:Frag)(a:Addr)(xs:List V):Prop:=
 ∃(o:Obj) (its:Array Value) (n:Nat),K.lookup a=some o/\o.cls = .type "list"/\o.dict=none/\o.data = .seq its n/\its.size<=sizeLine/\Vals xs its.toList
inductive Rep (K:Frag) (S:Sit):T->V->Prop where
 |non:Rep K S .non .non
 |bl (b:Bool):Rep K S (.bl b) (.bl b)
 |int (i:Int):Rep K S (.int i) (.int i)
 |str (x:Str):Rep K S (.str x) (.str x)
 |ty (x:String):Rep K S (.ty x) (.ty x)
 |tup {ts:List T} {p:Addr} {vs:List V} (h:SqT K S.H p vs) (l:ts.length=vs.length) (r:∀(i:Nat) t v,ts[i]? = some t->vs[i]? = some v->Rep K S t v):Rep K S (.tup ts) (.ref p)
 |lst {ts:List T} {p:Addr} {vs:List V} (h:(Rd S.H p (.lst vs)/\S.off p)\/KL K p vs) (l:ts.length=vs.length) (r:∀(i:Nat) t v,ts[i]? = some t->vs[i]? = some v->Rep K S t v):Rep K S (.lst ts) (.ref p)
 |ref {a:Nat} (h:a<S.M.length):Rep K S (.ref a) (.ref (S.α a))
 |dct {kvs:List (Key × T)} {us:List (Key × V)} {p:Addr} {o:Obj} (h:S.H p=some (.frz o (.dK us))) (l:kvs.map (·.1)=us.map (·.1)) (r:∀(i:Nat) t v,(kvs.map (·.2))[i]? = some t->(us.map (·.2))[i]? = some v->Rep K S t v):Rep K S (.dct kvs) (.ref p)
 |exc {C:Addr} {fs:List (Str × T)} {us:List (Str × V)} {p:Addr} {od:Option Addr} (h:S.H p=some (.ext (ExO p C od))) (hd:(od=none/\us=[])\/∃d,od=some d/\S.H d=some (.xd us)) (l:fs.map (·.1)=us.map (·.1)) (r:∀(i:Nat) t v,(fs.map (·.2))[i]? = some t->(us.map (·.2))[i]? = some v->Rep K S t v):Rep K S (.exc C fs) (.ref p)
def Reps(K:Frag)(S:Sit)(ts:List T)(vs:List V):Prop:=ts.length=vs.length/\∀(i:Nat) t v,ts[i]? = some t->vs[i]? = some v->Rep K S t v
def RepF(K:Frag)(S:Sit)(fs:List (Str × T))(us:List (Str × V)):Prop:=fs.map (·.1)=us.map (·.1)/\Reps K S (fs.map (·.2)) (us.map (·.2))
def RepK{κ:Type}(K:Frag)(S:Sit)(fs:List (κ × T))(us:List (κ × V)):Prop:=fs.map (·.1)=us.map (·.1)/\Reps K S (fs.map (·.2)) (us.map (·.2))
noncomputable def CellOk(K:Frag)(S:Sit)(p:Addr):Cell->Prop
 |.lst ts=>∃vs,S.H p=some (.lst vs)/\Reps K S ts vs|.dic kvs=>∃us,S.H p=some (.dK us)/\RepK K S kvs us|.ins C fs=>∃dx us,S.H p=some (.ins C dx us)/\RepF K S fs us|.dtu kvs=>∃us,S.H p=some (.dT us)/\RepK K S kvs us
structure MemOk (K:Frag) (S:Sit):Prop where
 cell:∀a c,S.M[a]? = some c->CellOk K S (S.α a) c
 inj:∀a b,a<S.M.length->b<S.M.length->S.α a=S.α b->a=b
 hd:∀p ∈ S.hid,(∀a,a<S.M.length->S.α a ≠ p)/\∃vs,S.H p=some (.lst vs)
structure Grow (S S':Sit):Prop where
 le:S.M.length<=S'.M.length
 al:∀a,a<S.M.length->S'.α a=S.α a
 fr:∀a,S.M.length<=a->a<S'.M.length->S.H (S'.α a)=none
 kp:∀b o,S.H b=some o->S.off b->S'.H b=some o
 hk:∀p ∈ S.hid,p ∈ S'.hid/\S'.H p=S.H p
 hf:∀p ∈ S'.hid,p ∈ S.hid\/S.H p=none
structure Stp (K:Frag) (S S':Sit):Prop extends Grow S S' where
 mok:MemOk K S'
variable {p:Addr}{K:Frag}{ts:List T}{vs:List V}{S S':Sit}{t:T}{v:V}
section
variable {S'':Sit}
theorem MemOk.some(m:MemOk K S){a:Nat}(h:a<S.M.length):∃o,S.H (S.α a)=Option.some o/\Mut (Option.some o):=by
 have e:S.M[a]? = Option.some S.M[a]:=by simp[h]
 have c:=m.cell a _ e;cases q:S.M[a]with
 |lst ts=>rw[q]at c;obtain⟨vs,e,_⟩:=c;exact⟨_,e,trivial⟩|dic ts=>rw[q]at c;obtain⟨vs,e,_⟩:=c;exact⟨_,e,trivial⟩|ins C fs=>rw[q]at c;obtain⟨dx,vs,e,_⟩:=c;exact⟨_,e,trivial⟩|dtu ts=>rw[q]at c;obtain⟨vs,e,_⟩:=c;exact⟨_,e,trivial⟩
theorem MemOk.off_of(m:MemOk K S){o:Option HO}(e:S.H p=o)(h:¬Mut o):S.off p:=by
 refine⟨fun a ha z=>?_,fun z=>?_⟩
 ·obtain⟨o',e',mu⟩:=m.some ha;rw[z,e]at e';rw[e']at h;exact h mu
 ·obtain⟨_,vs,q⟩:=m.hd p z;rw[e]at q;rw[q]at h;exact h trivial
theorem MemOk.off_ext(m:MemOk K S){φ:Heap->Prop}(e:S.H p=Option.some (.ext φ)):S.off p:=by
 refine⟨fun a ha z=>?_,fun z=>?_⟩
 ·have ea:S.M[a]? = Option.some S.M[a]:=by simp[ha]
  have c:=m.cell a _ ea;cases q:S.M[a]with
  |lst ts=>rw[q]at c;obtain⟨vs,e',_⟩:=c;rw[z,e]at e';cases e'|dic ts=>rw[q]at c;obtain⟨vs,e',_⟩:=c;rw[z,e]at e';cases e'|ins C fs=>rw[q]at c;obtain⟨dx,vs,e',_⟩:=c;rw[z,e]at e';cases e'|dtu ts=>rw[q]at c;obtain⟨vs,e',_⟩:=c;rw[z,e]at e';cases e'
 ·obtain⟨_,vs,q⟩:=m.hd p z;rw[e]at q;cases q
def MemOk.off_none(m:MemOk K S)(e:S.H p=none):S.off p:=m.off_of e (fun z=>z)
theorem Grow.tup(g:Grow S S')(m:MemOk K S)(h:SqT K S.H p vs):SqT K S'.H p vs:=by
 rcases h with (h | ⟨o,h⟩) | h
 ·exact .inl (.inl (g.kp _ _ h (m.off_of h (fun z=>z))))
 ·exact .inl (.inr ⟨o,g.kp _ _ h (m.off_of h (fun z=>z))⟩)
 ·exact .inr h
theorem Grow.off(g:Grow S S'){o:HO}(h:S.H p=some o)(f:S.off p):S'.off p:=by
 refine⟨fun a ha z=>?_,fun z=>?_⟩
 ·by_cases hl:a<S.M.length
  ·rw[g.al a hl]at z;exact f.1 a hl z
  ·have:=g.fr a (Nat.le_of_not_lt hl) ha;rw[z,h]at this;cases this
 ·rcases g.hf p z with q | q
  ·exact f.2 q
  ·rw[h]at q;cases q
theorem Grow.rd(g:Grow S S'){u:HO}(h:Rd S.H p u)(f:S.off p):Rd S'.H p u/\S'.off p:=by
 rcases h with h | ⟨o,h⟩
 ·exact⟨.inl (g.kp _ _ h f),g.off h f⟩
 ·exact⟨.inr ⟨o,g.kp _ _ h f⟩,g.off h f⟩
theorem Rep.grow(m:MemOk K S)(g:Grow S S')(r:Rep K S t v):Rep K S' t v:=by
 induction r with
 |non=>exact .non|bl b=>exact .bl b|int b=>exact .int b|str b=>exact .str b|ty b=>exact .ty b|tup h l _ ih=>exact .tup (g.tup m h) l ih|lst h l _ ih=>
  refine .lst ?_ l ih;rcases h with⟨h,f⟩ | h
  ·exact .inl (g.rd h f)
  ·exact .inr h
 |ref h=>rw[←g.al _ h];exact .ref (Q5 h g.le)|dct h l _ ih=>exact .dct (g.kp _ _ h (m.off_of h (fun z=>z))) l ih|exc h hd l _ ih=>exact .exc (g.kp _ _ h (m.off_ext h)) (hd.imp (fun z=>z) fun ⟨d,a,b⟩=>⟨d,a,g.kp _ _ b (m.off_of b (fun z=>z))⟩) l ih
def Reps.grow(m:MemOk K S)(g:Grow S S')(r:Reps K S ts vs):Reps K S' ts vs:=⟨r.1,fun i t v e1 e2=>(r.2 i t v e1 e2).grow m g⟩
def RepF.grow(m:MemOk K S)(g:Grow S S'){ts:List (Str × T)}{vs:List (Str × V)}(r:RepF K S ts vs):RepF K S' ts vs:=⟨r.1,r.2.grow m g⟩
def RepK.grow{κ:Type}(m:MemOk K S)(g:Grow S S'){ts:List (κ × T)}{vs:List (κ × V)}(r:RepK K S ts vs):RepK K S' ts vs:=⟨r.1,r.2.grow m g⟩
theorem Reps.nil:Reps K S [] []:=⟨rfl,fun _ _ _ e _=>by simp at e⟩
theorem Reps.cons(r:Rep K S t v)(rs:Reps K S ts vs):Reps K S (t::ts) (v::vs):=by refine⟨by simp[rs.1],fun i a b e1 e2=>?_⟩;cases i with|zero=>simp at e1 e2;subst e1;subst e2;exact r|succ i=>exact rs.2 i a b (by simpa using e1) (by simpa using e2)
theorem Reps.nil_inv(r:Reps K S ts []):ts=[]:=List.length_eq_zero_iff.mp (by rw[r.1];rfl)
theorem Reps.consT(r:Reps K S (t::ts) vs):∃v vs',vs=v::vs'/\Rep K S t v/\Reps K S ts vs':=by cases vs with|nil=>have:=r.1;simp at this|cons v vs'=>exact⟨v,vs',rfl,r.2 0 t v rfl rfl,by have:=r.1;simpa using this,fun i a b e1 e2=>r.2 (i+1) a b (by simpa using e1) (by simpa using e2)⟩
theorem Reps.nilT(r:Reps K S [] vs):vs=[]:=List.length_eq_zero_iff.mp (by rw[←r.1];rfl)
theorem Reps.app{ts':List T}{vs':List V}(r:Reps K S ts vs)(r':Reps K S ts' vs'):Reps K S (ts++ts') (vs++vs'):=by
 induction ts generalizing vs with
 |nil=>rw[r.nilT];exact r'|cons t ts ih=>obtain⟨v,vs1,rfl,r1,r2⟩:=r.consT;exact(ih r2).cons r1
theorem Reps.get(r:Reps K S ts vs){i:Nat}(e:ts[i]? = some t):∃v,vs[i]? = some v/\Rep K S t v:=by
 have hi:i<vs.length:=by rw[←r.1];exact(Qy.mp e).1
 have e2:vs[i]? = some vs[i]:=by simp[hi]
 exact⟨_,e2,r.2 i t _ e e2⟩
theorem Reps.set(r:Reps K S ts vs)(q:Rep K S t v)(j:Nat):Reps K S (ts.set j t) (vs.set j v):=by
 refine⟨by simp[r.1],fun i a b e1 e2=>?_⟩;rw[Qc]at e1 e2
 by_cases h:j=i
 ·subst h
  by_cases hl:j<ts.length
  ·rw[Qz rfl,Qz hl]at e1;rw[Qz rfl,Qz (by rw[←r.1];exact hl)]at e2;cases e1;cases e2;exact q
  ·rw[Qz rfl,QA hl]at e1;cases e1
 ·rw[QA h]at e1 e2;exact r.2 i a b e1 e2
theorem Reps.sub(r:Reps K S ts vs)(a b:Nat):Reps K S ((ts.drop a).take b) ((vs.drop a).take b):=by
 refine⟨by simp[r.1],fun i x y e1 e2=>?_⟩;rw[getElem?_take]at e1 e2;split at e1
 ·rename_i h;rw[Qz h]at e2;rw[List.getElem?_drop]at e1 e2;exact r.2 _ x y e1 e2
 ·cases e1
theorem CellOk.grow(m:MemOk K S)(g:Grow S S'){c:Cell}(e:S'.H p=S.H p)(h:CellOk K S p c):CellOk K S' p c:=by cases c with|lst ts=>obtain⟨vs,q,r⟩:=h;exact⟨vs,by rw[e];exact q,r.grow m g⟩|dic ts=>obtain⟨vs,q,r⟩:=h;exact⟨vs,by rw[e];exact q,r.grow m g⟩|ins C ts=>obtain⟨dx,vs,q,r⟩:=h;exact⟨dx,vs,by rw[e];exact q,r.grow m g⟩|dtu ts=>obtain⟨vs,q,r⟩:=h;exact⟨vs,by rw[e];exact q,r.grow m g⟩
def Stp.refl(m:MemOk K S):Stp K S S:=⟨⟨Q3 _,fun _ _=>rfl,fun a h1 h2=>absurd (Q5 h2 h1) (Qo _),fun _ _ e _=>e,fun _ h=>⟨h,rfl⟩,fun _ h=>.inl h⟩,m⟩
theorem Stp.trans(a:Stp K S S')(b:Stp K S' S''):Stp K S S'':=by
 have nn:∀p,S'.H p=none->S.H p=none:=fun p hn=>by
  cases q:S.H p with
  |none=>rfl|some o=>
   by_cases f:S.off p
   ·rw[a.kp _ _ q f]at hn;cases hn
   ·exfalso;apply f;refine⟨fun c hc z=>?_,fun z=>?_⟩
    ·have h3:c<S'.M.length:=Q5 hc a.le;obtain⟨o',e',_⟩:=a.mok.some h3;rw[a.al c hc,z,hn]at e';cases e'
    ·rw[(a.hk p z).2,q]at hn;cases hn
 refine⟨⟨Qj a.le b.le,fun i hi=>(b.al i (Q5 hi a.le)).trans (a.al i hi),fun i h1 h2=>?_,fun p o e f=>b.kp _ _ (a.kp _ _ e f) (a.off e f),fun p h=>⟨(b.hk p (a.hk p h).1).1,(b.hk p (a.hk p h).1).2.trans (a.hk p h).2⟩,fun p h=>?_⟩,b.mok⟩
 ·by_cases hl:i<S'.M.length
  ·rw[b.al i hl];exact a.fr i h1 hl
  ·exact nn _ (b.fr i (Nat.le_of_not_lt hl) h2)
 ·rcases b.hf p h with q | q
  ·exact a.hf p q
  ·exact .inr (nn p q)
theorem Stp.new(m:MemOk K S)(hp:S.H p=none)(o:HO):Stp K S ⟨S.α,S.M,upd S.H p o,S.hid⟩:=by
 have g:Grow S ⟨S.α,S.M,upd S.H p o,S.hid⟩:=⟨Q3 _,fun _ _=>rfl,fun a h1 h2=>absurd (Q5 h2 h1) (Qo _),fun b u e _=>by show upd S.H p o b=_;rw[zi (yC e hp)];exact e,fun q h=>⟨h,by obtain⟨_,vs,e⟩:=m.hd q h;exact zi (yC e hp)⟩,fun q h=>.inl h⟩;refine⟨g,⟨fun a c e=>?_,m.inj,fun q h=>?_⟩⟩
 rotate_left
 ·obtain⟨h1,vs,e⟩:=m.hd q h;exact⟨h1,vs,(zi (yC e hp)).trans e⟩
 refine(m.cell a c e).grow m g ?_;have ha:a<S.M.length:=(Qy.mp e).1;exact zi ((m.off_none hp).1 a ha)
noncomputable def Sit.more(S:Sit)(p:Addr)(o:HO)(c:Cell):Sit:=⟨fun a=>if a=S.M.length then p else S.α a,S.M++[c],upd S.H p o,S.hid⟩
theorem Grow.more(m:MemOk K S)(hp:S.H p=none)(o:HO)(c:Cell):Grow S (S.more p o c):=by
 refine⟨by show _<=(S.M++[c]).length;simp,fun a h=>QA (Qk h),fun a h1 h2=>?_,fun b u e _=>?_,fun q h=>⟨h,by obtain⟨_,vs,e⟩:=m.hd q h;exact zi (yC e hp)⟩,fun q h=>.inl h⟩
 ·have h3:a<(S.M++[c]).length:=h2;have:a=S.M.length:=by simp at h3;omega
  show S.H (if a=S.M.length then p else S.α a)=none;rw[Qz this];exact hp
 ·show upd S.H p o b=_;rw[zi (yC e hp)];exact e
theorem Stp.more(m:MemOk K S)(hp:S.H p=none)(o:HO)(c:Cell)(hc:CellOk K (S.more p o c) p c):Stp K S (S.more p o c):=by
 have g:=Grow.more m hp o c;refine⟨g,⟨fun a d e=>?_,fun a b h1 h2 e=>?_,fun q h=>?_⟩⟩
 rotate_right
 ·obtain⟨h1,vs,e⟩:=m.hd q h;refine⟨fun a ha z=>?_,vs,(zi (yC e hp)).trans e⟩;have z':(if a=S.M.length then p else S.α a)=q:=z
  by_cases hl:a=S.M.length
  ·rw[Qz hl]at z';rw[←z',hp]at e;cases e
  ·rw[QA hl]at z';have h3:a<(S.M++[c]).length:=ha;exact h1 a (by simp at h3;omega) z'
 ·have e':(S.M++[c])[a]? = some d:=e
  by_cases ha:a<S.M.length
  ·rw[Q6 ha]at e';show CellOk K _ (if a=S.M.length then p else S.α a) d;rw[QA (Qk ha)];exact(m.cell a d e').grow m g (zi ((m.off_none hp).1 a ha))
  ·rw[Q8 (Nat.le_of_not_lt ha)]at e';have h3:a-S.M.length=0:=by cases q:a-S.M.length with|zero=>rfl|succ k=>rw[q]at e';simp at e'
   rw[h3]at e';cases e';show CellOk K _ (if a=S.M.length then p else S.α a) c;rw[Qz ⋯];exact hc
 ·have h1':a<(S.M++[c]).length:=h1;have h2':b<(S.M++[c]).length:=h2;have e':(if a=S.M.length then p else S.α a)=(if b=S.M.length then p else S.α b):=e;simp at h1' h2'
  by_cases ha:a=S.M.length
  ·by_cases hb:b=S.M.length
   ·omega
   ·rw[Qz ha,QA hb]at e';exact absurd e'.symm ((m.off_none hp).1 b ⋯)
  ·by_cases hb:b=S.M.length
   ·rw[QA ha,Qz hb]at e';exact absurd e' ((m.off_none hp).1 a ⋯)
   ·rw[QA ha,QA hb]at e';exact m.inj a b ⋯ ⋯ e'
noncomputable def Sit.put(S:Sit)(a:Nat)(o:HO)(c:Cell):Sit:=⟨S.α,S.M.set a c,upd S.H (S.α a) o,S.hid⟩
theorem Grow.put(m:MemOk K S){a:Nat}(ha:a<S.M.length)(o:HO)(c:Cell):Grow S (S.put a o c):=by
 refine⟨by show _<=(S.M.set a c).length;simp,fun _ _=>rfl,fun b h1 h2=>?_,fun b u e f=>?_,fun q h=>⟨h,zi (Ne.symm ((m.hd q h).1 a ha))⟩,fun q h=>.inl h⟩
 ·have h3:b<(S.M.set a c).length:=h2;simp at h3;exact absurd (Q5 h3 h1) (Qo _)
 ·show upd S.H (S.α a) o b=_;rw[zi (Ne.symm (f.1 a ha))];exact e
theorem Stp.put(m:MemOk K S){a:Nat}(ha:a<S.M.length)(o:HO)(c:Cell)(hc:CellOk K (S.put a o c) (S.α a) c):Stp K S (S.put a o c):=by
 have g:=Grow.put m ha o c;refine⟨g,⟨fun b d e=>?_,fun i j h1 h2 e=>?_,fun q h=>?_⟩⟩
 rotate_right
 ·obtain⟨h1,vs,e⟩:=m.hd q h;refine⟨fun b hb z=>?_,vs,(zi (Ne.symm (h1 a ha))).trans e⟩;have h3:b<(S.M.set a c).length:=hb;simp at h3;exact h1 b h3 z
 ·have e':(S.M.set a c)[b]? = some d:=e;rw[Qc]at e'
  by_cases h:a=b
  ·subst h;rw[Qz rfl,Qz ha]at e';cases e';exact hc
  ·rw[QA h]at e';refine(m.cell b d e').grow m g (zi fun z=>h ?_);exact(m.inj b a (Qy.mp e').1 ha z).symm
 ·have h1':i<(S.M.set a c).length:=h1;have h2':j<(S.M.set a c).length:=h2;simp at h1' h2';exact m.inj i j h1' h2' e
end
def EvR(K:Frag)(S:Sit)(στ:Ev)(σ:L2.St):Prop:=στ.length=σ.length/\∀(i:Nat) t,στ[i]? = some (some t)->∃v,σ[i]? = some (some v)/\Rep K S t v
class Mo (K:Frag) {β γ:Type} (R:Sit->β->γ->Prop):Prop where
 mo:∀{S S' b c},MemOk K S->Stp K S S'->R S b c->R S' b c
noncomputable def UnR:Sit->Unit->Unit->Prop:=fun _ _ _=>True
noncomputable def EqR{β:Type}:Sit->β->β->Prop:=fun _ b c=>b=c
noncomputable def PrR{A AV B BV:Type}(RA:Sit->A->AV->Prop)(RB:Sit->B->BV->Prop):Sit->A × B->AV × BV->Prop:=fun S a v=>RA S a.1 v.1/\RB S a.2 v.2
instance (K):Mo K (Rep K):=⟨fun m s r=>r.grow m s.toGrow⟩
instance (K):Mo K (Reps K):=⟨fun m s r=>r.grow m s.toGrow⟩
instance (K):Mo K (EvR K):=⟨fun m s r=>⟨r.1,fun i t e=>let ⟨v,e',q⟩:=r.2 i t e;⟨v,e',q.grow m s.toGrow⟩⟩⟩
instance (K):Mo K UnR:=⟨fun _ _ r=>r⟩
instance (K) {β:Type}:Mo K (EqR (β:=β)):=⟨fun _ _ r=>r⟩
instance (K) {A AV B BV:Type} (RA:Sit->A->AV->Prop) (RB:Sit->B->BV->Prop) [Mo K RA] [Mo K RB]:Mo K (PrR RA RB):=⟨fun m s r=>⟨Mo.mo m s r.1,Mo.mo m s r.2⟩⟩
def zrB(K:Frag)(S:Sit)(fs:List (Str × T))(od:Option Addr):Prop:=(fs=[]/\od=none)\/∃d us,od=some d/\S.H d=some (.xd us)/\RepF K S fs us
def Fin{β γ:Type}(Z:XK)(R:Sit->β->γ->Prop)(K:Frag)(S:Sit)(o:Out β)(Q:γ->Hp->Prop):Prop:=match o with
 |.ok b M'=>∀S' c,S'.M=M'->Stp K S S'->R S' b c->Q c S'.H|.exn C fs M'=>∀S' od,S'.M=M'->Stp K S S'->zrB K S' fs od->Z (.ref C) od S'.H|.bad=>False
variable {S1:Sit}{Z:XK}
theorem Fin.later{β γ:Type}{R:Sit->β->γ->Prop}{o:Out β}{Q:γ->Hp->Prop}(s:Stp K S S1)(h:Fin Z R K S o Q):Fin Z R K S1 o Q:=by cases o with|ok b M'=>exact fun S' c e s' r=>h S' c e (s.trans s') r|exn C fs M'=>exact fun S' c e s' r=>h S' c e (s.trans s') r|bad=>exact h
theorem Fin.mono{β γ:Type}{R:Sit->β->γ->Prop}{o:Out β}{Q Q':γ->Hp->Prop}(i:∀c H,Q c H->Q' c H)(h:Fin Z R K S o Q):Fin Z R K S o Q':=by cases o with|ok b M'=>exact fun S' c e s' r=>i _ _ (h S' c e s' r)|exn C fs M'=>exact h|bad=>exact h
def LN{A AV β γ:Type}(Z:XK)(R:Sit->β->γ->Prop)(K:Frag)(RA:Sit->A->AV->Prop)(k:A->Ev->Mem->Out β)(av:AV)(σ:L2.St)(H:Hp)(Q:γ->Hp->Prop):Prop:=
 ∃(S:Sit) (στ:Ev) (a:A),S.H=H/\MemOk K S/\EvR K S στ σ/\RA S a av/\Fin Z R K S (k a στ S.M) Q
def L0{A AV β γ:Type}(Z:XK)(R:Sit->β->γ->Prop)(K:Frag)(RA:Sit->A->AV->Prop)(k:A->Mem->Out β)(av:AV)(H:Hp)(Q:γ->Hp->Prop):Prop:=
 ∃(S:Sit) (a:A),S.H=H/\MemOk K S/\RA S a av/\Fin Z R K S (k a S.M) Q
variable {H:Hp}{σ:L2.St}
section
theorem LN.bind{A AV B BV β γ:Type}{R:Sit->β->γ->Prop}{RA:Sit->A->AV->Prop}{RB:Sit->B->BV->Prop}[Mo K RA]{f:A->Ev->Mem->Out B}{k:A->B->Ev->Mem->Out β}{av:AV}{Q:γ->Hp->Prop}
 (h:LN Z R K RA (fun a σ M=>(f a σ M).bind fun b M1=>k a b σ M1) av σ H Q) :
  LN Z RB K RA f av σ H (fun bv H1=>LN Z R K (PrR RA RB) (fun ab=>k ab.1 ab.2) (av,bv) σ H1 Q):=by
 obtain⟨S,στ,a,e,m,ev,ra,ξ⟩:=h;refine⟨S,στ,a,e,m,ev,ra,?_⟩;replace ξ:Fin Z R K S ((f a στ S.M).bind fun b M1=>k a b στ M1) Q:=ξ;cases q:f a στ S.M with
 |bad=>rw[q]at ξ;exact ξ|exn C fs M'=>rw[q]at ξ;exact ξ|ok b M1=>rw[q]at ξ;intro S1 c e1 s1 r1;refine⟨S1,στ,(a,b),rfl,s1.mok,Mo.mo m s1 ev,⟨Mo.mo m s1 ra,r1⟩,?_⟩;rw[e1];exact ξ.later s1
theorem LN.l0{A AV β γ:Type}{R:Sit->β->γ->Prop}{RA:Sit->A->AV->Prop}{k:A->Mem->Out β}{av:AV}{Q:γ->Hp->Prop}(h:LN Z R K RA (fun a _ M=>k a M) av σ H Q):L0 Z R K RA k av H Q:=by obtain⟨S,στ,a,e,m,ev,ra,ξ⟩:=h;exact⟨S,a,e,m,ra,ξ⟩
theorem LN.mono{A AV β γ:Type}{R:Sit->β->γ->Prop}{RA:Sit->A->AV->Prop}{k:A->Ev->Mem->Out β}{av:AV}{Q Q':γ->Hp->Prop}(h:LN Z R K RA k av σ H Q)(i:∀c H,Q c H->Q' c H):LN Z R K RA k av σ H Q':=by obtain⟨S,στ,a,e,m,ev,ra,ξ⟩:=h;exact⟨S,στ,a,e,m,ev,ra,ξ.mono i⟩
theorem LN.env{A AV β γ:Type}{R:Sit->β->γ->Prop}{RA:Sit->A->AV->Prop}{f:Ev->Mem->Out β}{av:AV}{Q:γ->Hp->Prop}(h:LN Z R K RA (fun _ σ M=>f σ M) av σ H Q):LN Z R K UnR (fun _ σ M=>f σ M) () σ H Q:=by obtain⟨S,στ,a,e,m,ev,ra,ξ⟩:=h;exact⟨S,στ,(),e,m,ev,trivial,ξ⟩
end
noncomputable def lE(Z:XK)(K:Frag)(f:Ev->Mem->Out T):TE:=fun σ H Q=>LN Z (Rep K) K UnR (fun _ σ M=>f σ M) () σ H Q
noncomputable def lT(Z:XK)(K:Frag)(f:Ev->Mem->Out Bool):TT:=fun σ H Q=>LN Z EqR K UnR (fun _ σ M=>f σ M) () σ H Q
noncomputable def lA(Z:XK)(K:Frag)(f:Ev->Mem->Out (List T)):TA:=fun σ H Q=>LN Z (Reps K) K UnR (fun _ σ M=>f σ M) () σ H Q
def GE(X:Cx)(Z:XK)(e:Expr)(f:Ev->Mem->Out T):Prop:=PE X e (lE Z X.K f)
def GT(X:Cx)(Z:XK)(e:Expr)(f:Ev->Mem->Out Bool):Prop:=PT X e (lT Z X.K f)
def GW(X:Cx)(Z:XK)(e:Expr)(f:Ev->Mem->Out Bool):Prop:=PW X e (lT Z X.K f)
def GA(X:Cx)(Z:XK)(es:List Expr)(f:Ev->Mem->Out (List T)):Prop:=PA X es (lA Z X.K f)
variable {X:Cx}
def PE.imp{t t':TE}(h:PE X e t)(i:∀σ H Q,t' σ H Q->t σ H Q):PE X e t':=fun ρ s σ H Q I q=>h ρ s σ H Q I (i σ H Q q)
variable {t':TT}
def PT.imp{t:TT}(h:PT X e t)(i:∀σ H Q,t' σ H Q->t σ H Q):PT X e t':=fun ρ s σ H Q I q=>h ρ s σ H Q I (i σ H Q q)
def PW.imp{t:TT}(h:PW X e t)(i:∀σ H Q,t' σ H Q->t σ H Q):PW X e t':=fun whole ρ s σ H Q I q=>h whole ρ s σ H Q I (i σ H Q q)
def PA.imp{e:List Expr}{t t':TA}(h:PA X e t)(i:∀σ H Q,t' σ H Q->t σ H Q):PA X e t':=fun pos ρ s σ H Q I q=>h pos ρ s σ H Q I (i σ H Q q)
def PS.imp{e:Stmt}{t t':TS}(h:PS X e t)(i:∀D σ H,t' D σ H->t D σ H):PS X e t':=fun ρ s σ H D I q=>h ρ s σ H D I (i D σ H q)
def PSs.imp{e:List Stmt}{t t':TS}(h:PSs X e t)(i:∀D σ H,t' D σ H->t D σ H):PSs X e t':=fun ρ s σ H D I q=>h ρ s σ H D I (i D σ H q)
noncomputable def O(i:Nat):Ev->Mem->Out T:=fun σ M=>match σ[i]? with
 |some (some t)=>.ok t M|_=>.bad
noncomputable def eC(t:T):Ev->Mem->Out T:=fun _ M=>.ok t M
noncomputable def eOp(o:T->T->Mem->Out T)(f g:Ev->Mem->Out T):Ev->Mem->Out T:=fun σ M=>(f σ M).bind fun x M1=>(g σ M1).bind fun y M2=>o x y M2
noncomputable def eUn(o:T->Mem->Out T)(f:Ev->Mem->Out T):Ev->Mem->Out T:=fun σ M=>(f σ M).bind fun x M1=>o x M1
noncomputable def blT{β:Type}(t:T)(M:Mem)(k:Bool->Mem->Out β):Out β:=match t with
 |.bl b=>k b M|_=>.bad
noncomputable section
def yw(f:Ev->Mem->Out T):Ev->Mem->Out Bool:=fun σ M=>(f σ M).bind fun x M1=>blT x M1 fun b M2=>.ok b M2
def zcT(f g:Ev->Mem->Out Bool):Ev->Mem->Out Bool:=fun σ M=>(f σ M).bind fun c M1=>if c=true then g σ M1 else .ok false M1
def zc9(f g:Ev->Mem->Out Bool):Ev->Mem->Out Bool:=fun σ M=>(f σ M).bind fun c M1=>if c=true then .ok true M1 else g σ M1
def zdx(f:Ev->Mem->Out Bool):Ev->Mem->Out Bool:=fun σ M=>(f σ M).bind fun c M1=>.ok (!c) M1
def zll(f g:Ev->Mem->Out T):Ev->Mem->Out T:=fun σ M=>(f σ M).bind fun x M1=>blT x M1 fun b M2=>if b=true then g σ M2 else .ok (.bl false) M2
def eOr(f g:Ev->Mem->Out T):Ev->Mem->Out T:=fun σ M=>(f σ M).bind fun x M1=>blT x M1 fun b M2=>if b=true then .ok (.bl true) M2 else g σ M2
def zlk(f:Ev->Mem->Out T):Ev->Mem->Out T:=fun σ M=>(f σ M).bind fun x M1=>blT x M1 fun b M2=>.ok (.bl (!b)) M2
def eIf(c:Ev->Mem->Out Bool)(f g:Ev->Mem->Out T):Ev->Mem->Out T:=fun σ M=>(c σ M).bind fun b M1=>if b=true then f σ M1 else g σ M1
def zd:Ev->Mem->Out (List T):=fun _ M=>.ok [] M
def zb(f:Ev->Mem->Out T)(g:Ev->Mem->Out (List T)):Ev->Mem->Out (List T):=fun σ M=>(f σ M).bind fun x M1=>(g σ M1).bind fun xs M2=>.ok (x::xs) M2
def zE(g:Ev->Mem->Out (List T)):Ev->Mem->Out T:=fun σ M=>(g σ M).bind fun xs M1=>if xs.length<=sizeLine then .ok (.tup xs) M1 else .bad
def zx(g:Ev->Mem->Out (List T)):Ev->Mem->Out (List T):=fun σ M=>(g σ M).bind fun xs M1=>if xs.length<=sizeLine then .ok xs M1 else .bad
def eFz(g:Ev->Mem->Out (List T)):Ev->Mem->Out T:=fun σ M=>(g σ M).bind fun xs M1=>.ok (.lst xs) M1
def eTk(g:Ev->Mem->Out (List T)):Ev->Mem->Out T:=fun σ M=>(g σ M).bind fun xs M1=>.ok (.ref M1.length) (M1++[.lst xs])
def ze(f:List T->Mem->Out T)(g:Ev->Mem->Out (List T)):Ev->Mem->Out T:=fun σ M=>(g σ M).bind fun ts M1=>f ts M1
def zg4(o o':T->T->Mem->Out T)(f g h:Ev->Mem->Out T):Ev->Mem->Out T:=fun σ M=>(f σ M).bind fun x M1=>(g σ M1).bind fun y M2=>(o x y M2).bind fun z M3=>blT z M3 fun b M4=>if b=true then(h σ M4).bind fun w M5=>o' y w M5 else .ok (.bl false) M4
def lR2(Z:XK)(K:Frag)(o:T->T->Mem->Out T):R2:=fun x y H Q=>L0 Z (Rep K) K (PrR (Rep K) (Rep K)) (fun a M=>o a.1 a.2 M) (x,y) H Q
def lR1(Z:XK)(K:Frag)(o:T->Mem->Out T):V->Hp->VK->Prop:=fun x H Q=>L0 Z (Rep K) K (Rep K) o x H Q
def lRN(Z:XK)(K:Frag)(o:List T->Mem->Out T):List V->Hp->VK->Prop:=fun xs H Q=>L0 Z (Rep K) K (Reps K) o xs H Q
end
def FinL(Z:XK)(K:Frag)(S:Sit)(o:Out (List T))(Q:VK):Prop:=match o with
 |.ok xs M'=>∀S' p vs,S'.M=M'->Stp K S S'->S.H p=none->p ∈ S'.hid->S'.H p=some (.lst vs)->Reps K S' xs vs->Q (.ref p) S'.H|.exn C fs M'=>∀S' od,S'.M=M'->Stp K S S'->zrB K S' fs od->Z (.ref C) od S'.H|.bad=>False
variable {Q:VK}
theorem FinL.later{o:Out (List T)}(s:Stp K S S1)(h:FinL Z K S o Q):FinL Z K S1 o Q:=by
 have nn:∀p,S1.H p=none->S.H p=none:=fun p hn=>by
  cases q:S.H p with
  |none=>rfl|some o=>
   by_cases f:S.off p
   ·rw[s.kp _ _ q f]at hn;cases hn
   ·exfalso;apply f;refine⟨fun c hc z=>?_,fun z=>?_⟩
    ·have h3:c<S1.M.length:=Q5 hc s.le;obtain⟨o',e',_⟩:=s.mok.some h3;rw[s.al c hc,z,hn]at e';cases e'
    ·rw[(s.hk p z).2,q]at hn;cases hn
 cases o with|ok b M'=>exact fun S' p vs e s' f=>h S' p vs e (s.trans s') (nn p f)|exn C fs M'=>exact fun S' c e s' r=>h S' c e (s.trans s') r|bad=>exact h
noncomputable def lL(Z:XK)(K:Frag)(f:Ev->Mem->Out (List T)):TE:=fun σ H Q=>∃(S:Sit) (στ:Ev),S.H=H/\MemOk K S/\EvR K S στ σ/\FinL Z K S (f στ S.M) Q
def GL(X:Cx)(Z:XK)(e:Expr)(f:Ev->Mem->Out (List T)):Prop:=PE X e (lL Z X.K f)
variable {q:Addr}{h hh:List Addr}{xs:List T}
section
noncomputable def Sit.show(S':Sit)(h:List Addr):Sit:=⟨S'.α,S'.M,S'.H,h⟩
theorem Rep.show(sub:∀p ∈ h,p ∈ S'.hid)(r:Rep K S' t v):Rep K (S'.show h) t v:=by
 induction r with
 |non=>exact .non|bl b=>exact .bl b|int b=>exact .int b|str b=>exact .str b|ty b=>exact .ty b|tup h l _ ih=>exact .tup h l ih|lst h l _ ih=>
  refine .lst ?_ l ih;rcases h with⟨h,f⟩ | h
  ·exact .inl ⟨h,f.1,fun z=>f.2 (sub _ z)⟩
  ·exact .inr h
 |ref h=>exact .ref (S:=S'.show _) h|dct h l _ ih=>exact .dct h l ih|exc h hd l _ ih=>exact .exc h hd l ih
def Reps.show(sub:∀p ∈ h,p ∈ S'.hid)(r:Reps K S' ts vs):Reps K (S'.show h) ts vs:=⟨r.1,fun i t v e1 e2=>(r.2 i t v e1 e2).show sub⟩
theorem CellOk.show(sub:∀p ∈ h,p ∈ S'.hid){c:Cell}(q:CellOk K S' p c):CellOk K (S'.show h) p c:=by cases c with|lst ts=>obtain⟨vs,q,r⟩:=q;exact⟨vs,q,r.show sub⟩|dic ts=>obtain⟨vs,q,r⟩:=q;exact⟨vs,q,r.1,r.2.show sub⟩|ins C ts=>obtain⟨dx,vs,q,r⟩:=q;exact⟨dx,vs,q,r.1,r.2.show sub⟩|dtu ts=>obtain⟨vs,q,r⟩:=q;exact⟨vs,q,r.1,r.2.show sub⟩
theorem Stp.show(s:Stp K S S'):Stp K S (S'.show S.hid):=by have sub:∀p ∈ S.hid,p ∈ S'.hid:=fun p h=>(s.hk p h).1;exact⟨⟨s.le,s.al,s.fr,s.kp,fun p h=>⟨h,(s.hk p h).2⟩,fun p h=>.inl h⟩,⟨fun a c e=>(s.mok.cell a c e).show sub,s.mok.inj,fun p h=>s.mok.hd p (sub p h)⟩⟩
theorem zhF(s:Stp K S S')(hn:S.H p=none)(m:MemOk K S)(hp:p ∈ S'.hid)(e:S'.H p=some (.lst vs))(r:Reps K S' xs vs):Rep K (S'.show S.hid) (.lst xs) (.ref p):=by have sub:∀p ∈ S.hid,p ∈ S'.hid:=fun p h=>(s.hk p h).1;refine .lst (.inl ⟨.inl e,(s.mok.hd p hp).1,fun z=>?_⟩) r.1 (r.show sub).2;obtain⟨_,us,q⟩:=m.hd p z;rw[hn]at q;cases q
noncomputable def Sit.track(S':Sit)(p:Addr)(xs:List T)(h:List Addr):Sit:=⟨fun a=>if a=S'.M.length then p else S'.α a,S'.M++[.lst xs],S'.H,h⟩
theorem Rep.track(hp:p ∈ S'.hid)(sub:∀p ∈ hh,p ∈ S'.hid)(r:Rep K S' t v):Rep K (S'.track p xs hh) t v:=by
 induction r with
 |non=>exact .non|bl b=>exact .bl b|int b=>exact .int b|str b=>exact .str b|ty b=>exact .ty b|tup h l _ ih=>exact .tup h l ih|lst h l _ ih=>
  refine .lst ?_ l ih;rcases h with⟨h,f⟩ | h
  ·refine .inl ⟨h,fun a ha z=>?_,fun z=>f.2 (sub _ z)⟩;have z':(if a=S'.M.length then p else S'.α a)=_:=z
   by_cases hl:a=S'.M.length
   ·rw[Qz hl]at z';rw[←z']at f;exact f.2 hp
   ·rw[QA hl]at z';have h3:a<(S'.M++[Cell.lst xs]).length:=ha;exact f.1 a (by simp at h3;omega) z'
  ·exact .inr h
 |@ref a h=>have:S'.α a=(S'.track p xs hh).α a:=(QA (Qk h)).symm;rw[this];exact .ref (by show a<(S'.M++[Cell.lst xs]).length;simp;omega)
 |dct h l _ ih=>exact .dct h l ih|exc h hd l _ ih=>exact .exc h hd l ih
def Reps.track(hp:p ∈ S'.hid)(sub:∀p ∈ h,p ∈ S'.hid)(r:Reps K S' ts vs):Reps K (S'.track p xs h) ts vs:=⟨r.1,fun i t v e1 e2=>(r.2 i t v e1 e2).track hp sub⟩
theorem CellOk.track(hp:p ∈ S'.hid)(sub:∀p ∈ h,p ∈ S'.hid){c:Cell}(o:CellOk K S' q c):CellOk K (S'.track p xs h) q c:=by cases c with|lst ts=>obtain⟨vs,q,r⟩:=o;exact⟨vs,q,r.track hp sub⟩|dic ts=>obtain⟨vs,q,r⟩:=o;exact⟨vs,q,r.1,r.2.track hp sub⟩|ins C ts=>obtain⟨dx,vs,q,r⟩:=o;exact⟨dx,vs,q,r.1,r.2.track hp sub⟩|dtu ts=>obtain⟨vs,q,r⟩:=o;exact⟨vs,q,r.1,r.2.track hp sub⟩
theorem Stp.track(s:Stp K S S')(m:MemOk K S)(hn:S.H p=none)(hp:p ∈ S'.hid)(e:S'.H p=some (.lst vs))(r:Reps K S' xs vs):Stp K S (S'.track p xs S.hid):=by
 have sub:∀p ∈ S.hid,p ∈ S'.hid:=fun p h=>(s.hk p h).1;have lt:∀a,a<S'.M.length->(S'.track p xs S.hid).α a=S'.α a:=fun a h=>QA (Qk h);refine⟨⟨Qj s.le (by show _<=(S'.M++[Cell.lst xs]).length;simp),fun a h=>(lt a (Q5 h s.le)).trans (s.al a h),fun a h1 h2=>?_,s.kp,fun p h=>⟨h,(s.hk p h).2⟩,fun p h=>.inl h⟩,⟨fun a c e2=>?_,fun a b h1 h2 e2=>?_,fun q h=>?_⟩⟩
 ·by_cases hl:a<S'.M.length
  ·rw[lt a hl];exact s.fr a h1 hl
  ·have h3:a<(S'.M++[Cell.lst xs]).length:=h2;have:a=S'.M.length:=by simp at h3;omega
   show S.H (if a=S'.M.length then p else S'.α a)=none;rw[Qz this];exact hn
 ·have e':(S'.M++[Cell.lst xs])[a]? = some c:=e2
  by_cases ha:a<S'.M.length
  ·rw[Q6 ha]at e';rw[lt a ha];exact(s.mok.cell a c e').track hp sub
  ·rw[Q8 (Nat.le_of_not_lt ha)]at e';have h3:a-S'.M.length=0:=by cases q:a-S'.M.length with|zero=>rfl|succ k=>rw[q]at e';simp at e'
   rw[h3]at e';cases e';show CellOk K _ (if a=S'.M.length then p else S'.α a) _;rw[Qz ⋯];exact⟨vs,e,r.track hp sub⟩
 ·have h1':a<(S'.M++[Cell.lst xs]).length:=h1;have h2':b<(S'.M++[Cell.lst xs]).length:=h2;have e':(if a=S'.M.length then p else S'.α a)=(if b=S'.M.length then p else S'.α b):=e2;simp at h1' h2'
  by_cases ha:a=S'.M.length
  ·by_cases hb:b=S'.M.length
   ·omega
   ·rw[Qz ha,QA hb]at e';exact absurd e'.symm ((s.mok.hd p hp).1 b ⋯)
  ·by_cases hb:b=S'.M.length
   ·rw[QA ha,Qz hb]at e';exact absurd e' ((s.mok.hd p hp).1 a ⋯)
   ·rw[QA ha,QA hb]at e';exact s.mok.inj a b ⋯ ⋯ e'
 ·obtain⟨h1,us,q1⟩:=s.mok.hd q (sub q h);refine⟨fun a ha z=>?_,us,q1⟩;have z':(if a=S'.M.length then p else S'.α a)=q:=z;have h3:a<(S'.M++[Cell.lst xs]).length:=ha
  by_cases hl:a=S'.M.length
  ·rw[Qz hl]at z';obtain⟨_,us2,q2⟩:=m.hd q h;rw[←z',hn]at q2;cases q2
  ·rw[QA hl]at z';exact h1 a (by simp at h3;omega) z'
noncomputable def Sit.hide(S:Sit)(p:Addr)(vs:List V):Sit:=⟨S.α,S.M,upd S.H p (.lst vs),p::S.hid⟩
theorem Stp.hide(m:MemOk K S)(hp:S.H p=none)(vs:List V):Stp K S (S.hide p vs):=by
 have g:Grow S (S.hide p vs):=⟨Q3 _,fun _ _=>rfl,fun a h1 h2=>absurd (Q5 h2 h1) (Qo _),fun b u e _=>by show upd S.H p _ b=_;rw[zi (yC e hp)];exact e,fun q h=>⟨.tail _ h,by obtain⟨_,vs,e⟩:=m.hd q h;exact zi (yC e hp)⟩,fun q h=>by
  cases h with
  |head=>exact .inr hp
  | tail _ h=>exact .inl h⟩
 refine⟨g,⟨fun a c e=>?_,m.inj,fun q h=>?_⟩⟩
 ·have ha:a<S.M.length:=(Qy.mp e).1;exact(m.cell a c e).grow m g (zi ((m.off_none hp).1 a ha))
 ·cases h with
  |head=>exact⟨(m.off_none hp).1,vs,qu⟩|tail _ h=>obtain⟨h1,us,e⟩:=m.hd q h;exact⟨h1,us,(zi (yC e hp)).trans e⟩
end
variable {op:CmpOp}{ga:Ev->Mem->Out (List T)}{tf:Ev->Mem->Out Bool}{f g:Ev->Mem->Out T}{M:Mem}{x:Str}{o o':T->T->Mem->Out T}
section
variable {a b c:Expr}{h:Ev->Mem->Out T}
theorem zcn(h:PE X e (tC v))(r:∀S,Rep X.K S t v):GE X Z e (eC t):=PE.imp h fun σ H Q h9=>by obtain⟨S,στ,_,e,m,ev,_,ξ⟩:=h9;show Q v H;rw[←e];exact ξ S v rfl (.refl m) (r S)
def ge_int{i j}:GE X Z (.Constant (.int i) j pos) (eC (.int i)):=zcn zlQ fun _=>.int _
theorem ziH(h:lE Z K (eOp o f g) σ H Q):lE Z K f σ H fun x H1=>lE Z K g σ H1 fun y H2=>lR2 Z K o x y H2 Q:=
 LN.mono (LN.bind (f:=fun _ σ M=>f σ M) (k:=fun _ x σ M1=>(g σ M1).bind fun y M2=>o x y M2) (RB:=Rep K) h) fun v H1 h1=>LN.mono (LN.env (f:=g) (LN.bind (f:=fun _ σ M=>g σ M) (k:=fun (ax:Unit × T) y σ M2=>o ax.2 y M2) (RB:=Rep K) h1)) fun w H2 h2=>by obtain⟨S,στ,a,e,m,ev,ra,ξ⟩:=h2;exact⟨S,(a.1.2,a.2),e,m,⟨ra.1.2,ra.2⟩,ξ⟩
theorem ziG{β γ:Type}{R:Sit->β->γ->Prop}{k:Bool->Mem->Out β}{Q:γ->Hp->Prop}(r:Rep K S t v)(h:Fin Z R K S (blT t M k) Q):∃b,v = .bl b/\t = .bl b/\Fin Z R K S (k b M) Q:=by cases r with|bl b=>exact⟨b,rfl,rfl,h⟩|_=>exact h.elim
theorem tif{tg:Ev->Mem->Out Bool}{Q:Bool->Hp->Prop}{p:Bool->Ev->Mem->Out Bool}(h:LN Z EqR K UnR (fun _ σ M=>(tf σ M).bind fun c M1=>p c σ M1) () σ H Q):lT Z K tf σ H fun c H1=>lT Z K (fun σ M=>p c σ M) σ H1 Q:=
 LN.mono (LN.bind (f:=fun _ σ M=>tf σ M) (k:=fun _ c σ M1=>p c σ M1) (RB:=EqR) h) fun c H1 h2=>by obtain⟨S,στ,a,e,m,ev,ra,ξ⟩:=h2;have:a.2=c:=ra.2;subst this;exact⟨S,στ,(),e,m,ev,trivial,ξ⟩
theorem ziy{Q:Bool->Hp->Prop}{d:Bool}(h:lT Z K (fun _ M=>.ok d M) σ H Q):Q d H:=by obtain⟨S,στ,a,e,m,ev,ra,ξ⟩:=h;rw[←e];exact ξ S d rfl (.refl m) rfl
theorem zld{d:T}(h:lE Z K (fun _ M=>.ok d M) σ H Q)(r:∀S,Rep K S d v):Q v H:=by obtain⟨S,στ,a,e,m,ev,ra,ξ⟩:=h;rw[←e];exact ξ S v rfl (.refl m) (r S)
variable {tg:Ev->Mem->Out Bool}{rest:List Expr}
def GW.gt(h:GW X Z e tf):GT X Z e tf:=PW.pt h
theorem eif{p:Bool->Ev->Mem->Out T}(h:LN Z (Rep K) K UnR (fun _ σ M=>(f σ M).bind fun x M1=>blT x M1 fun b M2=>p b σ M2) () σ H Q):lE Z K f σ H fun x H1=>∃c,x = .bl c/\lE Z K (fun σ M=>p c σ M) σ H1 Q:=
 LN.mono (LN.bind (f:=fun _ σ M=>f σ M) (k:=fun _ x σ M1=>blT x M1 fun b M2=>p b σ M2) (RB:=Rep K) h) fun c H1 h2=>by obtain⟨S,στ,a,e,m,ev,ra,ξ⟩:=h2;obtain⟨b,e1,e2,ξ⟩:=ziG ra.2 ξ;exact⟨b,e1,S,στ,(),e,m,ev,trivial,ξ⟩
theorem chain(hh:lE Z K (zg4 o o' f g h) σ H Q):zlB (lR2 Z K o) (lR2 Z K o') (lE Z K f) (lE Z K g) (lE Z K h) σ H Q:=
 LN.mono (LN.bind (f:=fun _ σ M=>f σ M) (k:=fun _ x σ M1=>(g σ M1).bind fun y M2=>(o x y M2).bind fun z M3=>blT z M3 fun b M4=>if b=true then(h σ M4).bind fun w M5=>o' y w M5 else .ok (.bl false) M4) (RB:=Rep K) hh) fun x H1 h1=>
  LN.mono (LN.env (f:=g) (LN.bind (f:=fun _ σ M=>g σ M) (k:=fun (ax:Unit × T) y σ M2=>(o ax.2 y M2).bind fun z M3=>blT z M3 fun b M4=>if b=true then(h σ M4).bind fun w M5=>o' y w M5 else .ok (.bl false) M4) (RB:=Rep K) h1)) fun y H2 h2=>by
   have h3:=LN.bind (f:=fun (a:(Unit × T) × T) _ M=>o a.1.2 a.2 M) (k:=fun a z σ M3=>blT z M3 fun b M4=>if b=true then(h σ M4).bind fun w M5=>o' a.2 w M5 else .ok (.bl false) M4) (RB:=Rep K) h2;obtain⟨S,a,e,m,ra,ξ⟩:=LN.l0 (k:=fun (a:(Unit × T) × T) M=>o a.1.2 a.2 M) h3;refine⟨S,(a.1.2,a.2),e,m,⟨ra.1.2,ra.2⟩,ξ.mono fun z H3 h4=>?_⟩;obtain⟨S3,στ,a3,e3,m3,ev3,ra3,fin3⟩:=h4;obtain⟨b,e1,_,fin3⟩:=ziG ra3.2 fin3;refine⟨b,e1,?_⟩;cases b with
   |false=>exact(QA Q4).mpr (by rw[←e3];exact fin3 S3 _ rfl (.refl m3) (.bl _))|true=>refine(Qz rfl).mpr ?_;have h5:LN Z (Rep K) K (Rep K) (fun y σ M4=>(h σ M4).bind fun w M5=>o' y w M5) y σ H3 Q:=⟨S3,στ,a3.1.2,e3,m3,ev3,ra3.1.2,fin3⟩;refine LN.mono (LN.env (f:=h) (LN.bind (f:=fun _ σ M=>h σ M) (k:=fun y w σ M5=>o' y w M5) (RB:=Rep K) h5)) fun w H4 h6=>?_;exact LN.l0 (k:=fun (a:T × T) M=>o' a.1 a.2 M) h6
end
inductive Fl where
 |nx (σ:Ev) | rt (t:T) | bk (σ:Ev) | ct (σ:Ev)
abbrev X1:=Ev->Mem->Out (List T)
abbrev X2:=List T->Mem->Out T
abbrev X3:=T->T->Mem->Out T
abbrev X4:=List T->Mem->Out T
abbrev X5:=Ev->Mem->Out Fl
abbrev X6:=Ev->Mem->Out Bool
abbrev X7:=Ev->Mem->Out Ev
abbrev X8:=Ev->Mem->Out T
inductive FlV where
 |nx (σ:L2.St) | rt (v:V) | bk (σ:L2.St) | ct (σ:L2.St)
inductive FlR (K:Frag) (S:Sit):Fl->FlV->Prop where
 |nx {a b}:EvR K S a b->FlR K S (.nx a) (.nx b)
 |rt {a b}:Rep K S a b->FlR K S (.rt a) (.rt b)
 |bk {a b}:EvR K S a b->FlR K S (.bk a) (.bk b)
 |ct {a b}:EvR K S a b->FlR K S (.ct a) (.ct b)
noncomputable def qM(D:Ends):FlV->Hp->Prop
 |.nx σ,H=>D.nx σ H|.rt v,H=>D.rt v H|.bk σ,H=>D.bk σ H|.ct σ,H=>D.ct σ H
noncomputable def lS(Z:XK)(K:Frag)(g:X5):TS:=fun D σ H=>LN Z (FlR K) K UnR (fun _ σ M=>g σ M) () σ H (qM D)
def GS(X:Cx)(Z:XK)(st:Stmt)(g:X5):Prop:=PS X st (lS Z X.K g)
def GSs(X:Cx)(Z:XK)(st:List Stmt)(g:X5):Prop:=PSs X st (lS Z X.K g)
variable {στ:Ev}
theorem EvR.set(r:EvR K S στ σ)(q:Rep K S t v)(i:Nat):EvR K S (στ.set i (some t)) (σ.set i (some v)):=by
 refine⟨by simp[r.1],fun j u e=>?_⟩;rw[Qc]at e ⊢
 by_cases h:i=j
 ·subst h
  by_cases hl:i<στ.length
  ·rw[Qz rfl,Qz hl]at e;cases e;exact⟨v,by rw[Qz rfl,Qz (by rw[←r.1];exact hl)],q⟩
  ·rw[Qz rfl,QA hl]at e;cases e
 ·rw[QA h]at e;obtain⟨w,e2,q2⟩:=r.2 j u e;exact⟨w,by rw[QA h];exact e2,q2⟩
noncomputable def qR:X5:=fun σ M=>.ok (.nx σ) M
noncomputable def ztz:X5:=fun σ M=>.ok (.bk σ) M
noncomputable def ztM:X5:=fun σ M=>.ok (.ct σ) M
noncomputable def zcr(k:X5)(fl:Fl)(M:Mem):Out Fl:=match fl with
 |.nx σ=>k σ M|.rt t=>.ok (.rt t) M|.bk σ=>.ok (.bk σ) M|.ct σ=>.ok (.ct σ) M
noncomputable section
def yg(g h:X5):X5:=fun σ M=>(g σ M).bind (zcr h)
def zB(f:X8):X5:=fun σ M=>(f σ M).bind fun t M1=>.ok (.rt t) M1
def yE(f:X8):X5:=fun σ M=>(f σ M).bind fun _ M1=>.ok (.nx σ) M1
def sIf(c:X6)(g h:X5):X5:=fun σ M=>(c σ M).bind fun b M1=>if b=true then g σ M1 else h σ M1
def ym(i:Nat)(f:X8):X5:=fun σ M=>(f σ M).bind fun t M1=>.ok (.nx (σ.set i (some t))) M1
def lG(Z:XK)(K:Frag)(bd:T->X7):TG:=fun v σ H Q=>LN Z (EvR K) K (Rep K) bd v σ H Q
def lGs(Z:XK)(K:Frag)(bd:List T->X7):TGs:=fun v σ H Q=>LN Z (EvR K) K (Reps K) bd v σ H Q
end
def GG(X:Cx)(Z:XK)(tg:Expr)(bd:T->X7):Prop:=PG X tg (lG Z X.K bd)
def GGs(X:Cx)(Z:XK)(tg:List Expr)(bd:List T->X7):Prop:=PGs X tg (lGs Z X.K bd)
noncomputable def yj(i:Nat):T->X7:=fun t σ M=>.ok (σ.set i (some t)) M
noncomputable def zbe:List T->X7:=fun ts σ M=>match ts with
 |[]=>.ok σ M|_=>.bad
noncomputable def zF(b:T->X7)(bs:List T->X7):List T->X7:=fun ts σ M=>match ts with
 |t::r=>(b t σ M).bind fun σ1 M1=>bs r σ1 M1|_=>.bad
noncomputable def zbd(n:Nat)(bs:List T->X7):T->X7:=fun t σ M=>match t with
 |.tup xs=>if xs.length=n then bs xs σ M else .bad|_=>.bad
noncomputable def zgd(f:X8)(b:T->X7):X5:=fun σ M=>(f σ M).bind fun t M1=>(b t σ M1).bind fun σ1 M2=>.ok (.nx σ1) M2
def zdY(K:Frag)(S:Sit)(items:List T)(J:It):Prop:=∀S',Stp K S S'->
 (∀(i:Nat) t,items[i]? = some t->J.go i S'.H/\∀x H',J.yld i S'.H x H'->∃S'',S''.H=H'/\S''.M=S'.M/\Stp K S' S''/\Rep K S'' t x)/\∀i,items.length<=i->J.stop i S'.H
instance (K):Mo K (zdY K):=⟨fun _ s r=>fun S' s'=>r S' (s.trans s')⟩
noncomputable def lI(Z:XK)(K:Frag)(f:X1):TI:=fun σ H R=>LN Z (zdY K) K UnR (fun _ σ M=>f σ M) () σ H R
def GI(X:Cx)(Z:XK)(tg iter:Expr)(f:X1):Prop:=PI X tg iter (lI Z X.K f)
noncomputable def zab(k:X5)(fl:Fl)(M:Mem):Out Fl:=match fl with
 |.nx σ=>k σ M|.ct σ=>k σ M|.bk σ=>.ok (.nx σ) M|.rt t=>.ok (.rt t) M
noncomputable def forL(bd:T->X7)(body:X5):List T->X5
 |[],σ,M=>.ok (.nx σ) M|x::xs,σ,M=>(bd x σ M).bind fun σ1 M1=>(body σ1 M1).bind (zab (forL bd body xs))
noncomputable def za3(it:X1)(bd:T->X7)(body:X5):X5:=fun σ M=>(it σ M).bind fun xs M1=>forL bd body xs σ M1
noncomputable def whileN(c:X6)(body:X5):Nat->X5
 |0,_,_=>.bad|n+1,σ,M=>(c σ M).bind fun b M1=>if b=true then(body σ M1).bind (zab (whileN c body n))else .ok (.nx σ) M1
open Classical in
noncomputable def ziY(c:X6)(body:X5):X5:=fun σ M=>if h:∃n,whileN c body n σ M ≠ .bad then whileN c body h.choose σ M else .bad
theorem zdI{c:X6}{body:X5}:∀{n:Nat} {σ:Ev} {M:Mem} {r:Out Fl},whileN c body n σ M=r->r ≠ .bad->whileN c body (n+1) σ M=r
 |0,_,_,_,e,h=>absurd e.symm h|n+1,σ,M,r,e,h=>by
  unfold whileN at e ⊢;cases q:c σ M with
  |bad=>rw[q]at e;exact absurd e.symm h|exn C fs M'=>rw[q]at e;exact e|ok b M1=>
   rw[q]at e;replace e:(if b=true then(body σ M1).bind (zab (whileN c body n))else Out.ok (.nx σ) M1)=r:=e;show(if b=true then(body σ M1).bind (zab (whileN c body (n+1)))else Out.ok (.nx σ) M1)=r;cases b with
   |false=>exact e|true=>
    rw[Qz rfl]at e ⊢;cases q2:body σ M1 with
    |bad=>rw[q2]at e;exact absurd e.symm h|exn C fs M'=>rw[q2]at e;exact e|ok fl M2=>rw[q2]at e;cases fl with|nx σ2=>exact zdI (n:=n) e h|ct σ2=>exact zdI (n:=n) e h|bk σ2=>exact e|rt t=>exact e
variable {body:X5}{n:Nat}
theorem zhR{c:X6}{k:Nat}{σ:Ev}{r:Out Fl}(e:whileN c body n σ M=r)(h:r ≠ .bad):whileN c body (n+k) σ M=r:=by induction k with|zero=>exact e|succ k ih=>exact zdI ih h
theorem zlH{c:X6}{σ:Ev}{r:Out Fl}(n:Nat)(e:whileN c body n σ M=r)(h:r ≠ .bad):ziY c body σ M=r:=by have ex:∃n,whileN c body n σ M ≠ .bad:=⟨n,by rw[e];exact h⟩;unfold ziY;rw[dif_pos ex];have h2:=ex.choose_spec;have e1:=zhR (k:=ex.choose) e h;have e2:=zhR (k:=n) rfl h2;rw[Nat.add_comm]at e2;rw[←e2,e1]
noncomputable section
def zhA(Z:XK)(K:Frag)(st:T->T->T->Mem->Out Unit):zhP:=fun o i v H Q=>L0 Z UnR K (PrR (PrR (Rep K) (Rep K)) (Rep K)) (fun a M=>st a.1.1 a.1.2 a.2 M) ((o,i),v) H (fun _ H'=>Q H')
def zjz(st:T->T->T->Mem->Out Unit)(f g:X8):T->X7:=fun t σ M=>(f σ M).bind fun o M1=>(g σ M1).bind fun i M2=>(st o i t M2).bind fun _ M3=>.ok σ M3
def zk1(i:Nat)(o:X3)(f:X8):X5:=fun σ M=>(O i σ M).bind fun x M0=>(f σ M0).bind fun y M1=>(o x y M1).bind fun z M2=>.ok (.nx (σ.set i (some z))) M2
def ziw(get op:X3)(st:T->T->T->Mem->Out Unit)(f g h:X8):X5:=fun σ M=>(f σ M).bind fun o M1=>(g σ M1).bind fun i M2=>(get o i M2).bind fun x M3=>(h σ M3).bind fun y M4=>(op x y M4).bind fun z M5=>(st o i z M5).bind fun _ M6=>.ok (.nx σ) M6
end
variable {D:Ends}{iter tg:Expr}{pos':Pos}{st:Stmt}{bd:T->X7}
section
variable {a b c:Expr}{h:X8}{sts rest:List Stmt}{p q r:X5}
theorem zqI(hh:lS Z K (yg p q) D σ H):lS Z K p { D with nx:=lS Z K q D } σ H:=by
 obtain⟨S,στ,_,e,m,ev,_,ξ⟩:=hh;refine⟨S,στ,(),e,m,ev,trivial,?_⟩;show Fin Z (FlR K) K S (p στ S.M) _;replace ξ:Fin Z (FlR K) K S ((p στ S.M).bind (zcr q)) (qM D):=ξ;cases o:p στ S.M with
 |bad=>rw[o]at ξ;exact ξ|exn C fs M'=>rw[o]at ξ;exact ξ|ok fl M1=>rw[o]at ξ;intro S1 cc e1 s1 r1;cases r1 with|nx r1=>exact⟨S1,_,(),rfl,s1.mok,r1,trivial,by rw[e1];exact Fin.later s1 ξ⟩|rt r1=>exact ξ S1 _ e1 s1 (.rt r1)|bk r1=>exact ξ S1 _ e1 s1 (.bk r1)|ct r1=>exact ξ S1 _ e1 s1 (.ct r1)
def PG.imp{t t':TG}(h:PG X tg t)(i:∀v σ H Q,t' v σ H Q->t v σ H Q):PG X tg t':=fun ρ s σ H v u Q I r q=>h ρ s σ H v u Q I r (i v σ H Q q)
def PGs.imp{tgs:List Expr}{t t':TGs}(h:PGs X tgs t)(i:∀v σ H Q,t' v σ H Q->t v σ H Q):PGs X tgs t':=fun ρ s σ H v u Q I r q=>h ρ s σ H v u Q I r (i v σ H Q q)
theorem zsg(hh:LN Z (FlR K) K (Rep K) (fun t σ M=>(bd t σ M).bind fun σ1 M2=>.ok (Fl.nx σ1) M2) v σ H (qM D)):lG Z K bd v σ H D.nx:=by
 obtain⟨S,στ,t,e,m,ev,ra,ξ⟩:=hh;refine⟨S,στ,t,e,m,ev,ra,?_⟩;replace ξ:Fin Z (FlR K) K S ((bd t στ S.M).bind fun σ1 M2=>.ok (Fl.nx σ1) M2) (qM D):=ξ;cases o:bd t στ S.M with
 |bad=>rw[o]at ξ;exact ξ|exn C fs M'=>rw[o]at ξ;exact ξ|ok σ1 M1=>rw[o]at ξ;intro S1 cc e1 s1 ev1;exact ξ S1 (.nx cc) e1 s1 (.nx ev1)
def PI.imp{t t':TI}(h:PI X tg iter t)(i:∀σ H R,t' σ H R->t σ H R):PI X tg iter t':=fun ρ s σ H R I q=>h ρ s σ H R I (i σ H R q)
end
noncomputable def startT(n:Nat)(ts:List T):Ev:=ts.map some++List.replicate (n-ts.length) none
noncomputable def yi(p n:Nat)(g:X5):X4:=fun ts M=>if ts.length=p then match g (startT n ts) M with
 |.ok (.rt t) M'=>.ok t M'|.ok (.nx _) M'=>.ok .non M'|_=>.bad else .bad
noncomputable def spT(K:Frag)(f:X4):Sp:=fun vs H Q E=>L0 E (Rep K) K (Reps K) f vs H Q
structure CalT (P:Program) (w:World) (K:Frag) (mg:Str->Option Value) (base:Heap) (k:Nat) (x:Str) (ps:List Str) (f:X4):Prop where
 cal:Cal P w K mg base k x ps (spT K f)
 nox:∀ts M C fs M',f ts M ≠ .exn C fs M'
theorem zgI(p n:Nat)(g:X5):∀ts M C fs M',yi p n g ts M ≠ .exn C fs M':=by
 intro ts M C fs M' z;unfold yi at z;split at z
 ·split at z<;>cases z
 ·cases z
variable {N:List Str}
theorem EvR.start(r:Reps K S ts vs)(hn:N.length=n):EvR K S (startT n ts) (L2.start N vs):=by
 subst hn;refine⟨by simp[startT,L2.start,r.1],fun i t e=>?_⟩;unfold startT at e;unfold L2.start
 by_cases hi:i<ts.length
 ·rw[Q6 (by simpa using hi)]at e;rw[Q6 (by simpa[←r.1]using hi)];rw[Qb]at e ⊢;cases q:ts[i]? with
  |none=>rw[q]at e;cases e|some t'=>rw[q]at e;have:t'=t:=Qd (Qd e);subst this;obtain⟨v,e2,r2⟩:=r.get q;exact⟨v,by rw[e2];rfl,r2⟩
 ·rw[Q8 (by simpa using hi)]at e;rw[List.getElem?_replicate]at e;split at e<;>cases e
variable {base:Heap}{ps:List Str}{P:Program}{mg:Str->Option Value}{w:World}
section
theorem zgt{st:List Stmt}{g:X5}{p:Nat}(hn:N.length=n){E:XK}(hX:X.K=K)(h:spT K (yi p n g) vs H Q E)(hb:GSs X E0 st g) :
  ∃t,PSs X st t/\t { nx:=fun _ H'=>Q .non H',rt:=Q } (start N vs) H:=by
 subst hX;refine⟨_,hb,?_⟩;obtain⟨S,ts,e,m,r,ξ⟩:=h;refine⟨S,startT n ts,(),e,m,EvR.start r hn,trivial,?_⟩;show Fin E0 (FlR X.K) X.K S (g (startT n ts) S.M) _;unfold yi at ξ
 by_cases hp:ts.length=p
 ·rw[Qz hp]at ξ;cases o:g (startT n ts) S.M with
  |bad=>rw[o]at ξ;exact ξ|exn C fs M'=>rw[o]at ξ;exact ξ.elim|ok fl M1=>
   rw[o]at ξ;cases fl with
   |nx σ1=>intro S1 c e1 s1 r1;cases r1 with|nx r1=>exact ξ S1 .non e1 s1 .non
   |rt t=>intro S1 c e1 s1 r1;cases r1 with|rt r1=>exact ξ S1 _ e1 s1 r1
   |bk σ1=>exact ξ.elim|ct σ1=>exact ξ.elim
 ·rw[QA hp]at ξ;exact ξ.elim
theorem ziO{p:Nat}{g:X5}(hp:ps.length=p):∀vs H Q E,spT K (yi p n g) vs H Q E->vs.length=ps.length:=by
 intro vs H Q E ⟨S,ts,e,m,r,ξ⟩;rw[←r.1,hp];unfold yi at ξ
 by_cases h:ts.length=p
 ·exact h
 ·rw[QA h]at ξ;exact ξ.elim
theorem zmB{k p:Nat}{g:X5}(D:Df K mg x st ps)(Sc:FnScope N ps (ye st))(hp:ps.length=p)(hn:N.length=n)
 (hb:∀(f:Addr) (cdv:Value) (A:Around) (outer:List PySem.Env) (s:Shared) (H:Hp) (E:XK),Room k (A.deeper (envOfC x (ye st) s.heap.objs.size f cdv))->GSs (zbS CX0 P w K mg base N x (ye st) f cdv A outer s H E).nox E0 (qE st) g) :
  CalT P w K mg base (k+1) x ps (yi p n g):=
 ⟨D.ok Sc (ziO hp) fun f cdv A outer s H vs Q E hr h=>zgt hn rfl h (hb f cdv A outer s H E hr),zgI _ _ _⟩
theorem zqG{qual:Str}{f:Addr}{fd:FuncData}{k p:Nat}{g:X5}(F:Fun K x qual st f fd)(Sc:FnScope N ps (ye st))(hp:ps.length=p)(hn:N.length=n)
 (hb:∀(cdv:Value) (A:Around) (outer:List PySem.Env) (s:Shared) (H:Hp) (E:XK),Room k (A.deeper (envOfC qual (ye st) s.heap.objs.size f cdv))->GSs (zbS CX0 P w K mg base N qual (ye st) f cdv A outer s H E).nox E0 (qE st) g) :
  FnOk P w K mg base CX0 (k+1) f fd ps (spT K (yi p n g)):=
 F.ok Sc (ziO hp) fun cdv A outer s H vs Q E hr h=>zgt hn rfl h (hb cdv A outer s H E hr)
theorem zks{f:X4}{a:Addr}{ns:List Int}{M':Mem}(hS:SqL K H a (ns.map V.int))(h:f [.lst (ns.map .int)] [] = .ok (.bl true) M'):spT K f [.ref a] H (fun v _=>v = .bl true) fun _ _ _=>False:=by
 refine⟨⟨fun _=>0,[],H,[]⟩,[.lst (ns.map .int)],rfl,⟨fun a c e=>by simp at e,fun a b h=>absurd h (Nat.not_lt_zero _),fun p h=>by simp at h⟩,.cons (.lst (vs:=ns.map V.int) ?_ (by simp) ?_) .nil,?_⟩
 ·rcases hS with h | h
  ·exact .inl ⟨h,fun a h=>absurd h (Nat.not_lt_zero _),fun z=>by simp at z⟩
  ·exact .inr h
 ·intro i t v e1 e2;rw[Qb]at e1 e2;cases q:ns[i]? with|none=>rw[q]at e1;cases e1|some z=>rw[q]at e1 e2;cases e1;cases e2;exact .int z
 ·show Fin _ _ K _ (f [.lst (ns.map .int)] []) _;rw[h];intro S' c e s r;cases r;rfl
end
section
variable {k:Nat}{p:Pos}{F:X4}
end
inductive T.lt (n:Nat):T->Prop where
 |non:T.lt n .non
 |bl (b:Bool):T.lt n (.bl b)
 |int (i:Int):T.lt n (.int i)
 |str (x:Str):T.lt n (.str x)
 |ty (x:String):T.lt n (.ty x)
 |tup {ts:List T} (h:∀t ∈ ts,T.lt n t):T.lt n (.tup ts)
 |lst {ts:List T} (h:∀t ∈ ts,T.lt n t):T.lt n (.lst ts)
 |ref {a:Nat} (h:a<n):T.lt n (.ref a)
 |dct {kvs:List (Key × T)} (h:∀t ∈ kvs.map (·.2),T.lt n t):T.lt n (.dct kvs)
 |exc {C:Addr} {fs:List (Str × T)} (h:∀t ∈ fs.map (·.2),T.lt n t):T.lt n (.exc C fs)
noncomputable def Cell.lt(n:Nat):Cell->Prop
 |.lst ts=>∀t ∈ ts,T.lt n t|.dic kvs=>∀k ∈ kvs,T.lt n k.2|.ins _ fs=>∀k ∈ fs,T.lt n k.2|.dtu kvs=>∀k ∈ kvs,T.lt n k.2
inductive Fz (M':Mem) (n:Nat):T->T->Prop where
 |same {t:T} (h:T.lt n t):Fz M' n t t
 |tup {ts us:List T} (l:ts.length=us.length) (h:∀(i:Nat) t u,ts[i]? = some t->us[i]? = some u->Fz M' n t u):Fz M' n (.tup ts) (.tup us)
 |lst {ts us:List T} (l:ts.length=us.length) (h:∀(i:Nat) t u,ts[i]? = some t->us[i]? = some u->Fz M' n t u):Fz M' n (.lst ts) (.lst us)
 |ref {a:Nat} {ts us:List T} (e:M'[a]? = some (.lst ts)) (g:n<=a) (l:ts.length=us.length) (h:∀(i:Nat) t u,ts[i]? = some t->us[i]? = some u->Fz M' n t u):Fz M' n (.ref a) (.lst us)
theorem Rep.lt(r:Rep K S t v):T.lt S.M.length t:=by
 induction r with
 |non=>exact .non|bl b=>exact .bl b|int b=>exact .int b|str b=>exact .str b|ty b=>exact .ty b|@tup ts p vs h l _ ih=>refine .tup fun t ht=>?_;obtain⟨i,hi,rfl⟩:=getElem_of_mem ht;exact ih i _ vs[i] (by simp[hi]) (by simp[←l,hi])
 |@lst ts p vs h l _ ih=>refine .lst fun t ht=>?_;obtain⟨i,hi,rfl⟩:=getElem_of_mem ht;exact ih i _ vs[i] (by simp[hi]) (by simp[←l,hi])
 |ref h=>exact .ref h|@dct kvs us p o h l _ ih=>
  refine .dct fun t ht=>?_;obtain⟨i,hi,rfl⟩:=getElem_of_mem ht;have hl:i<us.length:=by have:=congrArg List.length l;simp at this hi;omega
  exact ih i _ (us[i]'hl).2 (Q0 hi) (by simp[hl])
 |@exc C fs us p od h hd l _ ih=>
  refine .exc fun t ht=>?_;obtain⟨i,hi,rfl⟩:=getElem_of_mem ht;have hl:i<us.length:=by have:=congrArg List.length l;simp at this hi;omega
  exact ih i _ (us[i]'hl).2 (Q0 hi) (by simp[hl])
theorem Reps.lt(r:Reps K S ts vs):∀t ∈ ts,T.lt S.M.length t:=fun t ht=>by
 obtain⟨i,hi,rfl⟩:=getElem_of_mem ht;have hv:i<vs.length:=by rw[←r.1];exact hi
 exact(r.2 i _ vs[i] (by simp[hi]) (by simp[hv])).lt
def zhy{κ:Type}{fs:List (κ × T)}(h:∀t ∈ fs.map (·.2),T.lt n t):∀k ∈ fs,T.lt n k.2:=fun k hk=>h _ (List.mem_map_of_mem (f:=(·.2)) hk)
theorem CellOk.lt{c:Cell}(h:CellOk K S p c):Cell.lt S.M.length c:=by cases c with|lst ts=>obtain⟨vs,_,r⟩:=h;exact r.lt|dic ts=>obtain⟨vs,_,r⟩:=h;exact zhy r.2.lt|ins C ts=>obtain⟨dx,vs,_,r⟩:=h;exact zhy r.2.lt|dtu ts=>obtain⟨vs,_,r⟩:=h;exact zhy r.2.lt
variable {m:Nat}
theorem T.lt.mono(h:n<=m)(r:T.lt n t):T.lt m t:=by induction r with|non=>exact .non|bl b=>exact .bl b|int b=>exact .int b|str b=>exact .str b|ty b=>exact .ty b|tup _ ih=>exact .tup ih|lst _ ih=>exact .lst ih|ref g=>exact .ref (Q5 g h)|dct _ ih=>exact .dct ih|exc _ ih=>exact .exc ih
noncomputable def Sit.cut(S:Sit)(n:Nat)(h:List Addr):Sit:=⟨S.α,S.M.take n,S.H,h⟩
variable {u:T}
section
theorem Rep.cut(hn:n<=S'.M.length)(sub:∀p ∈ hh,p ∈ S'.hid)(r:Rep K S' t v)(l:T.lt n t):Rep K (S'.cut n hh) t v:=by
 have ln:(S'.cut n hh).M.length=n:=by show(S'.M.take n).length=n;simp;omega
 induction r with
 |non=>exact .non|bl b=>exact .bl b|int b=>exact .int b|str b=>exact .str b|ty b=>exact .ty b|@tup ts p vs h l2 _ ih=>cases l with|tup hl=>exact .tup h l2 fun i t v e1 e2=>ih i t v e1 e2 (hl t (Qa e1))
 |@lst ts p vs h l2 _ ih=>
  cases l with
  |lst hl=>
   refine .lst ?_ l2 fun i t v e1 e2=>ih i t v e1 e2 (hl t (Qa e1));rcases h with⟨h,f⟩ | h
   ·exact .inl ⟨h,fun a ha z=>f.1 a (by rw[ln]at ha;omega) z,fun z=>f.2 (sub _ z)⟩
   ·exact .inr h
 |@ref a h=>cases l with|ref hl=>exact .ref (S:=S'.cut n hh) (by rw[ln];exact hl)
 |dct h l2 _ ih=>cases l with|dct hl=>exact .dct (S:=S'.cut n hh) h l2 fun i t v e1 e2=>ih i t v e1 e2 (hl t (Qa e1))
 |exc h hd l2 _ ih=>cases l with|exc hl=>exact .exc (S:=S'.cut n hh) h hd l2 fun i t v e1 e2=>ih i t v e1 e2 (hl t (Qa e1))
def Reps.cut(hn:n<=S'.M.length)(sub:∀p ∈ hh,p ∈ S'.hid){t:List T}{v:List V}(r:Reps K S' t v)(l:∀x ∈ t,T.lt n x):Reps K (S'.cut n hh) t v:=⟨r.1,fun i t v e1 e2=>(r.2 i t v e1 e2).cut hn sub (l t (Qa e1))⟩
theorem CellOk.cut(hn:n<=S'.M.length)(sub:∀p ∈ hh,p ∈ S'.hid){c:Cell}(r:CellOk K S' p c)(l:Cell.lt n c):CellOk K (S'.cut n hh) p c:=by
 have ms:∀{κ:Type} {fs:List (κ × T)},(∀k ∈ fs,T.lt n k.2)->∀t ∈ fs.map (·.2),T.lt n t:=fun h t ht=>by obtain⟨k,hk,rfl⟩:=mem_map.mp ht;exact h k hk
 cases c with|lst ts=>obtain⟨vs,q,r⟩:=r;exact⟨vs,q,r.cut hn sub l⟩|dic ts=>obtain⟨vs,q,r⟩:=r;exact⟨vs,q,r.1,r.2.cut hn sub (ms l)⟩|ins C ts=>obtain⟨dx,vs,q,r⟩:=r;exact⟨dx,vs,q,r.1,r.2.cut hn sub (ms l)⟩|dtu ts=>obtain⟨vs,q,r⟩:=r;exact⟨vs,q,r.1,r.2.cut hn sub (ms l)⟩
theorem Stp.cut(s:Stp K S S')(h1:S.M.length<=n)(h2:n<=S'.M.length)(hl:∀(i:Nat) c,i<n->S'.M[i]? = some c->Cell.lt n c):Stp K S (S'.cut n S.hid):=by
 have sub:∀p ∈ S.hid,p ∈ S'.hid:=fun p h=>(s.hk p h).1;have ln:(S'.cut n S.hid).M.length=n:=by show(S'.M.take n).length=n;simp;omega
 refine⟨⟨by rw[ln];exact h1,s.al,fun a g1 g2=>s.fr a g1 (by rw[ln]at g2;omega),s.kp,fun p h=>⟨h,(s.hk p h).2⟩,fun p h=>.inl h⟩,⟨fun a c e=>?_,fun a b g1 g2 e=>s.mok.inj a b (by rw[ln]at g1;omega) (by rw[ln]at g2;omega) e,fun p h=>?_⟩⟩
 ·have e':(S'.M.take n)[a]? = some c:=e;rw[getElem?_take]at e';split at e'
  ·rename_i hi;exact(s.mok.cell a c e').cut h2 sub (hl a c hi e')
  ·cases e'
 ·obtain⟨g1,vs,g2⟩:=s.mok.hd p (sub p h);exact⟨fun a ha z=>g1 a (by rw[ln]at ha;omega) z,vs,g2⟩
theorem Rep.fz(m:MemOk K S')(hn:n<=S'.M.length)(sub:∀p ∈ hh,p ∈ S'.hid)(z:Fz S'.M n t u):∀{v:V},Rep K S' t v->Rep K (S'.cut n hh) u v:=by
 have ln:(S'.cut n hh).M.length=n:=by show(S'.M.take n).length=n;simp;omega
 induction z with
 |same h=>exact fun r=>r.cut hn sub h|@tup ts us l _ ih=>
  intro v r;cases r with
  |@tup _ p vs h l2 rr=>
   refine .tup h (by rw[←l];exact l2) fun i t v e1 e2=>?_;have hi:i<ts.length:=by rw[l];exact(Qy.mp e1).1
   exact ih i ts[i] t (by simp[hi]) e1 (rr i _ v (by simp[hi]) e2)
 |@lst ts us l _ ih=>
  intro v r;cases r with
  |@lst _ p vs h l2 rr=>
   refine .lst ?_ (by rw[←l];exact l2) fun i t v e1 e2=>?_
   ·rcases h with⟨h,f⟩ | h
    ·exact .inl ⟨h,fun a ha z=>f.1 a (by rw[ln]at ha;omega) z,fun z=>f.2 (sub _ z)⟩
    ·exact .inr h
   ·have hi:i<ts.length:=by rw[l];exact(Qy.mp e1).1
    exact ih i ts[i] t (by simp[hi]) e1 (rr i _ v (by simp[hi]) e2)
 |@ref a ts us e g l _ ih=>
  intro v r;cases r with
  |ref ha=>
   obtain⟨vs,q,rr⟩:=m.cell a _ e;refine .lst (vs:=vs) (.inl ⟨.inl q,fun b hb z=>?_,fun z=>?_⟩) (by rw[←l];exact rr.1) fun i t v e1 e2=>?_
   ·rw[ln]at hb;have:=m.inj b a ⋯ ha z;omega
   ·exact(m.hd _ (sub _ z)).1 a ha rfl
   ·have hi:i<ts.length:=by rw[l];exact(Qy.mp e1).1
    exact ih i ts[i] t (by simp[hi]) e1 (rr.2 i _ v (by simp[hi]) e2)
end
def Refines(f g:X4):Prop:=∀ts M t' M1,(∀c ∈ M,Cell.lt M.length c)->f ts M = .ok t' M1->∃t M',g ts M = .ok t M'/\M.length<=M1.length/\M1.length<=M'.length/\M1=M'.take M1.length/\(∀(i:Nat) c,M1[i]? = some c->M[i]? = some c\/Cell.lt M1.length c)/\Fz M' M1.length t t'
theorem Cell.lt.mono(h:n<=m){c:Cell}(r:Cell.lt n c):Cell.lt m c:=by cases c with|lst ts=>exact fun t ht=>(r t ht).mono h|dic ts=>exact fun t ht=>(r t ht).mono h|ins C ts=>exact fun t ht=>(r t ht).mono h|dtu ts=>exact fun t ht=>(r t ht).mono h
theorem CalT.refine{k:Nat}{f g:X4}(C:CalT P w K mg base k x ps g)(h:Refines f g)(nox:∀ts M C fs M',f ts M ≠ .exn C fs M'):CalT P w K mg base k x ps f:=by
 refine⟨?_,nox⟩;obtain⟨⟨fa,fd,F,kp,b,gg⟩⟩:=C.cal;have key:∀vs H Q E,spT K f vs H Q E->spT K g vs H Q E:=by
  rintro vs H Q E ⟨S,ts,e,m,r,ξ⟩;refine⟨S,ts,e,m,r,?_⟩;have wf:∀c ∈ S.M,Cell.lt S.M.length c:=fun c hc=>by obtain⟨i,hi,rfl⟩:=getElem_of_mem hc;exact(m.cell i _ (by simp[hi])).lt
  cases o:f ts S.M with
  |bad=>rw[o]at ξ;exact ξ.elim|exn C' fs M'=>exact absurd o (nox _ _ _ _ _)|ok t' M1=>
   rw[o]at ξ;obtain⟨t,M',eg,l1,l2,eM,hc,z⟩:=h ts S.M t' M1 wf o;rw[eg];intro S' v e1 s r1;have hl:∀(i:Nat) c,i<M1.length->S'.M[i]? = some c->Cell.lt M1.length c:=fun i c hi ec=>by
    have e2:M1[i]? = some c:=by rw[eM,getElem?_take,Qz hi,←e1];exact ec
    rcases hc i c e2 with q | q
    ·exact(wf c (Qa q)).mono l1
    ·exact q
   have sc:=s.cut l1 (by rw[e1];exact l2) hl;refine ξ (S'.cut M1.length S.hid) v ?_ sc ?_
   ·show S'.M.take M1.length=M1;rw[e1];exact eM.symm
   ·exact Rep.fz s.mok (by rw[e1];exact l2) (fun p h=>(s.hk p h).1) (by rw[e1];exact z) r1
 refine⟨⟨fa,fd,⟨fun vs H Q E q=>F.len vs H Q E (key _ _ _ _ q),?_⟩,kp,b,gg⟩⟩;intro A outer s H args us vs Q E hr h0 hb hv hq;exact F.run A outer s H args us vs Q E hr h0 hb hv (key _ _ _ _ hq)
noncomputable def qC(t:T)(M:Mem):Option (List T):=match t with
 |.lst xs=>some xs|.ref a=>match M[a]? with
  |some (.lst xs)=>some xs|_=>none
 |_=>none
noncomputable def ziR(t:T):Option (List T):=match t with
 |.lst xs=>some xs|.tup xs=>some xs|_=>none
noncomputable def zX(t:T)(M:Mem):Option (List T):=match t with
 |.tup xs=>some xs|t=>qC t M
section
theorem zdk(h:(Rd S.H p (.lst vs)/\S.off p)\/KL K p vs):SqL K S.H p vs:=by
 rcases h with⟨h,_⟩ | h
 ·exact .inl h
 ·exact .inr h
theorem qJ(m:MemOk K S)(r:Rep K S t v)(e:qC t S.M=some xs):∃p vs,v = .ref p/\SqL K S.H p vs/\Reps K S xs vs:=by
 cases r with
 |@lst ts p vs h l r=>cases e;exact⟨p,vs,rfl,zdk h,l,r⟩|@ref a h=>
  unfold qC at e;dsimp only at e;split at e
  ·rename_i ys q;cases e;obtain⟨vs,q2,r2⟩:=m.cell a _ q;exact⟨_,vs,rfl,.inl (.inl q2),r2⟩
  ·cases e
 |_=>cases e
theorem zbW(m:MemOk K S)(r:Rep K S t v)(e:zX t S.M=some xs):∃p vs,v = .ref p/\(SqL K S.H p vs\/SqT K S.H p vs)/\Reps K S xs vs:=by
 cases t with
 |tup ts=>cases e;cases r with|@tup _ p vs h l r=>exact⟨p,vs,rfl,.inr h,l,r⟩
 |lst ts=>obtain⟨p,vs,e1,h,r2⟩:=qJ m r e;exact⟨p,vs,e1,.inl h,r2⟩|ref a=>obtain⟨p,vs,e1,h,r2⟩:=qJ m r e;exact⟨p,vs,e1,.inl h,r2⟩|_=>cases e
end
noncomputable def zaE(f:X8):X1:=fun σ M=>(f σ M).bind fun t M1=>match ziR t with
 |some xs=>.ok xs M1|none=>.bad
noncomputable def ze4(lo:Int)(n:Nat):List T:=(List.range n).map fun (k:Nat)=>T.int (lo+(k:Int))
noncomputable def zge(ts:List T)(M1:Mem):Out (List T):=match ts with
 |[.int j]=>@ite _ (-(2 ^ 62)<=j/\j<2 ^ 62) (Classical.propDecidable _) (.ok (ze4 0 j.toNat) M1) .bad|_=>.bad
noncomputable def zsV(ts:List T)(M1:Mem):Out (List T):=match ts with
 |[.int i,.int j]=>@ite _ ((-(2 ^ 62)<=i/\i<2 ^ 62)/\(-(2 ^ 62)<=j/\j<2 ^ 62)) (Classical.propDecidable _) (.ok (ze4 i (j-i).toNat) M1) .bad|_=>.bad
noncomputable def y9(f:X1):X1:=fun σ M=>(f σ M).bind fun ts M1=>zge ts M1
noncomputable def ztu(f:X1):X1:=fun σ M=>(f σ M).bind fun ts M1=>zsV ts M1
theorem znm(K:Frag)(S:Sit)(lo:Int)(n:Nat):zdY K S (ze4 lo n) (Itr lo n):=fun S' s=>by
 refine⟨fun i t e=>?_,fun i h=>?_⟩
 ·unfold ze4 at e;rw[Qb]at e;cases q:(List.range n)[i]? with
  |none=>rw[q]at e;cases e|some k=>
   rw[q]at e;cases e;have hi:i<n:=by have:=(Qy.mp q).1;simpa using this
   have hk:k=i:=by rw[getElem?_range hi]at q;exact(Qd q).symm
   subst hk;refine⟨hi,fun x H' hy=>?_⟩;obtain⟨e1,e2⟩:=hy;exact⟨S',e1.symm,rfl,.refl s.mok,by rw[e2];exact .int _⟩
 ·show n<=i
  simpa[ze4]using h
section
variable {a b c:Expr}{h:X8}{p:Pos}
theorem zrc(he:GE X Z e f):GI X Z tg e (zaE f):=PI.imp (PI.or (zke he) (zqe he)) fun σ H R h9=>by
 obtain⟨S,στ,_,e,m,ev,_,ξ⟩:=h9;replace ξ:Fin Z (zdY X.K) X.K S ((f στ S.M).bind fun t M1=>match ziR t with | some xs=>.ok xs M1 | none=>.bad) R:=ξ;cases o:f στ S.M with
 |bad=>rw[o]at ξ;exact ξ.elim|exn C fs M'=>rw[o]at ξ;refine .inl ⟨S,στ,(),e,m,ev,trivial,?_⟩;show Fin Z (Rep X.K) X.K S (f στ S.M) _;rw[o];exact ξ
 |ok t M1=>
  rw[o]at ξ;cases t with
  |lst ts=>
   refine .inl ⟨S,στ,(),e,m,ev,trivial,?_⟩;show Fin Z (Rep X.K) X.K S (f στ S.M) _;rw[o];intro S1 v e1 s1 r1;cases r1 with
   |@lst _ p vs h l r=>
    have r1:Reps X.K S1 ts vs:=⟨l,r⟩;refine⟨p,rfl,⟨vs,zdk h⟩,ξ S1 _ e1 s1 fun S3 s3=>?_⟩;have g3:SqL X.K S3.H p vs:=by
     rcases h with⟨h2,f2⟩ | h2
     ·exact .inl (s3.toGrow.rd h2 f2).1
     ·exact .inr h2
    refine⟨fun i t et=>?_,fun i hi=>⟨vs,g3,by rw[←l];exact hi⟩⟩;obtain⟨v2,ev3,r3⟩:=r1.get et;refine⟨⟨vs,v2,g3,ev3⟩,fun x H' hy=>?_⟩;obtain⟨ey,hy⟩:=hy;have:=hy vs g3;rw[ev3]at this;cases this;exact⟨S3,ey.symm,rfl,.refl s3.mok,r3.grow s1.mok s3.toGrow⟩
  |tup ts=>
   refine .inr ⟨S,στ,(),e,m,ev,trivial,?_⟩;show Fin Z (Rep X.K) X.K S (f στ S.M) _;rw[o];intro S1 v e1 s1 r1;cases r1 with
   |@tup _ p vs h l r=>have r1:Reps X.K S1 ts vs:=⟨l,r⟩;refine⟨p,rfl,⟨vs,h⟩,ξ S1 _ e1 s1 fun S3 s3=>?_⟩;have g3:SqT X.K S3.H p vs:=s3.toGrow.tup s1.mok h;refine⟨fun i t et=>?_,fun i hi=>⟨vs,g3,by rw[←l];exact hi⟩⟩;obtain⟨v2,ev3,r3⟩:=r1.get et;refine⟨⟨vs,v2,g3,ev3⟩,fun x H' hy=>?_⟩;obtain⟨ey,hy⟩:=hy;have:=hy vs g3;rw[ev3]at this;cases this;exact⟨S3,ey.symm,rfl,.refl s3.mok,r3.grow s1.mok s3.toGrow⟩
  |_=>exact ξ.elim
end
noncomputable def yA(bd:T->X7)(cond:X6)(el:X8):List T->Ev->Mem->List T->Out (List T)
 |[],_,M,acc=>.ok acc M|x::xs,σ,M,acc=>(bd x σ M).bind fun σ1 M1=>(cond σ1 M1).bind fun b M2=>if b=true then(el σ1 M2).bind fun t M3=>if acc.length<sizeLine then yA bd cond el xs σ1 M3 (acc++[t])else .bad else yA bd cond el xs σ1 M2 acc
noncomputable def zce(tgs:List Str)(ζ:List (Str × Nat))(σ:Ev):Ev:=tgs.map (fun _=>none)++ζ.map fun c=>(σ[c.2]?).join
noncomputable def yX(it:X1)(bd:T->X7)(cond:X6)(el:X8)(tgs:List Str)(ζ:List (Str × Nat)):X1:=fun σ M=>(it σ M).bind fun xs M1=>yA bd cond el xs (zce tgs ζ σ) M1 []
noncomputable def qK:X6:=fun _ M=>.ok true M
theorem EvR.cap(r:EvR K S στ σ)(tgs:List Str)(ζ:List (Str × Nat)):EvR K S (zce tgs ζ στ) (zba tgs ζ σ):=by
 refine⟨by simp[zce,zba],fun i t e=>?_⟩;unfold zce at e;unfold zba
 by_cases hi:i<tgs.length
 ·rw[Q6 (by simpa using hi)]at e;rw[Qb]at e;cases q:tgs[i]? with|none=>rw[q]at e;cases e|some x=>rw[q]at e;cases e
 ·rw[Q8 (by simpa using hi),Qb]at e;rw[Q8 (by simpa using hi),Qb];simp only[Qh]at e ⊢;cases q:ζ[i-tgs.length]? with
  |none=>rw[q]at e;cases e|some cq=>
   rw[q]at e;have e2:(στ[cq.2]?).join=some t:=Qd e;have e3:στ[cq.2]? = some (some t):=by
    cases q2:στ[cq.2]? with
    |none=>rw[q2]at e2;cases e2|some o=>rw[q2]at e2;cases o with|none=>cases e2|some v'=>rw[show v'=t from Qd e2]
   obtain⟨v,e4,r4⟩:=r.2 _ _ e3;exact⟨v,by show some ((σ[cq.2]?).join)=_;rw[e4];rfl,r4⟩
noncomputable def Sit.hput(S:Sit)(p:Addr)(vs:List V):Sit:=⟨S.α,S.M,upd S.H p (.lst vs),S.hid⟩
section
variable {S0:Sit}{us:List V}
theorem Rep.hput(m:MemOk K S)(hp:p ∈ S.hid)(r:Rep K S t v):Rep K (S.hput p us) t v:=by
 obtain⟨_,ws,ew⟩:=m.hd p hp
 induction r with
 |non=>exact .non|bl b=>exact .bl b|int b=>exact .int b|str b=>exact .str b|ty b=>exact .ty b|@tup ts q vs h l _ ih=>
  refine .tup ?_ l ih;rcases h with (h | ⟨o,h⟩) | h
  ·exact .inl (.inl ((zi (zfw h ew (by intro z;cases z))).trans h))
  ·exact .inl (.inr ⟨o,(zi (zfw h ew (by intro z;cases z))).trans h⟩)
  ·exact .inr h
 |@lst ts q vs h l _ ih=>
  refine .lst ?_ l ih;rcases h with⟨h,f⟩ | h
  ·have hne:q ≠ p:=fun z=>f.2 (by rw[z];exact hp);refine .inl ⟨?_,f⟩;rcases h with h | ⟨o,h⟩
   ·exact .inl ((zi hne).trans h)
   ·exact .inr ⟨o,(zi hne).trans h⟩
  ·exact .inr h
 |ref h=>exact .ref (S:=S.hput p us) h|dct h l _ ih=>exact .dct (S:=S.hput p us) ((zi (zfw h ew (by intro z;cases z))).trans h) l ih|exc h hd l _ ih=>exact .exc (S:=S.hput p us) ((zi (zfw h ew (by intro z;cases z))).trans h) (hd.imp (fun z=>z) fun ⟨d,a,b⟩=>⟨d,a,(zi (zfw b ew (by intro z;cases z))).trans b⟩) l ih
def Reps.hput(m:MemOk K S)(hp:p ∈ S.hid){t:List T}{v:List V}(r:Reps K S t v):Reps K (S.hput p us) t v:=⟨r.1,fun i a b e1 e2=>(r.2 i a b e1 e2).hput m hp⟩
theorem CellOk.hput(m:MemOk K S)(hp:p ∈ S.hid){c:Cell}(hq:q ≠ p)(r:CellOk K S q c):CellOk K (S.hput p us) q c:=by cases c with|lst ts=>obtain⟨vs,q,r⟩:=r;exact⟨vs,(zi hq).trans q,r.hput m hp⟩|dic ts=>obtain⟨vs,q,r⟩:=r;exact⟨vs,(zi hq).trans q,r.1,r.2.hput m hp⟩|ins C ts=>obtain⟨dx,vs,q,r⟩:=r;exact⟨dx,vs,(zi hq).trans q,r.1,r.2.hput m hp⟩|dtu ts=>obtain⟨vs,q,r⟩:=r;exact⟨vs,(zi hq).trans q,r.1,r.2.hput m hp⟩
theorem Stp.hput(s:Stp K S0 S)(hp:p ∈ S.hid)(hn:S0.H p=none)(m0:MemOk K S0):Stp K S0 (S.hput p us):=by
 refine⟨⟨s.le,s.al,s.fr,fun b o e f=>(zi (yC e hn)).trans (s.kp b o e f),fun q h=>⟨(s.hk q h).1,?_⟩,s.hf⟩,⟨fun a c e=>?_,s.mok.inj,fun q h=>?_⟩⟩
 ·obtain⟨_,vs,e⟩:=m0.hd q h;exact(zi (yC e hn)).trans (s.hk q h).2
 ·exact(s.mok.cell a c e).hput s.mok hp ((s.mok.hd p hp).1 a (Qy.mp e).1)
 ·obtain⟨h1,vs,e⟩:=s.mok.hd q h;refine⟨h1,?_⟩
  by_cases z:q=p
  ·exact⟨us,by show upd S.H p _ q=_;rw[z];exact qu⟩
  ·exact⟨vs,(zi z).trans e⟩
end
structure CB (X:Cx) (scope:Scope) (cl:List (Str × Addr)) (ζ:List (Str × Nat)):Prop where
 hc:X.calm=true
 hclos:closureFor scope X.env=pure cl
 hcell:∀y ∈ scope.names,y.2 = .cell->y.1 ∉ ζ.map (·.1)
 hkind:scope.kind = .function
 hnames:∀y ∈ scope.names,y.2 = .local->scope.names.lookup y.1=some .local
 hcl:∀y c,cl.lookup y=some c->X.env.cells.lookup y=some c
 hhas:∀n y,((relabel scope X.env).names.lookup y=some .cell\/(relabel scope X.env).names.lookup y=some .free)->∃c,(cellsFrom n scope.names cl).lookup y=some c
 hcap:∀c ∈ ζ,X.N[c.2]? = some c.1/\X.env.kindOf c.1=some .cell/\((relabel scope X.env).names.lookup c.1=some .cell\/(relabel scope X.env).names.lookup c.1=some .free)
variable {cond:X6}{elt:Expr}{cl:List (Str × Addr)}{ζ:List (Str × Nat)}{ifs:List Expr}{tgs:List Str}{scope:Scope}
section
theorem zjr(hh:lL Z X.K (yX ga bd cond f tgs ζ) σ H Q) :
  zit (lI Z X.K ga) (lG Z X.K bd) (lT Z X.K cond) (lE Z X.K f) (zba tgs ζ) σ H Q:=by
 obtain⟨S,στ,e,m,ev,ξ⟩:=hh;replace ξ:FinL Z X.K S ((ga στ S.M).bind fun xs M1=>yA bd cond f xs (zce tgs ζ στ) M1 []) Q:=ξ;refine⟨S,στ,(),e,m,ev,trivial,?_⟩;show Fin Z (zdY X.K) X.K S (ga στ S.M) _;cases o:ga στ S.M with
 |bad=>rw[o]at ξ;exact ξ|exn C fs M'=>rw[o]at ξ;exact ξ|ok items M1=>
  rw[o]at ξ;replace ξ:FinL Z X.K S (yA bd cond f items (zce tgs ζ στ) M1 []) Q:=ξ;intro S0 J e0 s0 it0 D hD;have m0:=s0.mok;have fin0:=ξ.later s0;have s1:=Stp.hide (K:=X.K) m0 hD [];refine⟨fun i n σ' H'=>∃S στ acc vs,S.H=H'/\EvR X.K S στ σ'/\n=items.length-i/\i<=items.length/\D ∈ S.hid/\S.H D=some (.lst vs)/\Reps X.K S acc vs/\Stp X.K S0 S/\FinL Z X.K S0 (yA bd cond f (items.drop i) στ S.M acc) Q,
   ⟨items.length-0,S0.hide D [],zce tgs ζ στ,[],[],rfl,(Mo.mo (K:=X.K) m0 s1 (Mo.mo (K:=X.K) m s0 ev)).cap tgs ζ,rfl,Nat.zero_le _,.head _,qu,.nil,s1,by show FinL Z X.K S0 (yA bd cond f items (zce tgs ζ στ) S0.M []) Q;rw[e0];exact fin0⟩,?_⟩
  rintro i n σ1 H1 ⟨S2,στ2,acc,vs,e2,ev2,en,hi2,hid2,hD2,racc,s2,fin2⟩;subst e2;have m2:=s2.mok;obtain⟨itg,its⟩:=it0 S2 s2
  by_cases hl:i<items.length
  ·have eq:items.drop i=items[i]::items.drop (i+1):=List.drop_eq_getElem_cons hl;rw[eq]at fin2;obtain⟨go,yl⟩:=itg i items[i] (by simp[hl]);refine .inr ⟨go,fun σ' H'=>∃S στ acc vs,S.H=H'/\EvR X.K S στ σ'/\D ∈ S.hid/\S.H D=some (.lst vs)/\Reps X.K S acc vs/\Stp X.K S0 S/\FinL Z X.K S0 (yA bd cond f (items.drop (i+1)) στ S.M acc) Q,?_,fun x H' hy=>?_⟩
   ·rintro σ' H' ⟨S,στ,acc,vs,a1,a2,a3,a4,a5,a6,a7⟩;exact⟨items.length-(i+1),⋯,S,στ,acc,vs,a1,a2,rfl,hl,a3,a4,a5,a6,a7⟩
   ·obtain⟨S3,e3,eM,s3,r3⟩:=yl x H' hy;replace fin2:FinL Z X.K S0 ((bd items[i] στ2 S2.M).bind fun σ1 M1=>(cond σ1 M1).bind fun b M2=>if b=true then(f σ1 M2).bind fun t M3=>if acc.length<sizeLine then yA bd cond f (items.drop (i+1)) σ1 M3 (acc++[t])else .bad else yA bd cond f (items.drop (i+1)) σ1 M2 acc) Q:=fin2;refine⟨S3,στ2,items[i],e3,s3.mok,Mo.mo m2 s3 ev2,r3,?_⟩;show Fin Z (EvR X.K) X.K S3 (bd items[i] στ2 S3.M) _;rw[eM];cases o1:bd items[i] στ2 S2.M with
    |bad=>rw[o1]at fin2;exact fin2|exn C fs M'=>rw[o1]at fin2;exact fun S' od a1 a2 a3=>fin2 S' od a1 ((s2.trans s3).trans a2) a3|ok σ4 M4=>
     rw[o1]at fin2;intro S4 σ4v e4 s4 ev4;have t4:=s3.trans s4;replace fin2:FinL Z X.K S0 ((cond σ4 M4).bind fun b M2=>if b=true then(f σ4 M2).bind fun t M3=>if acc.length<sizeLine then yA bd cond f (items.drop (i+1)) σ4 M3 (acc++[t])else .bad else yA bd cond f (items.drop (i+1)) σ4 M2 acc) Q:=fin2;refine⟨S4,σ4,(),rfl,s4.mok,ev4,trivial,?_⟩;show Fin Z EqR X.K S4 (cond σ4 S4.M) _;rw[e4];cases o2:cond σ4 M4 with
     |bad=>rw[o2]at fin2;exact fin2|exn C fs M'=>rw[o2]at fin2;exact fun S' od a1 a2 a3=>fin2 S' od a1 ((s2.trans t4).trans a2) a3|ok b M5=>
      rw[o2]at fin2;intro S5 b5 e5 s5 eb;have eb':b=b5:=eb;subst eb';have t5:=t4.trans s5;replace fin2:FinL Z X.K S0 (if b=true then(f σ4 M5).bind fun t M3=>if acc.length<sizeLine then yA bd cond f (items.drop (i+1)) σ4 M3 (acc++[t])else .bad else yA bd cond f (items.drop (i+1)) σ4 M5 acc) Q:=fin2;cases b with
      |false=>rw[QA Q4]at fin2;refine(QA Q4).mpr ⟨S5,σ4,acc,vs,rfl,Mo.mo s4.mok s5 ev4,(t5.hk D hid2).1,by rw[(t5.hk D hid2).2];exact hD2,racc.grow m2 t5.toGrow,s2.trans t5,by rw[e5];exact fin2⟩
      |true=>
       rw[Qz rfl]at fin2;refine(Qz rfl).mpr ⟨S5,σ4,(),rfl,s5.mok,Mo.mo s4.mok s5 ev4,trivial,?_⟩;show Fin Z (Rep X.K) X.K S5 (f σ4 S5.M) _;rw[e5];cases o3:f σ4 M5 with
       |bad=>rw[o3]at fin2;exact fin2|exn C fs M'=>rw[o3]at fin2;exact fun S' od a1 a2 a3=>fin2 S' od a1 ((s2.trans t5).trans a2) a3|ok t M6=>
        rw[o3]at fin2;replace fin2:FinL Z X.K S0 (if acc.length<sizeLine then yA bd cond f (items.drop (i+1)) σ4 M6 (acc++[t])else .bad) Q:=fin2;intro S6 v6 e6 s6 r6;have t6:=t5.trans s6;have hz:acc.length<sizeLine:=by
         by_cases hz:acc.length<sizeLine
         ·exact hz
         ·rw[QA hz]at fin2;exact fin2.elim
        rw[Qz hz]at fin2;have hid6:=(t6.hk D hid2).1;have hD6:S6.H D=some (.lst vs):=by rw[(t6.hk D hid2).2];exact hD2
        refine⟨vs,hD6,by rw[←racc.1];exact hz,S6.hput D (vs++[v6]),σ4,acc++[t],vs++[v6],rfl,?_,hid6,qu,?_,(s2.trans t6).hput hid6 hD m0,by show FinL Z X.K S0 (yA bd cond f (items.drop (i+1)) σ4 S6.M (acc++[t])) Q;rw[e6];exact fin2⟩
        ·have ev6:EvR X.K S6 σ4 σ4v:=Mo.mo s4.mok (s5.trans s6) ev4;exact⟨ev6.1,fun i t e=>let ⟨v,e',q⟩:=ev6.2 i t e;⟨v,e',q.hput s6.mok hid6⟩⟩
        ·exact((racc.grow m2 t6.toGrow).app (.cons r6 .nil)).hput s6.mok hid6
  ·rw[List.drop_eq_nil_of_le ⋯]at fin2;refine .inl ⟨its i ⋯,?_⟩;exact fin2 S2 D vs rfl s2 hD hid2 hD2 racc
def zpa:PTs X [] (lT Z X.K qK):=fun ρ s σ H Q I h=>zor ρ s σ H Q I (ziy h)
def zo9{c:Expr}(h:GT X Z c tf):PTs X [c] (lT Z X.K tf):=zoq h
end
def LNL{A AV:Type}(Z:XK)(K:Frag)(RA:Sit->A->AV->Prop)(k:A->X1)(av:AV)(σ:L2.St)(H:Hp)(Q:VK):Prop:=
 ∃(S:Sit) (στ:Ev) (a:A),S.H=H/\MemOk K S/\EvR K S στ σ/\RA S a av/\FinL Z K S (k a στ S.M) Q
theorem LNL.bind{A AV B BV:Type}{RA:Sit->A->AV->Prop}{RB:Sit->B->BV->Prop}[Mo K RA]{f:A->Ev->Mem->Out B}{k:A->B->X1}{av:AV} 
 (h:LNL Z K RA (fun a σ M=>(f a σ M).bind fun b M1=>k a b σ M1) av σ H Q):LN Z RB K RA f av σ H (fun bv H1=>LNL Z K (PrR RA RB) (fun ab=>k ab.1 ab.2) (av,bv) σ H1 Q):=by
 obtain⟨S,στ,a,e,m,ev,ra,ξ⟩:=h;refine⟨S,στ,a,e,m,ev,ra,?_⟩;replace ξ:FinL Z K S ((f a στ S.M).bind fun b M1=>k a b στ M1) Q:=ξ;cases q:f a στ S.M with
 |bad=>rw[q]at ξ;exact ξ|exn C fs M'=>rw[q]at ξ;exact ξ|ok b M1=>rw[q]at ξ;intro S1 c e1 s1 r1;refine⟨S1,στ,(a,b),rfl,s1.mok,Mo.mo m s1 ev,⟨Mo.mo m s1 ra,r1⟩,?_⟩;rw[e1];exact ξ.later s1
def L0L{A AV:Type}(Z:XK)(K:Frag)(RA:Sit->A->AV->Prop)(k:A->Mem->Out (List T))(av:AV)(H:Hp)(Q:VK):Prop:=∃(S:Sit) (a:A),S.H=H/\MemOk K S/\RA S a av/\FinL Z K S (k a S.M) Q
noncomputable def znk(Z:XK)(K:Frag)(o:List T->Mem->Out (List T)):List V->Hp->VK->Prop:=fun xs H Q=>L0L Z K (Reps K) o xs H Q
noncomputable def lOp(o:T->T->Mem->Out (List T))(f g:X8):X1:=fun σ M=>(f σ M).bind fun x M1=>(g σ M1).bind fun y M2=>o x y M2
noncomputable def ziz(F:List T->Mem->Out (List T))(g:X1):X1:=fun σ M=>(g σ M).bind fun ts M1=>F ts M1
theorem znd(m:MemOk K S)(ξ:FinL Z K S (.ok xs S.M) Q)(r:Reps K S xs vs):∀p,S.H p=none->Q (.ref p) (upd S.H p (.lst vs)):=fun p hp=>ξ (S.hide p vs) p vs rfl (Stp.hide m hp vs) hp (.head _) qu (r.grow m (Stp.hide m hp vs).toGrow)
section
variable {a b:Expr}{p:Pos}
end
noncomputable def zaD(k:Int->Int->Mem->Out T)(x y:T)(M:Mem):Out T:=match x,y with
 |.int i,.int j=>k i j M|_,_=>.bad
def Mo64(i j:Int):Prop:=(i.natAbs<10 ^ 3000/\j.natAbs<10 ^ 3000)\/(-(2 ^ 64)<i/\i<2 ^ 64)\/(-(2 ^ 64)<j/\j<2 ^ 64)
instance (i j:Int):Decidable (Mo64 i j):=inferInstanceAs (Decidable (_\/_))
variable {i j:Int}
theorem Mo64.ok(h:Mo64 i j):CMulB i j:=by
 rcases h with h | h
 ·exact .inl ⟨3000,3000,h.1,h.2,Q3 _,Q3 _⟩
 ·exact .inr h
noncomputable section
def zdX:X3:=zaD fun i j M=>.ok (.int (i+j)) M
def zaA:X3:=zaD fun i j M=>.ok (.int (i-j)) M
def zi8:X3:=zaD fun i j M=>if Mo64 i j then .ok (.int (i*j)) M else .bad
def zcQ:X3:=zaD fun i j M=>if j ≠ 0/\j.natAbs<10 ^ 2000 then .ok (.int (i.fdiv j)) M else .bad
def zbR:X3:=zaD fun i j M=>if j ≠ 0 then .ok (.int (i.fmod j)) M else .bad
def zdU:X3:=zaD fun i j M=>if 0<=j/\j<=1000000/\i.natAbs<2 ^ 64 then .ok (.int (i ^ j.toNat)) M else .bad
def ltI:X3:=zaD fun i j M=>.ok (.bl (decide (i<j))) M
def leI:X3:=zaD fun i j M=>.ok (.bl (decide (i<=j))) M
def gtI:X3:=zaD fun i j M=>.ok (.bl (decide (j<i))) M
def geI:X3:=zaD fun i j M=>.ok (.bl (decide (j<=i))) M
end
noncomputable def zi7:T->Mem->Out T:=fun x M=>match x with
 |.int i=>.ok (.int (-i)) M|_=>.bad
variable {y:V}{F:Value}
section
theorem zkb(r:Rep K S (.int i) v):v = .int i:=by cases r;rfl
theorem zbZ{fn:Value->Value->Sem Value}{r:R2}{k:Int->Int->Mem->Out T}(ho:OpR X fn r)
  (h:∀i j S Q,MemOk X.K S->Fin Z (Rep X.K) X.K S (k i j S.M) Q->r (.int i) (.int j) S.H Q):OpR X fn (lR2 Z X.K (zaD k)):=by
 injections
 replace ξ:Fin Z (Rep X.K) X.K S (zaD k tx ty S.M) Q:=ξ;unfold zaD at ξ;rw?
 ·have e1:=zkb r1;have e2:=zkb r2;dsimp only at e1 e2;subst e1;subst e2;subst e
  exact ho ρ s σ S.H _ _ v u Q I rx ry (h _ _ S Q m ξ)
 ·simp?
def qO:OpR X (binaryOp .Sub) (lR2 Z X.K zaA):=zbZ zqp fun i j S Q m ξ=>⟨i,j,rfl,rfl,ξ S _ rfl (.refl m) (.int _)⟩
theorem zeb:OpR X (binaryOp .FloorDiv) (lR2 Z X.K zcQ):=zbZ zm9 fun i j S Q m ξ=>by
 by_cases h:j ≠ 0/\j.natAbs<10 ^ 2000
 ·rw[Qz h]at ξ;exact⟨i,j,rfl,rfl,⟨h.1,2000,h.2,Q3 _⟩,ξ S _ rfl (.refl m) (.int _)⟩
 ·rw[QA h]at ξ;exact ξ.elim
theorem zbk:OpR X (binaryOp .Mod) (lR2 Z X.K zbR):=zbZ zoH fun i j S Q m ξ=>by
 by_cases h:j ≠ 0
 ·rw[Qz h]at ξ;exact⟨i,j,rfl,rfl,h,ξ S _ rfl (.refl m) (.int _)⟩
 ·rw[QA h]at ξ;exact ξ.elim
theorem zbY:OpR X (binaryOp .Pow) (lR2 Z X.K zdU):=zbZ zqr fun i j S Q m ξ=>by
 by_cases h:0<=j/\j<=1000000/\i.natAbs<2 ^ 64
 ·rw[Qz h]at ξ;exact⟨i,j,rfl,rfl,h,ξ S _ rfl (.refl m) (.int _)⟩
 ·rw[QA h]at ξ;exact ξ.elim
def zd9:OpR X (compareOp .Lt) (lR2 Z X.K ltI):=zbZ zr7 fun i j S Q m ξ=>⟨i,j,rfl,rfl,ξ S _ rfl (.refl m) (.bl _)⟩
def zlR:OpR X (compareOp .LtE) (lR2 Z X.K leI):=zbZ zr8 fun i j S Q m ξ=>⟨i,j,rfl,rfl,ξ S _ rfl (.refl m) (.bl _)⟩
def zea:OpR X (compareOp .Gt) (lR2 Z X.K gtI):=zbZ zr9 fun i j S Q m ξ=>⟨i,j,rfl,rfl,ξ S _ rfl (.refl m) (.bl _)⟩
def zqv:OpR X (compareOp .GtE) (lR2 Z X.K geI):=zbZ zsa fun i j S Q m ξ=>⟨i,j,rfl,rfl,ξ S _ rfl (.refl m) (.bl _)⟩
theorem zn8:L2.UnR X (unaryOp .USub) (lR1 Z X.K zi7):=by
 intro ρ s σ H x v Q I rx ⟨S,t,e,m,r,ξ⟩;replace ξ:Fin Z (Rep X.K) X.K S (zi7 t S.M) Q:=ξ;unfold zi7 at ξ;rw?
 ·cases r;subst e;exact zpL ρ s σ S.H _ v Q I rx ⟨_,rfl,ξ S _ rfl (.refl m) (.int _)⟩
 ·simp?
noncomputable def isB:X3:=fun x y M=>match x,y with
 |.bl a,.bl b=>.ok (.bl (a==b)) M|_,_=>.bad
noncomputable def zsi:X3:=fun x y M=>match x,y with
 |.bl a,.bl b=>.ok (.bl (a != b)) M|_,_=>.bad
noncomputable def zna:T->Bool
 |.non=>true|_=>false
noncomputable def isN:X3:=fun x y M=>match y with
 |.non=>.ok (.bl (zna x)) M|_=>.bad
noncomputable def zbK:X3:=fun x y M=>match y with
 |.non=>.ok (.bl (!zna x)) M|_=>.bad
theorem zi6(r:Rep K S t v):decide (v = .non)=zna t:=by cases r<;>first | rfl | exact Qx (by intro z;cases z)
theorem zht:OpR X (compareOp .Is) (lR2 Z X.K isN):=by
 injections
 replace ξ:Fin Z (Rep X.K) X.K S (isN tx ty S.M) Q:=ξ;unfold isN at ξ;rw?
 ·cases r2;subst e
  exact zqs ρ s σ S.H _ _ v u Q I rx ry ⟨rfl,by rw[zi6 r1];exact ξ S _ rfl (.refl m) (.bl _)⟩
 ·simp?
theorem ze5:OpR X (compareOp .IsNot) (lR2 Z X.K zbK):=by
 injections
 replace ξ:Fin Z (Rep X.K) X.K S (zbK tx ty S.M) Q:=ξ;unfold zbK at ξ;rw?
 ·cases r2;subst e
  exact zoE ρ s σ S.H _ _ v u Q I rx ry ⟨rfl,by rw[zi6 r1];exact ξ S _ rfl (.refl m) (.bl _)⟩
 ·simp?
noncomputable def zlg(M:Mem):T->T->Option T
 |.tup xs,.int i=>atI xs i|.lst xs,.int i=>atI xs i|.ref a,.int i=>match M[a]? with
  |some (.lst xs)=>atI xs i|_=>none
 |_,_=>none
noncomputable def zgh(o:Option T)(M:Mem):Out T:=match o with
 |some t=>.ok t M|none=>.bad
noncomputable def ixT:X3:=fun x y M=>zgh (zlg M x y) M
theorem Reps.atI(r:Reps K S ts vs)(e:L2.atI ts i=some t):∃v,L2.atI vs i=some v/\Rep K S t v:=by
 unfold L2.atI at e ⊢;rw[←r.1];cases q:ixN ts.length i with
 |none=>rw[q]at e;cases e|some j=>rw[q]at e;obtain⟨v,e2,r2⟩:=r.get (show ts[j]? = some t from e);exact⟨v,e2,r2⟩
theorem zpn{tx ty:T}{x:V}(m:MemOk K S)(r1:Rep K S tx x)(r2:Rep K S ty y)(e:zlg S.M tx ty=some t) :
  ∃p vs i v,x = .ref p/\y = .int i/\(SqL K S.H p vs\/SqT K S.H p vs)/\L2.atI vs i=some v/\Rep K S t v:=by
 unfold zlg at e;split at e
 ·cases r2;cases r1 with
  |@tup _ p vs h l r=>obtain⟨v,e2,r3⟩:=Reps.atI ⟨l,r⟩ e;exact⟨p,vs,_,v,rfl,rfl,.inr h,e2,r3⟩
 ·cases r2;cases r1 with
  |@lst _ p vs h l r=>obtain⟨v,e2,r3⟩:=Reps.atI ⟨l,r⟩ e;exact⟨p,vs,_,v,rfl,rfl,.inl (zdk h),e2,r3⟩
 ·split at e
  ·rename_i q;cases r2;cases r1 with
   |ref h=>obtain⟨vs,q2,r⟩:=m.cell _ _ q;obtain⟨v,e2,r3⟩:=Reps.atI r e;exact⟨_,vs,_,v,rfl,rfl,.inl (.inl (.inl q2)),e2,r3⟩
  ·cases e
 ·cases e
theorem zfv{o:Option T}(ξ:Fin Z (Rep K) K S (zgh o S.M) Q):∃t,o=some t/\Fin Z (Rep K) K S (.ok t S.M) Q:=by
 unfold zgh at ξ;rw?
 ·exact⟨_,rfl,ξ⟩
 ·simp?
theorem zh:IxR X (lR2 Z X.K ixT):=by
 intro va sl ρ s σ H x y v u Q I rx ry ⟨S,⟨tx,ty⟩,e,m,⟨r1,r2⟩,ξ⟩ hs;obtain⟨t,et,ξ⟩:=zfv (show Fin Z (Rep X.K) X.K S (zgh (zlg S.M tx ty) S.M) Q from ξ);obtain⟨p,vs,i,w,e1,e2,hq,ea,r3⟩:=zpn m r1 r2 et;dsimp only at e1 e2;subst e1;subst e2;subst e
 refine zqT va sl ρ s σ S.H _ _ v u Q I rx ry ?_ hs;rcases hq with hq | hq
 ·exact .inl ⟨p,vs,i,w,rfl,rfl,hq,ea,ξ S w rfl (.refl m) r3⟩
 ·exact .inr (.inl ⟨p,vs,i,w,rfl,rfl,hq,ea,ξ S w rfl (.refl m) r3⟩)
noncomputable def qB(k:T->Mem->Out T)(ts:List T)(M:Mem):Out T:=match ts with
 |[t]=>k t M|_=>.bad
noncomputable def call2(k:X3)(ts:List T)(M:Mem):Out T:=match ts with
 |[t,u]=>k t u M|_=>.bad
theorem zgs{k:T->Mem->Out T}(h:∀(ρ:List (Addr × Obj)) (s:Shared) (σ:L2.St) (S:Sit) (t:T) (x:V) (v:Value) (Q:VK),Inv X ρ σ S.H s->RelV x v->MemOk X.K S->Rep X.K S t x->Fin Z (Rep X.K) X.K S (k t S.M) Q->wpAny (model X.prog X.w) X.A (call F [v]) (EP X ρ σ Q) X.xe s):CallR X F (lRN Z X.K (qB k)):=by
 intro ρ s σ H xs us Q I r ⟨S,ts,e,m,rs,ξ⟩;subst e;replace ξ:Fin Z (Rep X.K) X.K S (qB k ts S.M) Q:=ξ;unfold qB at ξ;rw?
 ·obtain⟨v,vs,rfl,r1,r2⟩:=rs.consT;rw[r2.nilT]at r;obtain⟨u,rfl,rx⟩:=vals1 r;exact h ρ s σ S _ v u Q I rx m r1 ξ
 ·simp?
theorem zgr{k:X3}(h:∀(ρ:List (Addr × Obj)) (s:Shared) (σ:L2.St) (S:Sit) (t1 t2:T) (x1 x2:V) (v1 v2:Value) (Q:VK),Inv X ρ σ S.H s->RelV x1 v1->RelV x2 v2->MemOk X.K S->Rep X.K S t1 x1->Rep X.K S t2 x2->Fin Z (Rep X.K) X.K S (k t1 t2 S.M) Q->wpAny (model X.prog X.w) X.A (call F [v1,v2]) (EP X ρ σ Q) X.xe s):CallR X F (lRN Z X.K (call2 k)):=by
 intro ρ s σ H xs us Q I r ⟨S,ts,e,m,rs,ξ⟩;subst e;replace ξ:Fin Z (Rep X.K) X.K S (call2 k ts S.M) Q:=ξ;unfold call2 at ξ;rw?
 ·obtain⟨v,vs,rfl,r1,r2⟩:=rs.consT;obtain⟨v2,vs2,rfl,r3,r4⟩:=r2.consT;rw[r4.nilT]at r;obtain⟨u,w,rfl,rx,ry⟩:=vals2 r;exact h ρ s σ S _ _ v v2 u w Q I rx ry m r1 r3 ξ
 ·simp?
noncomputable def yB:T->Mem->Out T:=fun t M=>match t with
 |.str z=>if z.length<=sizeLine then .ok (.int z.length) M else .bad|t=>match zX t M with
  |some xs=>.ok (.int xs.length) M|none=>.bad
theorem zA:CallR X (.builtin "len") (lRN Z X.K (qB yB)):=zgs fun ρ s σ S t x v Q I rx m r ξ=>by
 unfold yB at ξ;rw?
 ·cases r;rw?
  ·rename_i hz;exact zjv ρ s σ S.H _ _ Q I (.cons rx .nil) ⟨_,rfl,hz,ξ S _ rfl (.refl m) (.int _)⟩
  ·simp?
 ·split at ξ
  ·rename_i xs q;obtain⟨p,vs,rfl,hq,rs⟩:=zbW m r q;exact zjw ρ s σ S.H _ _ Q I (.cons rx .nil) ⟨p,vs,rfl,hq,by rw[←rs.1];exact ξ S _ rfl (.refl m) (.int _)⟩
  ·simp?
noncomputable def ze9:X3:=zaD fun i j M=>.ok (.int (if j > i then j else i)) M
noncomputable def zhx:X3:=zaD fun i j M=>.ok (.int (if j<i then j else i)) M
theorem zcC(hc:X.calm=true):CallR X (.builtin "max") (lRN Z X.K (call2 ze9)):=zgr fun ρ s σ S t1 t2 x1 x2 v1 v2 Q I rx ry m r1 r2 ξ=>by
 unfold ze9 zaD at ξ;rw?
 ·cases r1;cases r2
  exact zmz hc ρ s σ S.H _ _ Q I (.cons rx (.cons ry .nil)) ⟨_,_,rfl,ξ S _ rfl (.refl m) (.int _)⟩
 ·simp?
theorem zic(hc:X.calm=true):CallR X (.builtin "min") (lRN Z X.K (call2 zhx)):=zgr fun ρ s σ S t1 t2 x1 x2 v1 v2 Q I rx ry m r1 r2 ξ=>by
 unfold zhx zaD at ξ;rw?
 ·cases r1;cases r2
  exact zmy hc ρ s σ S.H _ _ Q I (.cons rx (.cons ry .nil)) ⟨_,_,rfl,ξ S _ rfl (.refl m) (.int _)⟩
 ·simp?
noncomputable def zar:T->Mem->Out T:=fun t M=>match zX t M with
 |some xs=>.ok (.tup xs) M|none=>.bad
theorem zaS:CallR X (.type "tuple") (lRN Z X.K (qB zar)):=zgs fun ρ s σ S t x v Q I rx m r ξ=>by
 unfold zar at ξ;rw?
 ·rename_i xs q;obtain⟨p,vs,rfl,hq,rs⟩:=zbW m r q;refine ziq ρ s σ S.H _ _ Q I (.cons rx .nil) ⟨p,vs,rfl,?_⟩;rcases hq with hq | hq
  ·refine .inl ⟨hq,fun l hl=>?_⟩;have s2:=Stp.new m hl (.tup vs);exact ξ ⟨S.α,S.M,upd S.H l (.tup vs),S.hid⟩ (.ref l) rfl s2 (.tup (.inl (.inl qu)) rs.1 (rs.grow m s2.toGrow).2)
  ·exact .inr ⟨hq,ξ S _ rfl (.refl m) (.tup hq rs.1 rs.2)⟩
 ·simp?
noncomputable def zfz:List T->Mem->Out (List T):=fun ts M=>match ts with
 |[t]=>match zX t M with
  |some xs=>.ok xs M|none=>.bad
 |_=>.bad
theorem zha:CallR X (.type "list") (znk Z X.K zfz):=by
 intro ρ s σ H xs us Q I r ⟨S,ts,e,m,rs,ξ⟩;subst e;replace ξ:FinL Z X.K S (zfz ts S.M) Q:=ξ;unfold zfz at ξ;rw?
 ·split at ξ
  ·rename_i t ys q;obtain⟨v,vs,rfl,r1,r2⟩:=rs.consT;rw[r2.nilT]at r;obtain⟨p,ws,rfl,hq,rs2⟩:=zbW m r1 q;exact zju ρ s σ S.H _ us Q I r ⟨p,ws,rfl,hq,znd m ξ rs2⟩
  ·simp?
 ·simp?
noncomputable def z7(x:T)(ts:List T)(M:Mem):Out T:=match x,ts with
 |.ref a,[t]=>match M[a]? with
  |some (.lst xs)=>if xs.length<sizeLine then .ok .non (M.set a (.lst (xs++[t])))else .bad|_=>.bad
 |_,_=>.bad
noncomputable def zej(o i t:T)(M:Mem):Out Unit:=match o,i with
 |.ref a,.int k=>match M[a]? with
  |some (.lst xs)=>match ixN xs.length k with
   |some j=>.ok () (M.set a (.lst (xs.set j t)))|none=>.bad
  |_=>.bad
 |_,_=>.bad
theorem zfu(m:MemOk K S){a:Nat}{c:Cell}(e:S.M[a]? = some c)(r:Reps K S ts vs):Stp K S (S.put a (.lst vs) (.lst ts)):=by have ha:a<S.M.length:=(Qy.mp e).1;exact Stp.put m ha _ _ ⟨vs,qu,r.grow m (Grow.put m ha _ _)⟩
theorem zgD:zeP X (zhA Z X.K zej):=by
 intro ρ s σ H o i v ov iv u Q I ro ri rv ⟨S,⟨⟨to,ti⟩,tv⟩,e,m,⟨⟨r1,r2⟩,r3⟩,ξ⟩;subst e;replace ξ:Fin Z UnR X.K S (zej to ti tv S.M) (fun _ H'=>Q H'):=ξ;unfold zej at ξ;rw?
 ·split at ξ
  ·rename_i a k _ xs q;rw?
   ·rename_i j qj;cases r1;cases r2;obtain⟨vs,q2,rs⟩:=m.cell _ _ q;refine set_list ρ s σ S.H _ _ v ov iv u Q I ro ri rv ⟨S.α a,vs,k,j,rfl,rfl,q2,by rw[←rs.1];exact qj,?_⟩;exact ξ (S.put a (.lst (vs.set j v)) (.lst (xs.set j tv))) () rfl (zfu m q (rs.set r3 j)) trivial
   ·simp?
  ·simp?
 ·simp?
noncomputable def zL(x:T)(M:Mem):Out T:=match qC x M with
 |some _=>.ok x M|none=>.bad
noncomputable def zaJ(F:T->X4)(f:X8)(g:X1):X8:=fun σ M=>(f σ M).bind fun x M1=>(g σ M1).bind fun ts M2=>F x ts M2
end
noncomputable def zbv(xs:List T)(lo hi:Option Int):List T:=(xs.drop (HT.sIx xs.length 0 lo)).take (HT.sIx xs.length xs.length hi-HT.sIx xs.length 0 lo)
theorem Reps.cutV(r:Reps K S ts vs)(lo hi:Option Int):Reps K S (zbv ts lo hi) (L2.cutV vs lo hi):=by unfold zbv L2.cutV;rw[←r.1];exact r.sub _ _
theorem zlm{lo hi:Option Int}(h:HT.sIx xs.length 0 lo=0/\HT.sIx xs.length xs.length hi=xs.length):zbv xs lo hi=xs:=by unfold zbv;rw[h.1,h.2];simp
theorem zhv(m:MemOk K S)(ξ:Fin Z (Rep K) K S (.ok (.tup xs) S.M) Q)(r:Reps K S xs vs):∀p,S.H p=none->Q (.ref p) (upd S.H p (.tup vs)):=fun p hp=>by have s2:=Stp.new m hp (.tup vs);exact ξ ⟨S.α,S.M,upd S.H p (.tup vs),S.hid⟩ (.ref p) rfl s2 (.tup (.inl (.inl qu)) r.1 (r.grow m s2.toGrow).2)
theorem zkk(m:MemOk K S)(ξ:Fin Z (Rep K) K S (.ok (.lst xs) S.M) Q)(r:Reps K S xs vs):∀p,S.H p=none->Q (.ref p) (upd S.H p (.lst vs)):=fun p hp=>by have s2:=Stp.new m hp (.lst vs);exact ξ ⟨S.α,S.M,upd S.H p (.lst vs),S.hid⟩ (.ref p) rfl s2 (.lst (.inl ⟨.inl qu,m.off_none hp⟩) r.1 (r.grow m s2.toGrow).2)
noncomputable def yD:X3:=fun x y M=>match x,y with
 |.int i,.int j=>.ok (.int (i+j)) M|.str a,.str b=>if a.length+b.length<=sizeLine then .ok (.str (a++b)) M else .bad|.tup xs,.tup ys=>if xs.length+ys.length<=sizeLine then .ok (.tup (xs++ys)) M else .bad|x,y=>match qC x M,qC y M with
  |some xs,some ys=>if xs.length+ys.length<=sizeLine then .ok (.lst (xs++ys)) M else .bad|_,_=>.bad
noncomputable def zbs:X3:=fun x y M=>match x,y with
 |.int i,.int j=>if Mo64 i j then .ok (.int (i*j)) M else .bad|.tup xs,.int k=>if xs ≠ []/\2<=k/\k<2 ^ 63/\xs.length*k.toNat<=sizeLine then .ok (.tup (List.replicate k.toNat xs).flatten) M else .bad|_,_=>.bad
variable {ρ:List (Addr × Obj)}{s:Shared}
section
theorem zw:OpR X (binaryOp .Add) (lR2 Z X.K yD):=by
 injections
 subst e;replace ξ:Fin Z (Rep X.K) X.K S (yD tx ty S.M) Q:=ξ;unfold yD at ξ;rw?
 ·cases r1;cases r2
  exact zqw ρ s σ S.H _ _ v u Q I rx ry ⟨_,_,rfl,rfl,ξ S _ rfl (.refl m) (.int _)⟩
 ·cases r1;cases r2
  rw?
  ·rename_i hz;exact zk6 ρ s σ S.H _ _ v u Q I rx ry ⟨_,_,rfl,rfl,hz,ξ S _ rfl (.refl m) (.str _)⟩
  ·simp?
 ·split at ξ
  ·rename_i hz;cases r1 with
   |@tup _ p vs h l r=>
   cases r2 with|@tup _ p2 vs2 h2 l2 rr2=>
   have r1:Reps X.K S _ vs:=⟨l,r⟩;have r2:Reps X.K S _ vs2:=⟨l2,rr2⟩;refine zoK ρ s σ S.H _ _ v u Q I rx ry ⟨p,p2,vs,vs2,rfl,rfl,h,h2,by rw[←l,←l2];exact hz,fun e=>?_,fun e1 e2=>?_,fun e1 e2=>zhv m ξ (r1.app r2)⟩
   ·subst e;rw[r1.nil_inv,nil_append]at ξ;exact ξ S _ rfl (.refl m) (.tup h2 l2 rr2)
   ·subst e2;rw[r2.nil_inv,append_nil]at ξ;exact ξ S _ rfl (.refl m) (.tup h l r)
  ·simp?
 ·split at ξ
  ·rename_i xs ys q1 q2;rw?
   ·rename_i hz;obtain⟨p,vs,e1,h1,s1⟩:=qJ m r1 q1;obtain⟨p2,vs2,e2,h2,s2⟩:=qJ m r2 q2;dsimp only at e1 e2;subst e1;subst e2
    exact zoJ ρ s σ S.H _ _ v u Q I rx ry ⟨p,p2,vs,vs2,rfl,rfl,h1,h2,by rw[←s1.1,←s2.1];exact hz,zkk m ξ (s1.app s2)⟩
   ·simp?
  ·simp?
theorem Reps.rep(r:Reps K S ts vs)(n:Nat):Reps K S (List.replicate n ts).flatten (List.replicate n vs).flatten:=by induction n with|zero=>exact .nil|succ n ih=>rw[replicate_succ,replicate_succ,flatten_cons,flatten_cons];exact r.app ih
theorem zc2:OpR X (binaryOp .Mult) (lR2 Z X.K zbs):=by
 injections
 subst e;replace ξ:Fin Z (Rep X.K) X.K S (zbs tx ty S.M) Q:=ξ;unfold zbs at ξ;rw?
 ·cases r1;cases r2
  rw?
  ·rename_i h;exact zoG ρ s σ S.H _ _ v u Q I rx ry ⟨_,_,rfl,rfl,h.ok,ξ S _ rfl (.refl m) (.int _)⟩
  ·simp?
 ·split at ξ
  ·rename_i h;cases r2;cases r1 with
   |@tup _ p vs hq l r=>
   have r1:Reps X.K S _ vs:=⟨l,r⟩;exact zoD ρ s σ S.H _ _ v u Q I rx ry ⟨p,_,vs,rfl,rfl,hq,fun z=>h.1 (by subst z;exact r1.nil_inv),h.2.1,h.2.2.1,by rw[←l];exact h.2.2.2,zhv m ξ (r1.rep _)⟩
  ·simp?
 ·simp?
noncomputable def lO(Z:XK)(K:Frag)(f:Ev->Mem->Out (Option Int)):TO:=fun σ H Q=>LN Z EqR K UnR (fun _ σ M=>f σ M) () σ H Q
def GO(X:Cx)(Z:XK)(e:Option Expr)(f:Ev->Mem->Out (Option Int)):Prop:=PO X e (lO Z X.K f)
noncomputable def zey:Ev->Mem->Out (Option Int):=fun _ M=>.ok none M
noncomputable def zno(x:T)(M:Mem):Out (Option Int):=match x with
 |.int i=>.ok (some i) M|_=>.bad
noncomputable def zcU(f:X8):Ev->Mem->Out (Option Int):=fun σ M=>(f σ M).bind zno
def PO.imp{e:Option Expr}{t t':TO}(h:PO X e t)(i:∀σ H Q,t' σ H Q->t σ H Q):PO X e t':=fun ρ s σ H Q I q=>h ρ s σ H Q I (i σ H Q q)
noncomputable def zhL(x:T)(lo hi:Option Int)(M:Mem):Out T:=match x with
 |.tup xs=>.ok (.tup (zbv xs lo hi)) M|x=>match qC x M with
  |some xs=>.ok (.lst (zbv xs lo hi)) M|none=>.bad
noncomputable def eSl(f:X8)(p q:Ev->Mem->Out (Option Int)):X8:=fun σ M=>(f σ M).bind fun x M1=>(p σ M1).bind fun lo M2=>(q σ M2).bind fun hi M3=>zhL x lo hi M3
noncomputable def zs7(Z:XK)(K:Frag):V->Option Int->Option Int->Hp->VK->Prop:=fun x lo hi H Q=>∃S t,S.H=H/\MemOk K S/\Rep K S t x/\Fin Z (Rep K) K S (zhL t lo hi S.M) Q
theorem zsT:SlR X (zs7 Z X.K):=by
 intro ρ s σ H x v vl vu lo hi sl Q I rx hs pl pu ⟨S,t,e,m,r,ξ⟩;subst e;unfold zhL at ξ;rw?
 ·cases r with
  |@tup _ p vs h l r=>
  have r1:Reps X.K S _ vs:=⟨l,r⟩;refine zog ρ s σ S.H _ v vl vu lo hi sl Q I rx hs pl pu ⟨p,vs,rfl,h,fun w=>?_,fun w=>zhv m ξ (r1.cutV lo hi)⟩;rw[zlm (by rw[l];exact w)]at ξ;exact ξ S _ rfl (.refl m) (.tup h l r)
 ·split at ξ
  ·rename_i xs q;obtain⟨p,vs,e1,h1,s1⟩:=qJ m r q;subst e1;exact zoh ρ s σ S.H _ v vl vu lo hi sl Q I rx hs pl pu ⟨p,vs,rfl,h1,zkk m ξ (s1.cutV lo hi)⟩
  ·simp?
noncomputable def zqM(T U:String):Option Bool:=if(Value.type T==Value.type U)=true then some true else if PySem.W.kitMeta U=true then(PySem.fastBuiltinMro T).map (·.contains (.type U))else none
noncomputable def tyN(t:T)(M:Mem):Option String:=match t with
 |.non=>some "NoneType" | .bl _=>some "bool" | .int _=>some "int" | .str _=>some "str" | .tup _=>some "tuple" | .lst _=>some "list"
 |.ref a=>match M[a]? with
  |some (.lst _)=>some "list"|some (.dic _)=>some "dict"|_=>none
 |_=>none
noncomputable def znW(n U:String):Bool:=n==U || (n == "bool" && U == "int")
noncomputable def zis:List String:=["NoneType","bool","int","str","tuple","list","dict"]
theorem zo0:∀n ∈ zis,∀U ∈ zis,U ≠ "NoneType"->zqM n U=some (znW n U):=by decide +kernel
noncomputable def zaw:X3:=fun t u M=>match u with
 |.ty U=>match tyN t M with
  |some n=>if U ∈ zis/\U ≠ "NoneType" then .ok (.bl (znW n U)) M else .bad|none=>.bad
 |_=>.bad
theorem zn9{n:String}(h:tyN t M=some n):n ∈ zis:=by unfold tyN at h;split at h<;>first | (cases h;decide) | (split at h<;>first | (cases h;decide) | (cases h)) | cases h
theorem znn{x:V}{u:Value}{U n:String}{b:Bool}{Q:Value->Shared->Prop}{E:Value->Shared->Prop}(I:L2.Inv X ρ σ S.H s)(m:MemOk X.K S)(rx:RelV x u)(r:Rep X.K S t x)(hn:tyN t S.M=some n)(e:zqM n U=some b)(h:∀tk,Q (.bool b) { s with toks:=tk }) :
  wpAny (model X.prog X.w) X.A (call (.builtin "isinstance") [u,.type U]) Q E s:=by
 have e':PySem.W.kitOne X.K (.type n) (.type U)=some b:=e;cases r with
 |non=>cases hn;cases (show u=Value.none from rx);exact PySem.W.kia_one PySem.W.kitx_none I.kIn True.intro e' (fun z=>nomatch z) h|bl y=>cases hn;cases (show u=Value.bool y from rx);exact PySem.W.kia_one PySem.W.kitx_bool I.kIn True.intro e' (fun z=>nomatch z) h|int i=>cases hn;obtain⟨t,q⟩:=(show ∃t,u=Value.int i t from rx);cases q;exact PySem.W.kia_one PySem.W.kitx_int I.kIn True.intro e' (fun z=>nomatch z) h|str y=>cases hn;obtain⟨t,q⟩:=(show ∃t,u=Value.str y t from rx);cases q;exact PySem.W.kia_one PySem.W.kitx_str I.kIn True.intro e' (fun z=>nomatch z) h|ty y=>cases hn|@tup ts p vs hq l r=>cases hn;cases (show u=Value.ref p from rx);obtain⟨its,_,pl,_⟩:=I.tuple hq;obtain⟨o,h1,h2,_⟩:=pl;exact PySem.W.kia_one PySem.W.kitx_tuple I.kIn ⟨o,h1,h2⟩ e' (fun z=>nomatch z) h
 |@lst ts p vs hq l r=>cases hn;cases (show u=Value.ref p from rx);obtain⟨its,_,pl,_⟩:=I.list (zdk hq);obtain⟨o,h1,h2⟩:=pl.isList;exact PySem.W.kia_one PySem.W.kitx_list I.kIn ⟨o,h1,h2.1⟩ e' (fun z=>nomatch z) h
 |@ref a ha=>
  cases (show u=Value.ref _ from rx);unfold tyN at hn;dsimp only at hn;split at hn
  ·rename_i ts q;cases hn;obtain⟨vs,q2,_⟩:=m.cell a _ q;obtain⟨_,_,n,_,h1⟩:=(show ObjOk X.prog X.w S.H s.heap (S.α a) (.lst vs)from I.hok _ _ q2);exact PySem.W.kia_one PySem.W.kitx_list I.kIn ⟨_,h1,rfl⟩ e' (fun z=>nomatch z) h
  ·rename_i ts q;cases hn;obtain⟨vs,q2,_⟩:=m.cell a _ q;obtain⟨_,_,vs2,_,p⟩:=(show ObjOk X.prog X.w S.H s.heap (S.α a) (.dK vs)from I.hok _ _ q2);obtain⟨o,es,ep,h1,h2,_⟩:=p;exact PySem.W.kia_one PySem.W.kitx_dict I.kIn ⟨o,h1,h2.1⟩ e' (fun z=>nomatch z) h
  ·cases hn
 |dct h l r=>cases hn|exc h hd l r=>cases hn
theorem zdt:CallR X (.builtin "isinstance") (lRN Z X.K (call2 zaw)):=zgr fun ρ s σ S t1 t2 x1 x2 v1 v2 Q I rx ry m r1 r2 ξ=>by
 unfold zaw at ξ;rw?
 ·rename_i U;rw?
  ·rename_i n hn;rw?
   ·rename_i hU;cases r2;cases ry;exact znn I m rx r1 hn (zo0 n (zn9 hn) U hU.1 hU.2) fun tk=>⟨.bl _,S.H,I.tok tk,rfl,ξ S _ rfl (.refl m) (.bl _)⟩
   ·simp?
  ·simp?
 ·simp?
end
noncomputable def zb3:T->Bool
 |.non=>true|.bl _=>true|.int _=>true|.str _=>true|_=>false
noncomputable def eqS:T->T->Bool
 |.non,.non=>true|.bl a,.bl b=>a==b|.bl a,.int b=>(if a then 1 else 0)==b|.int a,.bl b=>a==(if b then 1 else 0)|.int a,.int b=>a==b|.str a,.str b=>a==b|_,_=>false
noncomputable def eqL(f:T->T->Option Bool):List T->List T->Option Bool
 |[],[]=>some true|[],_::_=>some false|_::_,[]=>some false|x::xs,y::ys=>match f x y,eqL f xs ys with
  |some a,some b=>some (a && b)|_,_=>none
noncomputable def eqD(M:Mem):Nat->T->T->Option Bool
 |d,.tup xs,.tup ys=>match d with
  |0=>none|d+1=>eqL (eqD M d) xs ys
 |d,x,y=>if(zb3 x && zb3 y)=true then some (eqS x y)else match d,qC x M,qC y M with
  |d+1,some xs,some ys=>if xs.length=ys.length then eqL (eqD M d) xs ys else some false|_,_,_=>none
noncomputable def eqA:X3:=fun x y M=>match eqD M 20 x y with
 |some b=>.ok (.bl b) M|none=>.bad
noncomputable def neA:X3:=fun x y M=>match eqD M 20 x y with
 |some b=>.ok (.bl (!b)) M|none=>.bad
theorem zeK{f:T->T->Option Bool}:∀{xs ys:List T} {b:Bool},eqL f xs ys=some b->
  ∃e:Nat->Bool,(∀j x y,xs[j]? = some x->ys[j]? = some y->f x y=some (e j))/\b=((List.range (min xs.length ys.length)).all e && xs.length==ys.length)
 |[],[],b,h=>by cases h;exact⟨fun _=>true,fun j x y e1=>by simp at e1,by simp⟩|[],_::_,b,h=>by cases h;exact⟨fun _=>true,fun j x y e1=>by simp at e1,by simp⟩|_::_,[],b,h=>by cases h;exact⟨fun _=>true,fun j x y _ e1=>by simp at e1,by simp⟩|x::xs,y::ys,b,h=>by
  unfold eqL at h;cases q1:f x y with
  |none=>rw[q1]at h;cases h|some a=>
   cases q2:eqL f xs ys with
   |none=>rw[q1,q2]at h;cases h|some c=>
    rw[q1,q2]at h;cases h;obtain⟨e,h1,h2⟩:=zeK q2;refine⟨fun j=>match j with | 0=>a | j+1=>e j,fun j u v e1 e2=>?_,?_⟩
    ·cases j with|zero=>simp at e1 e2;subst e1;subst e2;exact q1|succ j=>exact h1 j u v (by simpa using e1) (by simpa using e2)
    ·rw[h2];have:min (x::xs).length (y::ys).length=min xs.length ys.length+1:=by simp only[Qp];omega
     rw[this,List.range_succ_eq_map,all_cons,List.all_map];simp[Bool.and_assoc,Function.comp_def]
variable {A:Around}
section
theorem zR(r:Rep K S t v)(h:zb3 t=true):zaF v=true:=by cases r<;>first | rfl | (exact absurd (show false=true from h) Q4)
theorem zfH{w:V}(r:Rep K S t v)(q:Rep K S u w)(h:zb3 t=true)(h2:zb3 u=true):eqS t u=eqV v w:=by cases r<;>first | (exact absurd (show false=true from h) Q4) | (cases q<;>first | rfl | (exact absurd (show false=true from h2) Q4))
theorem zj9(r:Rep K S t v)(q:Rep K S u v)(h:zb3 t=true)(h2:zb3 u=true):eqS t u=true:=by rw[zfH r q h h2];exact znD v (zR r h)
theorem znE(I:L2.Inv X ρ σ S.H s)(m:MemOk X.K S):∀(d:Nat) {t u:T} {v:V} {b:Bool},Rep X.K S t v->Rep X.K S u v->eqD S.M d t u=some b->b=true:=by
 intro d
 induction d with
 |zero=>
  intro t u v b r q h;unfold eqD at h;split at h
  ·cases h
  ·split at h
   ·rename_i hs;rw[Qs]at hs;cases h;exact zj9 r q hs.1 hs.2
   ·cases h
 |succ d ih=>
  have key:∀{xs ys:List T} {vs:List V} {b:Bool},Reps X.K S xs vs->Reps X.K S ys vs->eqL (eqD S.M d) xs ys=some b->b=true:=by
   intro xs ys vs b r q h;obtain⟨e,h1,h2⟩:=zeK h;rw[h2,r.1,q.1];simp only[Nat.min_self,beq_self_eq_true,Bool.and_true,all_eq_true,mem_range];intro j hj;have hx:j<xs.length:=by rw[r.1];exact hj
   have hy:j<ys.length:=by rw[q.1];exact hj
   have ex:xs[j]? = some xs[j]:=by simp[hx]
   have ey:ys[j]? = some ys[j]:=by simp[hy]
   have ev:vs[j]? = some vs[j]:=by simp[hj]
   exact ih (r.2 j _ _ ex ev) (q.2 j _ _ ey ev) (h1 j _ _ ex ey)
  intro t u v b r q h;unfold eqD at h;split at h
  ·cases r with
   |@tup _ p vs h1 l1 r1=>
   cases q with|@tup _ _ vs2 h2 l2 r2=>
   have:=I.tuple_inj h1 h2;subst this;exact key ⟨l1,r1⟩ ⟨l2,r2⟩ h
  ·split at h
   ·rename_i hs;rw[Qs]at hs;cases h;exact zj9 r q hs.1 hs.2
   ·split at h
    ·rename_i d' xs ys hd q1 q2;cases hd;obtain⟨p,vs,e1,hq1,s1⟩:=qJ m r q1;obtain⟨p2,vs2,e2,hq2,s2⟩:=qJ m q q2;rw[e1]at e2;cases e2;have:=I.list_inj hq1 hq2;subst this;rw[Qz (by rw[s1.1,s2.1])]at h;exact key s1 s2 h
    ·cases h
theorem zmn(I:L2.Inv X ρ σ S.H s)(m:MemOk X.K S):∀(d:Nat) {A:Around} {t u:T} {v w:V} {x y:Value} {b:Bool},A.units+d<cLine->RelV v x->RelV w y->Rep X.K S t v->Rep X.K S u w->eqD S.M d t u=some b->SeqAt.EqAt A s x y b:=by
 intro d
 induction d with
 |zero=>
  intro A t u v w x y b hu rx ry r q h;unfold eqD at h;split at h
  ·cases h
  ·split at h
   ·rename_i hs;rw[Qs]at hs;cases h;rw[zfH r q hs.1 hs.2];exact zjo rx ry (zR r hs.1) (zR q hs.2)
   ·cases h
 |succ d ih=>
  have key:∀{A:Around} {xs ys:List T} {vs ws:List V} {us zs:List Value} {b:Bool},A.units+d<cLine->Reps X.K S xs vs->Reps X.K S ys ws->Vals vs us->Vals ws zs->eqL (eqD S.M d) xs ys=some b->
    ∃e:Nat->Bool,(∀j (h1:j<us.toArray.size) (h2:j<zs.toArray.size),SeqAt.EqAt A s us.toArray[j] zs.toArray[j] (e j))/\b=((List.range (min us.toArray.size zs.toArray.size)).all e && us.toArray.size==zs.toArray.size):=by
   intro A xs ys vs ws us zs b hu r q hv hw h;obtain⟨e,h1,h2⟩:=zeK h;have l1:us.length=xs.length:=by rw[←hv.length,r.1]
   have l2:zs.length=ys.length:=by rw[←hw.length,q.1]
   refine⟨e,fun j g1 g2=>?_,by rw[h2,Qi,Qi,l1,l2]⟩;have g1':j<us.length:=by simpa using g1
   have g2':j<zs.length:=by simpa using g2
   have ex:xs[j]? = some (xs[j]'⋯):=Q0 ⋯;have ey:ys[j]? = some (ys[j]'⋯):=Q0 ⋯;obtain⟨v,ev,rv⟩:=r.get ex;obtain⟨w,ew,rw'⟩:=q.get ey;obtain⟨a,ea,ra⟩:=Vals.get hv ev;obtain⟨c,ec,rc⟩:=Vals.get hw ew;have:us.toArray[j]=a:=by rw[getElem_toArray];rw[Q0 g1']at ea;exact Qd ea
   rw[this];have:zs.toArray[j]=c:=by rw[getElem_toArray];rw[Q0 g2']at ec;exact Qd ec
   rw[this];exact ih hu ra rc rv rw' (h1 j _ _ ex ey)
  intro A t u v w x y b hu rx ry r q h;have hsame:v=w->b=true:=fun z=>by subst z;exact znE I m (d+1) r q h
  unfold eqD at h;split at h
  ·cases r with
   |@tup _ p vs h1 l1 r1=>
   cases q with|@tup _ p2 vs2 h2 l2 r2=>
   cases rx;cases ry
   by_cases hp:p=p2
   ·subst hp;rw[hsame rfl];exact SeqAt.EqAt.same _
   ·obtain⟨its,ri,pl,_⟩:=I.tuple h1;obtain⟨its2,ri2,pl2,_⟩:=I.tuple h2;obtain⟨e,he,eb⟩:=key (A:=A.in1) (by show A.units+1+d<cLine;omega) ⟨l1,r1⟩ ⟨l2,r2⟩ ri ri2 h;rw[eb];exact SeqAt.EqAt.of_refs hp (SeqAt.RcAt.tuples pl pl2 ⋯ he)
  ·split at h
   ·rename_i hs;rw[Qs]at hs;cases h;rw[zfH r q hs.1 hs.2];exact zjo rx ry (zR r hs.1) (zR q hs.2)
   ·split at h
    ·rename_i d' xs ys hd q1 q2;cases hd;obtain⟨p,vs,e1,hq1,s1⟩:=qJ m r q1;obtain⟨p2,vs2,e2,hq2,s2⟩:=qJ m q q2;subst e1;subst e2;cases rx;cases ry
     by_cases hp:p=p2
     ·subst hp;rw[hsame rfl];exact SeqAt.EqAt.same _
     ·obtain⟨its,ri,pl,_⟩:=I.list hq1;obtain⟨its2,ri2,pl2,_⟩:=I.list hq2;have lz:its.length=xs.length:=by rw[←ri.length,s1.1]
      have lz2:its2.length=ys.length:=by rw[←ri2.length,s2.1]
      by_cases hl:xs.length=ys.length
      ·rw[Qz hl]at h;obtain⟨e,he,eb⟩:=key (A:=A.in1) (by show A.units+1+d<cLine;omega) s1 s2 ri ri2 h;have hsz:its.toArray.size=its2.toArray.size:=by simp[lz,lz2,hl]
       rw[eb,hsz,Nat.min_self,beq_self_eq_true,Bool.and_true,←hsz];exact SeqAt.EqAt.of_refs hp (SeqAt.RcAt.lists pl.isList pl2.isList hsz ⋯ he)
      ·rw[QA hl]at h;cases h;exact SeqAt.EqAt.of_refs hp (SeqAt.RcAt.lists_lengths pl.isList pl2.isList (by simp[lz,lz2,hl]) ⋯)
    ·cases h
theorem zpX{x:V}{u v:Value}(ry:RelV y u)(rx:RelV x v)(fy:zaF y=true)(fx:zaF x=true):SeqAt.RcAt A s u v (eqV y x):=by
 cases y with
 |non=>cases ry;cases x with|non=>cases rx;exact SeqAt.RcAt.none_none|bl b=>cases rx;exact SeqAt.RcAt.none_bool b|int b=>obtain⟨t,rfl⟩:=rx;exact SeqAt.RcAt.none_int b t|str b=>obtain⟨t,rfl⟩:=rx;exact SeqAt.RcAt.none_str b t|_=>exact?
 |bl a=>cases ry;cases x with|non=>cases rx;exact SeqAt.RcAt.bool_none a|bl b=>cases rx;exact SeqAt.RcAt.bool_bool a b|int b=>obtain⟨t,rfl⟩:=rx;exact SeqAt.RcAt.bool_int a b t|str b=>obtain⟨t,rfl⟩:=rx;exact SeqAt.RcAt.bool_str a b t|_=>exact?
 |int a=>obtain⟨t',rfl⟩:=ry;cases x with|non=>cases rx;exact SeqAt.RcAt.int_none a t'|bl b=>cases rx;exact SeqAt.RcAt.int_bool a t' b|int b=>obtain⟨t,rfl⟩:=rx;exact SeqAt.RcAt.int_int a t' b t|str b=>obtain⟨t,rfl⟩:=rx;exact SeqAt.RcAt.int_str a t' b t|_=>exact?
 |str a=>obtain⟨t',rfl⟩:=ry;cases x with|non=>cases rx;exact SeqAt.RcAt.str_none a t'|bl b=>cases rx;exact SeqAt.RcAt.str_bool a t' b|int b=>obtain⟨t,rfl⟩:=rx;exact SeqAt.RcAt.str_int a t' b t|str b=>obtain⟨t,rfl⟩:=rx;exact SeqAt.RcAt.str_str a t' b t|_=>exact?
 |_=>exact absurd (show false=true from fy) Q4
theorem zmY{x:V}{u v:Value}(ry:RelV y u)(rx:RelV x v)(fy:zaF y=true)(fx:zaF x=true):SeqAt.RcNeAt A s u v (!eqV y x):=by
 cases y with
 |non=>cases ry;cases x with|non=>cases rx;exact SeqAt.RcNeAt.none_none|bl b=>cases rx;exact SeqAt.RcNeAt.none_bool b|int b=>obtain⟨t,rfl⟩:=rx;exact SeqAt.RcNeAt.none_int b t|str b=>obtain⟨t,rfl⟩:=rx;exact SeqAt.RcNeAt.none_str b t|_=>exact?
 |bl a=>cases ry;cases x with|non=>cases rx;exact SeqAt.RcNeAt.bool_none a|bl b=>cases rx;exact SeqAt.RcNeAt.bool_bool a b|int b=>obtain⟨t,rfl⟩:=rx;exact SeqAt.RcNeAt.bool_int a b t|str b=>obtain⟨t,rfl⟩:=rx;exact SeqAt.RcNeAt.bool_str a b t|_=>exact?
 |int a=>obtain⟨t',rfl⟩:=ry;cases x with|non=>cases rx;exact SeqAt.RcNeAt.int_none a t'|bl b=>cases rx;exact SeqAt.RcNeAt.int_bool a t' b|int b=>obtain⟨t,rfl⟩:=rx;exact SeqAt.RcNeAt.int_int a t' b t|str b=>obtain⟨t,rfl⟩:=rx;exact SeqAt.RcNeAt.int_str a t' b t|_=>exact?
 |str a=>obtain⟨t',rfl⟩:=ry;cases x with|non=>cases rx;exact SeqAt.RcNeAt.str_none a t'|bl b=>cases rx;exact SeqAt.RcNeAt.str_bool a t' b|int b=>obtain⟨t,rfl⟩:=rx;exact SeqAt.RcNeAt.str_int a t' b t|str b=>obtain⟨t,rfl⟩:=rx;exact SeqAt.RcNeAt.str_str a t' b t|_=>exact?
 |_=>exact absurd (show false=true from fy) Q4
theorem zmm(I:L2.Inv X ρ σ S.H s)(m:MemOk X.K S)(d:Nat){w:V}{x y:Value}{b:Bool}(hu:A.units+d<cLine)(rx:RelV v x)(ry:RelV w y)(r:Rep X.K S t v)(q:Rep X.K S u w)(h:eqD S.M d t u=some b):SeqAt.RcAt A s x y b/\SeqAt.RcNeAt A s x y (!b):=by
 have at_:∀{A:Around} {d:Nat} {xs ys:List T} {vs ws:List V} {us zs:List Value} {b:Bool},A.units+d<cLine->Reps X.K S xs vs->Reps X.K S ys ws->Vals vs us->Vals ws zs->eqL (eqD S.M d) xs ys=some b->
    ∃e:Nat->Bool,(∀j (h1:j<us.toArray.size) (h2:j<zs.toArray.size),SeqAt.EqAt A s us.toArray[j] zs.toArray[j] (e j))/\b=((List.range (min us.toArray.size zs.toArray.size)).all e && us.toArray.size==zs.toArray.size):=by
  intro A d xs ys vs ws us zs b hu r q hv hw h;obtain⟨e,h1,h2⟩:=zeK h;have l1:us.length=xs.length:=by rw[←hv.length,r.1]
  have l2:zs.length=ys.length:=by rw[←hw.length,q.1]
  refine⟨e,fun j g1 g2=>?_,by rw[h2,Qi,Qi,l1,l2]⟩;have g1':j<us.length:=by simpa using g1
  have g2':j<zs.length:=by simpa using g2
  have ex:xs[j]? = some (xs[j]'⋯):=Q0 ⋯;have ey:ys[j]? = some (ys[j]'⋯):=Q0 ⋯;obtain⟨v,ev,rv⟩:=r.get ex;obtain⟨w,ew,rw'⟩:=q.get ey;obtain⟨a,ea,ra⟩:=Vals.get hv ev;obtain⟨c,ec,rc⟩:=Vals.get hw ew;have:us.toArray[j]=a:=by rw[getElem_toArray];rw[Q0 g1']at ea;exact Qd ea
  rw[this];have:zs.toArray[j]=c:=by rw[getElem_toArray];rw[Q0 g2']at ec;exact Qd ec
  rw[this];exact zmn I m d hu ra rc rv rw' (h1 j _ _ ex ey)
 unfold eqD at h;split at h
 ·split at h
  ·cases h
  ·rename_i d;cases r with
   |@tup _ p vs h1 l1 r1=>
   cases q with|@tup _ p2 vs2 h2 l2 r2=>
   cases rx;cases ry;obtain⟨its,ri,pl,_⟩:=I.tuple h1;obtain⟨its2,ri2,pl2,_⟩:=I.tuple h2;obtain⟨e,he,eb⟩:=at_ (A:=A.in1) (by show A.units+1+d<cLine;omega) ⟨l1,r1⟩ ⟨l2,r2⟩ ri ri2 h;rw[eb];exact⟨SeqAt.RcAt.tuples pl pl2 ⋯ he,SeqAt.RcNeAt.tuples pl pl2 ⋯ he⟩
 ·split at h
  ·rename_i hs;rw[Qs]at hs;cases h;rw[zfH r q hs.1 hs.2];exact⟨zpX rx ry (zR r hs.1) (zR q hs.2),zmY rx ry (zR r hs.1) (zR q hs.2)⟩
  ·split at h
   ·rename_i d' xs ys q1 q2;obtain⟨p,vs,e1,hq1,s1⟩:=qJ m r q1;obtain⟨p2,vs2,e2,hq2,s2⟩:=qJ m q q2;subst e1;subst e2;cases rx;cases ry;obtain⟨its,ri,pl,_⟩:=I.list hq1;obtain⟨its2,ri2,pl2,_⟩:=I.list hq2;have lz:its.length=xs.length:=by rw[←ri.length,s1.1]
    have lz2:its2.length=ys.length:=by rw[←ri2.length,s2.1]
    by_cases hl:xs.length=ys.length
    ·rw[Qz hl]at h;obtain⟨e,he,eb⟩:=at_ (A:=A.in1) (by show A.units+1+d'<cLine;omega) s1 s2 ri ri2 h;have hsz:its.toArray.size=its2.toArray.size:=by simp[lz,lz2,hl]
     rw[eb,hsz,Nat.min_self,beq_self_eq_true,Bool.and_true,←hsz];exact⟨SeqAt.RcAt.lists pl.isList pl2.isList hsz ⋯ he,SeqAt.RcNeAt.lists pl.isList pl2.isList hsz ⋯ he⟩
    ·rw[QA hl]at h;cases h;exact⟨SeqAt.RcAt.lists_lengths pl.isList pl2.isList (by simp[lz,lz2,hl]) ⋯,SeqAt.RcNeAt.lists_lengths pl.isList pl2.isList (by simp[lz,lz2,hl]) ⋯⟩
   ·cases h
theorem yJ(hu:X.A.units+64<cLine):OpR X (compareOp .Eq) (lR2 Z X.K eqA):=by
 injections
 subst e;replace ξ:Fin Z (Rep X.K) X.K S (eqA tx ty S.M) Q:=ξ;unfold eqA at ξ;rw?
 ·rename_i b q;exact(zmm I m 20 (A:=X.A) ⋯ rx ry r1 r2 q).1 _ _ _ _ ⟨.bl b,S.H,I,rfl,ξ S _ rfl (.refl m) (.bl _)⟩
 ·simp?
theorem zi4(hu:X.A.units+64<cLine):OpR X (compareOp .NotEq) (lR2 Z X.K neA):=by
 injections
 subst e;replace ξ:Fin Z (Rep X.K) X.K S (neA tx ty S.M) Q:=ξ;unfold neA at ξ;rw?
 ·rename_i b q;exact(zmm I m 20 (A:=X.A) ⋯ rx ry r1 r2 q).2 _ _ _ _ ⟨.bl (!b),S.H,I,rfl,ξ S _ rfl (.refl m) (.bl _)⟩
 ·simp?
noncomputable def inA:X3:=fun x y M=>match zX y M with
 |some ys=>if(zb3 x && ys.all zb3)=true then .ok (.bl (ys.any fun y=>eqS y x)) M else .bad|none=>.bad
theorem zlq{K:Frag}{x:T}{v:V}(rx:Rep K S x v)(hx:zb3 x=true):∀{ys:List T} {vs:List V},Reps K S ys vs->ys.all zb3=true->vs.all zaF=true/\inV v vs=ys.any fun y=>eqS y x
 |[],vs,r,_=>by rw[r.nilT];exact⟨rfl,rfl⟩|y::ys,vs,r,h=>by obtain⟨w,ws,rfl,r1,r2⟩:=r.consT;rw[all_cons,Qs]at h;obtain⟨h1,h2⟩:=zlq rx hx r2 h.2;refine⟨by rw[all_cons,zR r1 h.1,h1];rfl,?_⟩;unfold inV at h2 ⊢;rw[any_cons,any_cons,h2,zfH r1 rx h.1 hx]
theorem zqu:OpR X (compareOp .In) (lR2 Z X.K inA):=by
 injections
 subst e;replace ξ:Fin Z (Rep X.K) X.K S (inA tx ty S.M) Q:=ξ;unfold inA at ξ;rw?
 ·rename_i ys q;rw?
  ·rename_i hs;rw[Qs]at hs;obtain⟨p,vs,e1,hq,rs⟩:=zbW m r2 q;dsimp only at e1;subst e1;obtain⟨a1,a2⟩:=zlq r1 hs.1 rs hs.2;exact zlS ρ s σ S.H _ _ v u Q I rx ry ⟨p,vs,rfl,hq,zR r1 hs.1,a1,by rw[a2];exact ξ S _ rfl (.refl m) (.bl _)⟩
  ·simp?
 ·simp?
end
variable {bop:Operator}
section
noncomputable def ztb:List T->Option (List Int)
 |[]=>some []|.int b::r=>(ztb r).map (b :: ·)|_=>none
noncomputable def getL:X3:=fun x y M=>match y,qC x M with
 |.int i,some xs=>zgh (atI xs i) M|_,_=>.bad
theorem zsp:zjE X (lR2 Z X.K getL):=by
 injections
 subst e;replace ξ:Fin Z (Rep X.K) X.K S (getL tx ty S.M) Q:=ξ;unfold getL at ξ;rw?
 ·rename_i i xs q;obtain⟨t,et,ξ⟩:=zfv ξ;obtain⟨p,vs,e1,hq,rs⟩:=qJ m r1 q;dsimp only at e1;subst e1;cases r2;obtain⟨w,ew,rw'⟩:=rs.atI et;exact znw ρ s σ S.H _ _ v u Q I rx ry ⟨p,vs,i,w,rfl,rfl,hq,ew,ξ S w rfl (.refl m) rw'⟩
 ·simp?
theorem zo6:PIp X .Add (lR2 Z X.K zdX):=by
 injections
 subst e;replace ξ:Fin Z (Rep X.K) X.K S (zdX tx ty S.M) Q:=ξ;unfold zdX zaD at ξ;rw?
 ·cases r1;cases r2
  exact zqV ρ s σ S.H _ _ v u Q I rx ry ⟨_,_,rfl,rfl,ξ S _ rfl (.refl m) (.int _)⟩
 ·simp?
end
noncomputable def zmX(o:Out Fl):Out T:=match o with
 |.ok (.rt t) M'=>.ok t M'|.ok (.nx _) M'=>.ok .non M'|_=>.bad
theorem zlJ{p:Nat}{g:X5}(h:ts.length=p):yi p n g ts M=zmX (g (startT n ts) M):=by unfold yi;rw[Qz h];rfl
def ztr:zmX (.ok (.rt t) M) = .ok t M:=rfl
def zts{σ:Ev} :zmX (.ok (.nx σ) M) = .ok .non M:=rfl
def ztK{β:Type}{b:Bool}{k:Bool->Mem->Out β}:blT (.bl b) M k=k b M:=rfl
def yp{k:X5}{σ:Ev} :zcr k (.nx σ) M=k σ M:=rfl
def zsF{k:X5} :zcr k (.rt t) M = .ok (.rt t) M:=rfl
def zsH{k:X5}{σ:Ev} :zcr k (.bk σ) M = .ok (.bk σ) M:=rfl
def zsG{k:X5}{σ:Ev} :zcr k (.ct σ) M = .ok (.ct σ) M:=rfl
def zs4{k:X5}{σ:Ev} :zab k (.nx σ) M=k σ M:=rfl
def zs3{k:X5} :zab k (.rt t) M = .ok (.rt t) M:=rfl
def zs6{k:X5}{σ:Ev} :zab k (.bk σ) M = .ok (.nx σ) M:=rfl
def zs5{k:X5}{σ:Ev} :zab k (.ct σ) M=k σ M:=rfl
def zdA{x:T}{σ:Ev} :forL bd body (x::xs) σ M=(bd x σ M).bind fun σ1 M1=>(body σ1 M1).bind (zab (forL bd body xs)):=rfl
def ztw{k:T->Mem->Out T} :qB k [t] M=k t M:=rfl
def ztv{k:X3} :call2 k [t,u] M=k t u M:=rfl
def zty:yD (.int i) (.int j) M = .ok (.int (i+j)) M:=rfl
def zto:zaA (.int i) (.int j) M = .ok (.int (i-j)) M:=rfl
def zoP(h:Mo64 i j):zbs (.int i) (.int j) M = .ok (.int (i*j)) M:=Qz h
def zed(h:j ≠ 0/\j.natAbs<10 ^ 2000):zcQ (.int i) (.int j) M = .ok (.int (i.fdiv j)) M:=Qz h
def zfx(h:j ≠ 0):zbR (.int i) (.int j) M = .ok (.int (i.fmod j)) M:=Qz h
def ztt(h:0<=j/\j<=1000000/\i.natAbs<2 ^ 64):zdU (.int i) (.int j) M = .ok (.int (i ^ j.toNat)) M:=Qz h
def ztE:ltI (.int i) (.int j) M = .ok (.bl (decide (i<j))) M:=rfl
def ztF:leI (.int i) (.int j) M = .ok (.bl (decide (i<=j))) M:=rfl
def ztH:gtI (.int i) (.int j) M = .ok (.bl (decide (j<i))) M:=rfl
def zje:geI (.int i) (.int j) M = .ok (.bl (decide (j<=i))) M:=rfl
def ztC:zi7 (.int i) M = .ok (.int (-i)) M:=rfl
def zkp:ze9 (.int i) (.int j) M = .ok (.int (if j > i then j else i)) M:=rfl
def ztI:eqA (.int i) (.int j) M = .ok (.bl (i==j)) M:=rfl
def ztD:neA (.int i) (.int j) M = .ok (.bl (!(i==j))) M:=rfl
def ztG{a b:Bool} :isB (.bl a) (.bl b) M = .ok (.bl (a==b)) M:=rfl
def zs9{a b:Bool} :zsi (.bl a) (.bl b) M = .ok (.bl (a != b)) M:=rfl
theorem qX{α:Type}{xs:List α} :atI xs (n:Int)=xs[n]?:=by
 unfold atI ixN
 by_cases h:n<xs.length
 ·simp[h]
 ·simp[h]
theorem ztU{α:Type}{x:α}{l:List α}:atI (x::l) 0=some x:=by have:=qX (xs:=x::l) (n:=0);exact this
theorem ztT{α:Type}{x y:α}{l:List α}:atI (x::y::l) 1=some y:=by have:=qX (xs:=x::y::l) (n:=1);exact this
theorem ztS{α:Type}{x y z:α}{l:List α}:atI (x::y::z::l) 2=some z:=by have:=qX (xs:=x::y::z::l) (n:=2);exact this
theorem ztR{α:Type}{x y z w:α}{l:List α}:atI (x::y::z::w::l) 3=some w:=by have:=qX (xs:=x::y::z::w::l) (n:=3);exact this
theorem ztP:ixN (n+1) 0=some 0:=by unfold ixN;simp
theorem ztO:ixN (n+2) 1=some 1:=by unfold ixN;simp;omega
theorem ztN:ixN (n+3) 2=some 2:=by unfold ixN;simp;omega
theorem zao{a:Nat}(e:M[a]? = some (.lst xs))(h:xs.length<sizeLine):z7 (.ref a) [t] M = .ok .non (M.set a (.lst (xs++[t]))):=by unfold z7;simp only[e,Qz h]
theorem yT{a:Nat}(e:M[a]? = some (.lst xs)):zL (.ref a) M = .ok (.ref a) M:=by unfold zL qC;simp only[e]
theorem zb2{a:Nat}(e:M[a]? = some (.lst xs)):zar (.ref a) M = .ok (.tup xs) M:=by unfold zar zX qC;simp only[e]
def zpW(h:-(2 ^ 62)<=j/\j<2 ^ 62):zge [.int j] M = .ok (ze4 0 j.toNat) M:=Qz h
theorem ztJ:zcQ (.int i) (.int 8) M = .ok (.int (i.fdiv 8)) M:=zed ⟨by decide,Q5 (show(8:Int).natAbs<10 ^ 1 by decide) (Nat.pow_le_pow_right ∅ ∅)⟩
def ze7(h:-(2 ^ 64)<i/\i<2 ^ 64):zbs (.int i) (.int j) M = .ok (.int (i*j)) M:=zoP (.inr (.inl h))
theorem ziD(n:Nat)(hn:n<=2000)(h0:j ≠ 0)(h:j.natAbs<10 ^ n):j ≠ 0/\j.natAbs<10 ^ 2000:=⟨h0,Q5 h (Nat.pow_le_pow_right ∅ hn)⟩
structure Po where
 a:Int
 b:Int
 c:Int
noncomputable def Po.cell(p:Po):Cell:=.lst [.int p.a,.int p.b,.int p.c]
noncomputable def Po.dig(p:Po)(base:Int):Int:=if 0<p.a then p.a % base else
 let mixed:=(p.b+7919*(p.c+1)) % 1000000007
 let stir:=(mixed+11)*(mixed+48271) % 998244353
 (stir*stir % 2147483647 / 8) % base
noncomputable def Po.nxt(p:Po)(base:Int):Po:=if 0<p.a then⟨p.a / base,p.b,p.c⟩else⟨p.a,p.b,p.c+1⟩
noncomputable def Po.new(cell:Int):Po:=⟨if cell-10 ^ 18 > 0 then cell-10 ^ 18 else 0,cell % 10 ^ 18,0⟩
theorem Po.dig_lo(p:Po){base:Int}(h:0<base):0<=p.dig base:=by
 unfold Po.dig;split
 ·exact Int.emod_nonneg _ ⋯
 ·exact Int.emod_nonneg _ ⋯
theorem Po.dig_hi(p:Po){base:Int}(h:0<base):p.dig base<base:=by
 unfold Po.dig;split
 ·exact Int.emod_lt_of_pos _ h
 ·exact Int.emod_lt_of_pos _ h
def znh:yB (.tup xs) M = .ok (.int xs.length) M:=rfl
def zni:yB (.lst xs) M = .ok (.int xs.length) M:=rfl
theorem zjD{α:Type}{xs:List α}(h0:0<=i)(h1:i<xs.length):∃x,atI xs i=some x/\x ∈ xs:=by
 obtain⟨n,rfl⟩:∃n:Nat,i=n:=⟨i.toNat,⋯⟩;have hn:n<xs.length:=by omega
 exact⟨xs[n],by rw[qX];simp[hn],getElem_mem hn⟩
variable {ys:List T}
def ztx(h:xs.length+ys.length<=sizeLine):yD (.tup xs) (.tup ys) M = .ok (.tup (xs++ys)) M:=Qz h
def zfN(h:xs.length+ys.length<=sizeLine):yD (.lst xs) (.lst ys) M = .ok (.lst (xs++ys)) M:=Qz h
noncomputable def zjb:T->Option Key
 |.int i=>some (.inl i)|.str x=>some (.inr x)|_=>none
noncomputable def zfJ(t:T)(M:Mem):Option (List (Key × T)):=match t with
 |.ref a=>match M[a]? with
  |some (.dic kvs)=>some kvs|_=>none
 |.dct kvs=>some kvs|_=>none
noncomputable def zI{κ:Type}[DecidableEq κ](kvs:List (κ × T))(k:κ):Option T:=(kvs.find? fun kv=>decide (kv.1=k)).map (·.2)
noncomputable def zcR{κ:Type}[DecidableEq κ](kvs:List (κ × T))(k:κ)(t:T):List (κ × T):=
 if(kvs.any fun kv=>decide (kv.1=k))=true then kvs.map (fun kv=>if kv.1=k then(kv.1,t)else kv)else kvs++[(k,t)]
section
theorem zgn{k:Key}(r:Rep K S t v)(e:zjb t=some k):v=kV k:=by cases r with|int i=>have e':some (Sum.inl i)=some k:=e;cases e';rfl|str i=>have e':some (Sum.inr i)=some k:=e;cases e';rfl|non=>cases e|bl b=>cases e|ty b=>cases e|tup _ _ _=>cases e|lst _ _ _=>cases e|ref _=>cases e|dct _ _ _=>cases e|exc _ _ _ _=>cases e
section
variable {κ:Type}[DecidableEq κ]
theorem RepK.nilT{us:List (κ × V)}(r:RepK K S [] us):us=[]:=by
 have:=r.1
 simpa using this.symm
def RepK.nil:RepK (κ:=κ) K S [] []:=⟨rfl,.nil⟩
theorem RepK.consT{p:κ × T}{kvs:List (κ × T)}{us:List (κ × V)}(r:RepK K S (p::kvs) us):∃u us',us=(p.1,u)::us'/\Rep K S p.2 u/\RepK K S kvs us':=by
 cases us with
 |nil=>have:=r.1;simp at this|cons q us=>
  obtain⟨h1,h2⟩:=r;rw[QF,QF]at h1 h2;injection h1 with e1 e2;obtain⟨v,vs,e3,r1,r2⟩:=h2.consT;injection e3 with e3 e4;refine⟨q.2,us,?_,?_,e2,?_⟩
  ·rw[e1]
  ·rw[e3];exact r1
  ·rw[e4];exact r2
theorem RepK.cons{k:κ}{u:V}{kvs:List (κ × T)}{us:List (κ × V)}(q:Rep K S t u)(r:RepK K S kvs us):RepK K S ((k,t)::kvs) ((k,u)::us):=
 ⟨by rw[QF,QF,r.1],by rw[QF,QF];exact r.2.cons q⟩
theorem RepK.length{kvs:List (κ × T)}{us:List (κ × V)}(r:RepK K S kvs us):kvs.length=us.length:=by
 have:=congrArg List.length r.1
 simpa using this
theorem RepK.look(k:κ):∀{kvs:List (κ × T)} {us:List (κ × V)},RepK K S kvs us->(zI kvs k=none/\zaU us k=none)\/∃t v,zI kvs k=some t/\zaU us k=some v/\Rep K S t v
 |[],us,r=>by rw[r.nilT];exact .inl ⟨rfl,rfl⟩|p::kvs,us,r=>by
  obtain⟨u,us',rfl,r1,r2⟩:=r.consT
  by_cases h:p.1=k
  ·refine .inr ⟨p.2,u,?_,?_,r1⟩
   ·simp[zI,find?_cons,h]
   ·simp[zaU,find?_cons,h]
  ·have e1:zI (p::kvs) k=zI kvs k:=by simp[zI,find?_cons,h]
   have e2:zaU ((p.1,u)::us') k=zaU us' k:=by simp[zaU,find?_cons,h]
   rw[e1,e2];exact RepK.look k r2
theorem RepK.any(k:κ):∀{kvs:List (κ × T)} {us:List (κ × V)},RepK K S kvs us->(kvs.any fun kv=>decide (kv.1=k))=us.any fun kv=>decide (kv.1=k)
 |[],us,r=>by rw[r.nilT];rfl|p::kvs,us,r=>by obtain⟨u,us',rfl,r1,r2⟩:=r.consT;rw[any_cons,any_cons,RepK.any k r2]
theorem RepK.repl(k:κ){t:T}{v:V}(q:Rep K S t v):∀{kvs:List (κ × T)} {us:List (κ × V)},RepK K S kvs us->RepK K S (kvs.map (fun kv=>if kv.1=k then(kv.1,t)else kv)) (us.map (fun kv=>if kv.1=k then(kv.1,v)else kv))
 |[],us,r=>by rw[r.nilT];exact .nil|p::kvs,us,r=>by
  obtain⟨u,us',rfl,r1,r2⟩:=r.consT;rw[QF,QF]
  by_cases h:p.1=k
  ·rw[Qz h,Qz h];exact(RepK.repl k q r2).cons q
  ·rw[QA h,QA h];exact(RepK.repl k q r2).cons r1
theorem RepK.snoc(k:κ){t:T}{v:V}(q:Rep K S t v):∀{kvs:List (κ × T)} {us:List (κ × V)},RepK K S kvs us->RepK K S (kvs++[(k,t)]) (us++[(k,v)])
 |[],us,r=>by rw[r.nilT];exact RepK.nil.cons q|p::kvs,us,r=>by obtain⟨u,us',rfl,r1,r2⟩:=r.consT;exact(RepK.snoc k q r2).cons r1
theorem RepK.put(k:κ)(q:Rep K S t v){kvs:List (κ × T)}{us:List (κ × V)}(r:RepK K S kvs us):RepK K S (zcR kvs k t) (putK us k v):=by
 unfold zcR putK;rw[r.any k];split
 ·exact r.repl k q
 ·exact r.snoc k q
end
theorem zfk(m:MemOk K S){x:V}{kvs:List (Key × T)}(r:Rep K S t x)(e:zfJ t S.M=some kvs):∃p us,x = .ref p/\Rd S.H p (.dK us)/\RepK K S kvs us:=by
 unfold zfJ at e;split at e
 ·split at e
  ·rename_i a _ kvs' q;cases e;cases r;obtain⟨us,h1,h2⟩:=m.cell _ _ q;exact⟨_,us,rfl,.inl h1,h2⟩
  ·cases e
 ·cases e;cases r with
  |dct h l rr=>
   refine⟨_,_,rfl,.inr ⟨_,h⟩,l,?_,rr⟩;have:=congrArg List.length l
   simpa using this
 ·cases e
def _root_.L2.DGet.r{a:Addr}{us:List (Key × V)}{k:Key}(e:Rd H a (.dK us)):DGet H a (kV k) (zaU us k):=.inl ⟨us,k,e,rfl,rfl⟩
theorem RepK.isSome{κ:Type}[DecidableEq κ](k:κ){kvs:List (κ × T)}{us:List (κ × V)}(r:RepK K S kvs us):(zaU us k).isSome=(zI kvs k).isSome:=by
 rcases r.look k with⟨a,b⟩ | ⟨t,v,a,b,_⟩
 ·rw[a,b];rfl
 ·rw[a,b];rfl
theorem zop(m:MemOk K S){a:Nat}{c:Cell}(e:S.M[a]? = some c){ts:List (Key × T)}{vs:List (Key × V)}(r:RepK K S ts vs):Stp K S (S.put a (.dK vs) (.dic ts)):=by have ha:a<S.M.length:=(Qy.mp e).1;exact Stp.put m ha _ _ ⟨vs,qu,r.grow m (Grow.put m ha _ _)⟩
end
section
noncomputable def inD:X3:=fun x y M=>match zfJ y M with
 |some kvs=>match zjb x with
  |some k=>.ok (.bl (zI kvs k).isSome) M|none=>.bad
 |none=>inA x y M
theorem ztB(hu:X.A.units+64<cLine):OpR X (compareOp .In) (lR2 Z X.K inD):=by
 injections
 replace ξ:Fin Z (Rep X.K) X.K S (inD tx ty S.M) Q:=ξ;unfold inD at ξ;rw?
 ·subst e;rename_i kvs q;rw?
  ·rename_i k qk;obtain⟨p,us,e3,e4,rk⟩:=zfk m r2 q;dsimp only at e3;subst e3;cases (show u=Value.ref p from ry);have ek:=zgn r1 qk;dsimp only at ek;subst ek;refine zth ⋯ I (.r e4) rx fun s' I'=>⟨.bl _,S.H,I',rfl,?_⟩;rw[rk.isSome k];exact ξ S _ rfl (.refl m) (.bl _)
  ·simp?
 ·exact zqu ρ s σ H x y v u Q I rx ry ⟨S,⟨tx,ty⟩,e,m,⟨r1,r2⟩,ξ⟩
noncomputable def ziQ(o i t:T)(M:Mem):Out Unit:=match o,zjb i with
 |.ref a,some k=>match M[a]? with
  |some (.dic kvs)=>if kvs.length<sizeLine then .ok () (M.set a (.dic (zcR kvs k t)))else .bad|_=>zej o i t M
 |_,_=>zej o i t M
theorem zrS(hu:X.A.units+64<cLine):zeP X (zhA Z X.K ziQ):=by
 intro ρ s σ H o i v ov iv u Q I ro ri rv ⟨S,⟨⟨to,ti⟩,tv⟩,e,m,⟨⟨r1,r2⟩,r3⟩,ξ⟩;replace ξ:Fin Z UnR X.K S (ziQ to ti tv S.M) (fun _ H'=>Q H'):=ξ;unfold ziQ at ξ;rw?
 ·split at ξ
  ·rename_i a k qk _ kvs q;rw?
   ·rename_i hz;subst e;obtain⟨us,h4,rk⟩:=m.cell _ _ q;cases r1;cases (show ov=Value.ref (S.α a)from ro);have ek:=zgn r2 qk;dsimp only at ek;subst ek;refine zmp ⋯ I (.k h4 (by rw[←rk.length];exact hz)) ri rv fun s' I'=>⟨_,I',?_⟩;exact ξ (S.put a (.dK (putK us k v)) (.dic (zcR kvs k tv))) () rfl (zop m q (rk.put k r3)) trivial
   ·simp?
  ·exact zgD ρ s σ H o i v ov iv u Q I ro ri rv ⟨S,⟨⟨_,ti⟩,tv⟩,e,m,⟨⟨r1,r2⟩,r3⟩,ξ⟩
 ·exact zgD ρ s σ H o i v ov iv u Q I ro ri rv ⟨S,⟨⟨_,ti⟩,tv⟩,e,m,⟨⟨r1,r2⟩,r3⟩,ξ⟩
noncomputable def ixD:X3:=fun x y M=>match zfJ x M with
 |some kvs=>match zjb y with
  |some k=>zgh (zI kvs k) M|none=>.bad
 |none=>ixT x y M
theorem zbt(hu:X.A.units+64<cLine):IxR X (lR2 Z X.K ixD):=by
 intro va sl ρ s σ H x y v u Q I rx ry ⟨S,⟨tx,ty⟩,e,m,⟨r1,r2⟩,ξ⟩ hs;replace ξ:Fin Z (Rep X.K) X.K S (ixD tx ty S.M) Q:=ξ;unfold ixD at ξ;rw?
 ·subst e;rename_i kvs q;rw?
  ·rename_i k qk;obtain⟨t,et,ξ⟩:=zfv ξ;obtain⟨p,us,e3,e4,rk⟩:=zfk m r1 q;dsimp only at e3;subst e3;cases (show v=Value.ref p from rx);have ek:=zgn r2 qk;dsimp only at ek;subst ek;rcases rk.look k with⟨a1,_⟩ | ⟨t',w,a1,b1,rw'⟩
   ·rw[a1]at et;cases et
   ·rw[a1]at et;cases et;have hT:=zjV I (DGet.r (k:=k) e4);have h2:wpAny (model X.prog X.w) X.A (getItem (.ref p) u) (EP X ρ σ Q) X.xe s:=zmq ⋯ I (b1 ▸ DGet.r e4) ry fun w' s3 I3 rw2=>⟨w,S.H,I3,rw2,ξ S w rfl (.refl m) rw'⟩;unfold subscriptTail;refine Q1 ?_;rw[getitemInPython_of_ne hT.not_modules];refine Q1 (wpAny_specialOf hT PySem.F.slot_dict_getitem.lookup ?_);have f2:wpAny (model X.prog X.w) X.A (subscripted sl false (.ref p) u) (fun r s₃=>wpAny (model X.prog X.w) X.A (letTemporaryGo va (.ref p) r >>= fun _=>pure r) (EP X ρ σ Q) X.xe s₃) X.xe s:=by rw[hs];exact wpAny_operating (Qg h2 (fun r s₃ h₃=>Q1 (wpAny_letTemporaryGo (Qf h₃))) fun _ _ x=>x)
    first
     |exact Qf (Q1 f2)
     |exact Q1 (Qf (Q1 f2))
     |exact Q1 f2
  ·simp?
 ·exact zh va sl ρ s σ H x y v u Q I rx ry ⟨S,⟨tx,ty⟩,e,m,⟨r1,r2⟩,ξ⟩ hs
noncomputable def zhz:T->Mem->Out T:=fun t M=>match zfJ t M with
 |some kvs=>.ok (.int kvs.length) M|none=>yB t M
theorem zid:CallR X (.builtin "len") (lRN Z X.K (qB zhz)):=zgs fun ρ s σ S t x v Q I rx m r ξ=>by
 unfold zhz at ξ;rw?
 ·rename_i kvs q;obtain⟨p,us,e3,e4,rk⟩:=zfk m r q;subst e3;cases (show v=Value.ref p from rx);refine zsA I e4 fun t' s' I'=>⟨.int us.length,S.H,I',⟨_,rfl⟩,?_⟩;rw[←rk.length];exact ξ S _ rfl (.refl m) (.int _)
 ·exact zA ρ s σ S.H _ _ Q I (.cons rx .nil) ⟨S,[t],rfl,m,Reps.nil.cons r,ξ⟩
noncomputable def znF:X8:=fun _ M=>.ok (.ref M.length) (M++[.dic []])
noncomputable def lMt(Z:XK)(K:Frag)(F:T->X4):V->List V->Hp->VK->Prop:=fun x xs H Q=>L0 Z (Rep K) K (PrR (Rep K) (Reps K)) (fun a M=>F a.1 a.2 M) (x,xs) H Q
noncomputable def zbC(chk:T->Mem->Bool)(F:T->X4)(f:X8)(g:X1):X8:=fun σ M=>(f σ M).bind fun x M1=>if chk x M1=true then(g σ M1).bind fun ts M2=>F x ts M2 else .bad
end
noncomputable def insI(x:Int):List Int->List Int
 |[]=>[x]|y::ys=>if x<=y then x::y::ys else y::insI x ys
theorem insI_perm(x:Int):∀ys,(insI x ys).Perm (x::ys)
 |[]=>.refl _|y::ys=>by
  unfold insI;split
  ·exact .refl _
  ·exact((insI_perm x ys).cons y).trans (.swap x y ys)
theorem Reps.ints{K:Frag}{S:Sit}:∀ns:List Int,Reps K S (ns.map T.int) (ns.map V.int)
 |[]=>.nil|n::ns=>(Reps.ints ns).cons (.int n)
noncomputable def tK:Key->T
 |.inl i=>.int i|.inr x=>.str x
theorem zpN(k:Key):Rep K S (tK k) (kV k):=by cases k with|inl i=>exact .int i|inr x=>exact .str x
theorem Reps.keys{K:Frag}{S:Sit}:∀ks:List Key,Reps K S (ks.map tK) (ks.map kV)
 |[]=>.nil|k::ks=>(Reps.keys ks).cons (zpN k)
noncomputable def SubL(m:List (Str × Addr)):List (Str × Addr)->Prop
 |[]=>True|c::l=>m.lookup c.1=some c.2/\SubL m l
theorem zi9:∀{l m:List (Str × Addr)},SubL m l->∀x a,l.lookup x=some a->m.lookup x=some a
 |[],_,_,_,_,h=>by cases h|(y,b)::l,m,g,x,a,h=>by
  rw[lookup_cons]at h;split at h
  ·rename_i e;cases h;rw[eq_of_beq e];exact g.1
  ·exact zi9 g.2 x a h
noncomputable def zmr(kvs prs:List (Key × T)):List (Key × T):=prs.foldl (fun acc kv=>zcR acc kv.1 kv.2) kvs
theorem RepK.merge{K:Frag}{S:Sit}:∀{prs:List (Key × T)} {us:List (Key × V)} {kvs:List (Key × T)} {ws:List (Key × V)},RepK K S prs us->RepK K S kvs ws->RepK K S (zmr kvs prs) (zlW ws us)
 |[],us,kvs,ws,r,q=>by rw[r.nilT];exact q|p::prs,us,kvs,ws,r,q=>by obtain⟨u,us',rfl,r1,r2⟩:=r.consT;show RepK K S (zmr (zcR kvs p.1 p.2) prs) (zlW (putK ws p.1 u) us');exact RepK.merge r2 (q.put p.1 r1)
section
theorem zo5:PIp X .Mult (lR2 Z X.K zi8):=by
 injections
 subst e;replace ξ:Fin Z (Rep X.K) X.K S (zi8 tx ty S.M) Q:=ξ;unfold zi8 zaD at ξ;rw?
 ·rename_i i j;cases r1;cases r2
  replace ξ:Fin Z (Rep X.K) X.K S (if Mo64 i j then .ok (.int (i*j)) S.M else .bad) Q:=ξ
  by_cases h:Mo64 i j
  ·rw[Qz h]at ξ;obtain⟨t,rfl⟩:=rx;obtain⟨t',rfl⟩:=ry;exact imul_int ⟨.int _,S.H,I.tok _,⟨_,rfl⟩,ξ S _ rfl (.refl m) (.int _)⟩ h.ok.ok
  ·rw[QA h]at ξ;exact ξ.elim
 ·simp?
end
noncomputable def forR(bd:T->X7)(body:X5)(a:Nat):Nat->Nat->X5
 |0,i,σ,M=>match M[a]? with
  |some (.lst xs)=>if xs.length<=i then .ok (.nx σ) M else .bad|_=>.bad
 |n+1,i,σ,M=>match M[a]? with
  |some (.lst xs)=>match xs[i]? with
   |some x=>(bd x σ M).bind fun σ1 M1=>(body σ1 M1).bind (zab (forR bd body a n (i+1)))|none=>.ok (.nx σ) M
  |_=>.bad
noncomputable def ztL(bd:T->X7)(body:X5)(t:T)(σ:Ev)(M:Mem):Out Fl:=match t with
 |.ref a=>match M[a]? with
  |some (.lst xs)=>forR bd body a xs.length 0 σ M|_=>.bad
 |_=>.bad
theorem znB{bd:T->X7}{body:X5}{a:Nat}{xs:List T}(P:Nat->Ev->Mem->Prop)(hP:∀k σ M,P k σ M->M[a]? = some (.lst xs))
  (t:∀k x σ M,xs[k]? = some x->P k σ M->∃σ' M',((bd x σ M).bind fun σ1 M1=>body σ1 M1) = .ok (.nx σ') M'/\P (k+1) σ' M'):∀n i,i+n=xs.length->∀σ M,P i σ M->∃σ' M',forR bd body a n i σ M = .ok (.nx σ') M'/\P xs.length σ' M'
 |0,i,hi,σ,M,h=>by have hM:=hP i σ M h;refine⟨σ,M,?_,by rw[←hi];exact h⟩;unfold forR;rw[hM];exact Qz ⋯
 |n+1,i,hi,σ,M,h=>by
  have hM:=hP i σ M h;have hx:xs[i]? = some xs[i]:=by simp[show i<xs.length by omega]
  obtain⟨σ1,M1,e1,h1⟩:=t i _ σ M hx h;obtain⟨σ2,M2,e2,h2⟩:=znB P hP t n (i+1) ⋯ σ1 M1 h1;refine⟨σ2,M2,?_,h2⟩;unfold forR;rw[hM];simp only[hx];cases q:bd xs[i] σ M with
  |bad=>rw[q]at e1;cases e1|exn C fs M'=>rw[q]at e1;cases e1|ok σ3 M3=>rw[q]at e1;replace e1:body σ3 M3 = .ok (.nx σ1) M1:=e1;show(body σ3 M3).bind (zab (forR bd body a n (i+1)))=_;rw[e1];exact e2
noncomputable def zcw(t:T)(M:Mem):Bool:=(qC t M).isSome
theorem zgz{K:Frag}{S:Sit}(m:MemOk K S){t:T}{x:V}(r:Rep K S t x)(h:zcw t S.M=true):tyV K "list" x S.H:=by
 unfold zcw at h;cases q:qC t S.M with
 |none=>rw[q]at h;cases h|some xs=>obtain⟨p,vs,rfl,hq,_⟩:=qJ m r q;exact .inl ⟨rfl,vs,hq⟩
end FT
namespace L2
open PySem PySem.Spec PySem.W PyProof.Rows
theorem KV.get_val{κ:Type}:∀{kvs:List (κ × V)} {vs:List (κ × Value)} {i:Nat} {k:κ} {v:Value},KV kvs vs->vs[i]? = some (k,v)->∃u,(kvs.map (·.2))[i]? = some u/\RelV u v
 |_,_,_,_,_,.nil,e=>by simp at e|_,_,0,_,_,.cons r _,e=>by simp at e;subst e;exact⟨_,rfl,r.2⟩|_,_,i+1,k,v,.cons _ t,e=>by obtain⟨u,h1,h2⟩:=KV.get_val (i:=i) (k:=k) (v:=v) t (by simpa using e);exact⟨u,by simpa using h1,h2⟩
section
variable {X:Cx}{ρ:List (Addr × Obj)}{σ:St}{H:Hp}{s:Shared}{h':Heap}
theorem Inv.turned2{t':Nat}{e it:Addr}(I:Inv X ρ σ H s)(k:∀b o,b ≠ e->b ≠ it->s.heap.get? b=some o->h'.get? b=some o)(fe:zdZ X ρ H e)(fi:zdZ X ρ H it):Inv X ρ σ H { s with heap:=h',toks:=t' }:=by
 have ne:∀b u,H b=some u->b ≠ e:=fun b u q z=>by rw[z,fe.1]at q;cases q
 have ni:∀b u,H b=some u->b ≠ it:=fun b u q z=>by rw[z,fi.1]at q;cases q
 have kk:∀b o,b ∉ [e,it]->s.heap.get? b=some o->h'.get? b=some o:=fun b o hc q=>k b o (fun z=>hc (by simp[z])) (fun z=>hc (by simp[z])) q;refine I.step (g':=s.gens) (d':=s.drawn) (ch:=[e,it]) (fun b hb=>?_) (fun b o _ _ hc q _=>kk b o hc q) (fun b o _ _ hc q _=>⟨o.slots,kk b o hc q⟩) (fun _ _ _ _ n=>n)
  (fun b o hc q=>⟨o,kk b o hc q⟩) (fun _ _ q=>q) (fun _ _ _ q=>q) (fun b ps q=>⟨#[],by rw[q];simp⟩) (fun m hm=>?_) (fun b u q=>?_) I.bare
 ·rcases QB.mp hb with z | z
  ·subst z;exact⟨fe.2.2.2.1,fe.2.1,fe.2.2.2.2.1,fe.2.2.2.2.2⟩
  ·have z:=QG.mp z;subst z;exact⟨fi.2.2.2.1,fi.2.1,fi.2.2.2.2.1,fi.2.2.2.2.2⟩
 ·obtain⟨o,es,ep,ho,r⟩:=hm;exact⟨o,es,ep,k _ o (Ne.symm fe.2.1) (Ne.symm fi.2.1) ho,r⟩
 ·refine(I.hok b u q).stay (fun c v hc z=>k c v ?_ ?_ z) (fun _ z=>z) fun _ _ z=>z
  ·rcases hc with z | z
   ·rw[z];exact ne b u q
   ·exact ne c _ z
  ·rcases hc with z | z
   ·rw[z];exact ni b u q
   ·exact ni c _ z
end
end L2
namespace FT
open PySem PySem.Spec PyProof.Rows L2
noncomputable def enT(ts:List T):List T:=ts.mapIdx fun i t=>.tup [.int (i:Int),t]
noncomputable def rpL(xs:List T)(y:T)(M:Mem):Out (List T):=match y with
 |.int k=>@ite _ ((-(2 ^ 63)<=k/\k<2 ^ 63)/\xs.length*k.toNat<=sizeLine) (Classical.propDecidable _) (.ok (List.replicate k.toNat xs).flatten M) .bad|_=>.bad
noncomputable def zlc(f:X1)(g:X8):X1:=fun σ M=>(f σ M).bind fun xs M1=>(g σ M1).bind fun y M2=>rpL xs y M2
variable {X:Cx}{Z:XK}
section
end
noncomputable def zbo(M:Mem)(x:T):List T->Option (List Bool)
 |[]=>some []|t::ts=>match eqD M 20 t x,zbo M x ts with
  |some b,some bs=>some (b::bs)|_,_=>none
noncomputable def inN:X3:=fun x y M=>match zX y M with
 |some ys=>match zbo M x ys with
  |some bs=>.ok (.bl (bs.any id)) M|none=>.bad
 |none=>.bad
noncomputable def zgk:X3:=fun x y M=>match zX y M with
 |some ys=>match zbo M x ys with
  |some bs=>.ok (.bl (!bs.any id)) M|none=>.bad
 |none=>.bad
theorem zh9{M:Mem}{x:T}:∀{ts:List T} {bs:List Bool},zbo M x ts=some bs->bs.length=ts.length/\∀(i:Nat) t b,ts[i]? = some t->bs[i]? = some b->eqD M 20 t x=some b
 |[],bs,h=>by cases h;exact⟨rfl,fun i t b e=>by simp at e⟩|t::ts,bs,h=>by
  unfold zbo at h;split at h
  ·rename_i b bs' q1 q2;cases h;obtain⟨l,g⟩:=zh9 q2;refine⟨by simp[l],fun i u c e1 e2=>?_⟩;cases i with|zero=>cases (show some t=some u from e1);cases (show some b=some c from e2);exact q1|succ i=>exact g i u c (by simpa using e1) (by simpa using e2)
  ·cases h
section
variable {ρ:List (Addr × Obj)}{s:Shared}{σ:L2.St}{S:Sit}
open Classical in
theorem zeL(I:L2.Inv X ρ σ S.H s)(m:MemOk X.K S)(hu:X.A.units+64<cLine){x:T}{v:V}{u:Value}(rx:RelV v u)(r:Rep X.K S x v){ts:List T}{vs:List V}{its:List Value}(rs:Reps X.K S ts vs)(rv:Vals vs its){bs:List Bool}(h:zbo S.M x ts=some bs) :
  ∃e:Value->Bool,(∀y,y ∈ its.toArray->SeqAt.EqAt X.A.in1 s y u (e y))/\its.toArray.any e=bs.any id:=by
 obtain⟨hl,g⟩:=zh9 h;have l1:its.length=bs.length:=by rw[←rv.length,←rs.1,hl]
 have at_:∀(j:Nat) (y:Value) (b:Bool),its[j]? = some y->bs[j]? = some b->SeqAt.EqAt X.A.in1 s y u b:=fun j y b e1 e2=>by
  have hj:j<ts.length:=by rw[←hl];exact(Qy.mp e2).1
  have et:ts[j]? = some ts[j]:=by simp[hj]
  obtain⟨w,ew,rw'⟩:=rs.get et;obtain⟨y',ey,ry⟩:=rv.get ew;rw[e1]at ey;cases ey;exact zmn I m 20 (A:=X.A.in1) (by show X.A.units+1+20<cLine;omega) ry rx rw' r (g j _ b et e2)
 refine⟨fun y=>decide (∃j:Nat,its[j]? = some y/\bs[j]? = some true),fun y hy=>?_,?_⟩
 ·by_cases hc:∃j:Nat,its[j]? = some y/\bs[j]? = some true
  ·show SeqAt.EqAt X.A.in1 s y u (decide (∃j:Nat,its[j]? = some y/\bs[j]? = some true));rw[Qw hc];obtain⟨j,e1,e2⟩:=hc;exact at_ j y true e1 e2
  ·show SeqAt.EqAt X.A.in1 s y u (decide (∃j:Nat,its[j]? = some y/\bs[j]? = some true));rw[Qx hc];obtain⟨j,hj,e1⟩:=getElem_of_mem (show y ∈ its by simpa using hy);have ej:its[j]? = some y:=by rw[Q0 hj,e1]
   have hb:bs[j]? = some bs[j]:=by simp[show j<bs.length by omega]
   cases q:bs[j]'⋯with
   |true=>exact absurd ⟨j,ej,by rw[hb,q]⟩ hc|false=>exact at_ j y false ej (by rw[hb,q])
 ·rw[Bool.eq_iff_iff];simp only[List.any_toArray,List.any_eq_true,id,decide_eq_true_eq];constructor
  ·rintro⟨y,_,j,_,e2⟩;exact⟨true,Qa e2,rfl⟩
  ·rintro⟨b,hb,rfl⟩;obtain⟨j,hj,e1⟩:=getElem_of_mem hb;have hj2:j<its.length:=by omega
   exact⟨its[j],getElem_mem hj2,j,by simp[hj2],by simp[hj,e1]⟩
theorem zqt(hu:X.A.units+64<cLine):OpR X (compareOp .In) (lR2 Z X.K inN):=by
 injections
 subst e;replace ξ:Fin Z (Rep X.K) X.K S (inN tx ty S.M) Q:=ξ;unfold inN at ξ;rw?
 ·rename_i ys q;rw?
  ·rename_i bs qb;obtain⟨p,vs,e1,hq,rs⟩:=zbW m r2 q;dsimp only at e1;subst e1;cases ry;rcases hq with hq | hq
   ·obtain⟨its,rv,pl,hz⟩:=I.list hq;obtain⟨e,h1,h2⟩:=zeL I m hu rx r1 rs rv qb;exact SeqAt.in_listAt e pl.isList h1 ⟨.bl _,S.H,I,rfl,by rw[h2];exact ξ S _ rfl (.refl m) (.bl _)⟩
   ·obtain⟨its,rv,pl,hz⟩:=I.tuple hq;obtain⟨e,h1,h2⟩:=zeL I m hu rx r1 rs rv qb;exact SeqAt.in_tupleAt e pl h1 ⟨.bl _,S.H,I,rfl,by rw[h2];exact ξ S _ rfl (.refl m) (.bl _)⟩
  ·simp?
 ·simp?
theorem zoF(hu:X.A.units+64<cLine):OpR X (compareOp .NotIn) (lR2 Z X.K zgk):=by
 injections
 subst e;replace ξ:Fin Z (Rep X.K) X.K S (zgk tx ty S.M) Q:=ξ;unfold zgk at ξ;rw?
 ·rename_i ys q;rw?
  ·rename_i bs qb;obtain⟨p,vs,e1,hq,rs⟩:=zbW m r2 q;dsimp only at e1;subst e1;cases ry;rcases hq with hq | hq
   ·obtain⟨its,rv,pl,hz⟩:=I.list hq;obtain⟨e,h1,h2⟩:=zeL I m hu rx r1 rs rv qb;exact SeqAt.notIn_listAt e pl.isList h1 ⟨.bl _,S.H,I,rfl,by rw[h2];exact ξ S _ rfl (.refl m) (.bl _)⟩
   ·obtain⟨its,rv,pl,hz⟩:=I.tuple hq;obtain⟨e,h1,h2⟩:=zeL I m hu rx r1 rs rv qb;exact SeqAt.notIn_tupleAt e pl h1 ⟨.bl _,S.H,I,rfl,by rw[h2];exact ξ S _ rfl (.refl m) (.bl _)⟩
  ·simp?
 ·simp?
end
end FT
namespace L2
open PySem PySem.Spec PySem.W PyProof.Rows
variable {X:Cx}
section
variable {ρ:List (Addr × Obj)}{σ:St}{H:Hp}{s:Shared}{l:Addr}{us:List (Key × V)}
theorem Inv.freeze(I:Inv X ρ σ H s)(e:H l=some (.dK us)):∃ob,Inv X ρ σ (upd H l (.frz ob (.dK us))) s:=by obtain⟨z,hs,vs,rel,o,es,ep,ho,r⟩:=(show ObjOk X.prog X.w H s.heap l (.dK us)from I.hok l _ e);exact⟨o,I.write (x:=l) (e:=l) (o:=.frz o (.dK us)) (h':=s.heap) (t':=s.toks) (by rw[e];trivial) (.inl rfl) (fun b u _ q=>q) ⟨o,ho⟩ ⟨ho,z,hs,vs,rel,o,es,ep,ho,r⟩⟩
end
noncomputable def ztg(Q:VK):VK:=fun v H'=>∃l us,v = .ref l/\H' l=some (.dK us)/\∀ob,Q v (upd H' l (.frz ob (.dK us)))
theorem CallR.frz{f:Value}{r:List V->Hp->VK->Prop}(h:CallR X f r):CallR X f (fun xs H Q=>r xs H (ztg Q)):=by intro ρ s σ H xs us Q I rv hr;refine Qg (h ρ s σ H xs us _ I rv hr) (fun v s' ⟨x,H',I',r',l,us',ex,e,q⟩=>?_) fun _ _ z=>z;obtain⟨ob,I2⟩:=I'.freeze e;exact⟨x,_,I2,r',q ob⟩
end L2
namespace FT
open PySem PySem.Spec PyProof.Rows L2
noncomputable def zdh(f:Str)(v:T):List (Str × T)->List (Str × T)
 |[]=>[(f,v)]|(g,x)::r=>if g=f then(g,v)::r else(g,x)::zdh f v r
variable {K:Frag}{us:List (Str × V)}
section
variable {S:Sit}
def RepF.nil:RepF K S [] []:=⟨rfl,.nil⟩
theorem RepF.nilT(r:RepF K S [] us):us=[]:=by
 have:=r.1
 simpa using this.symm
theorem RepF.consT{p:Str × T}{fs:List (Str × T)}(r:RepF K S (p::fs) us):∃u us',us=(p.1,u)::us'/\Rep K S p.2 u/\RepF K S fs us':=by
 cases us with
 |nil=>have:=r.1;simp at this|cons q us'=>have h1:=r.1;simp only[QF,List.cons.injEq]at h1;obtain⟨v,vs,e,r1,r2⟩:=(show Reps K S (p.2::fs.map (·.2)) (q.2::us'.map (·.2))from r.2).consT;cases e;exact⟨q.2,us',by rw[h1.1],r1,h1.2,r2⟩
theorem RepF.cons{g:Str}{t:T}{u:V}{fs:List (Str × T)}(q:Rep K S t u)(r:RepF K S fs us):RepF K S ((g,t)::fs) ((g,u)::us):=⟨by simp[r.1],r.2.cons q⟩
theorem RepF.look(f:Str):∀{fs:List (Str × T)} {us:List (Str × V)},RepF K S fs us->∀{t:T},fs.lookup f=some t->∃v,us.lookup f=some v/\Rep K S t v
 |[],us,r,t,e=>by cases e|(g,x)::fs,us,r,t,e=>by obtain⟨u,us',rfl,r1,r2⟩:=r.consT;rw[lookup_cons]at e ⊢;cases h:f==g with|true=>rw[h]at e;cases e;exact⟨u,rfl,r1⟩|false=>rw[h]at e;exact RepF.look f r2 e
theorem RepF.put(f:Str){t:T}{v:V}(q:Rep K S t v):∀{fs:List (Str × T)} {us:List (Str × V)},RepF K S fs us->RepF K S (zdh f t fs) (z6 f v us)
 |[],us,r=>by rw[r.nilT];exact RepF.cons q .nil|(g,x)::fs,us,r=>by
  obtain⟨u,us',rfl,r1,r2⟩:=r.consT;unfold zdh z6
  by_cases h:g=f
  ·rw[Qz h,Qz h];exact RepF.cons q r2
  ·rw[QA h,QA h];exact RepF.cons r1 (RepF.put f q r2)
theorem RepF.len{fs:List (Str × T)}(r:RepF K S fs us):fs.length=us.length:=by
 have:=congrArg List.length r.1
 simpa using this
end
noncomputable def zaV(Cs:List Addr)(f:Str)(x:T)(M:Mem):Out T:=match x with
 |.ref a=>match M[a]? with
  |some (.ins C fs)=>if C ∈ Cs then zgh (fs.lookup f) M else .bad|_=>.bad
 |_=>.bad
noncomputable def zj(Cs:List Addr)(f:Str)(g:X8):X8:=fun σ M=>(g σ M).bind fun x M1=>zaV Cs f x M1
noncomputable def zaZ(Cs:List Addr)(f:Str)(x y:T)(M:Mem):Out Unit:=match x with
 |.ref a=>match M[a]? with
  |some (.ins C fs)=>if C ∈ Cs/\fs.length<1000 then .ok () (M.set a (.ins C (zdh f y fs)))else .bad|_=>.bad
 |_=>.bad
noncomputable def qF(Cs:List Addr)(f:Str)(fo fv:X8):X5:=fun σ M=>(fv σ M).bind fun y M1=>(fo σ M1).bind fun x M2=>(zaZ Cs f x y M2).bind fun _ M3=>.ok (.nx σ) M3
variable {X:Cx}{e:Expr}{pos:Pos}{f:Str}{Z:XK}
section
variable {Cs:List Addr}
end
structure MakT (P:Program) (w:World) (K:Frag) (mg:Str->Option Value) (base:Heap) (k:Nat) (x:Str) (C:Addr) (ps:List Str) (f:X4):Prop where
 ex:∃(fI:Addr) (fd:FuncData),Mk K C fI/\FnOk P w K mg base CX0 k fI fd ps (spT K f)/\Binds K fd ps []/\mg x=some (.ref C)
 nox:∀ts M C fs M',f ts M ≠ .exn C fs M'
structure Di (K:Frag) (mg:Str->Option Value) (x qual:Str) (C:Addr) (st:Stmt) (ps:List Str):Prop where
 ex:∃(fI:Addr) (fd:FuncData),Mk K C fI/\Fun K "__init__" qual st fI fd/\Binds K fd ps []/\mg x=some (.ref C)
variable {C:Addr}{ps:List Str}{st:Stmt}{qual x:Str}{mg:Str->Option Value}
theorem zqB{P:Program}{w:World}{base:Heap}{N:List Str}{k p n:Nat}{g:X5}(D:Di K mg x qual C st ps)(Sc:FnScope N ps (ye st))(hp:ps.length=p)(hn:N.length=n)
 (hb:∀(f:Addr) (cdv:Value) (A:Around) (outer:List PySem.Env) (s:Shared) (H:Hp) (E:XK),Room k (A.deeper (envOfC qual (ye st) s.heap.objs.size f cdv))->GSs (zbS CX0 P w K mg base N qual (ye st) f cdv A outer s H E).nox E0 (qE st) g) :
  MakT P w K mg base (k+1) x C ps (yi p n g):=by
 obtain⟨fI,fd,M,F,b,e⟩:=D.ex;exact⟨⟨fI,fd,M,F.ok Sc (ziO hp) fun cdv A outer s H vs Q E hr h=>zgt hn rfl h (hb fI cdv A outer s H E hr),b,e⟩,zgI _ _ _⟩
noncomputable def znb(a:Nat)(t:T)(M:Mem):Out T:=match t with
 |.non=>.ok (.ref a) M|_=>.bad
noncomputable def zcW(C:Addr)(F:X4)(ga:X1):X8:=fun σ M=>(ga σ M).bind fun ts M1=>(F (.ref M1.length::ts) (M1++[.ins C []])).bind fun t M2=>znb M1.length t M2
section
variable {k:Nat}{p:Pos}{es:List Expr}{ga:X1}{F:X4}
end
variable {P:Addr->Prop}
theorem zg:∀C ∈ ([]:List Addr),P C:=fun C h=>by simp at h
theorem zf{a:Addr}{l:List Addr}(h:P a)(r:∀C ∈ l,P C):∀C ∈ a::l,P C:=fun C hc=>by
 rcases QB.mp hc with rfl | hc
 ·exact h
 ·exact r C hc
noncomputable def qi(K:Frag)(x:Str):Addr:=match PySem.W.nsIn K mainGlobals x with
 |some (some (.ref a))=>a|_=>0
theorem y4(a:PySem.W.nsIn K mainGlobals x=some (some (.ref C))):qi K x=C:=by unfold qi;rw[a]
theorem zbJ(a:PySem.W.nsIn K mainGlobals x=some (some (.ref C)))(n:PySem.W.findIn K (.ref C) f=some none):NoAttr K (qi K x) f:=by rw[y4 a];exact n
theorem zms(a:PySem.W.nsIn K mainGlobals x=some (some (.ref C)))(pg:PySem.W.plainGet K C Str.empty=true)(hd:PySem.W.hasDictIn K C=true)(po:PySem.W.plainOver K C=true)
 (sa:PySem.W.findIn K (.ref C) "__setattr__" = some (some (.builtin "object.__setattr__"))):Cls K (qi K x):=by
 rw[y4 a];exact⟨pg,hd,po,sa⟩
theorem zn0{h:Heap}(X:K.In h)(G:h.Ns mainGlobals mg){fI:Addr}{od an:Option Addr}{sl:Array (Option Value)}{oc kV dc pm cd ct:Value}
 (a:PySem.W.nsIn K mainGlobals x=some (some (.ref C))) (a1:PySem.W.findIn K (.ref C) "__init__" = some (some (.ref fI))) (i1:PySem.W.isFn K (.ref fI)=true)
 (l1:K.lookup fI=some ⟨oc,od,.func (PySem.W.fnOf "__init__" qual (zaa st) (qE st) (ye st) .none kV dc pm an cd ct),sl⟩) (c1:PySem.W.codeIn K cd qual=true) (k1:PySem.W.keepIn K (.ref fI)=true) (mk:PySem.W.makesIn K C=true) (kc:PySem.W.keepIn K (.ref C)=true)
 (hb:∀(kV doc pm:Value) (an:Option Addr) (cdv ct:Value) (us:List Value),us.length=ps.length->bindArgs (PySem.W.fnOf "__init__" qual (zaa st) (qE st) (ye st) .none kV doc pm an cdv ct) ⟨us,[]⟩=pure (ps.zip us)):Di K mg x qual (qi K x) st ps:=by
 have F:=zg0 (st:=st) l1 c1 k1;rw[y4 a];exact⟨⟨fI,_,⟨mk,a1,i1,kc⟩,F,F.binds hb,PySem.W.mg_of X G a⟩⟩
end FT
namespace L2
open PySem PySem.Spec PySem.W PyProof.Rows
variable {A:Around}{prog:Program}{s:Shared}{E:Value->Shared->Prop}{w:World}
section
theorem zjU(hh:A.handled=none)(q t:Addr)(hne:t ≠ q)(items:Array Value):Draws prog w A q [q,t] items.size (fun i v=>items[i]? = some v) (fun i h=>h.IsListIter q t i/\h.IsList t items) where
 live:=fun _ _ st=>let ⟨o,ho,_⟩:=st.1;⟨o,ho⟩
 frame:=fun _ _ _ st hk=>⟨st.1.at fun o e=>hk q (by simp) o e,let ⟨o,ho,r⟩:=st.2;⟨o,hk t (by simp) o ho,r⟩⟩
 item:=fun i s Q E hi st hQ=>wpAny_nextOf_list_item st.1 st.2 (x:=items[i]) (by simp[hi]) fun k a b=>hQ _ k s.toks (by simp[hi]) ⟨a,let ⟨o,ho,r⟩:=st.2;⟨o,(b.2 t hne).trans ho,r⟩⟩ b
 done:=fun s Q E st hE=>wpAny_nextOf_list_end hh st.1 st.2 (by simp) hE
end
section
theorem zlp{l:Addr}{items:Array Value}{Q:Value->Shared->Prop}(hl:s.heap.IsList l items)
  (h:∀k,IsEnum k (s.heap.objs.size+1) s.heap.objs.size 0 .none->k.IsListIter s.heap.objs.size l 0->k.objs.size=s.heap.objs.size+2->(∀b o,s.heap.get? b=some o->k.get? b=some o)->Q (.ref (s.heap.objs.size+1)) { s with heap:=k }) :
  wpAny (model prog w) A (call (.type "enumerate") [.ref l]) Q E s:=call_enumerate_list hl h
end
noncomputable def ItL(K:Frag)(a:Addr):It:=
 ⟨fun i H=>∃xs x,SqL K H a xs/\xs[i]? = some x,fun i H y H'=>∃p x,H p=none/\y = .ref p/\H'=upd H p (.tup [.int (i:Int),x])/\∀xs,SqL K H a xs->xs[i]? = some x,fun i H=>∃xs,SqL K H a xs/\xs.length<=i⟩
variable {elts:List Expr}{pos:Pos}
theorem zkR{P:Program}{K:Frag}{x1}(a e it:Addr)(hne:e ≠ it)(hae:a ≠ e)(hai:a ≠ it) :
  Turn P w K (.Tuple elts x1 pos) (ItL K a) [e,it] e (fun i h=>(∃old,IsEnum h e it i old)/\h.IsListIter it a i) where
 mem:=by simp
 obj:=fun i h st b hb=>by
  rcases QB.mp hb with z | z
  ·subst z;obtain⟨old,q⟩:=st.1;exact⟨_,q,fun v z=>by cases z⟩
  ·have z:=QG.mp z;subst z;obtain⟨o,q,c,d⟩:=st.2;exact⟨o,q,fun v z=>by rw[d]at z;cases z⟩
 keep:=fun i h k st kk=>⟨let ⟨old,q⟩:=st.1;⟨old,kk e (by simp) _ q⟩,st.2.at fun o q=>kk it (by simp) o q⟩
 item:=by
  intro X hP hw hK hc i ρ s σ H E I hf st hg;subst hP hw hK;obtain⟨xs,x,hq,hx⟩:=hg;obtain⟨its,rv,p,hz⟩:=I.list hq;obtain⟨u,hu,ru⟩:=rv.get hx;obtain⟨⟨old,he⟩,hi⟩:=st;have hl:i<its.toArray.size:=by simpa using(Qy.mp hu).1
  have D:=zjU (prog:=X.prog) (w:=X.w) (A:=X.A.in1) (by exact I.ok.hd hc) it a hai its.toArray;refine wpAny_pyNext_enum_itemD D he ⟨hi,p.isList⟩ hl hne (by simp[hne,Ne.symm hae]) fun y k tk hy out st' htup hsz hk=>?_;have hy':y=u:=by
   have:its[i]? = some y:=by simpa using hy
   rw[hu]at this;exact(Qd this).symm
  subst hy';refine⟨.ref s.heap.objs.size,rfl,wpAny_letOwnedTupleGo_enum (s:={ s with heap:=k,toks:=tk+1 }) out fun k2 en2 sb=>?_⟩;have fe:=hf e (by simp);have fi:=hf it (by simp);have eS:e ≠ s.heap.objs.size:=Qk (Qe he);have iS:it ≠ s.heap.objs.size:=by obtain⟨o,q,_⟩:=hi;exact Qk (Qe q)
  have IA:=I.laid (h':=s.heap.push { cls:=.type "tuple",data:=.seq #[.int i tk,y] }) (t':=tk+1) (a:=s.heap.objs.size) (o:=.tup [.int (i:Int),x]) (fun b o q=>Q2 _ q) (Q3 _) (show ObjOk X.prog X.w _ _ _ (.tup [.int (i:Int),x])from⟨by show 2<=sizeLine;rw[sizeLine_eq];omega,[.int i tk,y],.cons ⟨tk,rfl⟩ (.cons ru .nil),by have:=IsTup.new s.heap #[.int i tk,y];simpa using this,NoDict.new⟩);have up:∀b,b ≠ s.heap.objs.size->(upd H s.heap.objs.size (.tup [.int (i:Int),x])) b=H b:=fun b hb=>QA hb;have IB:=IA.turned2 (t':=tk+1) (h':=k2) (e:=e) (it:=it) (fun b o hbe hbi q=>by
   rcases Heap.get?_push_cases q with⟨z1,z2⟩ | q
   ·subst z1;subst z2
    exact(sb.2 _ (Ne.symm eS)).trans htup
   ·exact(sb.2 b hbe).trans (hk b o hbe hbi q)) ⟨by rw[up e eS];exact fe.1,fe.2⟩ ⟨by rw[up it iS];exact fi.1,fi.2⟩
  refine⟨.ref s.heap.objs.size,_,IB,rfl,⟨s.heap.objs.size,x,I.hok.fresh (Q3 _),rfl,rfl,fun ys hys=>by rw[I.list_inj hys hq];exact hx⟩,⟨⟨_,by push_cast at en2 ⊢;exact en2⟩,?_⟩,fun b hb=>?_⟩
  ·obtain⟨o,q,r⟩:=st'.1;exact⟨o,(sb.2 it (Ne.symm hne)).trans q,r⟩
  ·rcases QB.mp hb with z | z
   ·subst z;rw[up _ eS];exact fe.1
   ·have z:=QG.mp z;subst z;rw[up _ iS];exact fi.1
 done:=by
  intro X hP hw hK hc i ρ s σ H E I hf st hg;subst hP hw hK;obtain⟨xs,hq,hx⟩:=hg;obtain⟨its,rv,p,hz⟩:=I.list hq;obtain⟨⟨old,he⟩,hi⟩:=st;obtain⟨f0,f1,f2,f3,f4,f5⟩:=hf it (by simp);have hl:=rv.length;have D:Draws X.prog X.w X.A.in1 it [it,a] i (fun _ _=>True) (fun j h=>j=i/\h.IsListIter it a i/\h.IsList a its.toArray):={
   live:=fun _ _ st=>let ⟨o,ho,_⟩:=st.2.1;⟨o,ho⟩
   frame:=fun _ _ _ st hk=>⟨st.1,st.2.1.at fun o q=>hk it (by simp) o q,let ⟨o,ho,r⟩:=st.2.2;⟨o,hk a (by simp) o ho,r⟩⟩
   item:=fun j s Q E hj st hQ=>absurd st.1 (Qk hj)
   done:=fun s Q E st hE=>wpAny_nextOf_list_end (by exact I.ok.hd hc) st.2.1 st.2.2 (by simp;omega) hE }
  exact wpAny_pyNext_enum_endD D he ⟨rfl,hi,p.isList⟩ fun k eb=>⟨rfl,I.turned (t':=s.toks) (fun b o hb q=>eb b o hb q) f0 f1 f3 f4 f5⟩
 self:=fun _ _ _ _ _ st h=>let ⟨_,q⟩:=st.1;wpAny_pyIter_enum q h
section
variable {X:Cx}
noncomputable def ztd(K:Frag)(tl:TE):TI:=fun σ H R=>tl σ H fun x H1=>∃a,x = .ref a/\(∃xs,SqL K H1 a xs)/\R (ItL K a) H1
theorem zm4{l:Expr}{tl:TE}{x1}{tp p:Pos}(hg:Gl X "enumerate")(hm:X.mg "enumerate" = none)(hl:PE X l tl)(hs:starEach [l] X.env=[(false,eval l X.env)]:=by rfl) :
  PI X (.Tuple elts x1 tp) (.Call (.Name "enumerate" p) [l] [] pos) (ztd X.K tl):=by
 intro ρ s σ H R I h;refine Call_ (zfa I hg hm (show bootBuiltins "enumerate" = some (.type "enumerate") by decide +kernel) (PyProof.Rows.callWith_type1 ?_ hs rfl));rw[hs];refine Calls.spliced_cons (thn (hl ρ s σ H _ I h) fun v s1 ⟨x,H1,I1,r1,q1⟩=>Calls.spliced_nil ?_);obtain⟨a,e,⟨xs,hq⟩,q⟩:=q1;subst e;cases r1;obtain⟨its,rv,pt,hz⟩:=I1.list hq;have ha:a<s1.heap.objs.size:=by obtain⟨o,ho,_⟩:=pt.isList;exact Qe ho
 refine zlp pt.isList fun k en ti hsz hk=>?_;refine wpAny_pyIter_enum en ?_;refine⟨s1.heap.objs.size+1,[s1.heap.objs.size+1,s1.heap.objs.size],_,_,H1,rfl,I1.kept (t':=s1.toks) hk,zkR a _ _ (Nat.ne_of_gt (Nat.lt_succ_self _)) (Qk (Nat.lt_succ_of_lt ha)) (Qk ha),⟨⟨_,en⟩,ti⟩,fun b hb=>?_,q⟩;rcases QB.mp hb with z | z
 ·subst z;exact I1.fpOk (Nat.le_succ _) (I1.hok.fresh (Nat.le_succ _))
 ·have z:=QG.mp z;subst z;exact I1.fpOk (Q3 _) (I1.hok.fresh (Q3 _))
end
end L2
namespace FT
open PySem PySem.Spec PyProof.Rows L2
noncomputable def zgR(f:X8):X1:=fun σ M=>(f σ M).bind fun t M1=>match t with
 |.lst ts=>.ok (enT ts) M1|_=>.bad
variable {X:Cx}{f:X8}{pos:Pos}{Z:XK}
section
end
noncomputable def zpF:List T->List T->List T
 |x::xs,y::ys=>.tup [x,y]::zpF xs ys|_,_=>[]
noncomputable def zp(ts:List T)(M:Mem):Out (List T):=match ts with
 |[.lst xs,.lst ys]=>.ok (zpF xs ys) M|_=>.bad
variable {K:Frag}
section
theorem zlY{S1 S3:Sit}(s3:Stp K S1 S3){p:Addr}{vs:List V}(h:(Rd S1.H p (.lst vs)/\S1.off p)\/KL K p vs):SqL K S3.H p vs:=by
 rcases h with⟨h2,f2⟩ | h2
 ·exact .inl (s3.toGrow.rd h2 f2).1
 ·exact .inr h2
end
abbrev Gd:=List (Nat × List T)
def zdn(G:Gd)(M:Mem):Prop:=∀g ∈ G,M[g.1]? = some (.lst g.2)
noncomputable def gdK{β:Type}(G:Gd)(M:Mem)(o:Out β):Out β:=@ite _ (zdn G M) (Classical.propDecidable _) o .bad
variable {G:Gd}{M:Mem}
def zdo{β:Type}{o:Out β}(h:zdn G M):gdK G M o=o:=Qz h
variable {xs:List T}
theorem zeE{a:Nat}(h:M[a]? = some (.lst xs)):zdn [(a,xs)] M:=fun g hg=>by rw[QG.mp hg];exact h
def ItG(K:Frag)(S:Sit)(items:List T × Gd)(J:It):Prop:=∀S',Stp K S S'->zdn items.2 S'.M->
 (∀(i:Nat) t,items.1[i]? = some t->J.go i S'.H/\∀x H',J.yld i S'.H x H'->∃S'',S''.H=H'/\S''.M=S'.M/\Stp K S' S''/\Rep K S'' t x)/\∀i,items.1.length<=i->J.stop i S'.H
instance (K):Mo K (ItG K):=⟨fun _ s r=>fun S' s'=>r S' (s.trans s')⟩
noncomputable def lIG(Z:XK)(K:Frag)(f:Ev->Mem->Out (List T × Gd)):TI:=fun σ H R=>LN Z (ItG K) K UnR (fun _ σ M=>f σ M) () σ H R
def GIG(X:Cx)(Z:XK)(tg iter:Expr)(f:Ev->Mem->Out (List T × Gd)):Prop:=PI X tg iter (lIG Z X.K f)
noncomputable def zhJ(G:Gd)(bd:T->X7)(body:X5):List T->X5
 |[],σ,M=>gdK G M (.ok (.nx σ) M)|x::xs,σ,M=>gdK G M ((bd x σ M).bind fun σ1 M1=>(body σ1 M1).bind (zab (zhJ G bd body xs)))
noncomputable def zJ(G:Gd)(bd:T->X7)(cond:X6)(el:X8):List T->Ev->Mem->List T->Out (List T)
 |[],_,M,acc=>gdK G M (.ok acc M)|x::xs,σ,M,acc=>gdK G M ((bd x σ M).bind fun σ1 M1=>(cond σ1 M1).bind fun b M2=>if b=true then(el σ1 M2).bind fun t M3=>if acc.length<sizeLine then zJ G bd cond el xs σ1 M3 (acc++[t])else .bad else zJ G bd cond el xs σ1 M2 acc)
noncomputable def yP(it:Ev->Mem->Out (List T × Gd))(bd:T->X7)(cond:X6)(el:X8)(tgs:List Str)(ζ:List (Str × Nat)):X1:=fun σ M=>(it σ M).bind fun xs M1=>zJ xs.2 bd cond el xs.1 (zce tgs ζ σ) M1 []
variable {S:Sit}{Q:VK}
theorem FinL.gd{o:Out (List T)}(h:FinL Z K S (gdK G M o) Q):zdn G M/\FinL Z K S o Q:=by
 by_cases g:zdn G M
 ·rw[zdo g]at h;exact⟨g,h⟩
 ·rw[show gdK G M o = .bad from QA g]at h;exact h.elim
variable {bd:T->X7}
theorem zln{c:X6}{acc:List T}{σ:Ev}(h:FinL Z K S (zJ G bd c f xs σ M acc) Q):zdn G M:=by cases xs with|nil=>exact(FinL.gd h).1|cons x xs=>exact(FinL.gd h).1
variable {ga:Ev->Mem->Out (List T × Gd)}{cond:X6}{e elt iter tg:Expr}{cl:List (Str × Addr)}{ζ:List (Str × Nat)}{ifs:List Expr}{tgs:List Str}{scope:Scope}
section
variable {a b c:Expr}{es:List Expr}{pp:Pos}{sts:List Stmt}{p:X5}
theorem zia{σ:L2.St}{H:Hp}(hh:lL Z X.K (yP ga bd cond f tgs ζ) σ H Q) :
  zit (lIG Z X.K ga) (lG Z X.K bd) (lT Z X.K cond) (lE Z X.K f) (zba tgs ζ) σ H Q:=by
 obtain⟨S,στ,e,m,ev,ξ⟩:=hh;replace ξ:FinL Z X.K S ((ga στ S.M).bind fun xs M1=>zJ xs.2 bd cond f xs.1 (zce tgs ζ στ) M1 []) Q:=ξ;refine⟨S,στ,(),e,m,ev,trivial,?_⟩;show Fin Z (ItG X.K) X.K S (ga στ S.M) _;cases o:ga στ S.M with
 |bad=>rw[o]at ξ;exact ξ|exn C fs M'=>rw[o]at ξ;exact ξ|ok items M1=>
  rw[o]at ξ;replace ξ:FinL Z X.K S (zJ items.2 bd cond f items.1 (zce tgs ζ στ) M1 []) Q:=ξ;intro S0 J e0 s0 it0 D hD;have m0:=s0.mok;have fin0:=ξ.later s0;have s1:=Stp.hide (K:=X.K) m0 hD [];refine⟨fun i n σ' H'=>∃S στ acc vs,S.H=H'/\EvR X.K S στ σ'/\n=items.1.length-i/\i<=items.1.length/\D ∈ S.hid/\S.H D=some (.lst vs)/\Reps X.K S acc vs/\Stp X.K S0 S/\FinL Z X.K S0 (zJ items.2 bd cond f (items.1.drop i) στ S.M acc) Q,
   ⟨items.1.length-0,S0.hide D [],zce tgs ζ στ,[],[],rfl,(Mo.mo (K:=X.K) m0 s1 (Mo.mo (K:=X.K) m s0 ev)).cap tgs ζ,rfl,Nat.zero_le _,.head _,qu,.nil,s1,by show FinL Z X.K S0 (zJ items.2 bd cond f items.1 (zce tgs ζ στ) S0.M []) Q;rw[e0];exact fin0⟩,?_⟩
  rintro i n σ1 H1 ⟨S2,στ2,acc,vs,e2,ev2,en,hi2,hid2,hD2,racc,s2,fin2⟩;subst e2;have m2:=s2.mok;have hgd:=zln fin2;obtain⟨itg,its⟩:=it0 S2 s2 hgd
  by_cases hl:i<items.1.length
  ·have eq:items.1.drop i=items.1[i]::items.1.drop (i+1):=List.drop_eq_getElem_cons hl;rw[eq]at fin2;replace fin2:=(FinL.gd fin2).2;obtain⟨go,yl⟩:=itg i items.1[i] (by simp[hl]);refine .inr ⟨go,fun σ' H'=>∃S στ acc vs,S.H=H'/\EvR X.K S στ σ'/\D ∈ S.hid/\S.H D=some (.lst vs)/\Reps X.K S acc vs/\Stp X.K S0 S/\FinL Z X.K S0 (zJ items.2 bd cond f (items.1.drop (i+1)) στ S.M acc) Q,?_,fun x H' hy=>?_⟩
   ·rintro σ' H' ⟨S,στ,acc,vs,a1,a2,a3,a4,a5,a6,a7⟩;exact⟨items.1.length-(i+1),⋯,S,στ,acc,vs,a1,a2,rfl,hl,a3,a4,a5,a6,a7⟩
   ·obtain⟨S3,e3,eM,s3,r3⟩:=yl x H' hy;replace fin2:FinL Z X.K S0 ((bd items.1[i] στ2 S2.M).bind fun σ1 M1=>(cond σ1 M1).bind fun b M2=>if b=true then(f σ1 M2).bind fun t M3=>if acc.length<sizeLine then zJ items.2 bd cond f (items.1.drop (i+1)) σ1 M3 (acc++[t])else .bad else zJ items.2 bd cond f (items.1.drop (i+1)) σ1 M2 acc) Q:=fin2;refine⟨S3,στ2,items.1[i],e3,s3.mok,Mo.mo m2 s3 ev2,r3,?_⟩;show Fin Z (EvR X.K) X.K S3 (bd items.1[i] στ2 S3.M) _;rw[eM];cases o1:bd items.1[i] στ2 S2.M with
    |bad=>rw[o1]at fin2;exact fin2|exn C fs M'=>rw[o1]at fin2;exact fun S' od a1 a2 a3=>fin2 S' od a1 ((s2.trans s3).trans a2) a3|ok σ4 M4=>
     rw[o1]at fin2;intro S4 σ4v e4 s4 ev4;have t4:=s3.trans s4;replace fin2:FinL Z X.K S0 ((cond σ4 M4).bind fun b M2=>if b=true then(f σ4 M2).bind fun t M3=>if acc.length<sizeLine then zJ items.2 bd cond f (items.1.drop (i+1)) σ4 M3 (acc++[t])else .bad else zJ items.2 bd cond f (items.1.drop (i+1)) σ4 M2 acc) Q:=fin2;refine⟨S4,σ4,(),rfl,s4.mok,ev4,trivial,?_⟩;show Fin Z EqR X.K S4 (cond σ4 S4.M) _;rw[e4];cases o2:cond σ4 M4 with
     |bad=>rw[o2]at fin2;exact fin2|exn C fs M'=>rw[o2]at fin2;exact fun S' od a1 a2 a3=>fin2 S' od a1 ((s2.trans t4).trans a2) a3|ok b M5=>
      rw[o2]at fin2;intro S5 b5 e5 s5 eb;have eb':b=b5:=eb;subst eb';have t5:=t4.trans s5;replace fin2:FinL Z X.K S0 (if b=true then(f σ4 M5).bind fun t M3=>if acc.length<sizeLine then zJ items.2 bd cond f (items.1.drop (i+1)) σ4 M3 (acc++[t])else .bad else zJ items.2 bd cond f (items.1.drop (i+1)) σ4 M5 acc) Q:=fin2;cases b with
      |false=>rw[QA Q4]at fin2;refine(QA Q4).mpr ⟨S5,σ4,acc,vs,rfl,Mo.mo s4.mok s5 ev4,(t5.hk D hid2).1,by rw[(t5.hk D hid2).2];exact hD2,racc.grow m2 t5.toGrow,s2.trans t5,by rw[e5];exact fin2⟩
      |true=>
       rw[Qz rfl]at fin2;refine(Qz rfl).mpr ⟨S5,σ4,(),rfl,s5.mok,Mo.mo s4.mok s5 ev4,trivial,?_⟩;show Fin Z (Rep X.K) X.K S5 (f σ4 S5.M) _;rw[e5];cases o3:f σ4 M5 with
       |bad=>rw[o3]at fin2;exact fin2|exn C fs M'=>rw[o3]at fin2;exact fun S' od a1 a2 a3=>fin2 S' od a1 ((s2.trans t5).trans a2) a3|ok t M6=>
        rw[o3]at fin2;replace fin2:FinL Z X.K S0 (if acc.length<sizeLine then zJ items.2 bd cond f (items.1.drop (i+1)) σ4 M6 (acc++[t])else .bad) Q:=fin2;intro S6 v6 e6 s6 r6;have t6:=t5.trans s6;have hz:acc.length<sizeLine:=by
         by_cases hz:acc.length<sizeLine
         ·exact hz
         ·rw[QA hz]at fin2;exact fin2.elim
        rw[Qz hz]at fin2;have hid6:=(t6.hk D hid2).1;have hD6:S6.H D=some (.lst vs):=by rw[(t6.hk D hid2).2];exact hD2
        refine⟨vs,hD6,by rw[←racc.1];exact hz,S6.hput D (vs++[v6]),σ4,acc++[t],vs++[v6],rfl,?_,hid6,qu,?_,(s2.trans t6).hput hid6 hD m0,by show FinL Z X.K S0 (zJ items.2 bd cond f (items.1.drop (i+1)) σ4 S6.M (acc++[t])) Q;rw[e6];exact fin2⟩
        ·have ev6:EvR X.K S6 σ4 σ4v:=Mo.mo s4.mok (s5.trans s6) ev4;exact⟨ev6.1,fun i t e=>let ⟨v,e',q⟩:=ev6.2 i t e;⟨v,e',q.hput s6.mok hid6⟩⟩
        ·exact((racc.grow m2 t6.toGrow).app (.cons r6 .nil)).hput s6.mok hid6
  ·rw[List.drop_eq_nil_of_le ⋯]at fin2;replace fin2:=(FinL.gd fin2).2;refine .inl ⟨its i ⋯,?_⟩;exact fin2 S2 D vs rfl s2 hD hid2 hD2 racc
end
noncomputable def zdl(t:T)(M:Mem):Option (List T × Gd):=match t with
 |.lst xs=>some (xs,[])|.ref a=>match M[a]? with
  |some (.lst xs)=>some (xs,[(a,xs)])|_=>none
 |_=>none
theorem zoV(m:MemOk K S){t:T}{v:V}(r:Rep K S t v)(e:zdl t S.M=some (xs,G)):∃p vs,v = .ref p/\SqL K S.H p vs/\∀S3,Stp K S S3->zdn G S3.M->∃vs3,SqL K S3.H p vs3/\Reps K S3 xs vs3:=by
 unfold zdl at e;split at e
 ·cases e;cases r with
  |@lst _ p vs h l rr=>refine⟨p,vs,rfl,zdk h,fun S3 s3 _=>⟨vs,zlY s3 h,?_⟩⟩;exact(show Reps K S xs vs from⟨l,rr⟩).grow m s3.toGrow
 ·rename_i a;split at e
  ·rename_i ys q;cases e;cases r with
   |ref ha=>obtain⟨vs,h1,r1⟩:=m.cell a _ q;refine⟨S.α a,vs,rfl,.inl (.inl h1),fun S3 s3 g=>?_⟩;obtain⟨vs3,h3,r3⟩:=s3.mok.cell a _ (g (a,xs) (.head _));rw[s3.al a ha]at h3;exact⟨vs3,.inl (.inl h3),r3⟩
  ·cases e
 ·cases e
noncomputable def zaX(f:X8):Ev->Mem->Out (List T × Gd):=fun σ M=>(f σ M).bind fun t M1=>match zdl t M1 with
 |some g=>.ok g M1|none=>.bad
section
end
end FT
namespace L2
open PySem PySem.Spec PySem.W PyProof.Rows
def SI(b:Bool)(h:Heap)(q t:Addr)(k:Nat):Prop:=match b with
 |true=>h.IsTupleIter q t k|false=>h.IsListIter q t k
def SS(b:Bool)(h:Heap)(t:Addr)(xs:Array Value):Prop:=match b with
 |true=>h.IsTuple t xs|false=>h.IsList t xs
def SqX(K:Frag)(H:Hp)(b:Bool)(a:Addr)(xs:List V):Prop:=match b with
 |true=>SqT K H a xs|false=>SqL K H a xs
abbrev TSl:=V->Option Int->Option Int->V->Hp->(Hp->Prop)->Prop
end L2
namespace FT
open PySem PySem.Spec PyProof.Rows L2
noncomputable def zbL(f:X4):X4:=fun ts M=>match f ts M with
 |.ok v M'=>@ite _ (M'.take M.length=M/\T.lt 0 v) (Classical.propDecidable _) (.ok v M) .bad|_=>.bad
theorem zeM(f:X4):Refines (zbL f) f:=by
 intro ts M t' M1 _ e;unfold zbL at e;split at e
 ·rename_i v M' q;split at e
  ·rename_i hc;cases e;have hl:M.length<=M'.length:=by have:=congrArg List.length hc.1;rw[Qr]at this;omega
   exact⟨_,_,q,Q3 _,hl,hc.1.symm,fun i c e=>.inl e,.same (hc.2.mono (Nat.zero_le _))⟩
  ·cases e
 ·cases e
theorem zeN(f:X4):∀ts M C fs M',zbL f ts M ≠ .exn C fs M':=by
 intro ts M C fs M' e;unfold zbL at e;split at e
 ·split at e<;>cases e
 ·cases e
noncomputable def zsW(o:Out Fl):Out T:=match o with
 |.ok (.rt t) M'=>.ok t M'|.ok (.nx _) M'=>.ok .non M'|.exn C fs M'=>.exn C fs M'|_=>.bad
noncomputable def zS(p n:Nat)(g:X5):X4:=fun ts M=>if ts.length=p then zsW (g (startT n ts) M)else .bad
structure CalX (P:Program) (w:World) (K:Frag) (mg:Str->Option Value) (base:Heap) (k:Nat) (x:Str) (ps:List Str) (f:X4):Prop where
 ex:∃(fa:Addr) (fd:FuncData),FnOk P w K mg base (CXX P w) k fa fd ps (spT K f)/\PySem.W.keepIn K (.ref fa)=true/\Binds K fd ps []/\mg x=some (.ref fa)
variable {X:Cx}{g:X5}{K:Frag}{base:Heap}{ps:List Str}{n p:Nat}{P:Program}{st:Stmt}{x:Str}{mg:Str->Option Value}{w:World}
section
theorem zmC{st:List Stmt}{N:List Str}(hn:N.length=n){E:XK}{vs:List V}{H:Hp}{Q:VK}(hX:X.K=K)(h:spT K (zS p n g) vs H Q E)(hb:GSs X E st g) :
  ∃t,PSs X st t/\t { nx:=fun _ H'=>Q .non H',rt:=Q } (start N vs) H:=by
 subst hX;refine⟨_,hb,?_⟩;obtain⟨S,ts,e,m,r,ξ⟩:=h;refine⟨S,startT n ts,(),e,m,EvR.start r hn,trivial,?_⟩;show Fin E (FlR X.K) X.K S (g (startT n ts) S.M) _;unfold zS at ξ
 by_cases hp:ts.length=p
 ·rw[Qz hp]at ξ;cases o:g (startT n ts) S.M with
  |bad=>rw[o]at ξ;exact ξ|exn C fs M'=>rw[o]at ξ;exact ξ|ok fl M1=>
   rw[o]at ξ;cases fl with
   |nx σ1=>intro S1 c e1 s1 r1;cases r1 with|nx r1=>exact ξ S1 .non e1 s1 .non
   |rt t=>intro S1 c e1 s1 r1;cases r1 with|rt r1=>exact ξ S1 _ e1 s1 r1
   |bk σ1=>exact ξ.elim|ct σ1=>exact ξ.elim
 ·rw[QA hp]at ξ;exact ξ.elim
theorem zof(hp:ps.length=p):∀vs H Q E,spT K (zS p n g) vs H Q E->vs.length=ps.length:=by
 intro vs H Q E ⟨S,ts,e,m,r,ξ⟩;rw[←r.1,hp];unfold zS at ξ
 by_cases h:ts.length=p
 ·exact h
 ·rw[QA h]at ξ;exact ξ.elim
theorem zpz{N:List Str}{k:Nat}(D:Df K mg x st ps)(Sc:FnScope N ps (ye st))(hp:ps.length=p)(hn:N.length=n)
 (hb:∀(f:Addr) (cdv:Value) (A:Around) (outer:List PySem.Env) (s:Shared) (H:Hp) (E:XK),Room k (A.deeper (envOfC x (ye st) s.heap.objs.size f cdv))->GSs (zbS (CXX P w) P w K mg base N x (ye st) f cdv A outer s H E) E (qE st) g) :
  CalX P w K mg base (k+1) x ps (zS p n g):=by
 obtain⟨f,fd,F,b,gg⟩:=D.ex;obtain⟨oc,od,kV,doc,pm,an,cdv,ct,osl,rfl,lk,hcd⟩:=F.ex;exact⟨⟨f,_,znZ lk hcd Sc (zof hp) fun A outer s H vs Q E hr hsp=>zmC hn rfl hsp (hb f cdv A outer s H E hr),F.kp,b,gg⟩⟩
end
variable {C:Addr}{cs:List Addr}{nm:Str}
section
variable {Z:XK}{k i j:Nat}{y v:Str}{p pos pos2 np hp tp vp cpos:Pos}{e:Expr}{es:List Expr}{ga:X1}{F:X4}{b0:Stmt}{suite sts:List Stmt}{gs:X5}
noncomputable def zd4(r:List T->Mem->Out Fl)(ga:X1):X5:=fun σ M=>(ga σ M).bind fun ts M1=>r ts M1
structure XcF (P:Program) (w:World) (K:Frag) (mg:Str->Option Value) (base:Heap) (x:Str) (C:Addr):Prop where
 ex:∃f fd,XcAt K mg x C f/\FnOk P w K mg base CX0 1 f fd ["self","at"] (fun vs H Q E=>(∃e t v,vs=[.ref e,v]/\H e=some (.ext (ExN e C t none))/\∀d,H d=none->d ≠ e->Q .non (upd (upd H e (.ext (ExN e C t (some d)))) d (.xd [("at",v)]))))/\Binds K fd ["self","at"] []
def XcF.at(O:XcF P w K mg base x C):∃nm fI,XcAt K mg nm C fI:=let ⟨f,_,h,_⟩:=O.ex;⟨x,f,h⟩
noncomputable def zb7(C:Addr)(ts:List T)(M:Mem):Out Fl:=match ts with
 |[t]=>.exn C [("at",t)] M|_=>.bad
def GX(X:Cx)(sts:List Stmt)(g:X5):Prop:=PX X sts fun E=>lS E X.K g
noncomputable def noX(o:Out Fl):Out Fl:=match o with
 |.exn _ _ _=>.bad|o=>o
noncomputable def ztV(cs:List Addr)(g gs:X5):X5:=fun σ M=>match g σ M with
 |.exn C _ M'=>if cs.contains C=true then noX (gs σ M')else .bad|o=>o
noncomputable def clr(j:Nat)(fl:Fl)(M:Mem):Out Fl:=match fl with
 |.nx σ=>.ok (.nx (σ.set j none)) M|.rt t=>.ok (.rt t) M|.bk σ=>.ok (.bk (σ.set j none)) M|.ct σ=>.ok (.ct (σ.set j none)) M
noncomputable def zgG(j:Nat)(cs:List Addr)(g gs:X5):X5:=fun σ M=>match g σ M with
 |.exn C fs M'=>if cs.contains C=true then(noX (gs (σ.set j (some (.exc C fs))) M')).bind (clr j)else .bad|o=>o
theorem EvR.clr{S:Sit}{στ:Ev}{σ:L2.St}(r:EvR K S στ σ)(j:Nat):EvR K S (στ.set j none) (σ.set j none):=by
 refine⟨by simp[r.1],fun i t e=>?_⟩;rw[Qc]at e ⊢
 by_cases h:j=i
 ·subst h;rw[Qz rfl]at e;split at e<;>cases e
 ·rw[QA h]at e ⊢;exact r.2 i t e
noncomputable def xat(cs:List Addr)(t:T)(M:Mem):Out T:=match t with
 |.exc C fs=>if cs.contains C=true then match fs.lookup ("at":Str)with
  |some v=>.ok v M|none=>.bad else .bad
 |_=>.bad
theorem zhW{K:Frag}{S:Sit}{f:Str}{t:T}:∀{fs:List (Str × T)} {us:List (Str × V)},fs.map (·.1)=us.map (·.1)->(∀(i:Nat) t v,(fs.map (·.2))[i]? = some t->(us.map (·.2))[i]? = some v->Rep K S t v)->fs.lookup f=some t->∃v,us.lookup f=some v/\Rep K S t v
 |[],_,_,_,h=>by simp at h|(a,x)::fs,[],l,_,_=>by simp at l|(a,x)::fs,(b,y)::us,l,r,h=>by
  simp only[QF,List.cons.injEq]at l;obtain⟨rfl,l⟩:=l;rw[lookup_cons]at h ⊢
  by_cases hf:(f==a)=true
  ·rw[hf]at h ⊢;cases h;exact⟨y,rfl,r 0 _ _ rfl rfl⟩
  ·have hf:(f==a)=false:=by simpa using hf
   rw[hf]at h ⊢;exact zhW l (fun i t v e1 e2=>r (i+1) t v (by simpa using e1) (by simpa using e2)) h
end
variable {N:Addr}{sl:Array (Option Value)}{es:Array DictEntry}{h:Heap}{ep:Nat}
theorem zlU(X:K.In h){c:Value}{d:Option Addr}(l:K.lookup N=some ⟨c,d,.dict es ep,sl⟩)(sk:zaY es=true) :
  h.Ns N (h.nsMap N)/\∀(n:Str) r,PySem.W.nsIn K N n=some r->h.nsMap N n=r:=by
 have ho:=X _ _ l;have hi:h.isNs N=true:=by unfold Heap.isNs;rw[ho];unfold zaY at sk;rw[Array.all_toList]at sk;exact sk
 refine⟨Heap.Ns.of_isNs hi,fun n r q=>?_⟩;obtain⟨o,es',ep',ho',hd',_,hf⟩:=Heap.Ns.of_isNs hi;rw[←hf n];rw[ho]at ho';cases ho';cases hd';unfold PySem.W.nsIn at q;rw[l]at q;dsimp only at q;unfold nsFind findBy;cases e:es.toList.find? (·.key.isStr n)with
 |some e'=>
  rw[e]at q;have:es.find? (fun e=>e.key.isStr n)=some e':=by rw[←Array.find?_toList];exact e
  rw[this];exact Qd q
 |none=>
  rw[e]at q;have:es.find? (fun e=>e.key.isStr n)=none:=by rw[←Array.find?_toList];exact e
  rw[this];dsimp only at q;split at q
  ·cases q
  ·exact Qd q
noncomputable def zdj(K:Frag)(N:Addr)(ns:List Str):Bool:=ns.all fun n=>PySem.W.nsIn K N n==some none
variable {ns:List Str}
def zgO(v:∀(n:Str) r,PySem.W.nsIn K N n=some r->h.nsMap N n=r)(e:zdj K N ns=true):∀n ∈ ns,h.nsMap N n=none:=fun n hn=>v n none (eq_of_beq (all_eq_true.mp e n hn))
def zez:zdj K N []=true:=rfl
theorem yF{n:Str}(a:PySem.W.nsIn K N n=some none)(b:zdj K N ns=true):zdj K N (n::ns)=true:=by unfold zdj at *;rw[all_cons,b,a];rfl
theorem znO(X:K.In h)(G:h.Ns mainGlobals mg){qual q:Str}{W fI:Addr}{bs:List Value}{sn:List Str}{sub:List Value}{ab:Bool}{col:Option Bool}{dd od an:Option Addr}{k0 k1 k2 k3 k5:Option Value}
 {c1 c2 c3 kV dc pm cd ct:Value} {d1 d2 d3:Option Addr} {es':Array DictEntry} {ep':Nat} {s1 s2 s3:Array (Option Value)} {cdw:ClassData} {p1 p2 p3 p4:Pos}
 (a:PySem.W.nsIn K mainGlobals x=some (some (.ref C)))
 (l:K.lookup C=some (excClassObj nm q C N bs (.ref W::zan) true sn sub ab col dd k0 k1 k2 k3 k5 "ValueError.__new__"))
 (ln:K.lookup N=some ⟨c1,d1,.dict es ep,s1⟩) (sk:zaY es=true) (q0:PySem.W.nsIn K N "__init__" = some (some (.ref fI))) (n0:zdj K N xns=true)
 (lw:K.lookup W=some ⟨c2,d2,.cls cdw,s2⟩) (lwn:K.lookup cdw.ns=some ⟨c3,d3,.dict es' ep',s3⟩) (sk':zaY es'=true) (n1:zdj K cdw.ns ("__init__" :: xns)=true)
 (lf:K.lookup fI=some ⟨.type "function",od,.func (PySem.W.fnOf "__init__" qual (zaa st) (qE st) (ye st) .none kV dc pm an cd ct),sl⟩) (cc:PySem.W.codeIn K cd qual=true) (kk:PySem.W.keepIn K (.ref fI)=true)
 (Sc:FnScope ["self","at"] ["self","at"] (ye st)) (hb:qE st=[.Assign [.Attribute (.Name "self" p1) "at" p2] (.Name "at" p3) p4]) (l1:(ye st).names.lookup ("self":Str)=some NameKind.local) (l2:(ye st).names.lookup ("at":Str)=some NameKind.local)
 (bd:∀(kV doc pm:Value) (an:Option Addr) (cdv ct:Value) (us:List Value),us.length=2->bindArgs (PySem.W.fnOf "__init__" qual (zaa st) (qE st) (ye st) .none kV doc pm an cdv ct) ⟨us,[]⟩=pure ((["self","at"]:List Str).zip us)) :
  XcF P w K mg base x (qi K x):=by
 rw[y4 a];have F:=zg0 (st:=st) lf cc kk;have O:XcAt K mg x C fI:=by refine⟨PySem.W.mg_of X G a,fun h' X'=>?_,_,lf,rfl⟩;obtain⟨hN,v1⟩:=zlU X' ln sk;obtain⟨hW,v2⟩:=zlU X' lwn sk';exact⟨_,N,nm,q,bs,sn,sub,ab,col,dd,k0,k1,k2,k3,k5,_,X' _ _ l,hN,v1 _ _ q0,zgO v1 n0,.own (X' _ _ lw) hW (zgO v2 n1) .base⟩
 exact⟨fI,_,O,zhB O F Sc hb l1 l2,F.binds bd⟩
theorem zmO{f:Addr}(O:XcAt K mg x C f):Sup K mg x C C:=⟨O.bound,fun h X=>by obtain⟨bm,N,nm,q,bs,sn,sub,ab,col,dd,k0,k1,k2,k3,k5,mN,hC,_,_,_,T⟩:=O.obj h X;exact⟨⟨bm,N,nm,q,bs,true,sn,sub,ab,col,dd,k0,k1,k2,k3,k5,hC,(T.tail ∅).hasType PySem.F.excBase_ValueError.hasBase⟩,bm,N,nm,q,bs,true,sn,sub,ab,col,dd,k0,k1,k2,k3,k5,hC,by simp⟩⟩
def XcF.sup(O:XcF P w K mg base x C):Sup K mg x C C:=let ⟨_,_,h,_⟩:=O.ex;zmO h
end FT
namespace L2
open PySem
noncomputable def subs:Nat->List (List Nat)
 |0=>[[]]|n+1=>subs n++(subs n).map (· ++ [n])
theorem zj7:∀(n:Nat) (ks:List Nat),ks ∈ subs n->ks.Pairwise (· < ·)/\∀k ∈ ks,k<n
 |0,ks,h=>by rw[show ks=[]from QG.mp h];exact⟨.nil,fun _ h=>by cases h⟩|n+1,ks,h=>by
  unfold subs at h;rcases mem_append.mp h with h | h
  ·have:=zj7 n ks h;exact⟨this.1,fun k hk=>Nat.lt_succ_of_lt (this.2 k hk)⟩
  ·obtain⟨l,hl,rfl⟩:=mem_map.mp h;have:=zj7 n l hl;refine⟨List.pairwise_append.mpr ⟨this.1,List.pairwise_singleton _ _,fun a ha b hb=>by rw[QG.mp hb];exact this.2 a ha⟩,fun k hk=>?_⟩;rcases mem_append.mp hk with hk | hk
   ·exact Nat.lt_succ_of_lt (this.2 k hk)
   ·rw[QG.mp hk];exact Nat.lt_succ_self _
noncomputable def ztl:Bool:=(subs 6).all fun ks=>(List.range 7).all fun h=>SetTable.below ks.toArray h==(ks.filter (· < h)).length
theorem zpA:ztl=true:=by decide +kernel
variable {ks:List Nat}
theorem zjx(hk:ks ∈ subs 6){h:Nat}(hh:h<7):SetTable.below ks.toArray h=(ks.filter (· < h)).length:=by have:=all_eq_true.mp (all_eq_true.mp zpA ks hk) h (mem_range.mpr hh);exact eq_of_beq this
noncomputable def zqF(mask:Nat)(hashes:Array Int):Option (List Nat × List Nat):=(SetTable.layClean mask hashes).map fun owner=>
 let live:=(List.range (mask+1)).filterMap fun j=>(owner.getD j none).map (j,·)
 (live.map (·.1),live.map (·.2))
noncomputable def hsh(ks:List Nat):List Int:=ks.map fun k:Nat=>(k:Int)
noncomputable def layB:Bool:=(subs 6).all fun ks=>[7,15,31].all fun m=>zqF m (hsh ks).toArray==some (ks,List.range ks.length)
theorem zoX:layB=true:=by decide +kernel
theorem zoZ(hk:ks ∈ subs 6){m:Nat}(hm:m ∈ [7,15,31])(f mv:Nat)(l p:Bool) :
  SetTable.laid m f mv l p (hsh ks).toArray=some ({ mask:=m,place:=ks.toArray,dummies:=#[],finger:=f,led:=l,moves:=mv,plain:=p },(List.range ks.length).toArray):=by
 have:=eq_of_beq (all_eq_true.mp (all_eq_true.mp zoX ks hk) m hm);unfold zqF at this;unfold SetTable.laid;cases q:SetTable.layClean m (hsh ks).toArray with
 |none=>rw[q]at this;cases this|some owner=>rw[q]at this;have h:=Prod.mk.inj (Qd this);show some _=some _;rw[h.1,h.2]
end L2
namespace L2
open PySem PySem.Spec
noncomputable def zrC(w:World):Bool:=w.params.followText "set-order"
structure DTab (w:World) (es:Array (Int × Value)) (t:SetTable) (ks:List Nat) (m:Nat):Prop where
 keys:es.toList.map (·.1)=hsh ks
 vals:∀e ∈ es.toList,∃tk,e.2 = .int e.1 tk
 mask:t.mask=m
 place:t.place=ks.toArray
 dumm:t.dummies = #[]
 plain:t.plain=true
 led:zrC w=true\/t.led=true
 sub:ks ∈ subs 6
 ms:m ∈ [7,15,31]
variable {es:Array (Int × Value)}{ks:List Nat}{m:Nat}{t:SetTable}{w:World}
theorem DTab.size(d:DTab w es t ks m):es.size=ks.length:=by
 have:=congrArg List.length d.keys;unfold hsh at this
 simpa using this
theorem ziN(h:ks ∈ subs 6):ks.length<=6:=by
 have:((subs 6).all fun ks=>ks.length<=6)=true:=by decide +kernel
 simpa using all_eq_true.mp this ks h
theorem DTab.fits(d:DTab w es t ks m):t.fits es.size=true:=by have:=ziN d.sub;have hm:=d.ms;unfold SetTable.fits SetTable.fill;rw[d.size,d.place,d.dumm,d.mask];simp at hm ⊢;omega
theorem zpD{k:Nat}(h:k<6):hashInt (k:Int)=k:=by
 have:((List.range 6).all fun k:Nat=>hashInt (k:Int)==(k:Int))=true:=by decide +kernel
 exact eq_of_beq (all_eq_true.mp this k (mem_range.mpr h))
section
variable {prog:Program}{A:Around}{E:Value->Shared->Prop}{s:Shared}{a:Addr}
noncomputable def zle(k:Nat)(ks:List Nat):List Nat:=if k ∈ ks then ks else ks.take (ks.filter (· < k)).length++k::ks.drop (ks.filter (· < k)).length
theorem znp{k:Nat}(hk:k<6)(h:ks ∈ subs 6):zle k ks ∈ subs 6:=by
 have:((List.range 6).all fun k=>(subs 6).all fun ks=>(subs 6).contains (zle k ks))=true:=by decide +kernel
 have:=all_eq_true.mp (all_eq_true.mp this k (mem_range.mpr hk)) ks h
 simpa using this
theorem zjR{k:Nat}(hp:t.place=ks.toArray)(hd:t.dummies = #[])(hm:k<=t.mask)(hs:k<2 ^ 64)(hn:k ∉ ks):t.freeSlot (k:Int)=some (k,false):=by
 have hb:SetTable.bits (k:Int)=k:=by unfold SetTable.bits;rw[Int.emod_eq_of_lt ⋯ ⋯];rfl
 have hsl:t.slot k = .empty:=by unfold SetTable.slot SetTable.has;rw[hp,hd];dsimp only;rw[QA (by intro e;have e:=eq_of_beq e;rw[List.getElem?_toArray]at e;exact hn (Qa e)),QA (by simp)]
 have hj:(t.probeStart (k:Int)).j=k/\(t.probeStart (k:Int)).dummy=none:=by unfold SetTable.probeStart;rw[hb];exact⟨Nat.mod_eq_of_lt ⋯,rfl⟩
 unfold SetTable.freeSlot SetTable.probe;rw[show 10*SetTable.turns t.mask=(10*t.mask+149)+1 by unfold SetTable.turns;omega];unfold SetTable.probe.go;rw[hj.1,hsl,hj.2];rfl
theorem DTab.ins{k:Nat}{tk:Tok}(d:DTab w es t ks m)(hk:k<6)(hn:k ∉ ks):DTab w (SetTable.insertAt es (t.put k).2 ((k:Int),.int (k:Int) tk)) (t.put k).1 (zle k ks) m:=by
 have hp:(t.put k).2=(ks.filter (· < k)).length:=by unfold SetTable.put;rw[d.place];exact zjx d.sub ⋯
 have hi:zle k ks=ks.take (ks.filter (· < k)).length++k::ks.drop (ks.filter (· < k)).length:=QA hn;refine⟨?_,?_,d.mask,?_,?_,d.plain,d.led,znp hk d.sub,d.ms⟩
 ·rw[hp,SetTable.toList_insertAt,hi];unfold hsh;rw[Qq,QF,Qq,QF,map_take,map_take,map_drop,map_drop];have:=d.keys;unfold hsh at this;rw[this]
 ·intro e he;rw[SetTable.toList_insertAt]at he;rcases mem_append.mp he with he | he
  ·exact d.vals e (List.mem_of_mem_take he)
  ·rcases QB.mp he with rfl | he
   ·exact⟨tk,rfl⟩
   ·exact d.vals e (List.mem_of_mem_drop he)
 ·show SetTable.insertAt t.place (SetTable.below t.place k) k=_;rw[d.place,zjx d.sub ⋯,hi];apply Array.toList_inj.mp;rw[SetTable.toList_insertAt]
 ·show(if SetTable.has t.dummies k then _ else t.dummies) = #[];rw[d.dumm];rfl
theorem DTab.lay{k:Nat}{tk:Tok}(d:DTab w es t ks m)(hk:k<6)(hn:k ∉ ks):layNew t es (k:Int) (.int (k:Int) tk)=(SetTable.insertAt es (t.put k).2 ((k:Int),.int (k:Int) tk),(t.put k).1,false,false):=by have hm:=d.ms;have hf:=(d.ins (tk:=tk) hk hn).fits;unfold layNew;rw[zjR d.place d.dumm (by rw[d.mask];simp at hm;omega) ⋯ hn];dsimp only;unfold SetTable.orStandIn;rw[Qz hf,hf];rfl
theorem DTab.full(d:DTab w es t ks m):∃t' m',relayAll t es (SetTable.grown es.size)=(es,t',false)/\DTab w es t' ks m':=by
 have h6:=ziN d.sub;have hw:∀n,n<=6->SetTable.sizeAbove (SetTable.grown n)-1 ∈ [7,15,31]:=by decide +kernel
 have hms:=hw _ h6;have e1:es.map (·.1)=(hsh ks).toArray:=by rw[←d.keys];apply Array.toList_inj.mp;rw[Array.toList_map]
 have e3:Array.filterMap (fun x=>es[x]?) (List.range ks.length).toArray=es:=by
  apply Array.toList_inj.mp;rw[←d.size]
  simpa using filterMap_getElem?_range es
 have hc:∀n,n<=6->coversAll (List.range n).toArray n=true:=by decide +kernel
 have d':DTab w es { mask:=SetTable.sizeAbove (SetTable.grown es.size)-1,place:=ks.toArray,dummies:=#[],finger:=t.finger,led:=t.led,moves:=t.movedTo (SetTable.sizeAbove (SetTable.grown es.size)-1),plain:=t.plain } ks (SetTable.sizeAbove (SetTable.grown es.size)-1):=⟨d.keys,d.vals,rfl,rfl,rfl,d.plain,d.led,d.sub,by rw[d.size];exact hms⟩;refine⟨_,_,?_,d'⟩;unfold relayAll SetTable.relaid;rw[e1,zoZ d.sub (by rw[d.size];exact hms)];dsimp only;rw[e3,d'.fits,d.size,hc _ h6];rfl
end
end L2
namespace L2
open PySem PySem.Spec PyProof.Rows
section
variable {prog:Program}{w:World}{A:Around}{E:Value->Shared->Prop}{s:Shared}{a:Addr}{ks:List Nat}{m:Nat}
structure DictN (prog:Program) (w:World) (h:Heap) (d:Addr) (ns:List Nat) (od:Obj) (es:Array DictEntry) (ep:Nat):Prop where
 at_:h.get? d=some od
 exact_:od.ExactDict
 data:od.data = .dict es ep
 size:es.size=ns.length
 keys:∀(i:Nat) n,ns[i]? = some n->∃e tk,es[i]? = some e/\e.key = .int (n:Int) tk/\e.hash=(n:Int)
 small:∀n ∈ ns,n<6
end
end L2
namespace FT
open PySem PySem.Spec PyProof.Rows L2
noncomputable def zfj(f:X4):X4:=fun ts M=>match f ts M with
 |.ok (.ref a) M'=>match M'[a]? with
  |some (.lst xs)=>@ite _ (M'.take M.length=M/\M.length<=a/\∀x ∈ xs,T.lt 0 x) (Classical.propDecidable _) (.ok (.lst xs) M) .bad|_=>.bad
 |_=>.bad
theorem zkA(f:X4):Refines (zfj f) f:=by
 intro ts M t' M1 _ e;unfold zfj at e;split at e
 ·rename_i a M' q;split at e
  ·rename_i xs qa;split at e
   ·rename_i hc;cases e;have hl:M.length<=M'.length:=by have:=congrArg List.length hc.1;rw[Qr]at this;omega
    refine⟨_,_,q,Q3 _,hl,hc.1.symm,fun i c e=>.inl e,.ref qa hc.2.1 rfl fun i t u e1 e2=>?_⟩;rw[e1]at e2;cases e2;exact .same ((hc.2.2 t (Qa e1)).mono (Nat.zero_le _))
   ·cases e
  ·cases e
 ·cases e
theorem zkB(f:X4):∀ts M C fs M',zfj f ts M ≠ .exn C fs M':=by
 intro ts M C fs M' e;unfold zfj at e;split at e
 ·split at e
  ·split at e<;>cases e
  ·cases e
 ·cases e
variable {K:Frag}{base:Heap}{N ps:List Str}{P:Program}{st:Stmt}{x:Str}{mg:Str->Option Value}{w:World}
section
theorem Refines.bad(g:X4):Refines (fun _ _=>.bad) g:=fun _ _ _ _ _ e=>by cases e
theorem CalT.bad{k:Nat}(D:Df K mg x st ps)(Sc:FnScope N ps (ye st)):CalT P w K mg base (k+1) x ps (fun _ _=>.bad):=
 CalT.refine (g:=yi ps.length N.length (fun _ _=>.bad)) (zmB D Sc rfl rfl fun f cdv A outer s H E hr=>fun _ _ _ _ _ _ ⟨_,_,_,_,_,_,_,ξ⟩=>ξ.elim) (Refines.bad _) (fun _ _ _ _ _ z=>by cases z)
end
def KTu(K:Frag)(a:Addr)(xs:List V):Prop:=∃(o:Obj) (its:Array Value) (n:Nat),K.lookup a=some o/\o.cls = .type "tuple"/\o.dict=none/\o.data = .seq its n/\its.size<=sizeLine/\Vals xs its.toList
variable {n:Nat}
theorem zqJ{a:Addr}{t:Tok}{sl:Array (Option Value)}(h:K.lookup a=some ⟨.type "tuple",none,.seq #[.str x t] n,sl⟩):KTu K a [.str x]:=
 ⟨_,_,n,h,rfl,rfl,rfl,(by rw[sizeLine_eq];exact Nat.le_of_ble_eq_true rfl),.cons ⟨t,rfl⟩ .nil⟩
noncomputable def zgH(Cs:List Addr)(f:Str)(fo:X8)(n:Int):X5:=fun σ M=>(fo σ M).bind fun x M1=>(zaV Cs f x M1).bind fun v M2=>(zdX v (.int n) M2).bind fun z M3=>(zaZ Cs f x z M3).bind fun _ M4=>.ok (.nx σ) M4
noncomputable def zeJ:T->X4:=fun x ts M=>match x,ts with
 |.ref a,[.lst ys]=>match M[a]? with
  |some (.lst xs)=>if xs.length+ys.length<1000000 then .ok .non (M.set a (.lst (xs++ys)))else .bad|_=>.bad
 |.ref a,[.ref b]=>match M[a]?,M[b]? with
  |some (.lst xs),some (.lst ys)=>if xs.length+ys.length<1000000 then .ok .non (M.set a (.lst (xs++ys)))else .bad|_,_=>.bad
 |_,_=>.bad
noncomputable def zhC(x:T):List T->Nat->Option Nat
 |[],_=>none|y::ys,n=>if eqS y x=true then some n else zhC x ys (n+1)
noncomputable def zhE:T->X4:=fun x ts M=>match ts with
 |[y]=>match qC x M with
  | some xs=>if(zb3 y && xs.all zb3)=true then(match zhC y xs 0 with
   |some n=>.ok (.int (n:Int)) M
   | none=>.bad)else .bad
  |none=>.bad
 |_=>.bad
theorem zh1{x:T}:∀{ys:List T} {k n:Nat},zhC x ys k=some n->k<=n/\n-k<ys.length/\(∀y,ys[n-k]? = some y->eqS y x=true)/\∀(m:Nat) y,m<n-k->ys[m]? = some y->eqS y x=false
 |[],k,n,h=>by cases h|y::ys,k,n,h=>by
  unfold zhC at h;split at h
  ·rename_i e;cases h;refine⟨Q3 _,by simp,fun z hz=>?_,fun m z hm=>absurd hm ⋯⟩;simp at hz;rw[←hz];exact e
  ·rename_i e;obtain⟨h1,h2,h3,h4⟩:=zh1 h;refine⟨⋯,by rw[Qp];omega,fun z hz=>?_,fun m z hm hz=>?_⟩
   ·rw[show n-k=n-(k+1)+1 by omega,getElem?_cons_succ]at hz;exact h3 z hz
   ·cases m with|zero=>simp at hz;rw[←hz];simpa using e|succ m=>rw[getElem?_cons_succ]at hz;exact h4 m z ⋯ hz
variable {X:Cx}{fo:X8}{Cs:List Addr}{ss:List Str}{cpos pos tpos:Pos}{Z:XK}
section
variable {f:Str}
theorem zqA(hu:X.A.units+64<cLine):MtR X "list.index" (lMt Z X.K zhE):=by
 intro ρ s σ H x xs v us Q I rx rs ⟨S,⟨tx,ts⟩,e,m,⟨r1,r2⟩,ξ⟩;subst e;replace r1:Rep X.K S tx x:=r1;replace r2:Reps X.K S ts xs:=r2;replace ξ:Fin Z (Rep X.K) X.K S (zhE tx ts S.M) Q:=ξ;unfold zhE at ξ;rw?
 ·rename_i y;rw?
  ·rename_i ys q;rw?
   ·rename_i hs;rw?
    ·rename_i n hn;rw[Qs]at hs;obtain⟨p,vs,rfl,hq,rs'⟩:=qJ m r1 q;obtain⟨w1,ws,rfl,h1,h2⟩:=r2.consT;cases h2.nilT;cases rs with | cons a1 a2=>
     cases a2;cases rx;obtain⟨its,rv,pl,hz⟩:=I.list hq;obtain⟨i1,i2,i3,i4⟩:=zh1 hn;rw[Nat.sub_zero]at i2 i3 i4;obtain⟨b1,b2⟩:=zlq h1 hs.1 rs' hs.2;have fx:=zR h1 hs.1;have hlen:=rv.length;have hys:=rs'.1;have val:∀(k:Nat) (hk:k<its.length),∃y',ys[k]? = some y'/\eqU w1 its[k]=eqS y' y:=fun k hk=>by obtain⟨y',hy'⟩:∃y',ys[k]? = some y':=⟨ys[k],Q0 ⋯⟩;obtain⟨v',hv',rv'⟩:=rs'.get hy';obtain⟨u',hu',ru'⟩:=rv.get hv';rw[Q0 hk]at hu';cases hu';have sy:zb3 y'=true:=all_eq_true.mp hs.2 y' (Qa hy');exact⟨y',hy',by rw[zjn ru' (zR rv' sy),zfH rv' h1 sy hs.1]⟩
     obtain⟨o,c,ho,hcl,hdi,hda⟩:=pl;obtain⟨cls,dict,data,slots⟩:=o;dsimp only at hcl hdi hda;subst hcl;subst hdi;subst hda
     have hnl:n<its.length:=by omega
     refine call_meets PySem.F.slot_list_index ⟨_,ho,rfl⟩ PySem.F.entry_list_index (PySem.F.args_list_index_2 _ _) (SeqAt.list_indexAt p its.toArray c none slots _ (eqU w1) n (by simpa using hnl) (by have:=zcB;rw[hlen]at hz;omega) ?_ ?_) ⟨ho,fun w hw=>zeA a1 fx rv b1 w (by simpa using hw),⟨.int (n:Int),S.H,I.tok _,⟨_,rfl⟩,ξ S _ rfl (.refl m) (.int _)⟩⟩
     ·obtain⟨y',hy',e'⟩:=val n hnl;simp only[getElem_toArray];rw[e'];exact i3 y' hy'
     ·intro k hk hk2;have hk':k<its.length:=by simpa using hk
      obtain⟨y',hy',e'⟩:=val k hk';simp only[getElem_toArray];rw[e'];exact i4 k y' hk2 hy'
    ·simp?
   ·simp?
  ·simp?
 ·simp?
end
theorem zl0(l:Addr)(items:Array Value)(n:Nat)(b:Addr)(items2:Array Value)(n2:Nat)(dd:Option Addr)(sl:Array (Option Value))(hc0:¬(!items.isEmpty && Builtin.List.listTooLong (items.size+items2.size))=true)(hc1:items.size<=sizeLine)(hs2:items.size+items2.size<=sizeLine+1) :
  Meets (Builtin.«list.extend» ⟨[.ref l,.ref b],[]⟩) (fun _ R s=>s.heap.get? l=some { cls:=.type "list",dict:=none,data:=.seq items n,slots:=#[] }/\s.heap.get? b=some { cls:=.type "list",dict:=dd,data:=.seq items2 n2,slots:=sl }/\R (.ok (.ret Value.none)) { s with heap:=s.heap.update l (Obj.mapSeq fun x=>x++items2),toks:=s.toks }):=
 .of_wp fun prog w A R s h=>by
  obtain⟨hp,g,d,tk,os⟩:=s;obtain⟨hl,hb,h⟩:=h;have f1:=AutoSeq1.idx_int;have f2:=AutoSeq1.sub_tuple_tuple;have f3:=AutoSeq1.sub_list_list;have f4:=AutoSeq1.sub_tuple_list;have f5:=AutoSeq1.sub_list_tuple
  have hz':(items++items2).size<=sizeLine+1:=by rw[Array.size_append];exact hs2
  wp_walk using(wpAny_updateSeq hl rfl (hz:=hc1) (_hz':=hz')),AutoSeq1.wpAny_loadPart' hl,AutoSeq1.wpAny_loadPart' hb;exact⟨_,rfl,h⟩
section
noncomputable def zrW(K:Frag):V->List V->Hp->VK->Prop:=fun x vs H Q=>∃l b xs zs,x = .ref l/\vs=[.ref b]/\H l=some (.lst xs)/\SqL K H b zs/\xs.length+zs.length<=sizeLine/\Q .non (upd H l (.lst (xs++zs)))
theorem zkl:MtM X "list.extend" (zrW X.K):=by
 intro ρ s σ H x vs v us Q I rx rv h;obtain⟨l,b,xs,zs,rfl,rfl,hH,hB,hz,q⟩:=h;cases rx;obtain⟨u,rfl,ru⟩:=rv.one;cases ru;obtain⟨z,its,n,r,hl,e⟩:=I.lstM hH;obtain⟨its2,r2,pl2,z2⟩:=I.list hB;obtain⟨⟨cls2,dd2,data2,sl2⟩,n2,ho2,hc2,hdi2,hd2⟩:=pl2;simp only at hc2 hd2;subst hc2 hd2;have hl2:=r2.length;have hsz:its.toArray.size+its2.toArray.size<=sizeLine:=by rw[Qi,Qi];omega
 have hlong:¬(!its.toArray.isEmpty && Builtin.List.listTooLong (its.toArray.size+its2.toArray.size))=true:=by rw[zi5 hsz,Bool.and_false];exact Q4
 refine call_meets F.slot_list_extend ⟨_,e,rfl⟩ F.entry_list_extend (F.args_list_extend_2 _ _)
  (zl0 l its.toArray n b its2.toArray n2 dd2 sl2 hlong (by rw[Qi];omega) ⋯) ⟨e,ho2,?_⟩
 refine⟨.non,_,I.lset (its':=its++its2) hH e (by simp) (r.append r2) ?_,rfl,q⟩;rw[Qn];omega
theorem zhw:MtR X "list.extend" (lMt Z X.K zeJ):=by
 intro ρ s σ H x xs v us Q I rx rs ⟨S,⟨tx,ts⟩,e,m,⟨r1,r2⟩,ξ⟩;subst e;replace r1:Rep X.K S tx x:=r1;replace r2:Reps X.K S ts xs:=r2;replace ξ:Fin Z (Rep X.K) X.K S (zeJ tx ts S.M) Q:=ξ;have hsl:(1000000:Nat)<=sizeLine:=by rw[sizeLine_eq];exact Nat.le_of_ble_eq_true rfl
 unfold zeJ at ξ;rw?
 ·rename_i a ys;rw?
  ·rename_i xs0 q;rw?
   ·rename_i hlt;cases r1 with
    |ref ha=>
    obtain⟨w1,ws,rfl,h1,h2⟩:=r2.consT;cases h2.nilT;obtain⟨us4,h4,rr⟩:=m.cell _ _ q;cases h1 with|@lst _ p vs h l r=>
    have rr2:Reps X.K S ys vs:=⟨l,r⟩;have st:=zfu m q (rr.app rr2);refine zkl ρ s σ S.H (.ref (S.α a)) [.ref p] v us Q I rx rs ⟨S.α a,p,us4,vs,rfl,rfl,h4,zdk h,by rw[←rr.1,←l];omega,?_⟩;exact ξ (S.put a (.lst (us4++vs)) (.lst (xs0++ys))) .non rfl st .non
   ·simp?
  ·simp?
 ·rename_i a b;rw?
  ·rename_i xs0 ys q qb;rw?
   ·rename_i hlt;cases r1 with
    |ref ha=>
    obtain⟨w1,ws,rfl,h1,h2⟩:=r2.consT;cases h2.nilT;obtain⟨us4,h4,rr⟩:=m.cell _ _ q;obtain⟨us5,h5,rr5⟩:=m.cell _ _ qb;cases h1 with|ref hb=>
    have st:=zfu m q (rr.app rr5);refine zkl ρ s σ S.H (.ref (S.α a)) [.ref (S.α b)] v us Q I rx rs ⟨S.α a,S.α b,us4,us5,rfl,rfl,h4,.inl (.inl h5),by rw[←rr.1,←rr5.1];omega,?_⟩;exact ξ (S.put a (.lst (us4++us5)) (.lst (xs0++ys))) .non rfl st .non
   ·simp?
  ·simp?
 ·simp?
end
structure WE (X:Cx) (Z:XK) (e:Expr) (f:X8):Prop where
 pe:GE X Z e f
structure WT (X:Cx) (Z:XK) (e:Expr) (f:X6):Prop where
 pe:GT X Z e f
structure WW (X:Cx) (Z:XK) (e:Expr) (f:X6):Prop where
 pe:GW X Z e f
structure WA (X:Cx) (Z:XK) (e:List Expr) (f:X1):Prop where
 pe:GA X Z e f
structure WSs (X:Cx) (Z:XK) (e:List Stmt) (f:X5):Prop where
 pe:GSs X Z e f
structure WS (X:Cx) (Z:XK) (e:Stmt) (f:X5):Prop where
 pe:GS X Z e f
structure WL (X:Cx) (Z:XK) (e:Expr) (f:X1):Prop where
 pe:GL X Z e f
structure WGs (X:Cx) (Z:XK) (e:List Expr) (f:List T->X7):Prop where
 pe:GGs X Z e f
structure WG (X:Cx) (Z:XK) (e:Expr) (f:T->X7):Prop where
 pe:GG X Z e f
structure WO (X:Cx) (Z:XK) (e:Option Expr) (f:Ev->Mem->Out (Option Int)):Prop where
 pe:GO X Z e f
structure WI (X:Cx) (Z:XK) (tg iter:Expr) (f:X1):Prop where
 pe:GI X Z tg iter f
structure WX (X:Cx) (e:List Stmt) (f:X5):Prop where
 pe:GX X e f
structure WIG (X:Cx) (Z:XK) (tg iter:Expr) (f:Ev->Mem->Out (List T × Gd)):Prop where
 pe:GIG X Z tg iter f
variable {op:CmpOp}{ga:X1}{tf:X6}{f g h:X8}{e:Expr}{es:List Expr}{i:Nat}{o:X3}
section
variable {a b c:Expr}
theorem z(h:PE X e (zkU i)):WE X Z e (O i):=⟨PE.imp h fun σ H Q h9=>by
 obtain⟨S,στ,_,e,m,ev,_,ξ⟩:=h9;replace ξ:Fin Z (Rep X.K) X.K S (O i στ S.M) Q:=ξ;unfold O at ξ;cases q:στ[i]? with
 |none=>rw[q]at ξ;exact ξ.elim|some o=>
  cases o with
  |none=>rw[q]at ξ;exact ξ.elim|some t=>rw[q]at ξ;obtain⟨v,e2,r⟩:=ev.2 i t q;exact⟨v,e2,by rw[←e];exact ξ S v rfl (.refl m) r⟩⟩
def yc{i j}:WE X Z (.Constant (.int i) j pos) (eC (.int i)):=⟨ge_int ⟩
def zaN{i j}:WE X Z (.Constant (.bool i) j pos) (eC (.bl i)):=⟨zcn zr6 fun _=>.bl _⟩
def y8{j}:WE X Z (.Constant .none j pos) (eC .non):=⟨zcn zqk fun _=>.non⟩
def zl{i j}:WE X Z (.Constant (.str i) j pos) (eC (.str i)):=⟨zcn zqh fun _=>.str _⟩
theorem zf5{n:String}(hg:Gl X x)(hm:X.mg x=none)(hv:bootBuiltins x=some (.type n))(hn:x ≠ "__name__":=by decide)(hd:(x==("__debug__":Str))=false:=by decide):WE X Z (.Name x pos) (eC (.ty n)):=⟨zcn (zkh (v:=.ty n) hg hm hv rfl hn hd) fun _=>.ty _⟩
theorem yh{op:Operator}(ho:OpR X (binaryOp op) (lR2 Z X.K o))(ha:WE X Z a f)(hb:WE X Z b g):WE X Z (.BinOp a op b pos) (eOp o f g):=by have ha:=ha.pe;have hb:=hb.pe;exact⟨PE.imp (znT ho ha hb) fun _ _ _ h=>ziH h⟩
theorem zbT(ho:OpR X (compareOp op) (lR2 Z X.K o))(ha:WE X Z a f)(hb:WE X Z b g)(hm:behindInMarks op b=false):WE X Z (.Compare a [op] [b] pos) (eOp o f g):=by have ha:=ha.pe;have hb:=hb.pe;exact⟨PE.imp (zoC ho ha hb hm) fun _ _ _ h=>ziH h⟩
theorem zpJ{op:UnaryOp}{o:T->Mem->Out T}(ho:L2.UnR X (unaryOp op) (lR1 Z X.K o))(ha:WE X Z a f):WE X Z (.UnaryOp op a pos) (eUn o f):=by have ha:=ha.pe;exact⟨PE.imp (zr3 ho ha) fun σ H Q h=>LN.mono (LN.bind (f:=fun _ σ M=>f σ M) (k:=fun _ x σ M1=>o x M1) (RB:=Rep X.K) h) fun v H1 h2=>by obtain⟨S,στ,a,e,m,ev,ra,ξ⟩:=h2;exact⟨S,a.2,e,m,ra.2,ξ⟩⟩
theorem yd(ho:IxR X (lR2 Z X.K o))(ha:WE X Z a f)(hb:WE X Z b g)(hs:zhQ b:=by exact fun _ _=>rfl):WE X Z (.Subscript a b pos) (eOp o f g):=by have ha:=ha.pe;have hb:=hb.pe;exact⟨PE.imp (zr5 ho ha hb hs) fun _ _ _ h=>ziH h⟩
theorem z8(ha:WE X Z e f)(he:∀whole,isTrue e X.env whole=(do let v ←whole;standAt e.pos;holding [v] (truthy v)):=by intro _;rfl):WT X Z e (yw f):=by have ha:=ha.pe;exact⟨PT.imp (zp5 ha he) fun σ H Q h=>LN.mono (LN.bind (f:=fun _ σ M=>f σ M) (k:=fun _ x σ M1=>blT x M1 fun b M2=>.ok b M2) (RB:=Rep X.K) h) fun v H1 h2=>by obtain⟨S,στ,a,e,m,ev,ra,ξ⟩:=h2;obtain⟨b,e1,_,ξ⟩:=ziG ra.2 ξ;exact⟨b,e1,by rw[←e];exact ξ S b rfl (.refl m) rfl⟩⟩
theorem qr(ho:OpR X (compareOp op) (lR2 Z X.K o))(ha:WE X Z a f)(hb:WE X Z b g)(hm:behindInMarks op b=false):WT X Z (.Compare a [op] [b] pos) (yw (eOp o f g)):=by have ha:=ha.pe;have hb:=hb.pe;exact⟨PT.imp (zos ho ha hb hm) fun σ H Q h=>by have h1:=LN.bind (f:=fun _ σ M=>eOp o f g σ M) (k:=fun _ x σ M1=>blT x M1 fun b M2=>.ok b M2) (RB:=Rep X.K) h;refine ziH (LN.mono h1 fun v H1 h2=>?_);obtain⟨S,στ,a,e,m,ev,ra,ξ⟩:=h2;obtain⟨b,e1,_,ξ⟩:=ziG ra.2 ξ;exact⟨b,e1,by rw[←e];exact ξ S b rfl (.refl m) rfl⟩⟩
variable {tg:X6}{rest:List Expr}
theorem zbM(ha:WT X Z a tf):WW X Z (.BoolOp .And [a] pos) tf:=by have ha:=ha.pe;exact⟨zon ha⟩
theorem zcY(ha:WT X Z a tf):WW X Z (.BoolOp .Or [a] pos) tf:=by have ha:=ha.pe;exact⟨zp3 ha⟩
theorem zci(ha:WT X Z a tf)(hb:WW X Z (.BoolOp .And (b::rest) pos) tg):WW X Z (.BoolOp .And (a::b::rest) pos) (zcT tf tg):=by
 have ha:=ha.pe;have hb:=hb.pe;exact⟨PW.imp (zp4 ha hb) fun σ H Q h=>
  LN.mono (tif (tf:=tf) (tg:=tg) (p:=fun c σ M1=>if c=true then tg σ M1 else .ok false M1) h) fun c H1 h1=>by
   cases c with
   |true=>exact(Qz rfl).mpr h1
   | false=>exact(QA Q4).mpr (ziy h1)⟩
theorem zcz(ha:WT X Z a tf)(hb:WW X Z (.BoolOp .Or (b::rest) pos) tg):WW X Z (.BoolOp .Or (a::b::rest) pos) (zc9 tf tg):=by
 have ha:=ha.pe;have hb:=hb.pe;exact⟨PW.imp (zr1 ha hb) fun σ H Q h=>
  LN.mono (tif (tf:=tf) (tg:=tg) (p:=fun c σ M1=>if c=true then .ok true M1 else tg σ M1) h) fun c H1 h1=>by
   cases c with
   |true=>exact(Qz rfl).mpr (ziy h1)
   | false=>exact(QA Q4).mpr h1⟩
def WW.gt(h:WW X Z e tf):WT X Z e tf:=⟨GW.gt h.pe⟩
theorem zcZ(ha:WT X Z a tf):WT X Z (.UnaryOp .Not a pos) (zdx tf):=by have ha:=ha.pe;exact⟨PT.imp (zp6 ha) fun σ H Q h=>LN.mono (tif (tf:=tf) (tg:=tf) (p:=fun c σ M1=>.ok (!c) M1) h) fun c H1 h1=>ziy h1⟩
theorem zfq{op}(h:WE X Z a f):WE X Z (.BoolOp op [a] pos) f:=by have h:=h.pe;exact⟨zqi h⟩
theorem zj2(ha:WE X Z a f)(hb:WE X Z (.BoolOp .And (b::rest) pos) g):WE X Z (.BoolOp .And (a::b::rest) pos) (zll f g):=by
 have ha:=ha.pe;have hb:=hb.pe;exact⟨PE.imp (zqo ha hb) fun σ H Q h=>
  LN.mono (eif (f:=f) (p:=fun b σ M2=>if b=true then g σ M2 else .ok (.bl false) M2) h) fun x H1 ⟨c,e,h1⟩=>⟨c,e,by
   cases c with
   |true=>exact(Qz rfl).mpr h1
   | false=>exact(QA Q4).mpr (zld h1 fun _=>.bl _)⟩⟩
theorem zlw(ha:WE X Z a f)(hb:WE X Z (.BoolOp .Or (b::rest) pos) g):WE X Z (.BoolOp .Or (a::b::rest) pos) (eOr f g):=by
 have ha:=ha.pe;have hb:=hb.pe;exact⟨PE.imp (zr4 ha hb) fun σ H Q h=>
  LN.mono (eif (f:=f) (p:=fun b σ M2=>if b=true then .ok (.bl true) M2 else g σ M2) h) fun x H1 ⟨c,e,h1⟩=>⟨c,e,by
   cases c with
   |true=>exact(Qz rfl).mpr (zld h1 fun _=>.bl _)
   | false=>exact(QA Q4).mpr h1⟩⟩
theorem zj0(ha:WE X Z a f):WE X Z (.UnaryOp .Not a pos) (zlk f):=by have ha:=ha.pe;exact⟨PE.imp (zqj ha) fun σ H Q h=>LN.mono (eif (f:=f) (p:=fun b σ M2=>.ok (.bl (!b)) M2) h) fun x H1 ⟨c,e,h1⟩=>⟨c,e,zld h1 fun _=>.bl _⟩⟩
theorem zpK(hc:WT X Z c tf)(ha:WE X Z a f)(hb:WE X Z b g):WE X Z (.IfExp c a b pos) (eIf tf f g):=by
 have hc:=hc.pe;have ha:=ha.pe;have hb:=hb.pe;exact⟨PE.imp (zm6 hc ha hb) fun σ H Q h=>
  LN.mono (LN.bind (f:=fun _ σ M=>tf σ M) (k:=fun _ c σ M1=>if c=true then f σ M1 else g σ M1) (RB:=EqR) h) fun c H1 h2=>by
   obtain⟨S,στ,a,e,m,ev,ra,ξ⟩:=h2;have:a.2=c:=ra.2;subst this;replace ξ:Fin Z (Rep X.K) X.K S (if a.2=true then f στ S.M else g στ S.M) Q:=ξ;cases q:a.2 with
   |true=>exact(Qz rfl).mpr ⟨S,στ,(),e,m,ev,trivial,by rw[q]at ξ;exact ξ⟩
   | false=>exact(QA Q4).mpr ⟨S,στ,(),e,m,ev,trivial,by rw[q]at ξ;exact ξ⟩⟩
theorem zc :WA X Z [] zd:=⟨PA.imp zgN fun σ H Q h9=>by obtain⟨S,στ,_,e,m,ev,_,ξ⟩:=h9;show Q [] H;rw[←e];exact ξ S [] rfl (.refl m) .nil⟩
theorem za(ha:WE X Z e f)(hr:WA X Z es ga)(hs:noStar e=true:=by rfl):WA X Z (e::es) (zb f ga):=by have ha:=ha.pe;have hr:=hr.pe;exact⟨PA.imp (zbX ha hr (qU hs)) fun σ H Q h=>LN.mono (LN.bind (f:=fun _ σ M=>f σ M) (k:=fun _ x σ M1=>(ga σ M1).bind fun xs M2=>.ok (x::xs) M2) (RB:=Rep X.K) h) fun v H1 h1=>LN.mono (LN.env (f:=ga) (LN.bind (f:=fun _ σ M=>ga σ M) (k:=fun (ax:Unit × T) ys σ M2=>.ok (ax.2::ys) M2) (RB:=Reps X.K) h1)) fun w H2 h2=>by obtain⟨S,στ,a,e,m,ev,ra,ξ⟩:=h2;show Q (v::w) H2;rw[←e];exact ξ S _ rfl (.refl m) (Reps.cons ra.1.2 ra.2)⟩
theorem yr{x1}(h:WA X Z es ga):WE X Z (.Tuple es x1 pos) (zE ga):=by
 have h:=h.pe;exact⟨PE.imp (zlP h) fun σ H Q h=>
  LN.mono (LN.bind (f:=fun _ σ M=>ga σ M) (k:=fun _ xs σ M1=>if xs.length<=sizeLine then .ok (T.tup xs) M1 else .bad) (RB:=Reps X.K) h) fun v H1 h2=>by
   obtain⟨S,στ,a,e,m,ev,ra,ξ⟩:=h2
   by_cases hl:a.2.length<=sizeLine
   ·replace ξ:Fin Z (Rep X.K) X.K S (if a.2.length<=sizeLine then .ok (.tup a.2) S.M else .bad) Q:=ξ;rw[Qz hl]at ξ;refine⟨by rw[←ra.2.1];exact hl,fun p hp=>?_⟩;subst e;have s:=Stp.new m hp (.tup v);exact ξ ⟨S.α,S.M,upd S.H p (.tup v),S.hid⟩ (.ref p) rfl s (.tup (.inl (.inl qu)) ra.2.1 (ra.2.grow m s.toGrow).2)
   ·replace ξ:Fin Z (Rep X.K) X.K S (if a.2.length<=sizeLine then .ok (.tup a.2) S.M else .bad) Q:=ξ;rw[QA hl]at ξ;exact ξ.elim⟩
theorem yq(h:WA X Z es ga):WL X Z (.List es pos) (zx ga):=by
 have h:=h.pe;exact⟨PE.imp (zql h) fun σ H Q h9=>by
  obtain⟨S,στ,e,m,ev,ξ⟩:=h9;replace ξ:FinL Z X.K S ((ga στ S.M).bind fun xs M1=>if xs.length<=sizeLine then .ok xs M1 else .bad) Q:=ξ;refine⟨S,στ,(),e,m,ev,trivial,?_⟩;show Fin Z (Reps X.K) X.K S (ga στ S.M) _;cases q:ga στ S.M with
  |bad=>rw[q]at ξ;exact ξ|exn C fs M'=>rw[q]at ξ;exact ξ|ok xs M1=>
   rw[q]at ξ;intro S1 vs e1 s1 r1
   by_cases hl:xs.length<=sizeLine
   ·replace ξ:FinL Z X.K S (if xs.length<=sizeLine then .ok xs M1 else .bad) Q:=ξ;rw[Qz hl]at ξ;refine⟨by rw[←r1.1];exact hl,fun p hp=>?_⟩;have s2:=Stp.hide s1.mok hp vs;exact(ξ.later s1) (S1.hide p vs) p vs e1 s2 hp (.head _) qu (r1.grow s1.mok s2.toGrow)
   ·replace ξ:FinL Z X.K S (if xs.length<=sizeLine then .ok xs M1 else .bad) Q:=ξ;rw[QA hl]at ξ;exact ξ.elim⟩
theorem qx(h:WL X Z e ga):WE X Z e (eFz ga):=by
 have h:=h.pe;exact⟨PE.imp h fun σ H Q ⟨S,στ,_,e,m,ev,_,ξ⟩=>⟨S,στ,e,m,ev,by
  show FinL Z X.K S (ga στ S.M) Q;replace ξ:Fin Z (Rep X.K) X.K S ((ga στ S.M).bind fun xs M1=>.ok (.lst xs) M1) Q:=ξ;cases q:ga στ S.M with
  |bad=>rw[q]at ξ;exact ξ|exn C fs M'=>rw[q]at ξ;exact ξ|ok xs M1=>rw[q]at ξ;intro S1 p vs e1 s1 hn hp hv r;exact ξ (S1.show S.hid) (.ref p) e1 s1.show (zhF s1 hn m hp hv r)⟩⟩
theorem yY(h:WL X Z e ga):WE X Z e (eTk ga):=by
 have h:=h.pe;exact⟨PE.imp h fun σ H Q ⟨S,στ,_,e,m,ev,_,ξ⟩=>⟨S,στ,e,m,ev,by
  show FinL Z X.K S (ga στ S.M) Q;replace ξ:Fin Z (Rep X.K) X.K S ((ga στ S.M).bind fun xs M1=>.ok (.ref M1.length) (M1++[.lst xs])) Q:=ξ;cases q:ga στ S.M with
  |bad=>rw[q]at ξ;exact ξ|exn C fs M'=>rw[q]at ξ;exact ξ|ok xs M1=>
   rw[q]at ξ;intro S1 p vs e1 s1 hn hp hv r;refine ξ (S1.track p xs S.hid) (.ref p) (by show S1.M++_=_;rw[e1]) (s1.track m hn hp hv r) ?_;have this:(S1.track p xs S.hid).α S1.M.length=p:=Qz rfl;rw[←e1];have hl:S1.M.length<(S1.track p xs S.hid).M.length:=by show _<(S1.M++[Cell.lst xs]).length;simp
   have r2:Rep X.K (S1.track p xs S.hid) (.ref S1.M.length) (.ref ((S1.track p xs S.hid).α S1.M.length)):=.ref hl;rw[this]at r2;exact r2⟩⟩
theorem zlx{op':CmpOp}{o':X3}(ho:OpR X (compareOp op) (lR2 Z X.K o))(ho':OpR X (compareOp op') (lR2 Z X.K o'))(ha:WE X Z a f)(hb:WE X Z b g)(hc:WE X Z c h)(hm:lastMarks [op,op'] [b,c]=false:=by with_unfolding_all rfl):WE X Z (.Compare a [op,op'] [b,c] pos) (zg4 o o' f g h):=by have ha:=ha.pe;have hb:=hb.pe;have hc:=hc.pe;exact⟨PE.imp (zm8 ho ho' ha hb hc hm) fun _ _ _ hh=>chain hh⟩
end
variable {iter tg:Expr}{sts:List Stmt}{pos':Pos}{bd:T->X7}
section
variable {a b c:Expr}{rest:List Stmt}{p q r:X5}
theorem yy :WSs X Z [] qR:=⟨PSs.imp zot fun D σ H h9=>by obtain⟨S,στ,_,e,m,ev,_,ξ⟩:=h9;show D.nx σ H;rw[←e];exact ξ S (.nx σ) rfl (.refl m) (.nx ev)⟩
theorem qc(h1:WS X Z st p)(h2:WSs X Z rest q):WSs X Z (st::rest) (yg p q):=by have h1:=h1.pe;have h2:=h2.pe;exact⟨PSs.imp (zm2 h1 h2) fun _ _ _ hh=>zqI hh⟩
theorem qd(h1:WS X Z st p):WSs X Z [st] p:=by have h1:=h1.pe;exact⟨zkd h1⟩
theorem yn(he:WE X Z e f):WS X Z (.Return (some e) pos) (zB f):=by have he:=he.pe;exact⟨PS.imp (zp9 he) fun D σ H hh=>LN.mono (LN.bind (f:=fun _ σ M=>f σ M) (k:=fun _ t σ M1=>.ok (Fl.rt t) M1) (RB:=Rep X.K) hh) fun v H1 h9=>by obtain⟨S,στ,a,e,m,ev,ra,ξ⟩:=h9;rw[←e];exact ξ S (.rt v) rfl (.refl m) (.rt ra.2)⟩
theorem qv(he:WE X Z e f)(hs:swapsWith e none pos.line X.env=pure false:=by rfl):WS X Z (.Expr e pos) (yE f):=by have he:=he.pe;exact⟨PS.imp (zov he hs) fun D σ H hh=>LN.mono (LN.bind (f:=fun _ σ M=>f σ M) (k:=fun _ t σ M1=>.ok (Fl.nx σ) M1) (RB:=Rep X.K) hh) fun v H1 h9=>by obtain⟨S,στ,a,e,m,ev,ra,ξ⟩:=h9;show D.nx σ H1;rw[←e];exact ξ S (.nx σ) rfl (.refl m) (.nx ev)⟩
theorem zC(hc:WT X Z c tf)(ha:WSs X Z sts p)(hb:WSs X Z rest q):WS X Z (.If c sts rest pos) (sIf tf p q):=by
 have hc:=hc.pe;have ha:=ha.pe;have hb:=hb.pe;exact⟨PS.imp (zr2 hc ha hb) fun D σ H hh=>
  LN.mono (LN.bind (f:=fun _ σ M=>tf σ M) (k:=fun _ c σ M1=>if c=true then p σ M1 else q σ M1) (RB:=EqR) hh) fun c H1 h2=>by
   obtain⟨S,στ,a,e,m,ev,ra,ξ⟩:=h2;have:a.2=c:=ra.2;subst this;replace ξ:Fin Z (FlR X.K) X.K S (if a.2=true then p στ S.M else q στ S.M) (qM D):=ξ;cases q:a.2 with
   |true=>exact(Qz rfl).mpr ⟨S,στ,(),e,m,ev,trivial,by rw[q]at ξ;exact ξ⟩
   | false=>exact(QA Q4).mpr ⟨S,στ,(),e,m,ev,trivial,by rw[q]at ξ;exact ξ⟩⟩
theorem qg(hN:X.N.Nodup)(hi:X.N[i]? = some x)(hx:Loc X.env.scope x)(he:WE X Z e f)(hs:swapsWith e (some (.Name x pos')) pos.line X.env=pure false:=by rfl)(hf:X.fn x=true\/X.env.scope.names.lookup x=some .local:=by first | exact .inl rfl | exact .inr rfl | assumption):WS X Z (.Assign [.Name x pos'] e pos) (ym i f):=by have he:=he.pe;exact⟨PS.imp (zp8 hN hi hx he hs hf) fun D σ H hh=>LN.mono (LN.bind (f:=fun _ σ M=>f σ M) (k:=fun _ t σ M1=>.ok (Fl.nx (σ.set i (some t))) M1) (RB:=Rep X.K) hh) fun v H1 h9=>by obtain⟨S,στ,a,e,m,ev,ra,ξ⟩:=h9;show D.nx (σ.set i (some v)) H1;rw[←e];exact ξ S (.nx _) rfl (.refl m) (.nx (ev.set ra.2 i))⟩
theorem zm(h:PG X tg (ziC i)):WG X Z tg (yj i):=⟨PG.imp h fun v σ H Q h9=>by obtain⟨S,στ,t,e,m,ev,ra,ξ⟩:=h9;show Q (σ.set i (some v)) H;rw[←e];exact ξ S _ rfl (.refl m) (ev.set ra i)⟩
theorem zah :WGs X Z [] zbe:=⟨PGs.imp zoA fun v σ H Q h9=>by
 obtain⟨S,στ,t,e,m,ev,ra,ξ⟩:=h9;cases t with
 |nil=>exact⟨ra.nilT,by rw[←e];exact ξ S _ rfl (.refl m) ev⟩
 | cons t r=>exact ξ.elim⟩
theorem yz{bs:List T->X7}(h:PGs X (e::es) (zlh (lG Z X.K bd) (lGs Z X.K bs))):WGs X Z (e::es) (zF bd bs):=⟨PGs.imp h fun v σ H Q h9=>by
 obtain⟨S,στ,t,e,m,ev,ra,ξ⟩:=h9;cases t with
 |nil=>exact ξ.elim|cons t r=>
  obtain⟨v1,vs,rfl,r1,r2⟩:=ra.consT;refine⟨v1,vs,rfl,?_⟩;replace ξ:Fin Z (EvR X.K) X.K S ((bd t στ S.M).bind fun σ1 M1=>bs r σ1 M1) Q:=ξ;refine⟨S,στ,t,e,m,ev,r1,?_⟩;show Fin Z (EvR X.K) X.K S (bd t στ S.M) _;cases o:bd t στ S.M with
  |bad=>rw[o]at ξ;exact ξ|exn C fs M'=>rw[o]at ξ;exact ξ|ok σ1 M1=>rw[o]at ξ;intro S1 cc e1 s1 ev1;exact⟨S1,σ1,r,rfl,s1.mok,ev1,r2.grow m s1.toGrow,by rw[e1];exact Fin.later s1 ξ⟩⟩
theorem zaQ{bs:List T->X7}(h:PG X tg (znA X.K n (lGs Z X.K bs))):WG X Z tg (zbd n bs):=⟨PG.imp h fun v σ H Q h9=>by
 obtain⟨S,στ,t,e,m,ev,ra,ξ⟩:=h9;cases ra with
 |@tup ts p vs h l r=>
  replace ξ:Fin Z (EvR X.K) X.K S (if ts.length=n then bs ts στ S.M else .bad) Q:=ξ
  by_cases hn:ts.length=n
  ·rw[Qz hn]at ξ;exact⟨p,vs,rfl,by rw[←e];exact h,by rw[←l];exact hn,S,στ,ts,e,m,ev,⟨l,r⟩,ξ⟩
  ·rw[QA hn]at ξ;exact ξ.elim
 | _=>exact ξ.elim⟩
theorem zd0(he:WE X Z e f)(hg:WG X Z tg bd)(hs:swapsWithSole [tg] e pos.line X.env=pure false:=by rfl)(hw:swappedStores [tg] e X.env=pure none:=by rfl)(h1:(assignEach [tg] X.env).map (·.2)=[assign tg X.env]:=by rfl):WS X Z (.Assign [tg] e pos) (zgd f bd):=by have he:=he.pe;have hg:=hg.pe;exact⟨PS.imp (zqd he hg hs hw h1) fun D σ H hh=>LN.mono (LN.bind (f:=fun _ σ M=>f σ M) (k:=fun _ t σ M1=>(bd t σ M1).bind fun σ1 M2=>.ok (Fl.nx σ1) M2) (RB:=Rep X.K) hh) fun v H1 ⟨S,στ,a,e,m,ev,ra,ξ⟩=>zsg ⟨S,στ,a.2,e,m,ev,ra.2,ξ⟩⟩
theorem qQ(hp:PassesOwn (model X.prog X.w) X.A X.env X.xe)(hc:X.calm=true)(hi:WI X Z tg iter ga)(hg:WG X Z tg bd)(hb:WSs X Z sts p)(hs:∀x,foldedSetIterable iter X.env x=pure x:=by intro _;rfl):WS X Z (.For tg iter sts [] pos) (za3 ga bd p):=by
 have hi:=hi.pe;have hg:=hg.pe;have hb:=hb.pe;exact⟨PS.imp (zqa hp hc hi hg hb hs) fun D σ H hh=>by
  refine LN.mono (LN.bind (f:=fun _ σ M=>ga σ M) (k:=fun _ xs σ M1=>forL bd p xs σ M1) (RB:=zdY X.K) hh) fun J H1 h1=>?_;obtain⟨S,στ,a,e,m,ev,ra,ξ⟩:=h1;refine⟨fun i n σ H=>∃S στ,S.H=H/\MemOk X.K S/\EvR X.K S στ σ/\zdY X.K S a.2 J/\n=a.2.length-i/\i<=a.2.length/\Fin Z (FlR X.K) X.K S (forL bd p (a.2.drop i) στ S.M) (qM D),⟨_,S,στ,e,m,ev,ra.2,rfl,Nat.zero_le _,ξ⟩,?_⟩;rintro i n σ1 H2 ⟨S1,στ1,e1,m1,ev1,it1,en,hi1,fin1⟩;subst e1;obtain⟨it2,it3⟩:=it1 S1 (.refl m1)
  by_cases hl:i<a.2.length
  ·have eq:a.2.drop i=a.2[i]::a.2.drop (i+1):=List.drop_eq_getElem_cons hl;rw[eq]at fin1;obtain⟨go,yl⟩:=it2 i a.2[i] (by simp[hl]);refine .inr ⟨go,fun σ' H'=>∃S στ,S.H=H'/\MemOk X.K S/\EvR X.K S στ σ'/\zdY X.K S a.2 J/\Fin Z (FlR X.K) X.K S (forL bd p (a.2.drop (i+1)) στ S.M) (qM D),?_,fun x H' hy=>?_⟩
   ·rintro σ' H' ⟨S2,στ2,e2,m2,ev2,it4,fin2⟩;exact⟨a.2.length-(i+1),⋯,S2,στ2,e2,m2,ev2,it4,rfl,hl,fin2⟩
   ·obtain⟨S2,e2,eM,s2,r2⟩:=yl x H' hy;replace fin1:Fin Z (FlR X.K) X.K S1 ((bd a.2[i] στ1 S1.M).bind fun σ1 M1=>(p σ1 M1).bind (zab (forL bd p (a.2.drop (i+1))))) (qM D):=fin1;refine⟨S2,στ1,a.2[i],e2,s2.mok,Mo.mo m1 s2 ev1,r2,?_⟩;rw[eM];cases o:bd a.2[i] στ1 S1.M with
    |bad=>rw[o]at fin1;exact fin1|exn C fs M'=>rw[o]at fin1;exact Fin.later s2 fin1|ok σ3 M3=>
     rw[o]at fin1;intro S3 σ3v e3 s3 ev3;have s13:=s2.trans s3;refine⟨S3,σ3,(),rfl,s3.mok,ev3,trivial,?_⟩;show Fin Z (FlR X.K) X.K S3 (p σ3 S3.M) _;rw[e3];replace fin1:Fin Z (FlR X.K) X.K S1 ((p σ3 M3).bind (zab (forL bd p (a.2.drop (i+1))))) (qM D):=fin1;cases o2:p σ3 M3 with
     |bad=>rw[o2]at fin1;exact fin1|exn C fs M'=>rw[o2]at fin1;exact Fin.later s13 fin1|ok fl M4=>rw[o2]at fin1;intro S4 fv e4 s4 r4;have s14:=s13.trans s4;cases r4 with|nx r4=>exact⟨S4,_,rfl,s4.mok,r4,Mo.mo m1 s14 it1,by rw[e4];exact Fin.later s14 fin1⟩|ct r4=>exact⟨S4,_,rfl,s4.mok,r4,Mo.mo m1 s14 it1,by rw[e4];exact Fin.later s14 fin1⟩|bk r4=>exact fin1 S4 (.nx _) e4 s14 (.nx r4)|rt r4=>exact fin1 S4 (.rt _) e4 s14 (.rt r4)
  ·rw[List.drop_eq_nil_of_le ⋯]at fin1;refine .inl ⟨it3 i ⋯,?_⟩;exact fin1 S1 (.nx σ1) rfl (.refl m1) (.nx ev1)⟩
end
variable {F:X4}{p:Pos}
section
variable {k:Nat}
theorem qf(C:CalT X.prog X.w X.K X.mg X.base k x ps F)(hr:Room k X.A)(hg:Gl X x)(ha:WA X Z (e::es) ga)(hdb:(x==("__debug__":Str))=false:=by decide)(he:noStar e=true:=by rfl)(hpl:es.all noStar=true:=by rfl):WE X Z (.Call (.Name x p) (e::es) [] pos) (ze F ga):=by
 have ha:=ha.pe;exact⟨PE.imp (zqn C.cal hr hg ha hdb (qU he) (zbP hpl)) fun σ H Q hh=>
  LN.mono (LN.bind (f:=fun _ σ M=>ga σ M) (k:=fun _ ts σ M1=>F ts M1) (RB:=Reps X.K) hh) fun vs H1 h9=>by
   obtain⟨S,στ,a,e,m,ev,ra,ξ⟩:=h9;rw[append_nil];refine⟨S,a.2,e,m,ra.2,?_⟩;show Fin E0 (Rep X.K) X.K S (F a.2 S.M) Q;replace ξ:Fin Z (Rep X.K) X.K S (F a.2 S.M) Q:=ξ;cases o:F a.2 S.M with
   |bad=>rw[o]at ξ;exact ξ|exn C' fs M'=>exact absurd o (C.nox _ _ _ _ _)
   | ok t M1=>rw[o]at ξ;exact ξ⟩
theorem X9{m:Nat}(C:CalT X.prog X.w X.K X.mg X.base k x ps F)(hr:Room m X.A)(ha:WA X Z (e::es) ga)(hk:k<=m:=by decide)(hg:Gl X x:=by exact rfl)(hdb:(x==("__debug__":Str))=false:=by decide)(he:noStar e=true:=by rfl)(hpl:es.all noStar=true:=by rfl):WE X Z (.Call (.Name x p) (e::es) [] pos) (ze F ga):=qf C (hr.mono hk) hg ha hdb he hpl
theorem qo{id:String}(hc:CallR X (.builtin id) (lRN Z X.K F))(hg:Gl X x)(hm:X.mg x=none)(hv:bootBuiltins x=some (.builtin id))(ha:WA X Z (e::es) ga)(hn:x ≠ "__name__":=by decide)(hdb:(x==("__debug__":Str))=false:=by decide)(he:noStar e=true:=by rfl)(hpl:es.all noStar=true:=by rfl):WE X Z (.Call (.Name x p) (e::es) [] pos) (ze F ga):=by have ha:=ha.pe;exact⟨PE.imp (zgf hc hg hm hv ha hn hdb (qU he) (zbP hpl)) fun σ H Q hh=>LN.mono (LN.bind (f:=fun _ σ M=>ga σ M) (k:=fun _ ts σ M1=>F ts M1) (RB:=Reps X.K) hh) fun vs H1 ⟨S,στ,a,e,m,ev,ra,ξ⟩=>⟨S,a.2,e,m,ra.2,ξ⟩⟩
theorem zbg{id:String}(hc:CallR X (.type id) (lRN Z X.K F))(hg:Gl X x)(hm:X.mg x=none)(hv:bootBuiltins x=some (.type id))(ha:WA X Z (e::es) ga)(hn:x ≠ "__name__":=by decide)(hdb:(x==("__debug__":Str))=false:=by decide)(he:noStar e=true:=by rfl)(hpl:es.all noStar=true:=by rfl):WE X Z (.Call (.Name x p) (e::es) [] pos) (ze F ga):=by have ha:=ha.pe;exact⟨PE.imp (zhX hc hg hm hv ha hn hdb (qU he) (zbP hpl)) fun σ H Q hh=>LN.mono (LN.bind (f:=fun _ σ M=>ga σ M) (k:=fun _ ts σ M1=>F ts M1) (RB:=Reps X.K) hh) fun vs H1 ⟨S,στ,a,e,m,ev,ra,ξ⟩=>⟨S,a.2,e,m,ra.2,ξ⟩⟩
end
section
variable {a b c:Expr}
def qW(he:WE X Z e f):WI X Z tg e (zaE f):=⟨zrc he.pe⟩
theorem zT(hg:Gl X "range")(hm:X.mg "range" = none)(ha:WA X Z [a] ga)(hs:starEach [a] X.env=[(false,eval a X.env)]:=by rfl):WI X Z tg (.Call (.Name "range" p) [a] [] pos) (y9 ga):=by
 have ha:=ha.pe;exact⟨PI.imp (zlO hg hm ha hs) fun σ H R hh=>
  LN.mono (LN.bind (f:=fun _ σ M=>ga σ M) (k:=fun _ ts σ M1=>zge ts M1) (RB:=Reps X.K) hh) fun vs H1 h9=>by
   obtain⟨S,στ,a,e,m,ev,ra,ξ⟩:=h9;obtain⟨u,ts⟩:=a;have rr:Reps X.K S ts vs:=ra.2;replace ξ:Fin Z (zdY X.K) X.K S (zge ts S.M) R:=ξ;unfold zge at ξ;rw?
   ·rename_i j;obtain⟨v,vs',rfl,r1,r2⟩:=rr.consT;cases r1;rw[r2.nilT];rw?
    ·rename_i hj;exact⟨j,rfl,hj.1,hj.2,by rw[←e];exact ξ S _ rfl (.refl m) (znm _ _ _ _)⟩
    ·simp?
   ·exact ξ.elim⟩
end
variable {cond:X6}{elt:Expr}{cl:List (Str × Addr)}{ζ:List (Str × Nat)}{ifs:List Expr}{tgs:List Str}{i0:Nat}{spos:Pos}{scope:Scope}{y0:Str}
section
theorem zaz(hi:WI X Z tg iter ga)(cb:CB X scope cl ζ)(hg:∀ex s0 H0,WG (X.block scope cl (tgs++ζ.map (·.1)) ex s0 H0) Z tg bd)(hif:∀ex s0 H0,PTs (X.block scope cl (tgs++ζ.map (·.1)) ex s0 H0) ifs (lT Z X.K cond))(hel:∀ex s0 H0,WE (X.block scope cl (tgs++ζ.map (·.1)) ex s0 H0) Z elt f)(hs:∀x,foldedSetIterable iter X.env x=pure x:=by intro _;rfl):WL X Z (.ListComp elt [⟨tg,iter,ifs,0⟩] scope pos) (yX ga bd cond f tgs ζ):=by have hi:=hi.pe;have hg:=fun ex s0 H0=>(hg ex s0 H0).pe;have hel:=fun ex s0 H0=>(hel ex s0 H0).pe;exact⟨PE.imp (zkf (tgs:=tgs) (g:=lG Z X.K bd) (tc:=lT Z X.K cond) (te:=lE Z X.K f) cb.hc hi cb.hclos cb.hcell cb.hkind cb.hnames cb.hcl cb.hhas cb.hcap hg hif hel hs) fun σ H Q hh=>zjr hh⟩
theorem ziK{py:Pos}(hi:WI X Z tg iter ga)(cb:CB X scope cl ζ)(hg:∀ex s0 H0,WG (X.block scope cl (tgs++ζ.map (·.1)) ex s0 H0) Z tg bd)(hif:∀ex s0 H0,PTs (X.block scope cl (tgs++ζ.map (·.1)) ex s0 H0) ifs (lT Z X.K cond))(hel:∀ex s0 H0,WE (X.block scope cl (tgs++ζ.map (·.1)) ex s0 H0) Z elt f)(hN0:X.N.Nodup)(hi0:X.N[i0]? = some y0)(hx0:Loc X.env.scope y0)(hsw:swapsWith (.ListComp elt [⟨tg,iter,ifs,0⟩] scope pos) (some (.Name y0 py)) spos.line X.env=pure true:=by rfl)(hf0:X.fn y0=true\/X.env.scope.names.lookup y0=some .local:=by first | exact .inl rfl | exact .inr rfl | assumption)(hs:∀x,foldedSetIterable iter X.env x=pure x:=by intro _;rfl):WS X Z (.Assign [.Name y0 py] (.ListComp elt [⟨tg,iter,ifs,0⟩] scope pos) spos) (ym i0 (eFz (yX ga bd cond f tgs ζ))):=by
 have hi:=hi.pe;have hg:=fun ex s0 H0=>(hg ex s0 H0).pe;have hel:=fun ex s0 H0=>(hel ex s0 H0).pe;exact⟨PS.imp (zgL (tgs:=tgs) (g:=lG Z X.K bd) (tc:=lT Z X.K cond) (te:=lE Z X.K f) cb.hc hi cb.hclos cb.hcell cb.hkind cb.hnames cb.hcl cb.hhas cb.hcap hg hif hel hN0 hi0 hx0 hsw hf0 hs) fun D σ H ⟨S,στ,_,e,m,ev,_,ξ⟩=>zjr ⟨S,στ,e,m,ev,by
  show FinL Z X.K S (yX ga bd cond f tgs ζ στ S.M) _;replace ξ:Fin Z (FlR X.K) X.K S (((yX ga bd cond f tgs ζ στ S.M).bind fun xs M1=>.ok (T.lst xs) M1).bind fun t M1=>.ok (.nx (στ.set i0 (some t))) M1) (qM D):=ξ;cases q:yX ga bd cond f tgs ζ στ S.M with
  |bad=>rw[q]at ξ;exact ξ|exn C fs M'=>rw[q]at ξ;exact ξ|ok xs M1=>rw[q]at ξ;intro S1 p vs e1 s1 hn hp hv r;exact ξ (S1.show S.hid) (.nx (σ.set i0 (some (.ref p)))) e1 s1.show (.nx ((Mo.mo (K:=X.K) m s1.show ev).set (zhF s1 hn m hp hv r) i0))⟩⟩
def yQ :PTs X [] (lT Z X.K qK):=zpa 
def zf3{c:Expr}(h:WT X Z c tf):PTs X [c] (lT Z X.K tf):=zo9 h.pe
end
section
variable {a b:Expr}
theorem zgy{id:String}{F:List T->Mem->Out (List T)}(hc:CallR X (.type id) (znk Z X.K F))(hg:Gl X x)(hm:X.mg x=none)(hv:bootBuiltins x=some (.type id))(ha:WA X Z (e::es) ga)(hn:x ≠ "__name__":=by decide)(hdb:(x==("__debug__":Str))=false:=by decide)(he:noStar e=true:=by rfl)(hpl:es.all noStar=true:=by rfl):WL X Z (.Call (.Name x p) (e::es) [] pos) (ziz F ga):=by have ha:=ha.pe;exact⟨PE.imp (zhX hc hg hm hv ha hn hdb (qU he) (zbP hpl)) fun σ H Q ⟨S,στ,e,m,ev,ξ⟩=>LN.mono (LNL.bind (f:=fun (_:Unit) σ M=>ga σ M) (k:=fun _ ts σ M1=>F ts M1) (RA:=UnR) (RB:=Reps X.K) ⟨S,στ,(),e,m,ev,trivial,ξ⟩) fun vs H1 ⟨S,στ,a,e,m,ev,ra,ξ⟩=>⟨S,a.2,e,m,ra.2,ξ⟩⟩
end
section
theorem zhf{o i:Expr}{st:T->T->T->Mem->Out Unit}(ho:WE X Z o f)(hi:WE X Z i g)(hs:zeP X (zhA Z X.K st))(ha:∀v,assign (.Subscript o i pos) X.env v=(do
 let ov ←holding [v] (eval o X.env)
 let iv ←holding [v,ov] (eval i X.env)
 standAt pos
 holding [v,ov,iv] (setItem ov iv v)
 release [v,ov,iv] []):=by intro _;rfl):WG X Z (.Subscript o i pos) (zjz st f g):=by
 have ho:=ho.pe;have hi:=hi.pe;exact⟨PG.imp (zqf ho hi hs ha) fun v σ H Q hh=>by
  have h1:LN Z (EvR X.K) X.K (Rep X.K) (fun t σ M=>(f σ M).bind fun o M1=>(g σ M1).bind fun i M2=>(st o i t M2).bind fun _ M3=>.ok σ M3) v σ H Q:=hh;refine LN.mono (LN.env (f:=f) (LN.bind (f:=fun _ σ M=>f σ M) (k:=fun t o σ M1=>(g σ M1).bind fun i M2=>(st o i t M2).bind fun _ M3=>.ok σ M3) (RB:=Rep X.K) h1)) fun ov H1 h2=>?_;refine LN.mono (LN.env (f:=g) (LN.bind (f:=fun _ σ M=>g σ M) (k:=fun (to:T × T) i σ M2=>(st to.2 i to.1 M2).bind fun _ M3=>.ok σ M3) (RB:=Rep X.K) h2)) fun iv H2 h3=>?_;obtain⟨S,στ,a,e,m,ev,ra,ξ⟩:=h3;refine⟨S,((a.1.2,a.2),a.1.1),e,m,⟨⟨ra.1.2,ra.2⟩,ra.1.1⟩,?_⟩;show Fin Z UnR X.K S (st a.1.2 a.2 a.1.1 S.M) _;replace ξ:Fin Z (EvR X.K) X.K S ((st a.1.2 a.2 a.1.1 S.M).bind fun _ M3=>.ok στ M3) Q:=ξ;cases o:st a.1.2 a.2 a.1.1 S.M with
  |bad=>rw[o]at ξ;exact ξ|exn C fs M'=>rw[o]at ξ;exact ξ|ok b M1=>rw[o]at ξ;intro S1 c e1 s1 _;exact ξ S1 σ e1 s1 (Mo.mo m s1 ev)⟩
theorem z9{o:Expr}{apos:Pos}(h:PE X (.Call (.Attribute o "append" apos) [e] [] cpos) (tBM X.K "list" zhr (lE Z X.K f) (lA Z X.K ga))):WE X Z (.Call (.Attribute o "append" apos) [e] [] cpos) (zaJ z7 (eUn zL f) ga):=⟨PE.imp h fun σ H Q hh=>by
 obtain⟨S,στ,_,e0,m,ev,_,ξ⟩:=hh;replace ξ:Fin Z (Rep X.K) X.K S (((f στ S.M).bind fun x M1=>zL x M1).bind fun x M1=>(ga στ M1).bind fun ts M2=>z7 x ts M2) Q:=ξ;refine⟨S,στ,(),e0,m,ev,trivial,?_⟩;show Fin Z (Rep X.K) X.K S (f στ S.M) _;cases o1:f στ S.M with
 |bad=>rw[o1]at ξ;exact ξ|exn C fs M'=>rw[o1]at ξ;exact ξ|ok x M1=>
  rw[o1]at ξ;intro S1 v e1 s1 r1;replace ξ:Fin Z (Rep X.K) X.K S ((zL x M1).bind fun x M1=>(ga στ M1).bind fun ts M2=>z7 x ts M2) Q:=ξ;unfold zL at ξ;cases q:qC x M1 with
  |none=>rw[q]at ξ;exact ξ.elim|some xs=>
   rw[q]at ξ;replace ξ:Fin Z (Rep X.K) X.K S ((ga στ M1).bind fun ts M2=>z7 x ts M2) Q:=ξ;obtain⟨p,vs,rfl,hq,_⟩:=qJ s1.mok r1 (by rw[e1];exact q);refine⟨.inl ⟨rfl,vs,hq⟩,S1,στ,(),rfl,s1.mok,Mo.mo m s1 ev,trivial,?_⟩;show Fin Z (Reps X.K) X.K S1 (ga στ S1.M) _;rw[e1];cases o2:ga στ M1 with
   |bad=>rw[o2]at ξ;exact ξ|exn C fs M'=>rw[o2]at ξ;exact Fin.later s1 ξ|ok ts M2=>
    rw[o2]at ξ;intro S2 ws e2 s2 r2;replace ξ:Fin Z (Rep X.K) X.K S (z7 x ts M2) Q:=ξ;have fin2:=Fin.later (s1.trans s2) ξ;unfold z7 at fin2;split at fin2
    ·split at fin2
     ·rename_i a t _ ys qy;split at fin2
      ·rename_i hz;obtain⟨w,ws',rfl,r3,r4⟩:=r2.consT;rw[r4.nilT];have r1':=r1.grow s1.mok s2.toGrow;cases r1' with
       |ref ha2=>
       obtain⟨us,q3,rs⟩:=s2.mok.cell a _ (by rw[e2];exact qy);refine⟨S2.α a,us,w,rfl,rfl,q3,by rw[←rs.1];exact hz,?_⟩;exact fin2 (S2.put a (.lst (us++[w])) (.lst (ys++[t]))) .non (by show S2.M.set a _=_;rw[e2]) (zfu s2.mok (by rw[e2];exact qy) (rs.app (.cons r3 .nil))) .non
      ·exact fin2.elim
     ·exact fin2.elim
    ·exact fin2.elim⟩
end
section
theorem zc8 :WO X Z none zey:=⟨PO.imp zoy fun σ H Q h9=>by obtain⟨S,στ,_,e,m,ev,_,ξ⟩:=h9;show Q none H;rw[←e];exact ξ S none rfl (.refl m) rfl⟩
theorem zbN(h:WE X Z e f):WO X Z (some e) (zcU f):=by
 have h:=h.pe;exact⟨PO.imp (zox h) fun σ H Q hh=>
  LN.mono (LN.bind (f:=fun _ σ M=>f σ M) (k:=fun _ x σ M1=>zno x M1) (RB:=Rep X.K) hh) fun v H1 h9=>by
   obtain⟨S,στ,a,e,m,ev,ra,ξ⟩:=h9;obtain⟨u,t⟩:=a;have r:Rep X.K S t v:=ra.2;replace ξ:Fin Z EqR X.K S (zno t S.M) Q:=ξ;cases r with
   |int i=>exact⟨i,rfl,by rw[←e];exact ξ S (some i) rfl (.refl m) rfl⟩
   | _=>exact ξ.elim⟩
theorem zd1{lo hi:Option Expr}{p q:Ev->Mem->Out (Option Int)}{p2:Pos}(he:WE X Z e f)(hl:WO X Z lo p)(hu:WO X Z hi q):WE X Z (.Subscript e (.Slice lo hi none p2) pos) (eSl f p q):=by have he:=he.pe;have hl:=hl.pe;have hu:=hu.pe;exact⟨PE.imp (zm5 zsT he hl hu) fun σ H Q hh=>LN.mono (LN.bind (f:=fun _ σ M=>f σ M) (k:=fun _ x σ M1=>(p σ M1).bind fun lo M2=>(q σ M2).bind fun hi M3=>zhL x lo hi M3) (RB:=Rep X.K) hh) fun v H1 h1=>LN.mono (LN.env (f:=p) (LN.bind (f:=fun _ σ M=>p σ M) (k:=fun (ax:Unit × T) lo σ M2=>(q σ M2).bind fun hi M3=>zhL ax.2 lo hi M3) (RB:=EqR) h1)) fun l H2 h2=>LN.mono (LN.env (f:=q) (LN.bind (f:=fun _ σ M=>q σ M) (k:=fun (ax:(Unit × T) × Option Int) hi σ M3=>zhL ax.1.2 ax.2 hi M3) (RB:=EqR) h2)) fun w H3 h9=>by obtain⟨S,στ,a,e,m,ev,ra,ξ⟩:=h9;have e1:a.1.2=l:=ra.1.2;have e2:a.2=w:=ra.2;exact⟨S,a.1.1.2,e,m,ra.1.1.2,by rw[←e1,←e2];exact ξ⟩⟩
end
variable {bop:Operator}
section
theorem zmI{o i:Expr}{get op:X3}{st:T->T->T->Mem->Out Unit}(ho:WE X Z o f)(hi:WE X Z i g)(hg:zjE X (lR2 Z X.K get))(he:WE X Z e h)(hp:PIp X bop (lR2 Z X.K op))(hs:zeP X (zhA Z X.K st))(ha:∀ov iv new,augStore i ov iv new=(do holding [new,ov,iv] (setItem ov iv new);release [new,ov,iv] [];pure .next):=by intros;rfl):WS X Z (.AugAssign (.Subscript o i tpos) bop e pos) (ziw get op st f g h):=by
 have ho:=ho.pe;have hi:=hi.pe;have he:=he.pe;exact⟨PS.imp (zow ho hi hg he hp hs ha) fun D σ H hh=>by
  refine LN.mono (LN.bind (f:=fun _ σ M=>f σ M) (k:=fun _ o σ M1=>(g σ M1).bind fun i M2=>(get o i M2).bind fun x M3=>(h σ M3).bind fun y M4=>(op x y M4).bind fun z M5=>(st o i z M5).bind fun _ M6=>.ok (Fl.nx σ) M6) (RB:=Rep X.K) hh) fun ov H1 h1=>?_;refine LN.mono (LN.env (f:=g) (LN.bind (f:=fun _ σ M=>g σ M) (k:=fun (a:Unit × T) i σ M2=>(get a.2 i M2).bind fun x M3=>(h σ M3).bind fun y M4=>(op x y M4).bind fun z M5=>(st a.2 i z M5).bind fun _ M6=>.ok (Fl.nx σ) M6) (RB:=Rep X.K) h1)) fun iv H2 h2=>?_;have h3:=LN.bind (f:=fun (a:(Unit × T) × T) _ M=>get a.1.2 a.2 M) (k:=fun a x σ M3=>(h σ M3).bind fun y M4=>(op x y M4).bind fun z M5=>(st a.1.2 a.2 z M5).bind fun _ M6=>.ok (Fl.nx σ) M6) (RB:=Rep X.K) h2;obtain⟨S,a,e,m,ra,ξ⟩:=LN.l0 (k:=fun (a:(Unit × T) × T) M=>get a.1.2 a.2 M) h3;refine⟨S,(a.1.2,a.2),e,m,⟨ra.1.2,ra.2⟩,ξ.mono fun xv H3 h4=>?_⟩;refine LN.mono (LN.env (f:=h) (LN.bind (f:=fun _ σ M=>h σ M) (k:=fun (a:((Unit × T) × T) × T) y σ M4=>(op a.2 y M4).bind fun z M5=>(st a.1.1.2 a.1.2 z M5).bind fun _ M6=>.ok (Fl.nx σ) M6) (RB:=Rep X.K) h4)) fun yv H4 h5=>?_;have h6:=LN.bind (f:=fun (a:(((Unit × T) × T) × T) × T) _ M=>op a.1.2 a.2 M) (k:=fun a z σ M5=>(st a.1.1.1.2 a.1.1.2 z M5).bind fun _ M6=>.ok (Fl.nx σ) M6) (RB:=Rep X.K) h5;obtain⟨S5,a5,e5,m5,ra5,fin5⟩:=LN.l0 (k:=fun (a:(((Unit × T) × T) × T) × T) M=>op a.1.2 a.2 M) h6;refine⟨S5,(a5.1.2,a5.2),e5,m5,⟨ra5.1.2,ra5.2⟩,fin5.mono fun zv H5 h7=>?_⟩;obtain⟨S6,στ,a6,e6,m6,ev6,ra6,fin6⟩:=h7;refine⟨S6,((a6.1.1.1.1.2,a6.1.1.1.2),a6.2),e6,m6,⟨⟨ra6.1.1.1.1.2,ra6.1.1.1.2⟩,ra6.2⟩,?_⟩;show Fin Z UnR X.K S6 (st a6.1.1.1.1.2 a6.1.1.1.2 a6.2 S6.M) _;replace fin6:Fin Z (FlR X.K) X.K S6 ((st a6.1.1.1.1.2 a6.1.1.1.2 a6.2 S6.M).bind fun _ M6=>.ok (Fl.nx στ) M6) (qM D):=fin6;cases q:st a6.1.1.1.1.2 a6.1.1.1.2 a6.2 S6.M with
  |bad=>rw[q]at fin6;exact fin6|exn C fs M'=>rw[q]at fin6;exact fin6|ok b M1=>rw[q]at fin6;intro S7 c e7 s7 _;exact fin6 S7 (.nx σ) e7 s7 (.nx (Mo.mo m6 s7 ev6))⟩
end
section
theorem zn6:WE X Z (.Dict [] [] pos) znF:=⟨PE.imp zm7 fun σ H Q ⟨S,στ,_,e,m,ev,_,ξ⟩ p hp=>by
 subst e;have s1:Stp X.K S (S.more p (.dK []) (.dic [])):=Stp.more m hp _ _ ⟨[],qu,.nil⟩;have r1:Rep X.K (S.more p (.dK []) (.dic [])) (.ref S.M.length) (.ref p):=by
  have h0:S.M.length<(S.M++[Cell.dic []]).length:=by simp
  have:=Rep.ref (K:=X.K) (S:=S.more p (.dK []) (.dic [])) (a:=S.M.length) h0;have e1:(S.more p (.dK []) (.dic [])).α S.M.length=p:=Qz rfl;rw[e1]at this;exact this
 exact ξ (S.more p (.dK []) (.dic [])) (.ref p) rfl s1 r1⟩
theorem zeh{o e:Expr}{es:List Expr}{n:Str}{Ty:String}{f:X8}{ga:X1}{chk:T->Mem->Bool}{F:T->X4}{apos cpos:Pos}(hc:∀{K:Frag} {S:Sit},MemOk K S->∀{t:T} {x:V},Rep K S t x->chk t S.M=true->tyV K Ty x S.H)(h:PE X (.Call (.Attribute o n apos) (e::es) [] cpos) (tBM X.K Ty (lMt Z X.K F) (lE Z X.K f) (lA Z X.K ga))):WE X Z (.Call (.Attribute o n apos) (e::es) [] cpos) (zbC chk F f ga):=⟨PE.imp h fun σ H Q hh=>by
 obtain⟨S,στ,_,e0,m,ev,_,ξ⟩:=hh;replace ξ:Fin Z (Rep X.K) X.K S ((f στ S.M).bind fun x M1=>if chk x M1=true then(ga στ M1).bind fun ts M2=>F x ts M2 else .bad) Q:=ξ;refine⟨S,στ,(),e0,m,ev,trivial,?_⟩;show Fin Z (Rep X.K) X.K S (f στ S.M) _;cases o1:f στ S.M with
 |bad=>rw[o1]at ξ;exact ξ|exn C fs M'=>rw[o1]at ξ;exact ξ|ok x M1=>
  rw[o1]at ξ;intro S1 v e1 s1 r1;replace ξ:Fin Z (Rep X.K) X.K S (if chk x M1=true then(ga στ M1).bind fun ts M2=>F x ts M2 else .bad) Q:=ξ;rw?
  ·rename_i hk;refine⟨hc s1.mok r1 (by rw[e1];exact hk),S1,στ,(),rfl,s1.mok,Mo.mo m s1 ev,trivial,?_⟩;show Fin Z (Reps X.K) X.K S1 (ga στ S1.M) _;rw[e1];cases o2:ga στ M1 with
   |bad=>rw[o2]at ξ;exact ξ|exn C fs M'=>rw[o2]at ξ;exact Fin.later s1 ξ|ok ts M2=>rw[o2]at ξ;intro S2 ws e2 s2 r2;replace ξ:Fin Z (Rep X.K) X.K S (F x ts M2) Q:=ξ;have fin2:=Fin.later (s1.trans s2) ξ;exact⟨S2,(x,ts),rfl,s2.mok,⟨r1.grow s1.mok s2.toGrow,r2⟩,by show Fin Z (Rep X.K) X.K S2 (F x ts S2.M) Q;rw[e2];exact fin2⟩
  ·exact ξ.elim⟩
end
section
theorem zn2{op:X3}(hN:X.N.Nodup)(hi:X.N[i]? = some x)(hx:Loc X.env.scope x)(he:WE X Z e f)(ho:PIp X bop (lR2 Z X.K op))(hf:X.fn x=true\/X.env.scope.names.lookup x=some .local:=by first | exact .inl rfl | exact .inr rfl | assumption):WS X Z (.AugAssign (.Name x pos') bop e pos) (zk1 i op f):=by
 have he:=he.pe;exact⟨PS.imp (zqc hN hi hx he ho hf) fun D σ H hh=>by
  obtain⟨S,στ,_,e,m,ev,_,ξ⟩:=hh;replace ξ:Fin Z (FlR X.K) X.K S ((O i στ S.M).bind fun x M0=>(f στ M0).bind fun y M1=>(op x y M1).bind fun z M2=>.ok (Fl.nx (στ.set i (some z))) M2) (qM D):=ξ;unfold O at ξ;rw?
  case h_2=>exact ξ.elim
  rename_i t et;obtain⟨v,e2,rv⟩:=ev.2 i t et;refine⟨v,e2,?_⟩;have h1:LN Z (FlR X.K) X.K (Rep X.K) (fun t σ M=>(f σ M).bind fun y M1=>(op t y M1).bind fun z M2=>.ok (Fl.nx (σ.set i (some z))) M2) v σ H (qM D):=⟨S,στ,t,e,m,ev,rv,ξ⟩;refine LN.mono (LN.env (f:=f) (LN.bind (f:=fun _ σ M=>f σ M) (k:=fun (a:T) y σ M1=>(op a y M1).bind fun z M2=>.ok (Fl.nx (σ.set i (some z))) M2) (RB:=Rep X.K) h1)) fun yv H1 h2=>?_;have h6:=LN.bind (f:=fun (a:T × T) _ M=>op a.1 a.2 M) (k:=fun a z σ M2=>.ok (Fl.nx (σ.set i (some z))) M2) (RB:=Rep X.K) h2;obtain⟨S5,a5,e5,m5,ra5,fin5⟩:=LN.l0 (k:=fun (a:T × T) M=>op a.1 a.2 M) h6;refine⟨S5,(a5.1,a5.2),e5,m5,⟨ra5.1,ra5.2⟩,fin5.mono fun zv H2 h7=>?_⟩;obtain⟨S6,στ6,a6,e6,m6,ev6,ra6,fin6⟩:=h7;show D.nx (σ.set i (some zv)) H2;rw[←e6];exact fin6 S6 (.nx _) rfl (.refl m6) (.nx (ev6.set ra6.2 i))⟩
end
section
theorem zn3{a b:Expr}{f:X1}(ha:WL X Z a f)(hb:WE X Z b g):WL X Z (.BinOp a .Mult b pos) (zlc f g):=by
 have ha:=ha.pe;have hb:=hb.pe;exact⟨PE.imp (znT zqq ha hb) fun σ H Q h9=>by
  obtain⟨S,στ,e,m,ev,ξ⟩:=h9;replace ξ:FinL Z X.K S ((f στ S.M).bind fun xs M1=>(g στ M1).bind fun y M2=>rpL xs y M2) Q:=ξ;refine⟨S,στ,e,m,ev,?_⟩;show FinL Z X.K S (f στ S.M) _;cases q:f στ S.M with
  |bad=>rw[q]at ξ;exact ξ|exn C fs M'=>rw[q]at ξ;exact ξ|ok xs M1=>
   rw[q]at ξ;intro S1 p vs e1 s1 hn hp hv rs;refine⟨S1,στ,(),rfl,s1.mok,Mo.mo m s1 ev,trivial,?_⟩;show Fin Z (Rep X.K) X.K S1 (g στ S1.M) _;replace ξ:FinL Z X.K S ((g στ M1).bind fun y M2=>rpL xs y M2) Q:=ξ;rw[e1];cases q2:g στ M1 with
   |bad=>rw[q2]at ξ;exact ξ|exn C fs M'=>rw[q2]at ξ;exact fun S2 od e2 s2 x=>ξ S2 od e2 (s1.trans s2) x
   |ok y M2=>
    rw[q2]at ξ;intro S2 w e2 s2 r2;replace ξ:FinL Z X.K S (rpL xs y M2) Q:=ξ;unfold rpL at ξ;rw?
    ·rename_i k;rw?
     ·rename_i hk;cases r2;obtain⟨hp2,hv2⟩:=s2.hk p hp;rw[hv]at hv2;have rs2:=rs.grow s1.mok s2.toGrow;refine⟨p,k,vs,rfl,rfl,hv2,hk.1.1,hk.1.2,by rw[←rs.1];exact hk.2,fun l hl=>?_⟩;have s3:=Stp.hide s2.mok hl (List.replicate k.toNat vs).flatten;exact(ξ.later (s1.trans s2)) (S2.hide l (List.replicate k.toNat vs).flatten) l _ e2 s3 hl (.head _) qu ((rs2.rep _).grow s2.mok s3.toGrow)
     ·simp?
    ·exact ξ.elim⟩
end
section
variable {f:Str}
theorem qh(hC:∀C ∈ Cs,Cls X.K C/\NoAttr X.K C f)(he:WE X Z e g)(hb:attributeBase e f X.env (eval e X.env)=eval e X.env:=by rfl):WE X Z (.Attribute e f pos) (zj Cs f g):=by
 have he:=he.pe;exact⟨PE.imp (zqm he hb) fun σ H Q hh=>
  LN.mono (LN.bind (f:=fun _ σ M=>g σ M) (k:=fun _ x σ M1=>zaV Cs f x M1) (RB:=Rep X.K) hh) fun v H1 h9=>by
   obtain⟨S,στ,a,e,m,ev,ra,ξ⟩:=h9;obtain⟨u0,t⟩:=a;subst e;have rt:Rep X.K S t v:=ra.2;replace ξ:Fin Z (Rep X.K) X.K S (zaV Cs f t S.M) Q:=ξ;unfold zaV at ξ;rw?
   ·rename_i a;rw?
    ·rename_i C fs q;rw?
     ·rename_i hc;obtain⟨t,et,ξ⟩:=zfv ξ;cases rt;obtain⟨dx,us,h1,rf⟩:=m.cell _ _ q;obtain⟨w,ew,rw'⟩:=rf.look f et;exact⟨S.α a,C,dx,us,w,rfl,h1,(hC C hc).1,(hC C hc).2,ew,ξ S w rfl (.refl m) rw'⟩
     ·simp?
    ·simp?
   ·exact ξ.elim⟩
theorem zN{o value:Expr}{fv:X8}(hC:∀C ∈ Cs,Cls X.K C/\NoAttr X.K C f)(ho:WE X Z o fo)(hv:WE X Z value fv)(hs:swapsWith value (some (.Attribute o f pos')) pos.line X.env=pure false:=by rfl):WS X Z (.Assign [.Attribute o f pos'] value pos) (qF Cs f fo fv):=by
 have ho:=ho.pe;have hv:=hv.pe;exact⟨PS.imp (zqb ho hv hs) fun D σ H hh=>by
  refine LN.mono (LN.bind (f:=fun _ σ M=>fv σ M) (k:=fun _ y σ M1=>(fo σ M1).bind fun x M2=>(zaZ Cs f x y M2).bind fun _ M3=>.ok (Fl.nx σ) M3) (RB:=Rep X.K) hh) fun yv H1 h1=>?_;refine LN.mono (LN.env (f:=fo) (LN.bind (f:=fun _ σ M=>fo σ M) (k:=fun (a:Unit × T) x σ M2=>(zaZ Cs f x a.2 M2).bind fun _ M3=>.ok (Fl.nx σ) M3) (RB:=Rep X.K) h1)) fun xv H2 h2=>?_;obtain⟨S,στ,⟨⟨u0,y⟩,x⟩,e,m,ev,⟨⟨hu0,ry⟩,rx⟩,ξ⟩:=h2;subst e;dsimp only at ry rx;replace ξ:Fin Z (FlR X.K) X.K S ((zaZ Cs f x y S.M).bind fun _ M3=>.ok (Fl.nx στ) M3) (qM D):=ξ;unfold zaZ at ξ;rw?
  ·rename_i a;rw?
   ·rename_i C fs q;rw?
    ·rename_i hc;cases rx;obtain⟨dx,us,h3,rf⟩:=m.cell _ _ q;have ha:a<S.M.length:=(Qy.mp q).1;refine⟨S.α a,C,dx,us,rfl,h3,(hC C hc.1).1,(hC C hc.1).2,by rw[←rf.len];exact hc.2,?_⟩;have s1:=Stp.put m ha (.ins C dx (z6 f yv us)) (.ins C (zdh f y fs)) ⟨dx,_,qu,(rf.put f ry).grow m (Grow.put m ha _ _)⟩;exact ξ (S.put a (.ins C dx (z6 f yv us)) (.ins C (zdh f y fs))) (.nx σ) rfl s1 (.nx (Mo.mo m s1 ev))
    ·simp?
   ·simp?
  ·exact ξ.elim⟩
end
variable {C:Addr}
section
variable {k:Nat}
theorem zf4(M:MakT X.prog X.w X.K X.mg X.base k x C ps F)(hr:Room (k+1) X.A)(hg:Gl X x)(ha:WA X Z (e::es) ga)(hdb:(x==("__debug__":Str))=false:=by decide)(he:noStar e=true:=by rfl)(hpl:es.all noStar=true:=by rfl):WE X Z (.Call (.Name x p) (e::es) [] pos) (zcW C F ga):=by
 have ha:=ha.pe;refine⟨?_⟩;obtain⟨fI,fd,Mk1,Fo,b,hm⟩:=M.ex;refine PE.imp (zoB Mk1 Fo hr hg hm b .nil znU ha hdb (qU he) (zbP hpl)) fun σ H Q hh=>?_;refine LN.mono (LN.bind (f:=fun _ σ M=>ga σ M) (k:=fun _ ts σ M1=>(F (T.ref M1.length::ts) (M1++[Cell.ins C []])).bind fun t M2=>znb M1.length t M2) (RB:=Reps X.K) (R:=Rep X.K) hh) fun vs H1 ⟨S,στ,a,e,m,ev,ra,ξ⟩=>?_;obtain⟨u0,ts⟩:=a;subst e;intro y dx hy hdx hne;rw[append_nil];replace ra:Reps X.K S ts vs:=ra.2;replace ξ:Fin Z (Rep X.K) X.K S ((F (.ref S.M.length::ts) (S.M++[.ins C []])).bind fun t M2=>znb S.M.length t M2) Q:=ξ;have s1:=Stp.new m hdx (.own y);have hy1:(upd S.H dx (.own y)) y=none:=by rw[zi (Ne.symm hne)];exact hy
 have s2:Stp X.K ⟨S.α,S.M,upd S.H dx (.own y),S.hid⟩ (Sit.more ⟨S.α,S.M,upd S.H dx (.own y),S.hid⟩ y (.ins C dx []) (.ins C [])):=Stp.more s1.mok hy1 _ _ ⟨dx,[],qu,.nil⟩;have s12:=s1.trans s2;have al:(Sit.more ⟨S.α,S.M,upd S.H dx (.own y),S.hid⟩ y (.ins C dx []) (.ins C [])).α S.M.length=y:=Qz rfl;have h0:S.M.length<(S.M++[Cell.ins C []]).length:=by simp
 have r0:Rep X.K (Sit.more ⟨S.α,S.M,upd S.H dx (.own y),S.hid⟩ y (.ins C dx []) (.ins C [])) (.ref S.M.length) (.ref y):=by have:=Rep.ref (K:=X.K) (S:=Sit.more ⟨S.α,S.M,upd S.H dx (.own y),S.hid⟩ y (.ins C dx []) (.ins C [])) (a:=S.M.length) h0;rw[al]at this;exact this
 refine⟨_,.ref S.M.length::ts,rfl,s2.mok,(ra.grow m s12.toGrow).cons r0,?_⟩;show Fin E0 (Rep X.K) X.K _ (F (.ref S.M.length::ts) (S.M++[.ins C []])) _;cases o:F (.ref S.M.length::ts) (S.M++[.ins C []])with
 |bad=>rw[o]at ξ;exact ξ.elim|exn C' fs M'=>exact absurd o (M.nox _ _ _ _ _)|ok t M2=>
  rw[o]at ξ;intro S3 c e3 s3 r3;cases t with
  |non=>cases r3;exact⟨rfl,ξ S3 (.ref y) e3 (s12.trans s3) (r0.grow s2.mok s3.toGrow)⟩
  |_=>exact ξ.elim
end
variable {tp:Pos}
section
theorem zlv{l:Expr}{elts:List Expr}{x1}(hg:Gl X "enumerate")(hm:X.mg "enumerate" = none)(he:WE X Z l f)(hs:noStar l=true:=by rfl):WI X Z (.Tuple elts x1 tp) (.Call (.Name "enumerate" p) [l] [] pos) (zgR f):=by
 have he:=he.pe;exact⟨PI.imp (zm4 hg hm he (qU hs)) fun σ H R h9=>by
  obtain⟨S,στ,_,e,m,ev,_,ξ⟩:=h9;replace ξ:Fin Z (zdY X.K) X.K S ((f στ S.M).bind fun t M1=>match t with | .lst ts=>.ok (enT ts) M1 | _=>.bad) R:=ξ;refine⟨S,στ,(),e,m,ev,trivial,?_⟩;show Fin Z (Rep X.K) X.K S (f στ S.M) _;cases o:f στ S.M with
  |bad=>rw[o]at ξ;exact ξ.elim|exn C fs M'=>rw[o]at ξ;exact ξ|ok t M1=>
   rw[o]at ξ;cases t with
   |lst ts=>
    intro S1 v e1 s1 r1;cases r1 with
    |@lst _ p vs h l r=>
     have r1:Reps X.K S1 ts vs:=⟨l,r⟩;refine⟨p,rfl,⟨vs,zdk h⟩,ξ S1 _ e1 s1 fun S3 s3=>?_⟩;have g3:SqL X.K S3.H p vs:=by
      rcases h with⟨h2,f2⟩ | h2
      ·exact .inl (s3.toGrow.rd h2 f2).1
      ·exact .inr h2
     refine⟨fun i t et=>?_,fun i hi=>⟨vs,g3,by rw[←l];simpa[enT]using hi⟩⟩;unfold enT at et;rw[List.getElem?_mapIdx]at et;obtain⟨t0,et0,rfl⟩:=Option.map_eq_some_iff.mp et;obtain⟨v2,ev3,r3⟩:=r1.get et0;refine⟨⟨vs,v2,g3,ev3⟩,fun x H' hy=>?_⟩;obtain⟨q,y,hq,rfl,rfl,hy⟩:=hy;have:=hy vs g3;rw[ev3]at this;cases this;have s4:=Stp.new s3.mok hq (.tup [.int (i:Int),v2]);have r4:=(r3.grow s1.mok s3.toGrow).grow s3.mok s4.toGrow;refine⟨⟨S3.α,S3.M,upd S3.H q (.tup [.int (i:Int),v2]),S3.hid⟩,rfl,rfl,s4,?_⟩;have rr:Reps X.K ⟨S3.α,S3.M,upd S3.H q (.tup [.int (i:Int),v2]),S3.hid⟩ [.int (i:Int),t0] [.int (i:Int),v2]:=.cons (.int _) (.cons r4 .nil);exact .tup (.inl (.inl qu)) rr.1 rr.2
   | _=>exact ξ.elim⟩
end
section
variable {a b c:Expr}{pp:Pos}{p:X5}{ga:Ev->Mem->Out (List T × Gd)}
theorem zcA(hi:WIG X Z tg iter ga)(cb:CB X scope cl ζ)(hg:∀ex s0 H0,WG (X.block scope cl (tgs++ζ.map (·.1)) ex s0 H0) Z tg bd)(hif:∀ex s0 H0,PTs (X.block scope cl (tgs++ζ.map (·.1)) ex s0 H0) ifs (lT Z X.K cond))(hel:∀ex s0 H0,WE (X.block scope cl (tgs++ζ.map (·.1)) ex s0 H0) Z elt f)(hs:∀x,foldedSetIterable iter X.env x=pure x:=by intro _;rfl):WL X Z (.ListComp elt [⟨tg,iter,ifs,0⟩] scope pos) (yP ga bd cond f tgs ζ):=by have hi:=hi.pe;have hg:=fun ex s0 H0=>(hg ex s0 H0).pe;have hel:=fun ex s0 H0=>(hel ex s0 H0).pe;exact⟨PE.imp (zkf (tgs:=tgs) (g:=lG Z X.K bd) (tc:=lT Z X.K cond) (te:=lE Z X.K f) cb.hc hi cb.hclos cb.hcell cb.hkind cb.hnames cb.hcl cb.hhas cb.hcap hg hif hel hs) fun σ H Q hh=>zia hh⟩
theorem zij{py:Pos}(hi:WIG X Z tg iter ga)(cb:CB X scope cl ζ)(hg:∀ex s0 H0,WG (X.block scope cl (tgs++ζ.map (·.1)) ex s0 H0) Z tg bd)(hif:∀ex s0 H0,PTs (X.block scope cl (tgs++ζ.map (·.1)) ex s0 H0) ifs (lT Z X.K cond))(hel:∀ex s0 H0,WE (X.block scope cl (tgs++ζ.map (·.1)) ex s0 H0) Z elt f)(hN0:X.N.Nodup)(hi0:X.N[i0]? = some y0)(hx0:Loc X.env.scope y0)(hsw:swapsWith (.ListComp elt [⟨tg,iter,ifs,0⟩] scope pos) (some (.Name y0 py)) spos.line X.env=pure true:=by rfl)(hf0:X.fn y0=true\/X.env.scope.names.lookup y0=some .local:=by first | exact .inl rfl | exact .inr rfl | assumption)(hs:∀x,foldedSetIterable iter X.env x=pure x:=by intro _;rfl):WS X Z (.Assign [.Name y0 py] (.ListComp elt [⟨tg,iter,ifs,0⟩] scope pos) spos) (ym i0 (eFz (yP ga bd cond f tgs ζ))):=by
 have hi:=hi.pe;have hg:=fun ex s0 H0=>(hg ex s0 H0).pe;have hel:=fun ex s0 H0=>(hel ex s0 H0).pe;exact⟨PS.imp (zgL (tgs:=tgs) (g:=lG Z X.K bd) (tc:=lT Z X.K cond) (te:=lE Z X.K f) cb.hc hi cb.hclos cb.hcell cb.hkind cb.hnames cb.hcl cb.hhas cb.hcap hg hif hel hN0 hi0 hx0 hsw hf0 hs) fun D σ H ⟨S,στ,_,e,m,ev,_,ξ⟩=>zia ⟨S,στ,e,m,ev,by
  show FinL Z X.K S (yP ga bd cond f tgs ζ στ S.M) _;replace ξ:Fin Z (FlR X.K) X.K S (((yP ga bd cond f tgs ζ στ S.M).bind fun xs M1=>.ok (T.lst xs) M1).bind fun t M1=>.ok (.nx (στ.set i0 (some t))) M1) (qM D):=ξ;cases q:yP ga bd cond f tgs ζ στ S.M with
  |bad=>rw[q]at ξ;exact ξ|exn C fs M'=>rw[q]at ξ;exact ξ|ok xs M1=>rw[q]at ξ;intro S1 p vs e1 s1 hn hp hv r;exact ξ (S1.show S.hid) (.nx (σ.set i0 (some (.ref p)))) e1 s1.show (.nx ((Mo.mo (K:=X.K) m s1.show ev).set (zhF s1 hn m hp hv r) i0))⟩⟩
end
section
theorem zcj(he:WE X Z e f):WIG X Z tg e (zaX f):=by
 have he:=he.pe;exact⟨PI.imp (zke he) fun σ H R hh=>
  LN.mono (LN.bind (f:=fun _ σ M=>f σ M) (k:=fun _ t σ M1=>match zdl t M1 with | some g=>.ok g M1 | none=>.bad) (RB:=Rep X.K) hh) fun v H1 h9=>by
   obtain⟨S,στ,a,e,m,ev,ra,ξ⟩:=h9;obtain⟨u,t⟩:=a;subst e;have rt:Rep X.K S t v:=ra.2;replace ξ:Fin Z (ItG X.K) X.K S (match zdl t S.M with | some g=>.ok g S.M | none=>.bad) R:=ξ;cases q:zdl t S.M with
   |none=>rw[q]at ξ;exact ξ.elim|some g=>rw[q]at ξ;obtain⟨xs,G⟩:=g;obtain⟨p,vs,rfl,h1,h2⟩:=zoV m rt q;refine⟨p,rfl,⟨vs,h1⟩,ξ S _ rfl (.refl m) fun S3 s3 gd=>?_⟩;obtain⟨vs3,g3,r3⟩:=h2 S3 s3 gd;refine⟨fun i t et=>?_,fun i hi=>⟨vs3,g3,by rw[←r3.1];exact hi⟩⟩;obtain⟨v2,ev3,rv⟩:=r3.get et;refine⟨⟨vs3,v2,g3,ev3⟩,fun x H' hy=>?_⟩;obtain⟨ey,hy⟩:=hy;have:=hy vs3 g3;rw[ev3]at this;cases this;exact⟨S3,ey.symm,rfl,.refl s3.mok,rv⟩⟩
end
variable {cs:List Addr}{nm:Str}
section
variable {k j:Nat}{y v:Str}{pos2 np hp vp:Pos}{b0:Stmt}{suite:List Stmt}{g gs:X5}
theorem zck(c:CalX X.prog X.w X.K X.mg X.base k x ps F)(hr:Room k X.A)(hg:Gl X x)(hx:Passes (CXX X.prog X.w) X Z)(ha:WA X Z (e::es) ga)(hdb:(x==("__debug__":Str))=false:=by decide)(he:noStar e=true:=by rfl)(hpl:es.all noStar=true:=by rfl):WE X Z (.Call (.Name x p) (e::es) [] pos) (ze F ga):=by have ha:=ha.pe;refine⟨?_⟩;obtain⟨fa,fd,Fo,kp,b,gg⟩:=c.ex;exact PE.imp (zkg Fo hr hg gg kp b .nil hx ha hdb (qU he) (zbP hpl)) fun σ H Q hh=>LN.mono (LN.bind (f:=fun _ σ M=>ga σ M) (k:=fun _ ts σ M1=>F ts M1) (RB:=Reps X.K) hh) fun vs H1 h9=>by obtain⟨S,στ,a,e,m,ev,ra,ξ⟩:=h9;rw[append_nil];exact⟨S,a.2,e,m,ra.2,ξ⟩
theorem zgx(O:XcF X.prog X.w X.K X.mg X.base x C)(hr:Room 2 X.A)(hg:Gl X x)(hst:X.stack=X.env::X.outer)(hf:X.env.frame=some X.env.locals)(hex:X.ex=[])(hxe:X.xe=fun ev s'=>wpAny (model X.prog X.w) X.A (leaving X.env ev) (fun _ s''=>CXX X.prog X.w X.outer X.H₀ X.s₀ Z ev s'') (fun e' s''=>CXX X.prog X.w X.outer X.H₀ X.s₀ Z e' s'') s')(ha:WA X Z [e] ga)(hd:(x==("__debug__":Str))=false:=by decide)(he:noStar e=true:=by rfl):WS X Z (.Raise (some (.Call (.Name x np) [e] [] cpos)) none pos) (zd4 (zb7 C) ga):=by
 have ha:=ha.pe;refine⟨?_⟩;obtain⟨f,fd,O1,Fo,hbd⟩:=O.ex;exact PS.imp (zlK O1 Fo hbd hr hg hst hf hex hxe ha hd (qU he)) fun D σ H hh=>
  LN.mono (LN.bind (f:=fun _ σ M=>ga σ M) (k:=fun _ ts σ M1=>zb7 C ts M1) (RB:=Reps X.K) hh) fun vs H1 h9=>by
   obtain⟨S,στ,a,e,m,ev,ra,ξ⟩:=h9;obtain⟨u,ts⟩:=a;have r:Reps X.K S ts vs:=ra.2;replace ξ:Fin Z (FlR X.K) X.K S (zb7 C ts S.M) (qM D):=ξ;unfold zb7 at ξ;rw?
   ·rename_i t;obtain⟨w,vs1,rfl,r1,r2⟩:=r.consT;have:=r2.nilT;subst this;refine⟨w,rfl,fun d hd=>?_⟩;subst e;have s1:=Stp.new m hd (.xd [("at",w)]);exact ξ ⟨S.α,S.M,upd S.H d (.xd [("at",w)]),S.hid⟩ (some d) rfl s1 (.inr ⟨d,_,rfl,qu,rfl,.cons (r1.grow m s1.toGrow) .nil⟩)
   ·simp?
theorem ziJ(c:CalX X.prog X.w X.K X.mg X.base k x ps F)(hr:Room k X.A)(hg:Gl X x)(ha:∀E1 Z,WA (X.wish E1) Z (e::es) ga)(hdb:(x==("__debug__":Str))=false:=by decide)(he:noStar e=true:=by rfl)(hpl:es.all noStar=true:=by rfl)(hsw:swapsWith (.Call (.Name x p) (e::es) [] pos) none pos2.line X.env=pure false:=by rfl):WX X [.Expr (.Call (.Name x p) (e::es) [] pos) pos2] (yE (ze F ga)):=by
 have ha:=fun E1 Z=>(ha E1 Z).pe;refine⟨?_⟩;obtain⟨fa,fd,Fo,kp,b,gg⟩:=c.ex;intro E;have hp:=zom (pos2:=pos2) (p:=p) (pos:=pos) (e:=e) (es:=es) (ta:=lA E X.K ga) Fo hr hg gg kp b (fun E'=>ha E' E) hdb (qU he) (zbP hpl) hsw;intro ρ s σ H D I q;refine hp E ρ s σ H D I ?_;have h1:=LN.bind (f:=fun _ σ M=>ga σ M) (k:=fun _ ts σ M1=>(F ts M1).bind fun _ M2=>.ok (Fl.nx σ) M2) (RB:=Reps X.K) (Z:=E) (K:=X.K) (R:=FlR X.K) (RA:=UnR) (av:=()) (σ:=σ) (H:=H) (Q:=qM D) (by
  obtain⟨S,στ,a,e,m,ev,ra,ξ⟩:=q;refine⟨S,στ,a,e,m,ev,ra,?_⟩;have:(yE (ze F ga) στ S.M)=((ga στ S.M).bind fun ts M1=>(F ts M1).bind fun _ M2=>.ok (Fl.nx στ) M2):=by unfold yE ze;cases ga στ S.M<;>rfl
  show Fin E (FlR X.K) X.K S ((ga στ S.M).bind fun ts M1=>(F ts M1).bind fun _ M2=>.ok (Fl.nx στ) M2) (qM D);rw[←this];exact ξ)
 refine LN.mono h1 fun vs H1 ⟨S,στ,a,e,m,ev,ra,ξ⟩=>?_;refine⟨S,a.2,e,m,ra.2,?_⟩;show Fin E (Rep X.K) X.K S (F a.2 S.M) _;replace ξ:Fin E (FlR X.K) X.K S ((F a.2 S.M).bind fun _ M2=>.ok (Fl.nx στ) M2) (qM D):=ξ;cases o:F a.2 S.M with
 |bad=>rw[o]at ξ;exact ξ|exn C fs M'=>rw[o]at ξ;exact ξ|ok t M1=>rw[o]at ξ;intro S1 w e1 s1 r1;exact ξ S1 (.nx σ) e1 s1 (.nx (Mo.mo m s1 ev))
theorem zmG(hb:WX X sts g)(hS:∀C' ∈ cs,Sup X.K X.mg y C C')(hgy:Gl X y)(hst:X.stack=X.env::X.outer)(hf:X.env.frame=some X.env.locals)(hex:X.ex=[])(hN:X.N.Nodup)(hj:X.N[j]? = some nm)(hk:X.env.scope.names.lookup nm=some .local)(hs:∀ev,WSs (X.suite ev) E0 (b0::suite) gs)(hdy:(y==("__debug__":Str))=false:=by decide):WS X Z (.Try sts [.ExceptHandler (some (.Name y np)) (some nm) (b0::suite) hp] [] [] tp) (zgG j cs g gs):=by
 have hb:=hb.pe;have hs:=fun ev=>(hs ev).pe;exact⟨PS.imp (zou (th:=lS E0 X.K gs) hb hgy hst hf hex hN hj hk hs hdy) fun D σ H h9=>by
  obtain⟨S,στ,a,e,m,ev,ra,ξ⟩:=h9;refine⟨S,στ,a,e,m,ev,ra,?_⟩;show Fin _ (FlR X.K) X.K S (g στ S.M) (qM D);replace ξ:Fin Z (FlR X.K) X.K S (match g στ S.M with | .exn C fs M'=>if cs.contains C=true then(noX (gs (στ.set j (some (.exc C fs))) M')).bind (clr j)else .bad | o=>o) (qM D):=ξ;cases o:g στ S.M with
  |bad=>rw[o]at ξ;exact ξ|ok fl M1=>rw[o]at ξ;exact ξ|exn C' fs M'=>
   rw[o]at ξ;intro S1 od e1 s1 xr;subst e1;replace ξ:Fin Z (FlR X.K) X.K S (if cs.contains C'=true then(noX (gs (στ.set j (some (.exc C' fs))) S1.M)).bind (clr j)else .bad) (qM D):=ξ
   by_cases hc:cs.contains C'=true
   ·rw[Qz hc]at ξ;refine⟨C',rfl,hS C' (contains_iff_mem.mp hc),fun ex hx=>?_⟩;have s2:=Stp.new s1.mok hx (.ext (ExO ex C' od));have rx:Rep X.K ⟨S1.α,S1.M,upd S1.H ex (.ext (ExO ex C' od)),S1.hid⟩ (.exc C' fs) (.ref ex):=by
     rcases xr with⟨rfl,rfl⟩ | ⟨d,us,rfl,hd,l,rr⟩
     ·exact .exc (us:=[]) qu (.inl ⟨rfl,rfl⟩) rfl fun i t v z=>by simp at z
     ·exact .exc (us:=us) qu (.inr ⟨d,rfl,(zi (yC hd hx)).trans hd⟩) l (rr.grow s1.mok s2.toGrow).2
    refine⟨_,στ.set j (some (.exc C' fs)),(),rfl,s2.mok,(Mo.mo s1.mok s2 (Mo.mo m s1 ev)).set rx j,trivial,?_⟩;show Fin E0 (FlR X.K) X.K _ (gs (στ.set j (some (.exc C' fs))) S1.M) _;cases o2:gs (στ.set j (some (.exc C' fs))) S1.M with
    |bad=>rw[o2]at ξ;exact ξ|exn C2 fs2 M2=>rw[o2]at ξ;exact ξ.elim|ok fl M2=>rw[o2]at ξ;intro S3 c e3 s3 r3;have st:=(s1.trans s2).trans s3;cases r3 with|nx r=>exact ξ S3 (.nx _) e3 st (.nx (r.clr j))|rt r=>exact ξ S3 (.rt _) e3 st (.rt r)|bk r=>exact ξ S3 (.bk _) e3 st (.bk (r.clr j))|ct r=>exact ξ S3 (.ct _) e3 st (.ct (r.clr j))
   ·rw[QA hc]at ξ;exact ξ.elim⟩
theorem zn4(hS:∀C' ∈ cs,∃nm fI,XcAt X.K X.mg nm C' fI)(h:WE X Z e f)(hb:attributeBase e "at" X.env (eval e X.env)=eval e X.env:=by rfl):WE X Z (.Attribute e "at" pos) (eUn (xat cs) f):=by
 have h:=h.pe;exact⟨PE.imp (zqg h hb) fun σ H Q hh=>
  LN.mono (LN.bind (f:=fun _ σ M=>f σ M) (k:=fun _ x σ M1=>xat cs x M1) (RB:=Rep X.K) hh) fun v H1 h9=>by
   obtain⟨S,στ,a,e,m,ev,ra,ξ⟩:=h9;obtain⟨u,t⟩:=a;have r:Rep X.K S t v:=ra.2;replace ξ:Fin Z (Rep X.K) X.K S (xat cs t S.M) Q:=ξ;cases r with
   |@exc C fs us p od h hd l rr=>
    unfold xat at ξ;dsimp only at ξ
    by_cases hc:cs.contains C=true
    ·rw[Qz hc]at ξ;rw?
     ·rename_i w q;obtain⟨v,lv,rv⟩:=zhW l rr q;obtain⟨nm,fI,O⟩:=hS C (contains_iff_mem.mp hc);rcases hd with⟨rfl,rfl⟩ | ⟨d,rfl,hd⟩
      ·simp at lv
      ·subst e;exact⟨p,C,d,us,v,nm,fI,rfl,h,hd,O,lv,ξ S v rfl (.refl m) rv⟩
     ·simp?
    ·rw[QA hc]at ξ;exact ξ.elim
   | _=>exact ξ.elim⟩
end
variable {qual:Str}
section
theorem yt{k p:Nat}{g:X5}(D:Df K mg x st ps)(Sc:FnScope N ps (ye st))(hp:ps.length=p)(hn:N.length=n)
 (hb:∀(f:Addr) (cdv:Value) (A:Around) (outer:List PySem.Env) (s:Shared) (H:Hp) (E:XK),Room k (A.deeper (envOfC x (ye st) s.heap.objs.size f cdv))->WSs (zbS CX0 P w K mg base N x (ye st) f cdv A outer s H E).nox E0 (qE st) g) :
  CalT P w K mg base (k+1) x ps (yi p n g):=zmB D Sc hp hn fun f cdv A outer s H E hr=>(hb f cdv A outer s H E hr).pe
theorem zbO{k p:Nat}{g:X5}(D:Df K mg x st ps)(Sc:FnScope N ps (ye st))(hp:ps.length=p)(hn:N.length=n)
 (hb:∀(f:Addr) (cdv:Value) (A:Around) (outer:List PySem.Env) (s:Shared) (H:Hp) (E:XK),Room k (A.deeper (envOfC x (ye st) s.heap.objs.size f cdv))->WSs (zbS (CXX P w) P w K mg base N x (ye st) f cdv A outer s H E) E (qE st) g) :
  CalX P w K mg base (k+1) x ps (zS p n g):=zpz D Sc hp hn fun f cdv A outer s H E hr=>(hb f cdv A outer s H E hr).pe
theorem zn1{f:Addr}{fd:FuncData}{k p:Nat}{g:X5}(F:Fun K x qual st f fd)(Sc:FnScope N ps (ye st))(hp:ps.length=p)(hn:N.length=n)
 (hb:∀(cdv:Value) (A:Around) (outer:List PySem.Env) (s:Shared) (H:Hp) (E:XK),Room k (A.deeper (envOfC qual (ye st) s.heap.objs.size f cdv))->WSs (zbS CX0 P w K mg base N qual (ye st) f cdv A outer s H E).nox E0 (qE st) g) :
  FnOk P w K mg base CX0 (k+1) f fd ps (spT K (yi p n g)):=zqG F Sc hp hn fun cdv A outer s H E hr=>(hb cdv A outer s H E hr).pe
theorem zjZ{k p:Nat}{g:X5}(D:Di K mg x qual C st ps)(Sc:FnScope N ps (ye st))(hp:ps.length=p)(hn:N.length=n)
 (hb:∀(f:Addr) (cdv:Value) (A:Around) (outer:List PySem.Env) (s:Shared) (H:Hp) (E:XK),Room k (A.deeper (envOfC qual (ye st) s.heap.objs.size f cdv))->WSs (zbS CX0 P w K mg base N qual (ye st) f cdv A outer s H E).nox E0 (qE st) g) :
  MakT P w K mg base (k+1) x C ps (yi p n g):=zqB D Sc hp hn fun f cdv A outer s H E hr=>(hb f cdv A outer s H E hr).pe
end
section
variable {f:Str}
theorem zhS(hg:Gl X x)(hm:∃a,X.mg x=some (.ref a)/\KTu X.K a (ss.map .str))(hd:(x==("__debug__":Str))=false:=by decide):WE X Z (.Name x pos) (eC (.tup (ss.map .str))):=by refine⟨?_⟩;obtain⟨a,hm,o,its,n,h⟩:=hm;refine zcn (zd7 (v:=.ref a) hg hm rfl hd) fun S=>.tup (.inr ⟨o,its,n,h⟩) (by simp) fun i t v e1 e2=>?_;rw[Qb]at e1 e2;cases q:ss[i]? with|none=>rw[q]at e1;cases e1|some z=>rw[q]at e1 e2;cases e1;cases e2;exact .str _
theorem zmH{o:Expr}{n:Int}{j}(hC:∀C ∈ Cs,Cls X.K C/\NoAttr X.K C f)(ho:WE X Z o fo):WS X Z (.AugAssign (.Attribute o f tpos) .Add (.Constant (.int n) j cpos) pos) (zgH Cs f fo n):=by
 have ho:=ho.pe;exact⟨PS.imp (zlL ho zlQ zqX) fun D σ H hh=>by
  refine LN.mono (LN.bind (f:=fun _ σ M=>fo σ M) (k:=fun _ x σ M1=>(zaV Cs f x M1).bind fun v M2=>(zdX v (.int n) M2).bind fun z M3=>(zaZ Cs f x z M3).bind fun _ M4=>.ok (Fl.nx σ) M4) (RB:=Rep X.K) hh) fun xv H1 h1=>?_;obtain⟨S,στ,⟨u0,x⟩,e,m,ev,⟨hu0,rx⟩,ξ⟩:=h1;subst e;dsimp only at rx;replace ξ:Fin Z (FlR X.K) X.K S ((zaV Cs f x S.M).bind fun v M2=>(zdX v (.int n) M2).bind fun z M3=>(zaZ Cs f x z M3).bind fun _ M4=>.ok (Fl.nx στ) M4) (qM D):=ξ;cases x with
  |ref a=>
   unfold zaV at ξ;dsimp only at ξ;cases q:S.M[a]? with
   |none=>rw[q]at ξ;exact ξ.elim|some c=>
    rw[q]at ξ;cases c with
    |ins C fs=>
     dsimp only at ξ
     by_cases hc:C ∈ Cs
     ·rw[Qz hc]at ξ;cases l:fs.lookup f with
      |none=>rw[l]at ξ;exact ξ.elim|some v=>
       rw[l]at ξ;replace ξ:Fin Z (FlR X.K) X.K S ((zdX v (.int n) S.M).bind fun z M3=>(zaZ Cs f (.ref a) z M3).bind fun _ M4=>.ok (Fl.nx στ) M4) (qM D):=ξ;cases v with
       |int i=>
        replace ξ:Fin Z (FlR X.K) X.K S ((zaZ Cs f (.ref a) (.int (i+n)) S.M).bind fun _ M4=>.ok (Fl.nx στ) M4) (qM D):=ξ;unfold zaZ at ξ;simp only[q]at ξ;rw?
        ·rename_i hl;cases rx;obtain⟨dx,us,h3,rf⟩:=m.cell _ _ q;have ha:a<S.M.length:=(Qy.mp q).1;obtain⟨w,ew,rw'⟩:=rf.look f l;cases rw';refine⟨S.α a,C,dx,us,_,rfl,h3,(hC C hc).1,(hC C hc).2,ew,?_⟩;refine⟨i,n,rfl,rfl,dx,us,h3,by rw[←rf.len];exact hl.2,?_⟩;have s1:=Stp.put m ha (.ins C dx (z6 f (.int (i+n)) us)) (.ins C (zdh f (.int (i+n)) fs)) ⟨dx,_,qu,(rf.put f (.int _)).grow m (Grow.put m ha _ _)⟩;exact ξ (S.put a (.ins C dx (z6 f (.int (i+n)) us)) (.ins C (zdh f (.int (i+n)) fs))) (.nx σ) rfl s1 (.nx (Mo.mo m s1 ev))
        ·simp?
       |_=>exact ξ.elim
     ·rw[QA hc]at ξ;exact ξ.elim
    |_=>exact ξ.elim
  | _=>exact ξ.elim⟩
end
theorem CalX.refine{k:Nat}{f g:X4}(C:CalX P w K mg base k x ps g)(h:Refines f g)(nox:∀ts M C fs M',f ts M ≠ .exn C fs M'):CalT P w K mg base k x ps f:=by
 refine⟨?_,nox⟩;obtain⟨fa,fd,F,kp,b,gg⟩:=C.ex;have key:∀vs H Q E,spT K f vs H Q E->spT K g vs H Q fun _ _ _=>False:=by
  rintro vs H Q E ⟨S,ts,e,m,r,ξ⟩;refine⟨S,ts,e,m,r,?_⟩;have wf:∀c ∈ S.M,Cell.lt S.M.length c:=fun c hc=>by obtain⟨i,hi,rfl⟩:=getElem_of_mem hc;exact(m.cell i _ (by simp[hi])).lt
  cases o:f ts S.M with
  |bad=>rw[o]at ξ;exact ξ.elim|exn C' fs M'=>exact absurd o (nox _ _ _ _ _)|ok t' M1=>
   rw[o]at ξ;obtain⟨t,M',eg,l1,l2,eM,hc,z⟩:=h ts S.M t' M1 wf o;rw[eg];intro S' v e1 s r1;have hl:∀(i:Nat) c,i<M1.length->S'.M[i]? = some c->Cell.lt M1.length c:=fun i c hi ec=>by
    have e2:M1[i]? = some c:=by rw[eM,getElem?_take,Qz hi,←e1];exact ec
    rcases hc i c e2 with q | q
    ·exact(wf c (Qa q)).mono l1
    ·exact q
   have sc:=s.cut l1 (by rw[e1];exact l2) hl;refine ξ (S'.cut M1.length S.hid) v ?_ sc ?_
   ·show S'.M.take M1.length=M1;rw[e1];exact eM.symm
   ·exact Rep.fz s.mok (by rw[e1];exact l2) (fun p h=>(s.hk p h).1) (by rw[e1];exact z) r1
 refine⟨⟨fa,fd,⟨fun vs H Q E q=>F.len vs H Q _ (key _ _ _ _ q),?_⟩,kp,b,gg⟩⟩;intro A outer s H args us vs Q E hr h0 hb hv hq;refine codeAny_mono (F.run A outer s H args us vs Q _ hr h0 hb hv (key _ _ _ _ hq)) fun r s' z=>?_;cases r with
 |ok v=>cases v<;>exact z|error e=>obtain⟨_,_,_,_,_,_,_,_,_,_,_,_,_,_,_,z⟩:=z;exact z.elim
noncomputable def sgT(z:Str):List T:=z.cps.toList.map fun c=>T.str ⟨#[c]⟩
noncomputable def iTx(f:X8):X1:=fun σ M=>(f σ M).bind fun t M1=>match t with
 |.str z=>.ok (sgT z) M1|_=>.bad
noncomputable def yL:List T->Option (List Str)
 |[]=>some []|.str z::ts=>(yL ts).map (z :: ·)|_::_=>none
theorem zlu{h:Heap}(X:K.In h)(G:h.Ns mainGlobals mg){N W:Addr}{q:Str}{bs:List Value}{hdct:Bool}{sn:List Str}{sub:List Value}{ab:Bool}{col:Option Bool}{dd:Option Addr}{k0 k1 k2 k3 k5:Option Value}
 {c1 c2 c3:Value} {d1 d2 d3:Option Addr} {es es':Array DictEntry} {ep ep':Nat} {s1 s2 s3:Array (Option Value)} {cdw:ClassData}
 (a:PySem.W.nsIn K mainGlobals x=some (some (.ref C)))
 (l:K.lookup C=some (excClassObj nm q C N bs (.ref W::zan) hdct sn sub ab col dd k0 k1 k2 k3 k5 "ValueError.__new__"))
 (ln:K.lookup N=some ⟨c1,d1,.dict es ep,s1⟩) (sk:zaY es=true) (q0:PySem.W.nsIn K N "__init__" = some none)
 (lw:K.lookup W=some ⟨c2,d2,.cls cdw,s2⟩) (lwn:K.lookup cdw.ns=some ⟨c3,d3,.dict es' ep',s3⟩) (sk':zaY es'=true) (q1:PySem.W.nsIn K cdw.ns "__init__" = some none):ExcAt K mg x (qi K x):=by
 rw[y4 a];refine⟨PySem.W.mg_of X G a,fun h' X'=>?_⟩;obtain⟨mN,hN,eN⟩:=zki X' ln sk q0;obtain⟨mW,hW,eW⟩:=zki X' lwn sk' q1;exact⟨_,N,nm,q,bs,hdct,sn,sub,ab,col,dd,k0,k1,k2,k3,k5,mN,X' _ _ l,hN,eN,.own (X' _ _ lw) hW eW .base⟩
end FT
namespace L2
open PySem PySem.Spec PyProof.Rows
structure XiAt (K:Frag) (D:Addr):Prop where
 ga:PySem.W.findIn K (.ref D) "__getattribute__" = some (some (.builtin "BaseException.__getattribute__"))
 gt:PySem.W.findIn K (.ref D) "__getattr__" = some none
 c:(PySem.W.clsIn K D).isSome=true
 a:PySem.W.findIn K (.ref D) "__class__" = some (some (.builtin "object.__class__"))
 n:PySem.W.specialIn K (.builtin "object.__class__") "__get__" = some (some (.builtin "getset_descriptor.__get__"))
 t:PySem.W.takesIn K (.builtin "object.__class__")=some true
 m:PySem.W.mroIn K D (.type "object")=some true
 be:PySem.W.mroIn K D (.type "BaseException")=some true
variable {K:Frag}
theorem zmi{C:Addr}{od:Option Obj}{name:Str}{a g:Value}(hc:(PySem.W.clsIn K C).isSome=true)(ha:PySem.W.findIn K (.ref C) name=some (some a))(hg:PySem.W.specialIn K a "__get__" = some (some g))(ht:PySem.W.takesIn K a=some true):PySem.W.findObj K C od name=some (.bind g a):=by unfold PySem.W.findObj;cases h:PySem.W.clsIn K C with|none=>rw[h]at hc;cases hc|some cd=>simp only[Option.bind_some,ha,hg,ht]
variable {D x:Addr}
section
variable {prog:Program}{w:World}{A:Around}{E:Value->Shared->Prop}{s:Shared}{ox:Obj}{odo:Option Obj}
theorem zmE{u:Value}{Q:Unit->Shared->Prop}(Z:XiAt K D)(X:K.In s.heap)(I:PySem.W.InstAt s.heap x ox D odo)(hq:Q () s) :
  wpAny (model prog w) A (checkBuiltinCall "BaseException.__getattribute__" ⟨[.ref x,u],[]⟩) Q E s:=by
 have hk:builtinKind "BaseException.__getattribute__" = some .slot:=by decide +kernel
 have hs:splitId "BaseException.__getattribute__" = some ("BaseException","__getattribute__"):=by decide +kernel
 have L:PySem.W.Looks (model prog w) s.heap (isInstance (.ref x) (.type "BaseException")) true:=(I.type (M:=model prog w)).andThen (PySem.W.looks_mroIn X Z.be);have ha:=PySem.F.args_bexc_ga (.ref x) u;obtain⟨h,g,d,t,os⟩:=s;simp only[checkBuiltinCall,hk,hs];refine Q1 (L.at ?_)
 repeat (any_goals (first | assumption | wp_step))
theorem zmD{tk:Tok}{Q:PySem.Fin->Shared->Prop}(Z:XiAt K D)(X:K.In s.heap)(I:PySem.W.InstAt s.heap x ox D odo)(hq:Q (.done (.ret (.ref D))) s) :
  wpAny (model prog w) A (Builtin.«object.__getattribute__» ⟨[.ref x,.str "__class__" tk],[]⟩) Q E s:=by
 have L0:=I.type (M:=model prog w);have L1:=PySem.W.looks_find (M:=model prog w) X I (zmi Z.c Z.a Z.n Z.t);have cg:wpAny (model prog w) A (call (.builtin "getset_descriptor.__get__") [.builtin "object.__class__",.ref x,.ref D]) (fun v s'=>Q (.done (.ret v)) s') E s:=wpAny_call (PySem.W.class_get (ox:=ox) (od:=odo) X I Z.m hq);obtain⟨h,g,d,t,os⟩:=s;unfold Builtin.«object.__getattribute__»;refine Q1 (Qf ?_);refine Q1 (Qf ?_);refine Q1 (L0.at (Q1 (L1.at ?_)));show wpAny _ _ (holding [.builtin "object.__class__"] (call (.builtin "getset_descriptor.__get__") [.builtin "object.__class__",.ref x,.ref D]) >>= ret) _ _ _;exact Q1 (wpAny_holding (Qg cg (fun v s' z=>Qf z) fun _ _ z=>z))
theorem zsE{Q:Option Value->Shared->Prop}(Z:XiAt K D)(X:K.In s.heap)(I:PySem.W.InstAt s.heap x ox D odo)(hq:Q (some (.ref D)) { s with toks:=s.toks+1 }):wpAny (model prog w) A (getAttr? (.ref x) "__class__") Q E s:=by
 have f3:=PySem.F.excAttr_ValueError.ga.bind (.ref x);obtain⟨hh,g,d,t,os⟩:=s;have L0:=I.type (M:=model prog w);have L1:=PySem.W.looks_findIn (M:=model prog w) X Z.ga;have L2:=PySem.W.looks_findIn (M:=model prog w) X Z.gt;have hx2:(Value.builtin "BaseException.__getattribute__" == Value.builtin "object.__getattribute__")=false:=by decide +kernel
 have hx1:(onTheHeap (Value.ref D) && Value.builtin "BaseException.__getattribute__" == Value.builtin "object.__getattribute__")=false:=by rw[hx2];rfl
 unfold getAttr? getAttrBy? getAttrBy;refine Q1 (wpAny_mkText (Q1 (wpAny_attempt (wpAny_holding (Q1 (L0.at (Q1 (L1.at ?_))))))));simp only[hx1,Bool.false_eq_true,if_false];unfold getAttrByItsOwn hookBefore;refine Q1 (L2.at ?_);refine Q1 (wpAny_attempt (wpAny_holding ?_));unfold callGetattribute;rw[QA ∅];unfold boundAndCalled;rw[f3];refine Q1 (Qf (wpAny_call (codeAny_call_builtin PySem.F.excAttr_ValueError.ga.plain PySem.F.entry_bexc_ga (zmE (s:=⟨hh,g,d,t+1,os⟩) Z X I (zmD (s:=⟨hh,g,d,t+1,os⟩) Z X I ?_)))));exact Qg (PySem.W.handed_on (v:=.ref D) rfl hq) (fun v s' z=>Qf z) fun _ _ z=>z
end
theorem zja(Z:XiAt K D):PySem.W.KitX K (.ref x) (.ref D) (fun h=>∃ox odo,PySem.W.InstAt h x ox D odo) where
 ty:=fun M h X ⟨ox,odo,I⟩=>I.type
 it:=fun M h X _=>by
  have z0:=Z.c;unfold PySem.W.clsIn at z0;split at z0
  ·rename_i c' d' cd' sl' ho;intro A' Q' E' s' k q;unfold isType loadHead;exact Q1 (wpAny_loadPart (k _ _ (X _ _ ho)) (Qf q))
  ·cases z0
 ne:=fun h tp dd its n sl X ht=>by
  have z0:=Z.c;unfold PySem.W.clsIn at z0;split at z0
  ·rename_i c' d' cd' sl' ho;refine Bool.eq_false_iff.mpr fun q=>?_;have e:=Value.ref.inj (beq_iff_eq.mp q);have:=X _ _ ho;rw[e,ht]at this;cases this
  ·cases z0
 ca:=fun {prog w A E Q s} X ⟨ox,odo,I⟩ hq=>zsE Z X I hq
section
variable {X:Cx}
theorem znJ:CallR X (.builtin "isinstance") (fun xs H Q=>∃p D od v c b,xs=[.ref p,v]/\H p=some (.ext (ExO p D od))/\(od=none\/∃d us,od=some d/\H d=some (.xd us))/\XiAt X.K D/\(∀u,RelV v u->u=c)/\PySem.W.kitOne X.K (.ref D) c=some b/\Q (.bl b) H):=by
 intro ρ s σ H xs us Q I r h;obtain⟨p,D,od,v,c,b,rfl,hp,ho,Z,hv,e,q⟩:=h;obtain⟨u,w',rfl,r1,r2⟩:=vals2 r;obtain rfl:u=Value.ref p:=r1;cases hv _ r2;obtain⟨⟨ob,g1,g2,g3,g4⟩,_,_⟩:=I.hok p _ hp;have nc:PySem.W.notCls ob=true:=by
  unfold PySem.W.notCls;split
  ·rename_i cd z;exact absurd z (g4 cd)
  ·rfl
 have hI:∃ox odo,PySem.W.InstAt s.heap p ox D odo:=by
  rcases ho with rfl | ⟨d,us,rfl,hd⟩
  ·exact⟨ob,none,g1,g2,nc,by rw[g3];trivial⟩
  ·obtain⟨od,e'⟩:=(I.hok d _ hd).there;exact⟨ob,some od,g1,g2,nc,by rw[g3];exact e'⟩
 exact PySem.W.kia_one (zja Z) I.kIn hI e (fun z=>nomatch z) fun tk=>⟨.bl b,H,I.tok tk,rfl,q⟩
end
end L2
namespace FT
open PySem PySem.Spec PyProof.Rows L2
noncomputable def isX(g:Addr->Option Bool)(t:T)(M:Mem):Out T:=match t with
 |.exc C _=>match g C with
  |some b=>.ok (.bl b) M|none=>.bad
 |_=>.bad
variable {C:Addr}{g:Addr->Option Bool}{X:Cx}{f:X8}{e:Expr}{p p2 pos:Pos}{x y:Str}{Z:XK}
section
variable {np cpos:Pos}{ga:X1}
theorem zmf{v:V}{c:Value}(pe:PE X (.Name y p2) (tC v))(hv:∀u,RelV v u->u=c)(hS:∀C b,g C=some b->XiAt X.K C/\PySem.W.kitOne X.K (.ref C) c=some b)(hg:Gl X "isinstance")(hm:X.mg "isinstance" = none)(hb:bootBuiltins "isinstance" = some (.builtin "isinstance"))
 (h:GE X Z e f) (he:starEach [e,.Name y p2] X.env=(false,eval e X.env)::starEach [.Name y p2] X.env:=by rfl):GE X Z (.Call (.Name "isinstance" p) [e,.Name y p2] [] pos) (eUn (isX g) f):=PE.imp (zgf znJ hg hm hb (zbX h (zbX pe zgN) he) ∅ ∅ he) fun σ H Q hh=>
 LN.mono (LN.bind (f:=fun _ σ M=>f σ M) (k:=fun _ x σ M1=>isX g x M1) (RB:=Rep X.K) hh) fun vv H1 h9=>by
  obtain⟨S,στ,a,e,m,ev,ra,ξ⟩:=h9;obtain⟨u,t⟩:=a;have r:Rep X.K S t vv:=ra.2;replace ξ:Fin Z (Rep X.K) X.K S (isX g t S.M) Q:=ξ;cases r with
  |@exc D fs us p od h hd l rr=>
   unfold isX at ξ;dsimp only at ξ;rw?
   ·rename_i b hb;subst e;obtain⟨z1,z2⟩:=hS D b hb;exact⟨p,D,od,v,c,b,rfl,h,hd.imp (fun z=>z.1) (fun ⟨d,a,b⟩=>⟨d,us,a,b⟩),z1,hv,z2,ξ S _ rfl (.refl m) (.bl _)⟩
   ·simp?
  |_=>exact ξ.elim
end
noncomputable def zat(ks:List Addr)(k C:Addr):Option Bool:=if ks.contains C=true then some (C==k)else none
noncomputable def zcI(ks:List Addr)(C:Addr):Option Bool:=if ks.contains C=true then some true else none
structure IsAt (K:Frag) (mg:Str->Option Value) (y:Str) (g:Addr->Option Bool):Prop where
 ex:∃(v:V) (c:Value),RelV v c/\(mg y=some c\/(mg y=none/\bootBuiltins y=some c))/\(∀u,RelV v u->u=c)/\∀C b,g C=some b->XiAt K C/\PySem.W.kitOne K (.ref C) c=some b
section
end
structure XmAt (K:Frag) (D W:Addr):Prop where
 ga:PySem.W.findIn K (.ref D) "__getattribute__" = some (some (.builtin "BaseException.__getattribute__"))
 gt:PySem.W.findIn K (.ref D) "__getattr__" = some none
 a:PySem.W.findIn K (.ref D) "__class__" = some (some (.builtin "object.__class__"))
 n:PySem.W.specialIn K (.builtin "object.__class__") "__get__" = some (some (.builtin "getset_descriptor.__get__"))
 t:PySem.W.takesIn K (.builtin "object.__class__")=some true
 mro:(PySem.W.clsIn K D).map (·.mro)=some (.ref D :: .ref W::zan)
 ty:PySem.W.typeIn K (.ref D)=some (.type "type")
variable {K:Frag}{w:Str}{mg:Str->Option Value}
section
variable {D W Y:Addr}{ks:List Addr}
theorem XmAt.in(x:XmAt K D W)(base:Value):PySem.W.mroIn K D base=some ((Value.ref D :: .ref W::zan).contains base):=by obtain⟨cd,h,e⟩:=Option.map_eq_some_iff.mp x.mro;unfold PySem.W.mroIn;rw[h,Option.bind_some,e];rfl
theorem XmAt.cls(x:XmAt K D W):(PySem.W.clsIn K D).isSome=true:=by obtain⟨cd,h,e⟩:=Option.map_eq_some_iff.mp x.mro;rw[h];rfl
theorem zam(a b:Value)(l:List Value):(b::l).contains a=(a==b || l.contains a):=contains_cons
theorem XmAt.xi(x:XmAt K D W):XiAt K D:=⟨x.ga,x.gt,x.cls,x.a,x.n,x.t,by rw[x.in,zam,zam,show zan.contains (.type "object")=true by decide +kernel,Bool.or_true,Bool.or_true],by rw[x.in,zam,zam,show zan.contains (.type "BaseException")=true by decide +kernel,Bool.or_true,Bool.or_true]⟩
theorem no_ref(Y:Addr):zan.contains (.ref Y)=false:=by refine Bool.eq_false_iff.mpr fun h=>?_;have h:=contains_iff_mem.mp h;unfold zan at h;simp at h
theorem znl(x:XmAt K C W)(z:XmAt K Y W)(ne:Y ≠ W):PySem.W.kitOne K (.ref C) (.ref Y)=some (C==Y):=by
 unfold PySem.W.kitOne
 by_cases h:C=Y
 ·subst h;rw[Qz (by simp)];simp
 ·rw[QA (by simpa using h)];unfold PySem.W.kitCls;dsimp only;rw[Qz (by rw[z.cls,z.ty];rfl)];show PySem.W.mroIn K C (.ref Y)=_;rw[x.in,zam,zam,no_ref,show(Value.ref Y==Value.ref C)=false by simpa using fun q=>h q.symm,show(Value.ref Y==Value.ref W)=false by simpa using ne,show(C==Y)=false by simpa using h];rfl
theorem zqL(x:XmAt K C W)(c:(PySem.W.clsIn K W).isSome=true)(t:PySem.W.typeIn K (.ref W)=some (.type "type")):PySem.W.kitOne K (.ref C) (.ref W)=some true:=by
 unfold PySem.W.kitOne;split
 ·rfl
 ·unfold PySem.W.kitCls;dsimp only;rw[Qz (by rw[c,t];rfl)];show PySem.W.mroIn K C (.ref W)=_;rw[x.in,zam,zam,show(Value.ref W==Value.ref W)=true by simp,Bool.true_or,Bool.or_true]
theorem zqK(x:XmAt K C W):PySem.W.kitOne K (.ref C) (.type "ValueError")=some true:=by unfold PySem.W.kitOne;rw[QA (by simp)];unfold PySem.W.kitCls;dsimp only;rw[Qz (by decide +kernel)];show PySem.W.mroIn K C (.type "ValueError")=_;rw[x.in,zam,zam,show zan.contains (.type "ValueError")=true by decide +kernel,Bool.or_true,Bool.or_true]
theorem zfe(b:mg y=some (.ref Y))(xs:∀C ∈ ks,XmAt K C W)(hY:Y ∈ ks)(ne:Y ≠ W):IsAt K mg y (zat ks Y):=⟨.ref Y,.ref Y,rfl,.inl b,fun u r=>r,fun C v e=>by
 unfold zat at e;split at e
 ·rename_i hc;cases e;have x:=xs C (contains_iff_mem.mp hc);exact⟨x.xi,znl x (xs Y hY) ne⟩
 ·cases e⟩
theorem zo4(b:mg y=some (.ref W))(xs:∀C ∈ ks,XmAt K C W)(c:(PySem.W.clsIn K W).isSome=true)(t:PySem.W.typeIn K (.ref W)=some (.type "type")):IsAt K mg y (zcI ks):=⟨.ref W,.ref W,rfl,.inl b,fun u r=>r,fun C v e=>by
 unfold zcI at e;split at e
 ·rename_i hc;cases e;have x:=xs C (contains_iff_mem.mp hc);exact⟨x.xi,zqL x c t⟩
 ·cases e⟩
theorem zo3(b:mg "ValueError" = none)(xs:∀C ∈ ks,XmAt K C W):IsAt K mg "ValueError" (zcI ks):=⟨.ty "ValueError",.type "ValueError",rfl,.inr ⟨b,by decide +kernel⟩,fun u r=>r,fun C v e=>by
 unfold zcI at e;split at e
 ·rename_i hc;cases e;have x:=xs C (contains_iff_mem.mp hc);exact⟨x.xi,zqK x⟩
 ·cases e⟩
theorem zir{nm q:Str}{N:Addr}{bs:List Value}{hdct:Bool}{sn:List Str}{sub:List Value}{ab:Bool}{col:Option Bool}{dd:Option Addr}{k0 k1 k2 k3 k5:Option Value}(a:PySem.W.nsIn K mainGlobals x=some (some (.ref D)))(b:PySem.W.nsIn K mainGlobals w=some (some (.ref W)))
 (l:K.lookup D=some (excClassObj nm q D N bs (.ref W::zan) hdct sn sub ab col dd k0 k1 k2 k3 k5 "ValueError.__new__"))
 (ga:PySem.W.findIn K (.ref D) "__getattribute__" = some (some (.builtin "BaseException.__getattribute__"))) (gt:PySem.W.findIn K (.ref D) "__getattr__" = some none) (c:PySem.W.findIn K (.ref D) "__class__" = some (some (.builtin "object.__class__")))
 (n:PySem.W.specialIn K (.builtin "object.__class__") "__get__" = some (some (.builtin "getset_descriptor.__get__"))) (t:PySem.W.takesIn K (.builtin "object.__class__")=some true):XmAt K (qi K x) (qi K w):=by
 rw[y4 a,y4 b];refine⟨ga,gt,c,n,t,?_,?_⟩
 ·unfold PySem.W.clsIn;rw[l];rfl
 ·show(K.lookup D).map (·.cls)=_;rw[l];rfl
theorem zrH{h:Heap}(X:K.In h)(G:h.Ns mainGlobals mg){d2:Option Addr}{cdw:ClassData}{s2:Array (Option Value)}(b:PySem.W.nsIn K mainGlobals w=some (some (.ref W)))(l:K.lookup W=some ⟨.type "type",d2,.cls cdw,s2⟩) :
  mg w=some (.ref (qi K w))/\(PySem.W.clsIn K (qi K w)).isSome=true/\PySem.W.typeIn K (.ref (qi K w))=some (.type "type"):=by
 rw[y4 b];refine⟨PySem.W.mg_of X G b,?_,?_⟩
 ·unfold PySem.W.clsIn;rw[l];rfl
 ·show(K.lookup W).map (·.cls)=_;rw[l];rfl
end
def zpH{P:Program}{w:World}{base:Heap}(O:XcF P w K mg base x C):mg x=some (.ref C):=let ⟨_,_,h,_⟩:=O.ex;h.bound
def zjl(O:ExcAt K mg x C):mg x=some (.ref C):=O.bound
section
theorem zj1(O:IsAt X.K X.mg y g)(hy:Gl X y)(hg:Gl X "isinstance")(hm:X.mg "isinstance" = none)(hb:bootBuiltins "isinstance" = some (.builtin "isinstance"))(h:WE X Z e f)(hn:y ≠ "__name__":=by decide)(hd:(y==("__debug__":Str))=false:=by decide)(he:starEach [e,.Name y p2] X.env=(false,eval e X.env)::starEach [.Name y p2] X.env:=by rfl):WE X Z (.Call (.Name "isinstance" p) [e,.Name y p2] [] pos) (eUn (isX g) f):=by
 have h:=h.pe;refine⟨?_⟩;obtain⟨v,c,r,m,u,t⟩:=O.ex;rcases m with m | ⟨m,m2⟩
 ·exact zmf (zd7 hy m r hd) u t hg hm hb h he
 ·exact zmf (zkh hy m m2 r hn hd) u t hg hm hb h he
end
end FT
namespace L2
open PySem PySem.Spec PyProof.Rows
noncomputable def zs2(a:List Str)(x:Str):List Str:=if x ∈ a then a else a++[x]
noncomputable def met(ss:List Str):List Str:=ss.foldl zs2 []
section
variable {X:Cx}
theorem zr0{c:Expr}{b1 b2:List Stmt}{tc:TT}{t1 t2:XK->TS}{pos:Pos}(hc:∀E',PT (X.wish E') c tc)(h1':PX X b1 t1)(h2':PX X b2 t2):PX X [.If c b1 b2 pos] (fun E=>zpO tc (t1 E) (t2 E)):=by
 intro E ρ s σ H D I h;refine wpAny_execs_cons (Qg (Q:=SP X ρ D) (wpAny_If (thn (hc (fun ev s'=>∃H1 s1,Inv X ρ σ H1 s1/\CXX X.prog X.w X.stack H1 s1 E ev s') ρ s σ H _ (I.wish _) h) fun d s1 ⟨H1,I1,q1⟩=>?_)) (fun fl s1 q=>?_) fun _ _ z=>z)
 ·cases d with
  |true=>rw[Qz rfl];exact h1' E ρ s1 σ H1 D I1.unwish q1
  |false=>rw[QA Q4];exact h2' E ρ s1 σ H1 D I1.unwish q1
 ·cases fl with|next=>exact wpAny_execs_nil q|brk=>exact q|cont=>exact q|ret u=>exact q
end
end L2
namespace FT
open PySem PySem.Spec PyProof.Rows L2
noncomputable def ztW:T->T->Mem->Out (List T):=fun x y M=>match qC x M,y with
 |some xs,.int k=>if 0<=k/\k<=8/\xs.length<=1000 then .ok (List.replicate k.toNat xs).flatten M else .bad|_,_=>.bad
variable {X:Cx}{tf:X6}{g1 g2:X5}{b1 b2:List Stmt}{pos:Pos}{Z:XK}
section
noncomputable def zbp(g1 g2:Addr->Option Bool)(C:Addr):Option Bool:=match g1 C,g2 C with
 |some a,some b=>some (a || b)
 |_,_=>none
end
section
theorem zpI{c:Expr}(hc:∀E1 Z,WT (X.wish E1) Z c tf)(h1:WX X b1 g1)(h2:WX X b2 g2):WX X [.If c b1 b2 pos] (sIf tf g1 g2):=by have hc:=fun E1 Z=>(hc E1 Z).pe;have h1:=h1.pe;have h2:=h2.pe;refine⟨?_⟩;intro E;have hp:=zr0 (X:=X) (c:=c) (tc:=lT E X.K tf) (pos:=pos) (fun E'=>hc E' E) h1 h2;intro ρ s σ H D I q;refine hp E ρ s σ H D I ?_;refine LN.mono (LN.bind (f:=fun _ σ M=>tf σ M) (k:=fun _ c σ M1=>if c=true then g1 σ M1 else g2 σ M1) (RB:=EqR) q) fun c H1 h2=>?_;obtain⟨S,στ,a,e,m,ev,ra,ξ⟩:=h2;have:a.2=c:=ra.2;subst this;replace ξ:Fin E (FlR X.K) X.K S (if a.2=true then g1 στ S.M else g2 στ S.M) (qM D):=ξ;cases q:a.2 with|true=>exact(Qz rfl).mpr ⟨S,στ,(),e,m,ev,trivial,by rw[q]at ξ;exact ξ⟩|false=>exact(QA Q4).mpr ⟨S,στ,(),e,m,ev,trivial,by rw[q]at ξ;exact ξ⟩
end
end FT
namespace L2
open PySem PySem.Spec PyProof.Rows
section
variable {X:Cx}
theorem zmA:CallR X (.builtin "isinstance") (fun xs H Q=>∃p D od tp v1 v2 v3 c1 c2 c3 b,xs=[.ref p,.ref tp]/\H p=some (.ext (ExO p D od))/\(od=none\/∃d us,od=some d/\H d=some (.xd us))/\XiAt X.K D/\H tp=some (.tup [v1,v2,v3])/\(∀u,RelV v1 u->u=c1)/\(∀u,RelV v2 u->u=c2)/\(∀u,RelV v3 u->u=c3)/\PySem.W.kitAny X.K (.ref D) [c1,c2,c3]=some b/\Q (.bl b) H):=by
 intro ρ s σ H xs us Q I r h;obtain⟨p,D,od,tp,v1,v2,v3,c1,c2,c3,b,rfl,hp,ho,Z,ht,hv1,hv2,hv3,e,q⟩:=h;obtain⟨u,w',rfl,r1,r2⟩:=vals2 r;obtain rfl:u=Value.ref p:=r1;obtain rfl:w'=Value.ref tp:=r2;obtain⟨⟨ob,g1,g2,g3,g4⟩,_,_⟩:=I.hok p _ hp;have nc:PySem.W.notCls ob=true:=by
  unfold PySem.W.notCls;split
  ·rename_i cd z;exact absurd z (g4 cd)
  ·rfl
 have hI:∃ox odo,PySem.W.InstAt s.heap p ox D odo:=by
  rcases ho with rfl | ⟨d,us,rfl,hd⟩
  ·exact⟨ob,none,g1,g2,nc,by rw[g3];trivial⟩
  ·obtain⟨od,e'⟩:=(I.hok d _ hd).there;exact⟨ob,some od,g1,g2,nc,by rw[g3];exact e'⟩
 obtain⟨_,its,rv,⟨o,h1,h2,n,h3⟩,_⟩:=I.hok tp _ ht;cases rv with|cons e1 rv=>
 obtain⟨u2,u3,rfl,e2,e3⟩:=vals2 rv;cases hv1 _ e1;cases hv2 _ e2;cases hv3 _ e3;obtain⟨oc,odi,oda,osl⟩:=o;have h2:oc=Value.type "tuple":=h2;have h3:oda=Data.seq _ n:=h3;subst h2 h3;exact PySem.W.kia_tup (zja Z) I.kIn hI h1 e (fun z=>nomatch z) fun tk=>⟨.bl b,H,I.tok tk,rfl,q⟩
end
end L2
namespace FT
open PySem PySem.Spec PyProof.Rows L2
variable {g1 g2 g3:Addr->Option Bool}{f:X8}{e:Expr}{x1:Nat}{p p1 p2 p3 p4 pos:Pos}{y1 y2 y3:Str}
section
variable {X:Cx}{Z:XK}
theorem zn5(O1:IsAt X.K X.mg y1 g1)(O2:IsAt X.K X.mg y2 g2)(O3:IsAt X.K X.mg y3 g3)(hy1:Gl X y1)(hy2:Gl X y2)(hy3:Gl X y3)(hg:Gl X "isinstance")(hm:X.mg "isinstance" = none)(hb:bootBuiltins "isinstance" = some (.builtin "isinstance"))
 (h:WE X Z e f) (m1:bootBuiltins y1=none:=by decide +kernel) (m2:bootBuiltins y2=none:=by decide +kernel) (m3:bootBuiltins y3=none:=by decide +kernel) (hd1:(y1==("__debug__":Str))=false:=by decide) (hd2:(y2==("__debug__":Str))=false:=by decide) (hd3:(y3==("__debug__":Str))=false:=by decide) (he:starEach [e,.Tuple [.Name y1 p1,.Name y2 p2,.Name y3 p4] x1 p3] X.env=(false,eval e X.env)::starEach [.Tuple [.Name y1 p1,.Name y2 p2,.Name y3 p4] x1 p3] X.env:=by rfl) :
  WE X Z (.Call (.Name "isinstance" p) [e,.Tuple [.Name y1 p1,.Name y2 p2,.Name y3 p4] x1 p3] [] pos) (eUn (isX (zbp g1 (zbp g2 g3))) f):=by
 have h:=h.pe;refine⟨?_⟩;obtain⟨v1,c1,r1,n1,u1,t1⟩:=O1.ex;obtain⟨v2,c2,r2,n2,u2,t2⟩:=O2.ex;obtain⟨v3,c3,r3,n3,u3,t3⟩:=O3.ex;have n1:X.mg y1=some c1:=n1.resolve_right fun z=>by rw[m1]at z;cases z.2
 have n2:X.mg y2=some c2:=n2.resolve_right fun z=>by rw[m2]at z;cases z.2
 have n3:X.mg y3=some c3:=n3.resolve_right fun z=>by rw[m3]at z;cases z.2
 refine PE.imp (zgf zmA hg hm hb (zbX h (zbX (zlP (zbX (zd7 hy1 n1 r1 hd1) (zbX (zd7 hy2 n2 r2 hd2) (zbX (zd7 hy3 n3 r3 hd3) zgN)))) zgN) he) ∅ ∅ he) fun σ H Q hh=>LN.mono (LN.bind (f:=fun _ σ M=>f σ M) (k:=fun _ x σ M1=>isX (zbp g1 (zbp g2 g3)) x M1) (RB:=Rep X.K) hh) fun vv H1 ⟨S,στ,a,e,m,ev,ra,ξ⟩=>?_
 obtain⟨u,t⟩:=a;have r:Rep X.K S t vv:=ra.2;replace ξ:Fin Z (Rep X.K) X.K S (isX (zbp g1 (zbp g2 g3)) t S.M) Q:=ξ;cases r with
 |@exc D fs us p od h hd l rr=>
  unfold isX at ξ;dsimp only at ξ;rw?
  ·rename_i b hb;subst e;unfold zbp at hb;split at hb
   ·rename_i a1 a4 e1 e4;cases hb;split at e4
    ·rename_i a2 a3 e2 e3;cases e4;obtain⟨z1,k1⟩:=t1 D a1 e1;obtain⟨_,k2⟩:=t2 D a2 e2;obtain⟨_,k3⟩:=t3 D a3 e3;refine⟨by rw[sizeLine_eq];simp,fun q hq=>?_⟩;have s1:=Stp.new m hq (.tup [v1,v2,v3]);have nq:∀{b o},S.H b=some o->upd S.H q (.tup [v1,v2,v3]) b=some o:=fun e=>(zi (yC e hq)).trans e;refine⟨p,D,od,q,v1,v2,v3,c1,c2,c3,a1 || (a2 || a3),rfl,nq h,hd.imp (fun z=>z.1) (fun ⟨d,a,b⟩=>⟨d,us,a,nq b⟩),z1,qu,u1,u2,u3,?_,ξ ⟨S.α,S.M,upd S.H q (.tup [v1,v2,v3]),S.hid⟩ _ rfl s1 (.bl _)⟩;unfold PySem.W.kitAny;rw[k1];cases a1 with
     |true=>rfl|false=>
      simp only[Bool.false_or];unfold PySem.W.kitAny;rw[k2];cases a2 with
      |true=>rfl|false=>simp only[Bool.false_or];unfold PySem.W.kitAny;rw[k3];cases a3<;>rfl
    ·cases e4
   ·cases hb
  ·simp?
 |_=>exact ξ.elim
end
def Ok{β:Type}(o:Out β)(Q:β->Mem->Prop):Prop:=∃b M,o = .ok b M/\Q b M
variable {M:Mem}
def Ok.ret{β:Type}{b:β}{Q:β->Mem->Prop}(h:Q b M):Ok (.ok b M) Q:=⟨b,M,rfl,h⟩
def Ok.of{β:Type}{o:Out β}{b:β}{Q:β->Mem->Prop}(e:o = .ok b M)(h:Q b M):Ok o Q:=⟨b,M,e,h⟩
theorem Ok.bind{β γ:Type}{o:Out β}{k:β->Mem->Out γ}{P:β->Mem->Prop}{Q:γ->Mem->Prop}(h:Ok o P)(g:∀b M,P b M->Ok (k b M) Q):Ok (o.bind k) Q:=by obtain⟨b,M,e,p⟩:=h;rw[e];exact g b M p
theorem Ok.mono{β:Type}{o:Out β}{P Q:β->Mem->Prop}(h:Ok o P)(g:∀b M,P b M->Q b M):Ok o Q:=by obtain⟨b,M,e,p⟩:=h;exact⟨b,M,e,g b M p⟩
theorem znK{β γ δ:Type}{o:Out β}{k:β->Mem->Out γ}{l:γ->Mem->Out δ}:(o.bind k).bind l=o.bind fun b M=>(k b M).bind l:=by cases o<;>rfl
theorem ztj{β γ:Type}{p:Prop}[Decidable p]{x y:Out β}{k:β->Mem->Out γ}:(if p then x else y).bind k=if p then x.bind k else y.bind k:=by split<;>rfl
variable {t:T}
theorem zti{β γ:Type}{k:Bool->Mem->Out β}{l:β->Mem->Out γ}:(blT t M k).bind l=blT t M fun b M=>(k b M).bind l:=by cases t<;>rfl
noncomputable def zcN(fl:Fl)(M:Mem):Out T:=match fl with
 |.rt t=>.ok t M|.nx _=>.ok .non M|_=>.bad
def ztp:zcN (.rt t) M = .ok t M:=rfl
variable {σ:Ev}
def ztq:zcN (.nx σ) M = .ok .non M:=rfl
variable {g:X5}{ts:List T}{n:Nat}{Q:T->Mem->Prop}
theorem qz{p:Nat}(h:ts.length=p)(k:Ok ((g (startT n ts) M).bind zcN) Q):Ok (yi p n g ts M) Q:=by
 obtain⟨b,M1,e,q⟩:=k;refine⟨b,M1,?_,q⟩;rw[zlJ h];cases r:g (startT n ts) M with
 |bad=>rw[r]at e;cases e|exn C fs M'=>rw[r]at e;cases e|ok fl M'=>rw[r]at e;cases fl with|rt t=>exact e|nx σ=>exact e|bk σ=>cases e|ct σ=>cases e
def Fr(S:List Nat)(M M':Mem):Prop:=M.length<=M'.length/\∀i,i<M.length->i ∉ S->M'[i]? = M[i]?
def Fr.refl(S:List Nat)(M:Mem):Fr S M M:=⟨Q3 _,fun _ _ _=>rfl⟩
variable {S:List Nat}{A B C:Mem}
theorem Fr.trans(h:Fr S A B)(g:Fr S B C):Fr S A C:=⟨Qj h.1 g.1,fun i hi hs=>by rw[g.2 i (Q5 hi h.1) hs,h.2 i hi hs]⟩
variable {S':List Nat}
theorem Fr.tr(h:Fr S A B)(g:Fr S' B C)(s:∀i ∈ S',i ∈ S\/A.length<=i):Fr S A C:=⟨Qj h.1 g.1,fun i hi hs=>by rw[g.2 i (Q5 hi h.1) (fun z=>by rcases s i z with a | a;exact hs a;omega),h.2 i hi hs]⟩
variable {M':Mem}{i:Nat}
theorem Fr.get(h:Fr S M M'){c:Cell}(e:M[i]? = some c)(hs:i ∉ S):M'[i]? = some c:=by rw[h.2 i (Qy.mp e).1 hs];exact e
theorem Fr.sub(h:Fr S M M')(s:∀i ∈ S,i ∈ S'\/M.length<=i):Fr S' M M':=⟨h.1,fun i hi hs=>h.2 i hi fun z=>by
 rcases s i z with a | a
 ·exact hs a
 ·omega⟩
theorem Fr.app(M:Mem)(l:List Cell):Fr [] M (M++l):=⟨by simp,fun i hi _=>by rw[Q6 hi]⟩
theorem Fr.set(M:Mem)(a:Nat)(c:Cell):Fr [a] M (M.set a c):=⟨by simp,fun i _ hs=>by rw[Qc,QA (by simp at hs;omega)]⟩
theorem Fr.mono(h:Fr [] M M'):Fr S M M':=h.sub (fun i hi=>by simp at hi)
def zK{c:Cell}(e:M[i]? = some c):i<M.length:=(Qy.mp e).1
def yS{c:Cell}:(M++[c])[M.length]? = some c:=List.getElem?_concat_length
theorem get_set{a:Nat}{c c':Cell}(e:M[a]? = some c):(M.set a c')[a]? = some c':=by rw[Qc,Qz rfl,Qz (zK e)]
theorem Ok.loop{bd:T->X7}{body:X5}{α:Type}{r:α->T}(P:Nat->Ev->Mem->Prop){R:T->Mem->Prop}:∀(xs:List α) (i:Nat) {σ:Ev} {M:Mem},
  P i σ M->(∀(k:Nat) x σ M,xs[k]? = some x->P (i+k) σ M->Ok ((bd (r x) σ M).bind fun σ1 M1=>body σ1 M1) fun fl M'=>(∃σ',(fl = .nx σ'\/fl = .ct σ')/\P (i+k+1) σ' M')\/(∃σ',fl = .bk σ'/\P (i+xs.length) σ' M')\/∃t,fl = .rt t/\R t M')->
  Ok (forL bd body (xs.map r) σ M) fun fl M'=>(∃σ',fl = .nx σ'/\P (i+xs.length) σ' M')\/∃t,fl = .rt t/\R t M'
 |[],i,σ,M,h,_=>⟨.nx σ,M,rfl,.inl ⟨σ,rfl,h⟩⟩|x::xs,i,σ,M,h,t=>by
  obtain⟨fl,M1,e1,h1⟩:=t 0 x σ M rfl h;rw[QF,zdA];cases q:bd (r x) σ M with
  |bad=>rw[q]at e1;cases e1|exn C fs M'=>rw[q]at e1;cases e1|ok σ3 M3=>
   rw[q]at e1;replace e1:body σ3 M3 = .ok fl M1:=e1;show Ok ((body σ3 M3).bind (zab (forL bd body (xs.map r)))) _;rw[e1];have go:∀σ1,P (i+1) σ1 M1->Ok (forL bd body (xs.map r) σ1 M1) fun fl M'=>(∃σ',fl = .nx σ'/\P (i+(x::xs).length) σ' M')\/∃t,fl = .rt t/\R t M':=fun σ1 h1=>by
    have ih:=Ok.loop (R:=R) P xs (i+1) (bd:=bd) (body:=body) h1 (fun k y σ M hk hp=>by have:=t (k+1) y σ M (by simpa using hk) (by rw[show i+(k+1)=i+1+k by omega];exact hp);rw[show i+(k+1)+1=i+1+k+1 by omega,Qp,show i+(xs.length+1)=i+1+xs.length by omega]at this;exact this)
    rw[Qp,show i+(xs.length+1)=i+1+xs.length by omega];exact ih
   rcases h1 with⟨σ1,h1 | h1,h2⟩ | ⟨σ1,h1,h2⟩ | ⟨u,h1,h2⟩
   ·rw[h1];exact go σ1 h2
   ·rw[h1];exact go σ1 h2
   ·rw[h1];exact⟨.nx σ1,M1,rfl,.inl ⟨σ1,rfl,h2⟩⟩
   ·rw[h1];exact⟨.rt u,M1,rfl,.inr ⟨u,rfl,h2⟩⟩
variable {body:X5}{bd:T->X7}
theorem Ok.for{α:Type}{r:α->T}(P:Nat->Ev->Mem->Prop){xs:List α} 
 (h:P 0 σ M) (t:∀(k:Nat) x σ M,xs[k]? = some x->P k σ M->Ok ((bd (r x) σ M).bind fun σ1 M1=>body σ1 M1) fun fl M'=>∃σ',fl = .nx σ'/\P (k+1) σ' M') :
  Ok (forL bd body (xs.map r) σ M) fun fl M'=>∃σ',fl = .nx σ'/\P xs.length σ' M':=by
 refine(Ok.loop (R:=fun _ _=>False) P xs 0 h (fun k x σ M hk hp=>?_)).mono ?_
 ·rw[Nat.zero_add]at hp;refine(t k x σ M hk hp).mono ?_;rintro fl M' ⟨σ',e,q⟩;exact .inl ⟨σ',.inl e,by rw[Nat.zero_add];exact q⟩
 ·rintro fl M' (⟨σ',e,q⟩ | ⟨t,_,f⟩)
  ·exact⟨σ',e,by rw[Nat.zero_add]at q;exact q⟩
  ·exact f.elim
theorem Ok.comp{bd:T->X7}{cond:X6}{el:X8}{α:Type}{r:α->T}(P:Nat->List T->Ev->Mem->Prop):∀(xs:List α) {σ:Ev} {M:Mem} (i:Nat) (acc:List T),
  P i acc σ M->acc.length+xs.length<=sizeLine->(∀(k:Nat) x σ M acc,xs[k]? = some x->P (i+k) acc σ M->Ok ((bd (r x) σ M).bind fun σ1 M1=>(cond σ1 M1).bind fun b M2=>if b=true then(el σ1 M2).bind fun t M3=>.ok (some t,σ1) M3 else .ok (none,σ1) M2) fun o M'=>P (i+k+1) (match o.1 with | some t=>acc++[t] | none=>acc) o.2 M')->
  Ok (yA bd cond el (xs.map r) σ M acc) fun ts M'=>∃σ',P (i+xs.length) ts σ' M'
 |[],σ,M,i,acc,h,_,_=>⟨acc,M,by simp[yA],σ,h⟩|x::xs,σ,M,i,acc,h,hl,t=>by
  obtain⟨o,M1,e1,h1⟩:=t 0 x σ M acc rfl h;rw[Qp]at hl;rw[QF];unfold yA;have go:∀acc σ1 M1,acc.length+xs.length<=sizeLine->P (i+1) acc σ1 M1->Ok (yA bd cond el (xs.map r) σ1 M1 acc) fun ts M'=>∃σ',P (i+(x::xs).length) ts σ' M':=fun acc σ1 M1 hl h1=>by
   have ih:=Ok.comp P xs (i+1) acc (bd:=bd) (cond:=cond) (el:=el) h1 hl (fun k y σ M acc hk hp=>by have:=t (k+1) y σ M acc (by simpa using hk) (by rw[show i+(k+1)=i+1+k by omega];exact hp);rw[show i+(k+1)+1=i+1+k+1 by omega]at this;exact this)
   rw[Qp,show i+(xs.length+1)=i+1+xs.length by omega];exact ih
  cases q:bd (r x) σ M with
  |bad=>rw[q]at e1;cases e1|exn C fs M'=>rw[q]at e1;cases e1|ok σ3 M3=>
   rw[q]at e1;replace e1:((cond σ3 M3).bind fun b M2=>if b=true then(el σ3 M2).bind fun t M3=>.ok (some t,σ3) M3 else .ok (none,σ3) M2) = .ok o M1:=e1;show Ok ((cond σ3 M3).bind _) _;cases q2:cond σ3 M3 with
   |bad=>rw[q2]at e1;cases e1|exn C fs M'=>rw[q2]at e1;cases e1|ok b M4=>
    rw[q2]at e1;cases b with
    |false=>replace e1:(Out.ok (none,σ3) M4:Out (Option T × Ev)) = .ok o M1:=e1;cases e1;exact go acc σ3 _ ⋯ h1
    |true=>
     replace e1:((el σ3 M4).bind fun t M3=>.ok (some t,σ3) M3) = .ok o M1:=e1;show Ok ((el σ3 M4).bind _) _;cases q3:el σ3 M4 with
     |bad=>rw[q3]at e1;cases e1|exn C fs M'=>rw[q3]at e1;cases e1|ok u M5=>rw[q3]at e1;replace e1:(Out.ok (some u,σ3) M5:Out (Option T × Ev)) = .ok o M1:=e1;cases e1;show Ok (if acc.length<sizeLine then _ else _) _;rw[Qz ⋯];exact go (acc++[u]) σ3 _ (by rw[Qn,Qp,length_nil];omega) h1
theorem Ok.whileN{c:X6}{body:X5}(P:Ev->Mem->Prop)(μ:Ev->Mem->Nat){Q:Ev->Mem->Prop}{R:T->Mem->Prop}
  (t:∀σ M,P σ M->Ok (c σ M) fun b M1=>(b=true/\Ok (body σ M1) fun fl M2=>(∃σ',(fl = .nx σ'\/fl = .ct σ')/\P σ' M2/\μ σ' M2<μ σ M)\/(∃σ',fl = .bk σ'/\Q σ' M2)\/∃t,fl = .rt t/\R t M2)\/(b=false/\Q σ M1)) :
  ∀(n:Nat) (σ:Ev) (M:Mem),μ σ M<n->P σ M->Ok (whileN c body n σ M) fun fl M'=>(∃σ',fl = .nx σ'/\Q σ' M')\/∃t,fl = .rt t/\R t M'
 |0,_,_,hn,_=>absurd hn ⋯|n+1,σ,M,hn,h=>by
  obtain⟨b,M1,e,r⟩:=t σ M h;unfold FT.whileN;rw[e];rcases r with⟨rfl,fl,M2,e2,r⟩ | ⟨rfl,q⟩
  ·show Ok ((body σ M1).bind _) _;rw[e2];rcases r with⟨σ1,h1 | h1,h2,h3⟩ | ⟨σ1,h1,h2⟩ | ⟨u,h1,h2⟩
   ·rw[h1];exact Ok.whileN P μ t n σ1 M2 ⋯ h2
   ·rw[h1];exact Ok.whileN P μ t n σ1 M2 ⋯ h2
   ·rw[h1];exact⟨.nx σ1,M2,rfl,.inl ⟨σ1,rfl,h2⟩⟩
   ·rw[h1];exact⟨.rt u,M2,rfl,.inr ⟨u,rfl,h2⟩⟩
  ·exact⟨.nx σ,M1,rfl,.inl ⟨σ,rfl,q⟩⟩
theorem Ok.while{c:X6}(P:Ev->Mem->Prop)(μ:Ev->Mem->Nat){Q:Ev->Mem->Prop}{R:T->Mem->Prop}(h:P σ M)
 (t:∀σ M,P σ M->Ok (c σ M) fun b M1=>(b=true/\Ok (body σ M1) fun fl M2=>(∃σ',(fl = .nx σ'\/fl = .ct σ')/\P σ' M2/\μ σ' M2<μ σ M)\/(∃σ',fl = .bk σ'/\Q σ' M2)\/∃t,fl = .rt t/\R t M2)\/(b=false/\Q σ M1)) :
  Ok (ziY c body σ M) fun fl M'=>(∃σ',fl = .nx σ'/\Q σ' M')\/∃t,fl = .rt t/\R t M':=by
 obtain⟨fl,M',e,r⟩:=Ok.whileN P μ t (μ σ M+1) σ M ⋯ h;exact⟨fl,M',zlH _ e (by simp),r⟩
noncomputable def rgI(n:Nat):List Int:=(List.range n).map fun (k:Nat)=>(k:Int)
theorem zc0(n:Nat):(rgI n).length=n:=by simp[rgI]
variable {x:Int}
theorem zfs{k:Nat}(h:(rgI n)[k]? = some x):k<n/\x=k:=by
 unfold rgI at h;rw[Qb]at h;cases q:(List.range n)[k]? with
 |none=>rw[q]at h;cases h|some j=>
  rw[q]at h;have hk:k<n:=by have:=(Qy.mp q).1;simpa using this
  rw[getElem?_range hk]at q;cases q;exact⟨hk,(Qd h).symm⟩
theorem zmW(n:Nat):ze4 0 n=(rgI n).map .int:=by unfold ze4 rgI;rw[map_map];congr 1;funext k;simp
theorem zaR{j:Int}(h:-(2 ^ 62)<=j/\j<2 ^ 62):zge [.int j] M = .ok ((rgI j.toNat).map .int) M:=by rw[zpW h,zmW]
theorem zqU(h:0<=x/\x<n):ixN n x=some x.toNat:=by
 unfold ixN;rw[Qz ⋯];simp
 try omega
variable {el:X8}
theorem Ok.filt{cond:X6}{α:Type}{r:α->T}(I:Ev->Prop)(c:α->Bool)(f:α->T){xs:List α}(h:I σ)(hl:xs.length<=1000000)
 (t:∀x σ,x ∈ xs->I σ->∃σ1,bd (r x) σ M = .ok σ1 M/\I σ1/\cond σ1 M = .ok (c x) M/\(c x=true->el σ1 M = .ok (f x) M)):yA bd cond el (xs.map r) σ M [] = .ok ((xs.filter c).map f) M:=by
 have key:∀(xs:List α) (σ:Ev) (acc:List T),(∀x σ,x ∈ xs->I σ->∃σ1,bd (r x) σ M = .ok σ1 M/\I σ1/\cond σ1 M = .ok (c x) M/\(c x=true->el σ1 M = .ok (f x) M))->I σ->acc.length+xs.length<=sizeLine->yA bd cond el (xs.map r) σ M acc = .ok (acc++(xs.filter c).map f) M:=by
  intro xs
  induction xs with
  |nil=>intro σ acc _ _ _;simp[yA]|cons x xs ih=>
   intro σ acc t h hl;obtain⟨σ1,e1,h1,e2,e3⟩:=t x σ (.head _) h;rw[Qp]at hl;rw[QF];unfold yA;rw[e1];show((cond σ1 M).bind _)=_;rw[e2];cases hc:c x with
   |true=>have ih:=ih σ1 (acc++[f x]) (fun y σ hy=>t y σ (.tail _ hy)) h1 (by rw[Qn,Qp,length_nil];omega);show((el σ1 M).bind _)=_;rw[e3 hc];show(if acc.length<sizeLine then yA bd cond el (xs.map r) σ1 M (acc++[f x])else .bad)=_;rw[Qz ⋯,ih,List.filter_cons_of_pos hc];simp
   |false=>have ih:=ih σ1 acc (fun y σ hy=>t y σ (.tail _ hy)) h1 ⋯;show yA bd cond el (xs.map r) σ1 M acc=_;rw[ih,List.filter_cons_of_neg (by rw[hc];exact Q4)]
 have:=key xs σ [] t h (by rw[length_nil,Nat.zero_add];exact Qj hl ∅);rw[this,nil_append]
theorem Ok.mapc{α:Type}{r:α->T}(I:Ev->Prop)(f:α->T){xs:List α}(h:I σ)(hl:xs.length<=1000000)
 (t:∀x σ,x ∈ xs->I σ->∃σ1,bd (r x) σ M = .ok σ1 M/\I σ1/\el σ1 M = .ok (f x) M):yA bd qK el (xs.map r) σ M [] = .ok (xs.map f) M:=by
 have:=Ok.filt (cond:=qK) I (fun _=>true) f h hl (fun x σ hx hs=>by obtain⟨σ1,a,b,c⟩:=t x σ hx hs;exact⟨σ1,a,b,rfl,fun _=>c⟩)
 rw[this,List.filter_eq_self.mpr (fun _ _=>rfl)]
theorem zhZ{a:Nat}{xs:List T}(e:M[a]? = some (.lst xs)):qC (.ref a) M=some xs:=by unfold qC;simp only[e]
theorem Ok.loopG{G:Gd}{bd:T->X7}{body:X5}{α:Type}{r:α->T}(P:Nat->Ev->Mem->Prop){R:T->Mem->Prop}(hG:∀i σ M,P i σ M->zdn G M):∀(xs:List α) (i:Nat) {σ:Ev} {M:Mem},
  P i σ M->(∀(k:Nat) x σ M,xs[k]? = some x->P (i+k) σ M->Ok ((bd (r x) σ M).bind fun σ1 M1=>body σ1 M1) fun fl M'=>(∃σ',(fl = .nx σ'\/fl = .ct σ')/\P (i+k+1) σ' M')\/(∃σ',fl = .bk σ'/\P (i+xs.length) σ' M')\/∃t,fl = .rt t/\R t M')->
  Ok (zhJ G bd body (xs.map r) σ M) fun fl M'=>(∃σ',fl = .nx σ'/\P (i+xs.length) σ' M')\/∃t,fl = .rt t/\R t M'
 |[],i,σ,M,h,_=>⟨.nx σ,M,by rw[map_nil];unfold zhJ;exact zdo (hG _ _ _ h),.inl ⟨σ,rfl,h⟩⟩|x::xs,i,σ,M,h,t=>by
  obtain⟨fl,M1,e1,h1⟩:=t 0 x σ M rfl h;rw[QF];unfold zhJ;rw[zdo (hG _ _ _ h)];cases q:bd (r x) σ M with
  |bad=>rw[q]at e1;cases e1|exn C fs M'=>rw[q]at e1;cases e1|ok σ3 M3=>
   rw[q]at e1;replace e1:body σ3 M3 = .ok fl M1:=e1;show Ok ((body σ3 M3).bind (zab (zhJ G bd body (xs.map r)))) _;rw[e1];have go:∀σ1,P (i+1) σ1 M1->Ok (zhJ G bd body (xs.map r) σ1 M1) fun fl M'=>(∃σ',fl = .nx σ'/\P (i+(x::xs).length) σ' M')\/∃t,fl = .rt t/\R t M':=fun σ1 h1=>by
    have ih:=Ok.loopG (R:=R) P hG xs (i+1) (bd:=bd) (body:=body) h1 (fun k y σ M hk hp=>by have:=t (k+1) y σ M (by simpa using hk) (by rw[show i+(k+1)=i+1+k by omega];exact hp);rw[show i+(k+1)+1=i+1+k+1 by omega,Qp,show i+(xs.length+1)=i+1+xs.length by omega]at this;exact this)
    rw[Qp,show i+(xs.length+1)=i+1+xs.length by omega];exact ih
   rcases h1 with⟨σ1,h1 | h1,h2⟩ | ⟨σ1,h1,h2⟩ | ⟨u,h1,h2⟩
   ·rw[h1];exact go σ1 h2
   ·rw[h1];exact go σ1 h2
   ·rw[h1];exact⟨.nx σ1,M1,rfl,.inl ⟨σ1,rfl,h2⟩⟩
   ·rw[h1];exact⟨.rt u,M1,rfl,.inr ⟨u,rfl,h2⟩⟩
def OkX{β:Type}(o:Out β)(Q:β->Mem->Prop)(E:Addr->List (Str × T)->Mem->Prop):Prop:=match o with
 |.ok b M=>Q b M|.exn C fs M=>E C fs M|.bad=>False
variable {E:Addr->List (Str × T)->Mem->Prop}
theorem OkX.ok{β:Type}{o:Out β}{Q:β->Mem->Prop}(h:Ok o Q):OkX o Q E:=by obtain⟨b,M,rfl,q⟩:=h;exact q
theorem OkX.bind{β γ:Type}{o:Out β}{k:β->Mem->Out γ}{P:β->Mem->Prop}{Q:γ->Mem->Prop}(h:OkX o P E)(g:∀b M,P b M->OkX (k b M) Q E):OkX (o.bind k) Q E:=by cases o with|ok b M=>exact g b M h|exn C fs M=>exact h|bad=>exact h.elim
theorem OkX.mono{β:Type}{o:Out β}{P Q:β->Mem->Prop}{D:Addr->List (Str × T)->Mem->Prop}(h:OkX o P D)(g:∀b M,P b M->Q b M)(g':∀C fs M,D C fs M->E C fs M):OkX o Q E:=by cases o with|ok b M=>exact g b M h|exn C fs M=>exact g' C fs M h|bad=>exact h.elim
theorem OkX.toOk{β:Type}{o:Out β}{Q:β->Mem->Prop}(h:OkX o Q fun _ _ _=>False):Ok o Q:=by cases o with|ok b M=>exact⟨b,M,rfl,h⟩|exn C fs M=>exact h.elim|bad=>exact h.elim
theorem qY{p:Nat}(h:ts.length=p)(k:OkX ((g (startT n ts) M).bind zcN) Q E):OkX (zS p n g ts M) Q E:=by
 unfold zS;rw[Qz h];cases r:g (startT n ts) M with
 |bad=>rw[r]at k;exact k.elim|exn C fs M'=>rw[r]at k;exact k|ok fl M'=>rw[r]at k;cases fl with|rt t=>exact k|nx σ=>exact k|bk σ=>exact k.elim|ct σ=>exact k.elim
theorem Ok.tryN{j:Nat}{cs:List Addr}{gs:X5}{Q:Fl->Mem->Prop}(h:OkX (g σ M) Q fun C fs M'=>cs.contains C=true/\Ok ((gs (σ.set j (some (.exc C fs))) M').bind (clr j)) Q):Ok (zgG j cs g gs σ M) Q:=by
 unfold zgG;cases r:g σ M with
 |ok b M1=>rw[r]at h;exact⟨b,M1,rfl,h⟩|bad=>rw[r]at h;exact h.elim|exn C fs M1=>rw[r]at h;obtain⟨hc,h⟩:=h;show Ok (if cs.contains C=true then _ else _) _;rw[Qz hc];cases q:gs (σ.set j (some (.exc C fs))) M1 with|ok b M2=>rw[q]at h;exact h|bad=>rw[q]at h;obtain⟨_,_,h,_⟩:=h;cases h|exn _ _ _=>rw[q]at h;obtain⟨_,_,h,_⟩:=h;cases h
end FT
namespace My
open PySem L2 FT
noncomputable section
def top(i:Nat):Stmt:=PySem.Challenge.pw_tryweir_k61_too_soon_refused.main.body.getD i (.Pass ⟨0,0,0,0⟩)
abbrev zho:Stmt:=inClass (top 5) 0
abbrev zio:Stmt:=inClass (top 4) 0
abbrev zga:Stmt:=top 51
abbrev zf9:Stmt:=top 52
abbrev zhl:Stmt:=top 53
abbrev ze0:Stmt:=top 54
abbrev zgc:Stmt:=top 50
abbrev ze2:Stmt:=top 57
abbrev zgb:Stmt:=top 56
abbrev zeu:Stmt:=inClass (top 16) 0
abbrev ze3:Stmt:=top 17
abbrev zcK:Stmt:=top 26
abbrev zbQ:Stmt:=top 27
abbrev zbr:Stmt:=top 29
abbrev zdO:Stmt:=top 11
abbrev zem:Stmt:=top 18
abbrev zdf:Stmt:=top 19
abbrev zde:Stmt:=top 20
abbrev zer:Stmt:=top 28
abbrev zdR:Stmt:=top 30
abbrev zeq:Stmt:=top 7
abbrev zdQ:Stmt:=top 9
abbrev zes:Stmt:=top 31
abbrev zcL:Stmt:=top 36
abbrev zet:Stmt:=top 12
abbrev zcM:Stmt:=inClass (top 15) 0
abbrev zcv:Stmt:=top 22
abbrev zbi:Stmt:=top 23
abbrev zb6:Stmt:=top 24
abbrev zgF:Stmt:=top 25
abbrev ziX:Stmt:=top 32
abbrev zdM:Stmt:=top 21
abbrev zdK:Stmt:=top 33
abbrev zhn:Stmt:=top 34
abbrev zeo:Stmt:=top 35
abbrev zf8:Stmt:=top 37
abbrev zen:Stmt:=top 40
abbrev zeX:Stmt:=top 38
abbrev zkZ:Stmt:=top 39
abbrev zhm:Stmt:=top 55
abbrev ze1:Stmt:=top 58
abbrev zeZ:Stmt:=top 62
abbrev zdN:Stmt:=top 42
abbrev zdJ:Stmt:=top 43
abbrev zdd:Stmt:=top 45
abbrev zdL:Stmt:=top 46
abbrev zhk:Stmt:=top 47
abbrev zeY:Stmt:=top 48
abbrev zep:Stmt:=top 60
abbrev zdP:Stmt:=top 61
abbrev zk0:Stmt:=top 63
end
structure Txt (K:Frag) (mg:Str->Option Value) (J I:Addr):Prop where
 cls_Errand:Cls K J
 cls_Run:Cls K I
 na_Errand_asked:NoAttr K J "asked"
 na_Errand_caller:NoAttr K J "caller"
 na_Errand_house:NoAttr K J "house"
 na_Errand_is_lost:NoAttr K J "is_lost"
 na_Errand_state:NoAttr K J "state"
 na_Errand_stood:NoAttr K J "stood"
 na_Run_came:NoAttr K I "came"
 na_Run_errands:NoAttr K I "errands"
 na_Run_net:NoAttr K I "net"
 na_Run_payments:NoAttr K I "payments"
 na_Run_puts:NoAttr K I "puts"
 na_Run_taken:NoAttr K I "taken"
 n_max:mg "max" = none
 n_range:mg "range" = none
 n_len:mg "len" = none
 n_tuple:mg "tuple" = none
 n_enumerate:mg "enumerate" = none
 n_int:mg "int" = none
 n_isinstance:mg "isinstance" = none
 n_bool:mg "bool" = none
 n_min:mg "min" = none
 n_list:mg "list" = none
 c_FRESH:∃a,mg "FRESH" = some (.ref a)/\KTu K a [.str "fresh"]
theorem boot_max:bootBuiltins "max" = some (.builtin "max"):=by decide +kernel
theorem boot_range:bootBuiltins "range" = some (.type "range"):=by decide +kernel
theorem boot_len:bootBuiltins "len" = some (.builtin "len"):=by decide +kernel
theorem boot_tuple:bootBuiltins "tuple" = some (.type "tuple"):=by decide +kernel
theorem boot_int:bootBuiltins "int" = some (.type "int"):=by decide +kernel
theorem boot_isinstance:bootBuiltins "isinstance" = some (.builtin "isinstance"):=by decide +kernel
theorem boot_bool:bootBuiltins "bool" = some (.type "bool"):=by decide +kernel
theorem boot_min:bootBuiltins "min" = some (.builtin "min"):=by decide +kernel
theorem boot_list:bootBuiltins "list" = some (.type "list"):=by decide +kernel
end My
theorem FT.nc_l{k:PySem.NameKind}{P:Prop}(e:(k == .cell || k == .free)=false)(h:k = .cell\/k = .free):P:=by
 rcases h with rfl | rfl
 ·exact absurd e ∅
 ·exact absurd e ∅
open PySem L2 FT in
local macro_rules | `(tactic| bv_omega) => `(tactic| exact ⟨rfl, rfl, by decide +kernel, rfl, by decide +kernel, by first | exact (fun _ _ h => h) | exact zi9 (by repeat (first | exact True.intro | refine ⟨rfl, ?_⟩)), fun _ => zqY (by repeat (first | exact True.intro | (refine ⟨?_, ?_⟩; first | exact (fun _ => ⟨_, rfl⟩) | exact nc_l rfl | exact (fun h => h.elim (fun h => nomatch h) (fun h => nomatch h))))), by repeat (first | exact List.forall_mem_nil _ | refine List.forall_mem_cons.mpr ⟨⟨rfl, rfl, by first | exact .inl rfl | exact .inr rfl⟩, ?_⟩)⟩)
namespace My
open PySem L2 FT
noncomputable def zjh(J I:Addr):X5:=
 (zB (eTk (zx (zb (ze (call2 ze9) (zb (eC (.int 0)) (zb (eOp zaA (O 0) (eOp zdU (eC (.int 10)) (eC (.int 18)))) zd))) (zb (eOp zbR (O 0) (eOp zdU (eC (.int 10)) (eC (.int 18)))) (zb (eC (.int 0)) zd))))))
noncomputable def za7(J I:Addr):X2:=yi 1 1 (zjh J I)
variable {J I:Addr}{K:Frag}{base:Heap}{P:Program}{mg:Str->Option Value}{w:World}
section
theorem zlF:FnScope ["cell"] ["cell"] (ye zga):=by ac_rfl
theorem zaK(D:Df K mg "_law_left" zga ["cell"])(T:Txt K mg J I)   :CalT P w K mg base 1 "_law_left" ["cell"] (za7 J I):=
 yt D zlF rfl rfl (fun f cdv A outer s H E hr=>(qd (yn (yY (yq (za (qo (zcC rfl) rfl T.n_max boot_max (za yc (za (yh qO (z (U 0)) (yh zbY yc yc)) zc))) (za (yh zbk (z (U 0)) (yh zbY yc yc)) (za yc zc))))))))
end
noncomputable def zjg(J I:Addr):X5:=
 (yg (sIf (yw (eOp gtI (eOp ixT (O 0) (eC (.int 0))) (eC (.int 0)))) (yg (ym 2 (eOp zbR (eOp ixT (O 0) (eC (.int 0))) (O 1)))
 (yg (zgd (eOp zcQ (eOp ixT (O 0) (eC (.int 0))) (O 1)) (zjz zej (O 0) (eC (.int 0))))
 (zB (O 2)))) qR)
 (yg (zgd (eOp yD (eOp ixT (O 0) (eC (.int 2))) (eC (.int 1))) (zjz zej (O 0) (eC (.int 2))))
 (yg (ym 3 (eOp zbR (eOp yD (eOp ixT (O 0) (eC (.int 1))) (eOp zbs (eC (.int 7919)) (eOp ixT (O 0) (eC (.int 2))))) (eC (.int 1000000007))))
 (yg (ym 4 (eOp zbR (eOp zbs (eOp yD (O 3) (eC (.int 11))) (eOp yD (O 3) (eC (.int 48271)))) (eC (.int 998244353))))
 (zB (eOp zbR (eOp zcQ (eOp zbR (eOp zbs (O 4) (O 4)) (eC (.int 2147483647))) (eC (.int 8))) (O 1)))))))
noncomputable def zr(J I:Addr):X2:=yi 2 5 (zjg J I)
section
theorem zdy:FnScope ["pool","base","digit","mixed","stir"] ["pool","base"] (ye zf9):=by ac_rfl
theorem zn(D:Df K mg "_law_next" zf9 ["pool","base"])(T:Txt K mg J I)   :CalT P w K mg base 1 "_law_next" ["pool","base"] (zr J I):=
 yt D zdy rfl rfl (fun f cdv A outer s H E hr=>(qc (zC (qr zea (yd zh (z (U 0)) yc) yc (zu _)) (qc (qg (i:=2) zdy.nd rfl (Or.inl rfl) (yh zbk (yd zh (z (U 0)) yc) (z (U 1))))
  (qc (zd0 (yh zeb (yd zh (z (U 0)) yc) (z (U 1))) (zhf (z (U 0)) yc zgD))
  (qd (yn (z (U 2)))))) yy)
  (qc (zd0 (yh zw (yd zh (z (U 0)) yc) yc) (zhf (z (U 0)) yc zgD))
  (qc (qg (i:=3) zdy.nd rfl (Or.inl rfl) (yh zbk (yh zw (yd zh (z (U 0)) yc) (yh zc2 yc (yd zh (z (U 0)) yc))) yc))
  (qc (qg (i:=4) zdy.nd rfl (Or.inl rfl) (yh zbk (yh zc2 (yh zw (z (U 3)) yc) (yh zw (z (U 3)) yc)) yc))
  (qd (yn (yh zbk (yh zeb (yh zbk (yh zc2 (z (U 4)) (z (U 4))) yc) yc) (z (U 1))))))))))
end
noncomputable def zjB(J I:Addr):X5:=
 (yE (zaJ z7 (eUn zL (O 4)) (zb (zE (zb (eOp ixT (eFz (zx (zb (eC (.str "p")) (zb (eC (.str "a")) zd)))) (O 5)) (zb (eOp ixT (eFz (zx (zb (eC (.str "first")) (zb (eC (.str "any")) zd)))) (ze (zr J I) (zb (O 0) (zb (eC (.int 2)) zd)))) (zb (eOp yD (eC (.int 1)) (ze (zr J I) (zb (O 0) (zb (eC (.int 3)) zd)))) zd)))) zd)))
noncomputable def zgv(J I:Addr):X5:=
 (yg (ym 8 (ze (zr J I) (zb (O 0) (zb (eOp zaA (O 2) (eC (.int 1))) zd))))
 (yg (ym 9 (eOp ixT (O 3) (eOp yD (eOp yD (O 8) (eC (.int 1))) (ze (zr J I) (zb (O 0) (zb (eOp zaA (eOp zaA (O 2) (eC (.int 1))) (O 8)) zd))))))
 (yg (ym 10 (eOp ixT (eOp yD (eFz (zx (zb (eC .non) zd))) (eFz (yP (zaX (O 4)) (yj 0) qK (eOp ixT (O 0) (eC (.int 0))) ["one"] []))) (ze (zr J I) (zb (O 0) (zb (eOp yD (ze (qB yB) (zb (O 4) zd)) (eC (.int 1))) zd)))))
 (yg (ym 11 (zE (zb (O 9) (zb (eOp ixT (eFz (zx (zb (eC (.int 1)) (zb (eC (.int 2)) (zb (eC (.int 3)) (zb (eC (.int 0)) zd)))))) (ze (zr J I) (zb (O 0) (zb (eC (.int 4)) zd)))) (zb (O 10) (zb (eOp ixT (eFz (zx (zb (eC (.str "bad")) (zb (eC (.str "spent")) zd)))) (ze (zr J I) (zb (O 0) (zb (eC (.int 2)) zd)))) zd))))))
 (sIf (yw (eOp ltI (ze (qB yB) (zb (eOp ixT (O 6) (O 8)) zd)) (eC (.int 3)))) (yE (zaJ z7 (eUn zL (eOp ixT (O 6) (O 8))) (zb (eOp yD (O 11) (zE (zb (eOp eqA (ze (zr J I) (zb (O 0) (zb (eC (.int 2)) zd))) (eC (.int 0))) (zb (eOp eqA (ze (zr J I) (zb (O 0) (zb (eC (.int 2)) zd))) (eC (.int 0))) zd)))) zd))) qR)))))
noncomputable def zkx(J I:Addr):X5:=
 (yg (ym 2 (eOp yD (eC (.int 2)) (ze (zr J I) (zb (O 0) (zb (eC (.int 2)) zd)))))
 (yg (ym 3 (eOp ixT (eFz (zx (zb (eFz (zx (zb (eC (.str "gate")) (zb (eC (.str "desk")) (zb (eC (.str "mill")) zd))))) (zb (eFz (zx (zb (eC (.str "a")) (zb (eC (.str "aa")) (zb (eC (.str "b")) zd))))) zd)))) (ze (zr J I) (zb (O 0) (zb (eC (.int 2)) zd)))))
 (yg (ym 4 (eTk (zx zd)))
 (yg (za3 (y9 (zb (ze (zr J I) (zb (O 0) (zb (eC (.int 3)) zd))) zd)) (yj 5) (zjB J I))
 (yg (ym 6 (eFz (yX (y9 (zb (O 2) zd)) (yj 0) qK (eTk (zx zd)) ["k"] [])))
 (yg (za3 (y9 (zb (eOp yD (eC (.int 1)) (ze (zr J I) (zb (O 0) (zb (O 1) zd)))) zd)) (yj 7) (zgv J I))
 (zB (zE (zb (ze (qB zar) (zb (eFz (yX (y9 (zb (O 2) zd)) (yj 0) qK (zE (zb (eOp ixT (O 1) (O 0)) (zb (ze (qB zar) (zb (eOp ixT (O 2) (O 0)) zd)) zd))) ["k"] [("names",3),("found",6)])) zd)) (zb (ze (qB zar) (zb (O 4) zd)) zd))))))))))
noncomputable def zfD(J I:Addr):X2:=yi 2 12 (zkx J I)
section
theorem z5:FnScope ["pool","most","many","names","purses","k","found","turn","at","to","purse","ask"] ["pool","most"] (ye zhl):=by ac_rfl
theorem zee(D:Df K mg "_law_net" zhl ["pool","most"])(T:Txt K mg J I)   (zn:CalT P w K mg base 1 "_law_next" ["pool","base"] (zr J I)):CalT P w K mg base 2 "_law_net" ["pool","most"] (zfD J I):=
 yt D z5 rfl rfl (fun f cdv A outer s H E hr=>(qc (qg (i:=2) z5.nd rfl (Or.inl rfl) (yh zw yc (X9 zn hr (za (z (U 0)) (za yc zc)))))
  (qc (qg (i:=3) z5.nd rfl (Or.inr rfl) (yd zh (qx (yq (za (qx (yq (za zl (za zl (za zl zc))))) (za (qx (yq (za zl (za zl (za zl zc))))) zc)))) (X9 zn hr (za (z (U 0)) (za yc zc)))))
  (qc (qg (i:=4) z5.nd rfl (Or.inl rfl) (yY (yq zc)))
  (qc (qQ PassesOwn.never rfl (zT rfl T.n_range (za (X9 zn hr (za (z (U 0)) (za yc zc))) zc)) (zm (zo (i:=5) z5.nd rfl (by and_intros))) (qd (qv (z9 (zaq QC QE QD yM (WE.pe (z (U 4))) (WA.pe (za (yr (za (yd zh (qx (yq (za zl (za zl zc)))) (z (U 5))) (za (yd zh (qx (yq (za zl (za zl zc)))) (X9 zn hr (za (z (U 0)) (za yc zc)))) (za (yh zw yc (X9 zn hr (za (z (U 0)) (za yc zc)))) zc)))) zc)))))))
  (qc (qg (i:=6) z5.nd rfl (Or.inr rfl) (qx (zaz (tgs:=["k"]) (ζ:=[]) (zT rfl T.n_range (za (z (U 2)) zc)) (by bv_omega) (fun _ _ _=>(zm (zo (i:=0) (show(["k"]:List Str).Nodup by decide +kernel) rfl (by and_intros)))) (fun _ _ _=>yQ) (fun _ _ _=>(yY (yq zc))))))
  (qc (qQ PassesOwn.never rfl (zT rfl T.n_range (za (yh zw yc (X9 zn hr (za (z (U 0)) (za (z (U 1)) zc)))) zc)) (zm (zo (i:=7) z5.nd rfl (by and_intros))) (qc (qg (i:=8) z5.nd rfl (Or.inl rfl) (X9 zn hr (za (z (U 0)) (za (yh qO (z (U 2)) yc) zc))))
  (qc (qg (i:=9) z5.nd rfl (Or.inl rfl) (yd zh (z (U 3)) (yh zw (yh zw (z (U 8)) yc) (X9 zn hr (za (z (U 0)) (za (yh qO (yh qO (z (U 2)) yc) (z (U 8))) zc))))))
  (qc (qg (i:=10) z5.nd rfl (Or.inl rfl) (yd zh (yh zw (qx (yq (za y8 zc))) (qx (zcA (tgs:=["one"]) (ζ:=[]) (zcj (z (U 4))) (by bv_omega) (fun _ _ _=>(zm (zo (i:=0) (show(["one"]:List Str).Nodup by decide +kernel) rfl (by and_intros)))) (fun _ _ _=>yQ) (fun _ _ _=>(yd zh (z (U 0)) yc))))) (X9 zn hr (za (z (U 0)) (za (yh zw (qo zA rfl T.n_len boot_len (za (z (U 4)) zc)) yc) zc)))))
  (qc (qg (i:=11) z5.nd rfl (Or.inl rfl) (yr (za (z (U 9)) (za (yd zh (qx (yq (za yc (za yc (za yc (za yc zc)))))) (X9 zn hr (za (z (U 0)) (za yc zc)))) (za (z (U 10)) (za (yd zh (qx (yq (za zl (za zl zc)))) (X9 zn hr (za (z (U 0)) (za yc zc)))) zc))))))
  (qd (zC (qr zd9 (qo zA rfl T.n_len boot_len (za (yd zh (z (U 6)) (z (U 8))) zc)) yc (zu _)) (qd (qv (z9 (zaq QC QE QD yM (WE.pe (yd zh (z (U 6)) (z (U 8)))) (WA.pe (za (yh zw (z (U 11)) (yr (za (zbT (yJ hr.units) (X9 zn hr (za (z (U 0)) (za yc zc))) yc (zu _)) (za (zbT (yJ hr.units) (X9 zn hr (za (z (U 0)) (za yc zc))) yc (zu _)) zc)))) zc)))))) yy)))))))
  (qd (yn (yr (za (zbg zaS rfl T.n_tuple boot_tuple (za (qx (zaz (tgs:=["k"]) (ζ:=[("names",3),("found",6)]) (zT rfl T.n_range (za (z (U 2)) zc)) (by bv_omega) (fun _ _ _=>(zm (zo (i:=0) (show(["k","names","found"]:List Str).Nodup by decide +kernel) rfl (by and_intros)))) (fun _ _ _=>yQ) (fun _ _ _=>(yr (za (yd zh (z (U 1)) (z (U 0))) (za (zbg zaS rfl T.n_tuple boot_tuple (za (yd zh (z (U 2)) (z (U 0))) zc)) zc)))))) zc)) (za (zbg zaS rfl T.n_tuple boot_tuple (za (z (U 4)) zc)) zc))))))))))))
end
noncomputable def zcX(J I:Addr):X5:=
 (yg (ym 10 (ze (zr J I) (zb (O 0) (zb (eOp ixT (eFz (zx (zb (eC (.int 1)) (zb (eC (.int 3)) (zb (eC (.int 12)) (zb (eOp yD (eOp zdU (eC (.int 10)) (eC (.int 6))) (eC (.int 1))) zd)))))) (ze (zr J I) (zb (O 0) (zb (eC (.int 4)) zd)))) zd))))
 (yE (zaJ z7 (eUn zL (O 8)) (zb (zE (zb (O 10) (zb (eOp yD (eC (.int 1)) (ze (zr J I) (zb (O 0) (zb (eOp ixT (eFz (zx (zb (eC (.int 1)) (zb (eC (.int 2)) (zb (eC (.int 4)) (zb (eC (.int 1000)) zd)))))) (ze (zr J I) (zb (O 0) (zb (eC (.int 4)) zd)))) zd)))) zd))) zd))))
noncomputable def zhc(J I:Addr):X5:=
 (yg (ym 7 (eOp zaA (eOp ixT (O 6) (eC (.int 1))) (eC (.int 1))))
 (yg (sIf (yw (eOp eqA (eOp ixT (O 6) (eC (.int 1))) (eC (.int 0)))) (ym 7 (eOp yD (eC (.int 1)) (ze (zr J I) (zb (O 0) (zb (eC (.int 6)) zd))))) qR)
 (yg (ym 8 (eTk (zx zd)))
 (yg (za3 (y9 (zb (O 7) zd)) (yj 9) (zcX J I))
 (yE (zaJ z7 (eUn zL (O 5)) (zb (ze (qB zar) (zb (O 8) zd)) zd)))))))
noncomputable def zhb(J I:Addr):X5:=
 (yg (ym 5 (eTk (zx zd)))
 (yg (za3 (zaE (O 4)) (yj 6) (zhc J I))
 (yE (zaJ z7 (eUn zL (O 2)) (zb (ze (qB zar) (zb (O 5) zd)) zd)))))
noncomputable def zh5(J I:Addr):X5:=
 (yg (ym 2 (eTk (zx zd)))
 (yg (za3 (zaE (eOp ixT (O 1) (eC (.int 0)))) (zbd 2 (zF (yj 3) (zF (yj 4) zbe))) (zhb J I))
 (zB (ze (qB zar) (zb (O 2) zd)))))
noncomputable def zdE(J I:Addr):X2:=yi 2 11 (zh5 J I)
section
theorem zP:FnScope ["pool","net","found","name","asks","row","ask","many","pairs","k","wait"] ["pool","net"] (ye ze0):=by ac_rfl
theorem zcF(D:Df K mg "_law_waits" ze0 ["pool","net"])(T:Txt K mg J I)   (zn:CalT P w K mg base 1 "_law_next" ["pool","base"] (zr J I)):CalT P w K mg base 2 "_law_waits" ["pool","net"] (zdE J I):=
 yt D zP rfl rfl (fun f cdv A outer s H E hr=>(qc (qg (i:=2) zP.nd rfl (Or.inl rfl) (yY (yq zc)))
  (qc (qQ PassesOwn.never rfl (qW (yd zh (z (U 1)) yc)) (zaQ (zbx rfl (WGs.pe (yz (qD (WG.pe (zm (zo (i:=3) zP.nd rfl (by and_intros)))) (WGs.pe (yz (qD (WG.pe (zm (zo (i:=4) zP.nd rfl (by and_intros)))) (WGs.pe zah))))))))) (qc (qg (i:=5) zP.nd rfl (Or.inl rfl) (yY (yq zc)))
  (qc (qQ PassesOwn.never rfl (qW (z (U 4))) (zm (zo (i:=6) zP.nd rfl (by and_intros))) (qc (qg (i:=7) zP.nd rfl (Or.inl rfl) (yh qO (yd zh (z (U 6)) yc) yc))
  (qc (zC (qr (yJ hr.units) (yd zh (z (U 6)) yc) yc (zu _)) (qd (qg (i:=7) zP.nd rfl (Or.inl rfl) (yh zw yc (X9 zn hr (za (z (U 0)) (za yc zc)))))) yy)
  (qc (qg (i:=8) zP.nd rfl (Or.inl rfl) (yY (yq zc)))
  (qc (qQ PassesOwn.never rfl (zT rfl T.n_range (za (z (U 7)) zc)) (zm (zo (i:=9) zP.nd rfl (by and_intros))) (qc (qg (i:=10) zP.nd rfl (Or.inl rfl) (X9 zn hr (za (z (U 0)) (za (yd zh (qx (yq (za yc (za yc (za yc (za (yh zw (yh zbY yc yc) yc) zc)))))) (X9 zn hr (za (z (U 0)) (za yc zc)))) zc))))
  (qd (qv (z9 (zaq QC QE QD yM (WE.pe (z (U 8))) (WA.pe (za (yr (za (z (U 10)) (za (yh zw yc (X9 zn hr (za (z (U 0)) (za (yd zh (qx (yq (za yc (za yc (za yc (za yc zc)))))) (X9 zn hr (za (z (U 0)) (za yc zc)))) zc)))) zc))) zc))))))))
  (qd (qv (z9 (zaq QC QE QD yM (WE.pe (z (U 5))) (WA.pe (za (zbg zaS rfl T.n_tuple boot_tuple (za (z (U 8)) zc)) zc)))))))))))
  (qd (qv (z9 (zaq QC QE QD yM (WE.pe (z (U 2))) (WA.pe (za (zbg zaS rfl T.n_tuple boot_tuple (za (z (U 5)) zc)) zc)))))))))
  (qd (yn (zbg zaS rfl T.n_tuple boot_tuple (za (z (U 2)) zc)))))))
end
noncomputable def zjj(J I:Addr):X5:=
 (yg (sIf (yw (eOp ltI (O 1) (ze (qB yB) (zb (O 0) zd)))) (zB (eOp ixT (O 0) (O 1))) qR)
 (zB (eC (.int 0))))
noncomputable def zdq(J I:Addr):X2:=yi 2 2 (zjj J I)
section
theorem zlG:FnScope ["script","k"] ["script","k"] (ye zgc):=by ac_rfl
theorem zdv(D:Df K mg "_law_cell" zgc ["script","k"])(T:Txt K mg J I)   :CalT P w K mg base 1 "_law_cell" ["script","k"] (zdq J I):=
 yt D zlG rfl rfl (fun f cdv A outer s H E hr=>(qc (zC (qr zd9 (z (U 1)) (qo zA rfl T.n_len boot_len (za (z (U 0)) zc)) (zu _)) (qd (yn (yd zh (z (U 0)) (z (U 1))))) yy)
  (qd (yn yc))))
end
noncomputable def zh7(J I:Addr):X5:=
 (yg (sIf (zcT (yw (eOp gtI (ze (qB yB) (zb (O 1) zd)) (eC (.int 1)))) (yw (eOp gtI (ze (zr J I) (zb (O 0) (zb (eC (.int 4)) zd))) (eC (.int 0))))) (zB (eOp ixT (O 1) (eOp yD (eC (.int 1)) (ze (zr J I) (zb (O 0) (zb (eOp zaA (ze (qB yB) (zb (O 1) zd)) (eC (.int 1))) zd)))))) qR)
 (zB (eOp ixT (O 1) (eC (.int 0)))))
noncomputable def zdG(J I:Addr):X2:=yi 2 2 (zh7 J I)
section
theorem zkX:FnScope ["own","some"] ["own","some"] (ye ze2):=by ac_rfl
theorem zcH(D:Df K mg "_law_drawn" ze2 ["own","some"])(T:Txt K mg J I)   (zn:CalT P w K mg base 1 "_law_next" ["pool","base"] (zr J I)):CalT P w K mg base 2 "_law_drawn" ["own","some"] (zdG J I):=
 yt D zkX rfl rfl (fun f cdv A outer s H E hr=>(qc (zC (WW.gt (zci (qr zea (qo zA rfl T.n_len boot_len (za (z (U 1)) zc)) yc (zu _)) (zbM (qr zea (X9 zn hr (za (z (U 0)) (za yc zc))) yc (zu _))))) (qd (yn (yd zh (z (U 1)) (yh zw yc (X9 zn hr (za (z (U 0)) (za (yh qO (qo zA rfl T.n_len boot_len (za (z (U 1)) zc)) yc) zc))))))) yy)
  (qd (yn (yd zh (z (U 1)) yc)))))
end
noncomputable def zii(J I:Addr):X5:=
 (sIf (zcT (yw (eOp eqA (eOp ixD (eOp ixD (O 5) (eC (.int 2))) (eC (.int 0))) (eC (.str "stands")))) (zc9 (yw (eOp geI (O 4) (ze (qB zhz) (zb (O 0) zd)))) (yw (eOp neA (eOp ixD (eOp ixD (O 0) (O 4)) (eC (.int 2))) (eOp ixD (O 5) (eC (.int 2))))))) (zgd (O 3) (zjz ziQ (O 2) (O 4))) qR)
noncomputable def zji(J I:Addr):X5:=
 (za3 (zgR (O 1)) (zbd 2 (zF (yj 4) (zF (yj 5) zbe))) (zii J I))
noncomputable def zeH(J I:Addr):X2:=yi 4 6 (zji J I)
section
theorem zeW:FnScope ["ahead","errands","stood","tick","n","errand"] ["ahead","errands","stood","tick"] (ye zgb):=by ac_rfl
theorem zdu(D:Df K mg "_law_kept" zgb ["ahead","errands","stood","tick"])(T:Txt K mg J I)   :CalT P w K mg base 1 "_law_kept" ["ahead","errands","stood","tick"] (zeH J I):=
 yt D zeW rfl rfl (fun f cdv A outer s H E hr=>(qd (qQ PassesOwn.never rfl (zlv rfl T.n_enumerate (z (U 1))) (zaQ (zbx rfl (WGs.pe (yz (qD (WG.pe (zm (zo (i:=4) zeW.nd rfl (by and_intros)))) (WGs.pe (yz (qD (WG.pe (zm (zo (i:=5) zeW.nd rfl (by and_intros)))) (WGs.pe zah))))))))) (qd (zC (WW.gt (zci (qr (yJ hr.units) (yd (zbt hr.units) (yd (zbt hr.units) (z (U 5)) yc) yc) zl (zu _)) (zbM (WW.gt (zcz (qr zqv (z (U 4)) (qo zid rfl T.n_len boot_len (za (z (U 0)) zc)) (zu _)) (zcY (qr (zi4 hr.units) (yd (zbt hr.units) (yd (zbt hr.units) (z (U 0)) (z (U 4))) yc) (yd (zbt hr.units) (z (U 5)) yc) (zu _)))))))) (qd (zd0 (z (U 3)) (zhf (z (U 2)) (z (U 4)) (zrS hr.units)))) yy)))))
end
noncomputable def zgZ(J I:Addr):X5:=
 (yg (qF [I] "net" (O 0) (O 1))
 (yg (qF [I] "came" (O 0) (eC (.int 0)))
 (yg (qF [I] "errands" (O 0) (eTk (zx zd)))
 (yg (qF [I] "puts" (O 0) (eTk (yX (zaE (eOp ixT (O 1) (eC (.int 1)))) (yj 0) qK (eTk (zx zd)) ["purse"] [])))
 (yg (qF [I] "payments" (O 0) (eTk (zx zd)))
 (qF [I] "taken" (O 0) (eTk (yX (zaE (eOp ixT (O 1) (eC (.int 1)))) (yj 0) qK (eC (.int 0)) ["purse"] []))))))))
noncomputable def zad(J I:Addr):X2:=yi 2 2 (zgZ J I)
section
theorem zjK:FnScope ["self","net"] ["self","net"] (ye zeu):=by ac_rfl
theorem zdz(D:Di K mg "Run" "Run.__init__" I zeu ["self","net"])(T:Txt K mg J I)   :MakT P w K mg base 1 "Run" I ["self","net"] (zad J I):=
 zjZ D zjK rfl rfl (fun f cdv A outer s H E hr=>(qc (zN (zf ⟨T.cls_Run,T.na_Run_net⟩ zg) (z (U 0)) (z (U 1)))
  (qc (zN (zf ⟨T.cls_Run,T.na_Run_came⟩ zg) (z (U 0)) yc)
  (qc (zN (zf ⟨T.cls_Run,T.na_Run_errands⟩ zg) (z (U 0)) (yY (yq zc)))
  (qc (zN (zf ⟨T.cls_Run,T.na_Run_puts⟩ zg) (z (U 0)) (yY (zaz (tgs:=["purse"]) (ζ:=[]) (qW (yd zh (z (U 1)) yc)) (by bv_omega) (fun _ _ _=>(zm (zo (i:=0) (show(["purse"]:List Str).Nodup by decide +kernel) rfl (by and_intros)))) (fun _ _ _=>yQ) (fun _ _ _=>(yY (yq zc))))))
  (qc (zN (zf ⟨T.cls_Run,T.na_Run_payments⟩ zg) (z (U 0)) (yY (yq zc)))
  (qd (zN (zf ⟨T.cls_Run,T.na_Run_taken⟩ zg) (z (U 0)) (yY (zaz (tgs:=["purse"]) (ζ:=[]) (qW (yd zh (z (U 1)) yc)) (by bv_omega) (fun _ _ _=>(zm (zo (i:=0) (show(["purse"]:List Str).Nodup by decide +kernel) rfl (by and_intros)))) (fun _ _ _=>yQ) (fun _ _ _=>yc)))))))))))
end
noncomputable def zh8(J I:Addr):X5:=
 (zB (eOp ixT (eOp ixT (eOp ixT (zj [I] "net" (O 0)) (eC (.int 0))) (zj [J] "house" (eOp ixT (zj [I] "errands" (O 0)) (O 1)))) (eC (.int 1))))
noncomputable def qA(J I:Addr):X2:=yi 2 2 (zh8 J I)
section
theorem zkY:FnScope ["run","number"] ["run","number"] (ye ze3):=by ac_rfl
theorem zq(D:Df K mg "asks_of" ze3 ["run","number"])(T:Txt K mg J I)   :CalT P w K mg base 1 "asks_of" ["run","number"] (qA J I):=
 yt D zkY rfl rfl (fun f cdv A outer s H E hr=>(qd (yn (yd zh (yd zh (yd zh (qh (zf ⟨T.cls_Run,T.na_Run_net⟩ zg) (z (U 0))) yc) (qh (zf ⟨T.cls_Errand,T.na_Errand_house⟩ zg) (yd zh (qh (zf ⟨T.cls_Run,T.na_Run_errands⟩ zg) (z (U 0))) (z (U 1))))) yc))))
end
noncomputable def zeQ(J I:Addr):X5:=
 (yg (ym 2 (eOp ixT (zj [I] "errands" (O 0)) (O 1)))
 (yg (sIf (zc9 (yw (eOp isN (zj [J] "caller" (O 2)) (eC .non))) (zc9 (yw (zj [J] "is_lost" (O 2))) (yw (eOp eqA (eOp ixT (zj [J] "state" (O 2)) (eC (.int 0))) (eC (.str "ended")))))) (zB (eC (.bl false))) qR)
 (zB (zlk (eOp ixT (eOp ixT (ze (qA J I) (zb (O 0) (zb (eOp ixT (zj [J] "caller" (O 2)) (eC (.int 0))) zd))) (eOp ixT (zj [J] "caller" (O 2)) (eC (.int 1)))) (eC (.int 5)))))))
noncomputable def zaO(J I:Addr):X2:=yi 2 3 (zeQ J I)
section
theorem zd2:FnScope ["run","number","errand"] ["run","number"] (ye zcK):=by ac_rfl
theorem zaP(D:Df K mg "may_be_lost" zcK ["run","number"])(T:Txt K mg J I)   (zq:CalT P w K mg base 1 "asks_of" ["run","number"] (qA J I)):CalT P w K mg base 2 "may_be_lost" ["run","number"] (zaO J I):=
 yt D zd2 rfl rfl (fun f cdv A outer s H E hr=>(qc (qg (i:=2) zd2.nd rfl (Or.inl rfl) (yd zh (qh (zf ⟨T.cls_Run,T.na_Run_errands⟩ zg) (z (U 0))) (z (U 1))))
  (qc (zC (WW.gt (zcz (qr zht (qh (zf ⟨T.cls_Errand,T.na_Errand_caller⟩ zg) (z (U 2))) y8 (zu _)) (zcz (z8 (qh (zf ⟨T.cls_Errand,T.na_Errand_is_lost⟩ zg) (z (U 2)))) (zcY (qr (yJ hr.units) (yd zh (qh (zf ⟨T.cls_Errand,T.na_Errand_state⟩ zg) (z (U 2))) yc) zl (zu _)))))) (qd (yn zaN)) yy)
  (qd (yn (zj0 (yd zh (yd zh (X9 zq hr (za (z (U 0)) (za (yd zh (qh (zf ⟨T.cls_Errand,T.na_Errand_caller⟩ zg) (z (U 2))) yc) zc))) (yd zh (qh (zf ⟨T.cls_Errand,T.na_Errand_caller⟩ zg) (z (U 2))) yc)) yc)))))))
end
noncomputable def zdp(J I:Addr):X5:=
 (yg (ym 2 (zj [J] "state" (eOp ixT (zj [I] "errands" (O 0)) (O 1))))
 (yg (sIf (yw (eOp neA (eOp ixT (O 2) (eC (.int 0))) (eC (.str "stands")))) (zB (eC (.bl false))) qR)
 (yg (ym 3 (eOp ixT (eOp ixT (ze (qA J I) (zb (O 0) (zb (O 1) zd))) (eOp ixT (O 2) (eC (.int 1)))) (eC (.int 1))))
 (zB (eOr (eOp eqA (O 3) (eC (.int 0))) (eOp ltI (eOp ixT (O 2) (eC (.int 2))) (O 3)))))))
noncomputable def zO(J I:Addr):X2:=yi 2 4 (zdp J I)
section
theorem zbq:FnScope ["run","number","state","tries"] ["run","number"] (ye zbQ):=by ac_rfl
theorem yK(D:Df K mg "has_tries_left" zbQ ["run","number"])(T:Txt K mg J I)   (zq:CalT P w K mg base 1 "asks_of" ["run","number"] (qA J I)):CalT P w K mg base 2 "has_tries_left" ["run","number"] (zO J I):=
 yt D zbq rfl rfl (fun f cdv A outer s H E hr=>(qc (qg (i:=2) zbq.nd rfl (Or.inl rfl) (qh (zf ⟨T.cls_Errand,T.na_Errand_state⟩ zg) (yd zh (qh (zf ⟨T.cls_Run,T.na_Run_errands⟩ zg) (z (U 0))) (z (U 1)))))
  (qc (zC (qr (zi4 hr.units) (yd zh (z (U 2)) yc) zl (zu _)) (qd (yn zaN)) yy)
  (qc (qg (i:=3) zbq.nd rfl (Or.inl rfl) (yd zh (yd zh (X9 zq hr (za (z (U 0)) (za (z (U 1)) zc))) (yd zh (z (U 2)) yc)) yc))
  (qd (yn (zlw (zbT (yJ hr.units) (z (U 3)) yc (zu _)) (zfq (zbT zd9 (yd zh (z (U 2)) yc) (z (U 3)) (zu _))))))))))
end
noncomputable def zcS(J I:Addr):X5:=
 (yg (ym 2 (eOp ixT (zj [J] "state" (eOp ixT (zj [I] "errands" (O 0)) (O 1))) (eC (.int 0))))
 (yg (ym 3 (eTk (zx zd)))
 (yg (sIf (yw (eOp eqA (O 2) (eC (.str "works")))) (yE (zbC zcw zeJ (O 3) (zb (eFz (zx (zb (zE (zb (eC (.str "ends")) (zb (O 1) (zb (eC (.str "bad")) zd)))) (zb (zE (zb (eC (.str "ends")) (zb (O 1) (zb (eC (.str "spent")) zd)))) (zb (zE (zb (eC (.str "ends")) (zb (O 1) (zb (eC (.str "well")) zd)))) zd))))) zd))) qR)
 (yg (sIf (yw (ze (zaO J I) (zb (O 0) (zb (O 1) zd)))) (yE (zaJ z7 (eUn zL (O 3)) (zb (zE (zb (eC (.str "lost")) (zb (O 1) zd))) zd))) qR)
 (yg (sIf (yw (ze (zO J I) (zb (O 0) (zb (O 1) zd)))) (yE (zaJ z7 (eUn zL (O 3)) (zb (zE (zb (eC (.str "again")) (zb (O 1) zd))) zd))) qR)
 (yg (sIf (yw (eOp eqA (O 2) (eC (.str "stands")))) (yE (zaJ z7 (eUn zL (O 3)) (zb (zE (zb (eC (.str "up")) (zb (O 1) zd))) zd))) qR)
 (zB (O 3))))))))
noncomputable def zbu(J I:Addr):X2:=yi 2 4 (zcS J I)
noncomputable def zap(J I:Addr):X2:=zfj (zbu J I)
section
theorem za1:FnScope ["run","number","word","events"] ["run","number"] (ye zbr):=by ac_rfl
theorem qL(D:Df K mg "events_by_tries" zbr ["run","number"])(T:Txt K mg J I)   (zaP:CalT P w K mg base 2 "may_be_lost" ["run","number"] (zaO J I)) (yK:CalT P w K mg base 2 "has_tries_left" ["run","number"] (zO J I)):CalT P w K mg base 3 "events_by_tries" ["run","number"] (zbu J I):=
 yt D za1 rfl rfl (fun f cdv A outer s H E hr=>(qc (qg (i:=2) za1.nd rfl (Or.inl rfl) (yd zh (qh (zf ⟨T.cls_Errand,T.na_Errand_state⟩ zg) (yd zh (qh (zf ⟨T.cls_Run,T.na_Run_errands⟩ zg) (z (U 0))) (z (U 1)))) yc))
  (qc (qg (i:=3) za1.nd rfl (Or.inl rfl) (yY (yq zc)))
  (qc (zC (qr (yJ hr.units) (z (U 2)) zl (zu _)) (qd (qv (zeh zgz (zaq QC PySem.F.slot_list_extend PySem.F.type_list_extend zhw (WE.pe (z (U 3))) (WA.pe (za (qx (yq (za (yr (za zl (za (z (U 1)) (za zl zc)))) (za (yr (za zl (za (z (U 1)) (za zl zc)))) (za (yr (za zl (za (z (U 1)) (za zl zc)))) zc))))) zc)))))) yy)
  (qc (zC (z8 (X9 zaP hr (za (z (U 0)) (za (z (U 1)) zc)))) (qd (qv (z9 (zaq QC QE QD yM (WE.pe (z (U 3))) (WA.pe (za (yr (za zl (za (z (U 1)) zc))) zc)))))) yy)
  (qc (zC (z8 (X9 yK hr (za (z (U 0)) (za (z (U 1)) zc)))) (qd (qv (z9 (zaq QC QE QD yM (WE.pe (z (U 3))) (WA.pe (za (yr (za zl (za (z (U 1)) zc))) zc)))))) yy)
  (qc (zC (qr (yJ hr.units) (z (U 2)) zl (zu _)) (qd (qv (z9 (zaq QC QE QD yM (WE.pe (z (U 3))) (WA.pe (za (yr (za zl (za (z (U 1)) zc))) zc)))))) yy)
  (qd (yn (z (U 3)))))))))))
end
noncomputable def zfY(J I:Addr):X5:=
 (zB (zbC zcw zhE (eFz (yX (zaE (O 0)) (yj 0) qK (eOp ixT (O 0) (eC (.int 0))) ["one"] [])) (zb (O 1) zd)))
noncomputable def zai(J I:Addr):X2:=yi 2 2 (zfY J I)
section
theorem ziT:FnScope ["named","name"] ["named","name"] (ye zdO):=by ac_rfl
theorem yZ(D:Df K mg "number_of" zdO ["named","name"])(T:Txt K mg J I)   :CalT P w K mg base 1 "number_of" ["named","name"] (zai J I):=
 yt D ziT rfl rfl (fun f cdv A outer s H E hr=>(qd (yn (zeh zgz (zaq QC PySem.F.slot_list_index PySem.F.type_list_index (zqA hr.units) (WE.pe (qx (zaz (tgs:=["one"]) (ζ:=[]) (qW (z (U 0))) (by bv_omega) (fun _ _ _=>(zm (zo (i:=0) (show(["one"]:List Str).Nodup by decide +kernel) rfl (by and_intros)))) (fun _ _ _=>yQ) (fun _ _ _=>(yd zh (z (U 0)) yc))))) (WA.pe (za (z (U 1)) zc)))))))
end
noncomputable def zgT(J I:Addr):X5:=
 (zB (eIf (yw (eOp isN (eOp ixT (O 1) (eC (.int 2))) (eC .non))) (eC .non) (ze (zai J I) (zb (eOp ixT (zj [I] "net" (O 0)) (eC (.int 1))) (zb (eOp ixT (O 1) (eC (.int 2))) zd)))))
noncomputable def zU(J I:Addr):X2:=yi 2 2 (zgT J I)
section
theorem zjF:FnScope ["run","ask"] ["run","ask"] (ye zem):=by ac_rfl
theorem qI(D:Df K mg "purse_of" zem ["run","ask"])(T:Txt K mg J I)   (yZ:CalT P w K mg base 1 "number_of" ["named","name"] (zai J I)):CalT P w K mg base 2 "purse_of" ["run","ask"] (zU J I):=
 yt D zjF rfl rfl (fun f cdv A outer s H E hr=>(qd (yn (zpK (qr zht (yd zh (z (U 1)) yc) y8 (zu _)) y8 (X9 yZ hr (za (yd zh (qh (zf ⟨T.cls_Run,T.na_Run_net⟩ zg) (z (U 0))) yc) (za (yd zh (z (U 1)) yc) zc)))))))
end
noncomputable def zfi(J I:Addr):X5:=
 (zB (eOp zcQ (ze (qB yB) (zb (eOp ixT (zj [I] "puts" (O 0)) (O 1)) zd)) (eOp ixT (eOp ixT (eOp ixT (zj [I] "net" (O 0)) (eC (.int 1))) (O 1)) (eC (.int 2)))))
noncomputable def za9(J I:Addr):X2:=yi 2 2 (zfi J I)
section
theorem zin:FnScope ["run","purse"] ["run","purse"] (ye zdf):=by ac_rfl
theorem zbc(D:Df K mg "coins_made" zdf ["run","purse"])(T:Txt K mg J I)   :CalT P w K mg base 1 "coins_made" ["run","purse"] (za9 J I):=
 yt D zin rfl rfl (fun f cdv A outer s H E hr=>(qd (yn (yh zeb (qo zA rfl T.n_len boot_len (za (yd zh (qh (zf ⟨T.cls_Run,T.na_Run_puts⟩ zg) (z (U 0))) (z (U 1))) zc)) (yd zh (yd zh (yd zh (qh (zf ⟨T.cls_Run,T.na_Run_net⟩ zg) (z (U 0))) yc) (z (U 1))) yc)))))
end
noncomputable def zfg(J I:Addr):X5:=
 (zB (zE (zb (eOp zbR (ze (qB yB) (zb (eOp ixT (zj [I] "puts" (O 0)) (O 1)) zd)) (eOp ixT (eOp ixT (eOp ixT (zj [I] "net" (O 0)) (eC (.int 1))) (O 1)) (eC (.int 2)))) (zb (eOp zaA (ze (za9 J I) (zb (O 0) (zb (O 1) zd))) (eOp ixT (zj [I] "taken" (O 0)) (O 1))) zd))))
noncomputable def yV(J I:Addr):X2:=yi 2 2 (zfg J I)
section
theorem zim:FnScope ["run","purse"] ["run","purse"] (ye zde):=by ac_rfl
theorem yW(D:Df K mg "purse_told" zde ["run","purse"])(T:Txt K mg J I)   (zbc:CalT P w K mg base 1 "coins_made" ["run","purse"] (za9 J I)):CalT P w K mg base 2 "purse_told" ["run","purse"] (yV J I):=
 yt D zim rfl rfl (fun f cdv A outer s H E hr=>(qd (yn (yr (za (yh zbk (qo zA rfl T.n_len boot_len (za (yd zh (qh (zf ⟨T.cls_Run,T.na_Run_puts⟩ zg) (z (U 0))) (z (U 1))) zc)) (yd zh (yd zh (yd zh (qh (zf ⟨T.cls_Run,T.na_Run_net⟩ zg) (z (U 0))) yc) (z (U 1))) yc)) (za (yh qO (X9 zbc hr (za (z (U 0)) (za (z (U 1)) zc))) (yd zh (qh (zf ⟨T.cls_Run,T.na_Run_taken⟩ zg) (z (U 0))) (z (U 1)))) zc))))))
end
noncomputable def zgX(J I:Addr):X5:=
 (yg (ym 2 (ze (zU J I) (zb (O 0) (zb (eOp ixT (ze (qA J I) (zb (O 0) (zb (O 1) zd))) (eOp ixT (zj [J] "state" (eOp ixT (zj [I] "errands" (O 0)) (O 1))) (eC (.int 1)))) zd))))
 (zB (eOr (eOp isN (O 2) (eC .non)) (eOp gtI (eOp ixT (ze (yV J I) (zb (O 0) (zb (O 2) zd))) (eC (.int 1))) (eC (.int 0))))))
noncomputable def zbn(J I:Addr):X2:=yi 2 3 (zgX J I)
section
theorem zfP:FnScope ["run","number","purse"] ["run","number"] (ye zer):=by ac_rfl
theorem zcg(D:Df K mg "has_coin" zer ["run","number"])(T:Txt K mg J I)   (qI:CalT P w K mg base 2 "purse_of" ["run","ask"] (zU J I)) (zq:CalT P w K mg base 1 "asks_of" ["run","number"] (qA J I)) (yW:CalT P w K mg base 2 "purse_told" ["run","purse"] (yV J I)):CalT P w K mg base 3 "has_coin" ["run","number"] (zbn J I):=
 yt D zfP rfl rfl (fun f cdv A outer s H E hr=>(qc (qg (i:=2) zfP.nd rfl (Or.inl rfl) (X9 qI hr (za (z (U 0)) (za (yd zh (X9 zq hr (za (z (U 0)) (za (z (U 1)) zc))) (yd zh (qh (zf ⟨T.cls_Errand,T.na_Errand_state⟩ zg) (yd zh (qh (zf ⟨T.cls_Run,T.na_Run_errands⟩ zg) (z (U 0))) (z (U 1)))) yc)) zc))))
  (qd (yn (zlw (zbT zht (z (U 2)) y8 (zu _)) (zfq (zbT zea (yd zh (X9 yW hr (za (z (U 0)) (za (z (U 2)) zc))) yc) yc (zu _))))))))
end
noncomputable def zf0(J I:Addr):X5:=
 (zB (eFz (yX (zaE (ze (zap J I) (zb (O 0) (zb (O 1) zd)))) (yj 0) (zc9 (yw (eOp neA (eOp ixT (O 0) (eC (.int 0))) (eC (.str "again")))) (yw (ze (zbn J I) (zb (O 1) (zb (O 2) zd))))) (O 0) ["event"] [("run",0),("number",1)])))
noncomputable def zak(J I:Addr):X2:=yi 2 2 (zf0 J I)
section
theorem ziW:FnScope ["run","number"] ["run","number"] (ye zdR):=by ac_rfl
theorem z3(D:Df K mg "events_at" zdR ["run","number"])(T:Txt K mg J I)   (qL:CalT P w K mg base 3 "events_by_tries" ["run","number"] (zap J I)) (zcg:CalT P w K mg base 3 "has_coin" ["run","number"] (zbn J I)):CalT P w K mg base 4 "events_at" ["run","number"] (zak J I):=
 yt D ziW rfl rfl (fun f cdv A outer s H E hr=>(qd (yn (qx (zaz (tgs:=["event"]) (ζ:=[("run",0),("number",1)]) (qW (X9 qL hr (za (z (U 0)) (za (z (U 1)) zc)))) (by bv_omega) (fun _ _ _=>(zm (zo (i:=0) (show(["event","run","number"]:List Str).Nodup by decide +kernel) rfl (by and_intros)))) (fun _ _ _=>(zf3 (WW.gt (zcz (qr (zi4 hr.units) (yd zh (z (U 0)) yc) zl (zu _)) (zcY (z8 (X9 zcg hr (za (z (U 1)) (za (z (U 2)) zc))))))))) (fun _ _ _=>(z (U 0))))))))
end
noncomputable def zeF(J I:Addr):X5:=
 (zB (zll (ze (call2 zaw) (zb (O 0) (zb (eC (.ty "int")) zd))) (zlk (ze (call2 zaw) (zb (O 0) (zb (eC (.ty "bool")) zd))))))
noncomputable def zaG(J I:Addr):X2:=yi 1 1 (zeF J I)
section
theorem zjH:FnScope ["thing"] ["thing"] (ye zeq):=by ac_rfl
theorem zcf(D:Df K mg "is_whole" zeq ["thing"])(T:Txt K mg J I)   :CalT P w K mg base 1 "is_whole" ["thing"] (zaG J I):=
 yt D zjH rfl rfl (fun f cdv A outer s H E hr=>(qd (yn (zj2 (qo zdt rfl T.n_isinstance boot_isinstance (za (z (U 0)) (za (zf5 rfl T.n_int boot_int) zc))) (zfq (zj0 (qo zdt rfl T.n_isinstance boot_isinstance (za (z (U 0)) (za (zf5 rfl T.n_bool boot_bool) zc)))))))))
end
noncomputable def zdV(J I:Addr):X5:=
 (zB (zll (ze (zaG J I) (zb (O 0) zd)) (zg4 leI leI (O 1) (O 0) (O 2))))
noncomputable def zaj(J I:Addr):X2:=yi 3 3 (zdV J I)
section
theorem ziV:FnScope ["thing","low","high"] ["thing","low","high"] (ye zdQ):=by ac_rfl
theorem zbH(D:Df K mg "is_within" zdQ ["thing","low","high"])(T:Txt K mg J I)   (zcf:CalT P w K mg base 1 "is_whole" ["thing"] (zaG J I)):CalT P w K mg base 2 "is_within" ["thing","low","high"] (zaj J I):=
 yt D ziV rfl rfl (fun f cdv A outer s H E hr=>(qd (yn (zj2 (X9 zcf hr (za (z (U 0)) zc)) (zfq (zlx zlR zlR (z (U 1)) (z (U 0)) (z (U 2))))))))
end
noncomputable def zcV(J I:Addr):X5:=
 (yg (sIf (yw (eOp eqA (O 1) (eC (.tup [.str "fresh"])))) (zB (eC (.bl true))) qR)
 (yg (sIf (zc9 (zdx (yw (ze (call2 zaw) (zb (O 1) (zb (eC (.ty "tuple")) zd))))) (zc9 (yw (eOp ltI (ze (qB yB) (zb (O 1) zd)) (eC (.int 2)))) (zdx (yw (ze (zaj J I) (zb (eOp ixT (O 1) (eC (.int 1))) (zb (eC (.int 0)) (zb (eOp zaA (ze (qB yB) (zb (zj [I] "errands" (O 0)) zd)) (eC (.int 1))) zd)))))))) (zB (eC (.bl false))) qR)
 (zB (eOp inN (O 1) (ze (zak J I) (zb (O 0) (zb (eOp ixT (O 1) (eC (.int 1))) zd)))))))
noncomputable def qP(J I:Addr):X2:=yi 2 2 (zcV J I)
section
theorem zjI:FnScope ["run","event"] ["run","event"] (ye zes):=by ac_rfl
theorem zch(D:Df K mg "can_come" zes ["run","event"])(T:Txt K mg J I)   (z3:CalT P w K mg base 4 "events_at" ["run","number"] (zak J I)) (zbH:CalT P w K mg base 2 "is_within" ["thing","low","high"] (zaj J I)):CalT P w K mg base 5 "can_come" ["run","event"] (qP J I):=
 yt D zjI rfl rfl (fun f cdv A outer s H E hr=>(qc (zC (qr (yJ hr.units) (z (U 1)) (zhS (ss:=["fresh"]) rfl T.c_FRESH) (zu _)) (qd (yn zaN)) yy)
  (qc (zC (WW.gt (zcz (zcZ (z8 (qo zdt rfl T.n_isinstance boot_isinstance (za (z (U 1)) (za (zf5 rfl T.n_tuple boot_tuple) zc))))) (zcz (qr zd9 (qo zA rfl T.n_len boot_len (za (z (U 1)) zc)) yc (zu _)) (zcY (zcZ (z8 (X9 zbH hr (za (yd zh (z (U 1)) yc) (za yc (za (yh qO (qo zA rfl T.n_len boot_len (za (qh (zf ⟨T.cls_Run,T.na_Run_errands⟩ zg) (z (U 0))) zc)) yc) zc)))))))))) (qd (yn zaN)) yy)
  (qd (yn (zbT (zqt hr.units) (z (U 1)) (X9 z3 hr (za (z (U 0)) (za (yd zh (z (U 1)) yc) zc))) rfl))))))
end
noncomputable def zcP(J I kN:Addr):X5:=
 (sIf (zdx (yw (ze (qP J I) (zb (O 0) (zb (O 1) zd))))) (zd4 (zb7 kN) (zb (zj [I] "came" (O 0)) zd)) qR)
noncomputable def qG(J I kN:Addr):X2:=zS 2 2 (zcP J I kN)
variable {kN:Addr}
section
theorem zhi:FnScope ["run","event"] ["run","event"] (ye zcL):=by ac_rfl
theorem zQ(D:Df K mg "check_event" zcL ["run","event"])(T:Txt K mg J I)(x_NoEvent:XcF P w K mg base "NoEvent" kN)  (zch:CalT P w K mg base 5 "can_come" ["run","event"] (qP J I)):CalX P w K mg base 6 "check_event" ["run","event"] (qG J I kN):=
 zbO D zhi rfl rfl (fun f cdv A outer s H E hr=>(qd (zC (zcZ (z8 (X9 zch hr (za (z (U 0)) (za (z (U 1)) zc))))) (qd (zgx x_NoEvent (hr.mono ∅) rfl rfl rfl rfl rfl (za (qh (zf ⟨T.cls_Run,T.na_Run_came⟩ zg) (z (U 0))) zc))) yy)))
end
noncomputable def zgY(J I:Addr):X5:=
 (zB (ze (zai J I) (zb (eOp ixT (O 0) (eC (.int 0))) (zb (eOp ixT (O 1) (eC (.int 0))) zd))))
noncomputable def zaH(J I:Addr):X2:=yi 2 2 (zgY J I)
section
theorem zjJ:FnScope ["net","ask"] ["net","ask"] (ye zet):=by ac_rfl
theorem zag(D:Df K mg "asked_by" zet ["net","ask"])(T:Txt K mg J I)   (yZ:CalT P w K mg base 1 "number_of" ["named","name"] (zai J I)):CalT P w K mg base 2 "asked_by" ["net","ask"] (zaH J I):=
 yt D zjJ rfl rfl (fun f cdv A outer s H E hr=>(qd (yn (X9 yZ hr (za (yd zh (z (U 0)) yc) (za (yd zh (z (U 1)) yc) zc))))))
end
noncomputable def zeR(J I:Addr):X5:=
 (yg (qF [J] "house" (O 0) (O 1))
 (yg (qF [J] "caller" (O 0) (O 2))
 (yg (qF [J] "state" (O 0) (zE (zb (eC (.str "works")) zd)))
 (yg (qF [J] "is_lost" (O 0) (eC (.bl false)))
 (yg (qF [J] "asked" (O 0) (eC .non))
 (qF [J] "stood" (O 0) (eC .non)))))))
noncomputable def zY(J I:Addr):X2:=yi 3 3 (zeR J I)
section
theorem zhj:FnScope ["self","house","caller"] ["self","house","caller"] (ye zcM):=by ac_rfl
theorem za4(D:Di K mg "Errand" "Errand.__init__" J zcM ["self","house","caller"])(T:Txt K mg J I)   :MakT P w K mg base 1 "Errand" J ["self","house","caller"] (zY J I):=
 zjZ D zhj rfl rfl (fun f cdv A outer s H E hr=>(qc (zN (zf ⟨T.cls_Errand,T.na_Errand_house⟩ zg) (z (U 0)) (z (U 1)))
  (qc (zN (zf ⟨T.cls_Errand,T.na_Errand_caller⟩ zg) (z (U 0)) (z (U 2)))
  (qc (zN (zf ⟨T.cls_Errand,T.na_Errand_state⟩ zg) (z (U 0)) (yr (za zl zc)))
  (qc (zN (zf ⟨T.cls_Errand,T.na_Errand_is_lost⟩ zg) (z (U 0)) zaN)
  (qc (zN (zf ⟨T.cls_Errand,T.na_Errand_asked⟩ zg) (z (U 0)) y8)
  (qd (zN (zf ⟨T.cls_Errand,T.na_Errand_stood⟩ zg) (z (U 0)) y8))))))))
end
noncomputable def zbz(J I:Addr)(q_begin_try q_begin_errand:X2):X5:=
 (yg (ym 4 (eOp ixT (ze (qA J I) (zb (O 0) (zb (O 1) zd))) (O 2)))
 (yg (ym 5 (ze (qB yB) (zb (zj [I] "errands" (O 0)) zd)))
 (yg (qF [J] "state" (eOp ixT (zj [I] "errands" (O 0)) (O 1)) (zE (zb (eC (.str "waits")) (zb (O 2) (zb (O 3) zd)))))
 (yg (qF [J] "asked" (eOp ixT (zj [I] "errands" (O 0)) (O 1)) (O 5))
 (yg (ym 6 (ze (zU J I) (zb (O 0) (zb (O 4) zd))))
 (yg (sIf (zcT (yw (eOp zbK (O 6) (eC .non))) (zc9 (yw (eOp eqA (O 3) (eC (.int 1)))) (yw (eOp eqA (eOp ixT (eOp ixT (eOp ixT (zj [I] "net" (O 0)) (eC (.int 1))) (O 6)) (eC (.int 1))) (eC (.str "any")))))) (yE (zaJ z7 (eUn zL (eOp ixT (zj [I] "puts" (O 0)) (O 6))) (zb (O 5) zd))) qR)
 (yE (ze q_begin_errand (zb (O 0) (zb (ze (zaH J I) (zb (zj [I] "net" (O 0)) (zb (O 4) zd))) (zb (zE (zb (O 1) (zb (O 2) (zb (O 3) zd)))) zd)))))))))))
variable {L:Nat}
section
theorem za2:FnScope ["run","number","at","tried","ask","begun","purse"] ["run","number","at","tried"] (ye zcv):=by ac_rfl
theorem yH{q_begin_try q_begin_errand:X2}(hL:2<=L)(D:Df K mg "begin_try" zcv ["run","number","at","tried"])(T:Txt K mg J I)(qI:CalT P w K mg base 2 "purse_of" ["run","ask"] (zU J I))(qS:CalT P w K mg base L "begin_errand" ["run","house","caller"] q_begin_errand)(zq:CalT P w K mg base 1 "asks_of" ["run","number"] (qA J I))(zag:CalT P w K mg base 2 "asked_by" ["net","ask"] (zaH J I)):CalT P w K mg base (L+1) "begin_try" ["run","number","at","tried"] (yi 4 7 (zbz J I q_begin_try q_begin_errand)):=
 yt D za2 rfl rfl (fun f cdv A outer s H E hr=>(qc (qg (i:=4) za2.nd rfl (Or.inl rfl) (yd zh (qf zq (hr.mono ⋯) rfl (za (z (U 0)) (za (z (U 1)) zc))) (z (U 2))))
  (qc (qg (i:=5) za2.nd rfl (Or.inl rfl) (qo zA rfl T.n_len boot_len (za (qh (zf ⟨T.cls_Run,T.na_Run_errands⟩ zg) (z (U 0))) zc)))
  (qc (zN (zf ⟨T.cls_Errand,T.na_Errand_state⟩ zg) (yd zh (qh (zf ⟨T.cls_Run,T.na_Run_errands⟩ zg) (z (U 0))) (z (U 1))) (yr (za zl (za (z (U 2)) (za (z (U 3)) zc)))))
  (qc (zN (zf ⟨T.cls_Errand,T.na_Errand_asked⟩ zg) (yd zh (qh (zf ⟨T.cls_Run,T.na_Run_errands⟩ zg) (z (U 0))) (z (U 1))) (z (U 5)))
  (qc (qg (i:=6) za2.nd rfl (Or.inl rfl) (qf qI (hr.mono ⋯) rfl (za (z (U 0)) (za (z (U 4)) zc))))
  (qc (zC (WW.gt (zci (qr ze5 (z (U 6)) y8 (zu _)) (zbM (WW.gt (zcz (qr (yJ hr.units) (z (U 3)) yc (zu _)) (zcY (qr (yJ hr.units) (yd zh (yd zh (yd zh (qh (zf ⟨T.cls_Run,T.na_Run_net⟩ zg) (z (U 0))) yc) (z (U 6))) yc) zl (zu _)))))))) (qd (qv (z9 (zaq QC QE QD yM (WE.pe (yd zh (qh (zf ⟨T.cls_Run,T.na_Run_puts⟩ zg) (z (U 0))) (z (U 6)))) (WA.pe (za (z (U 5)) zc)))))) yy)
  (qd (qv (qf qS (hr.mono ⋯) rfl (za (z (U 0)) (za (qf zag (hr.mono ⋯) rfl (za (qh (zf ⟨T.cls_Run,T.na_Run_net⟩ zg) (z (U 0))) (za (z (U 4)) zc))) (za (yr (za (z (U 1)) (za (z (U 2)) (za (z (U 3)) zc)))) zc)))))))))))))
end
noncomputable def zbm(J I:Addr)(q_begin_try q_begin_errand:X2):X5:=
 (yg (yE (zaJ z7 (eUn zL (zj [I] "errands" (O 0))) (zb (zcW J (zY J I) (zb (O 1) (zb (O 2) zd))) zd)))
 (yg (ym 3 (eOp zaA (ze (qB yB) (zb (zj [I] "errands" (O 0)) zd)) (eC (.int 1))))
 (sIf (yw (eOp gtI (ze (qB yB) (zb (ze (qA J I) (zb (O 0) (zb (O 3) zd))) zd)) (eC (.int 0)))) (yE (ze q_begin_try (zb (O 0) (zb (O 3) (zb (eC (.int 0)) (zb (eC (.int 1)) zd)))))) qR)))
section
theorem zb5:FnScope ["run","house","caller","number"] ["run","house","caller"] (ye zbi):=by ac_rfl
theorem qS{q_begin_try q_begin_errand:X2}(hL:2<=L)(D:Df K mg "begin_errand" zbi ["run","house","caller"])(T:Txt K mg J I)(za4:MakT P w K mg base 1 "Errand" J ["self","house","caller"] (zY J I))(yH:CalT P w K mg base L "begin_try" ["run","number","at","tried"] q_begin_try)(zq:CalT P w K mg base 1 "asks_of" ["run","number"] (qA J I)):CalT P w K mg base (L+1) "begin_errand" ["run","house","caller"] (yi 3 4 (zbm J I q_begin_try q_begin_errand)):=
 yt D zb5 rfl rfl (fun f cdv A outer s H E hr=>(qc (qv (z9 (zaq QC QE QD yM (WE.pe (qh (zf ⟨T.cls_Run,T.na_Run_errands⟩ zg) (z (U 0)))) (WA.pe (za (zf4 za4 (hr.mono ⋯) rfl (za (z (U 1)) (za (z (U 2)) zc))) zc)))))
  (qc (qg (i:=3) zb5.nd rfl (Or.inl rfl) (yh qO (qo zA rfl T.n_len boot_len (za (qh (zf ⟨T.cls_Run,T.na_Run_errands⟩ zg) (z (U 0))) zc)) yc))
  (qd (zC (qr zea (qo zA rfl T.n_len boot_len (za (qf zq (hr.mono ⋯) rfl (za (z (U 0)) (za (z (U 3)) zc))) zc)) yc (zu _)) (qd (qv (qf yH (hr.mono ⋯) rfl (za (z (U 0)) (za (z (U 3)) (za yc (za yc zc))))))) yy)))))
noncomputable def yk(J I:Addr):Nat->(X2) × (X2)
 |0=>(fun _ _=>.bad,fun _ _=>.bad)|n+1=>(yi 4 7 (zbz J I (yk J I n).1 (yk J I n).2),yi 3 4 (zbm J I (yk J I n).1 (yk J I n).2))
noncomputable def zal(J I:Addr):X2:=(yk J I 12).1
noncomputable def zcq(J I:Addr):X2:=(yk J I 12).2
theorem yI(D_begin_try:Df K mg "begin_try" zcv ["run","number","at","tried"])(D_begin_errand:Df K mg "begin_errand" zbi ["run","house","caller"])(T:Txt K mg J I)(qI:CalT P w K mg base 2 "purse_of" ["run","ask"] (zU J I))(zq:CalT P w K mg base 1 "asks_of" ["run","number"] (qA J I))(zag:CalT P w K mg base 2 "asked_by" ["net","ask"] (zaH J I))(za4:MakT P w K mg base 1 "Errand" J ["self","house","caller"] (zY J I)):∀n,CalT P w K mg base (2+n+1) "begin_try" ["run","number","at","tried"] (yk J I n).1/\CalT P w K mg base (2+n+1) "begin_errand" ["run","house","caller"] (yk J I n).2
 |0=>⟨CalT.bad D_begin_try za2,CalT.bad D_begin_errand zb5⟩|n+1=>by have ih:=yI D_begin_try D_begin_errand T qI zq zag za4 n;exact⟨yH ⋯ D_begin_try T qI ih.2 zq zag,qS ⋯ D_begin_errand T za4 ih.1 zq⟩
end
noncomputable def zcb(J I:Addr)(q_end_errand q_hear:X2):X5:=
 (yg (ym 3 (eOp ixT (zj [I] "errands" (O 0)) (O 1)))
 (yg (qF [J] "state" (O 3) (zE (zb (eC (.str "ended")) (zb (O 2) zd))))
 (sIf (zcT (yw (eOp zbK (zj [J] "caller" (O 3)) (eC .non))) (zdx (yw (zj [J] "is_lost" (O 3))))) (yE (ze q_hear (zb (O 0) (zb (zj [J] "caller" (O 3)) (zb (O 2) zd))))) qR)))
section
theorem zcJ:FnScope ["run","number","word","errand"] ["run","number","word"] (ye zb6):=by ac_rfl
theorem yN{q_end_errand q_hear:X2}(hL:15<=L)(D:Df K mg "end_errand" zb6 ["run","number","word"])(T:Txt K mg J I)(zdw:CalT P w K mg base L "hear" ["run","caller","word"] q_hear):CalT P w K mg base (L+1) "end_errand" ["run","number","word"] (yi 3 4 (zcb J I q_end_errand q_hear)):=
 yt D zcJ rfl rfl (fun f cdv A outer s H E hr=>(qc (qg (i:=3) zcJ.nd rfl (Or.inl rfl) (yd zh (qh (zf ⟨T.cls_Run,T.na_Run_errands⟩ zg) (z (U 0))) (z (U 1))))
  (qc (zN (zf ⟨T.cls_Errand,T.na_Errand_state⟩ zg) (z (U 3)) (yr (za zl (za (z (U 2)) zc))))
  (qd (zC (WW.gt (zci (qr ze5 (qh (zf ⟨T.cls_Errand,T.na_Errand_caller⟩ zg) (z (U 3))) y8 (zu _)) (zbM (zcZ (z8 (qh (zf ⟨T.cls_Errand,T.na_Errand_is_lost⟩ zg) (z (U 3)))))))) (qd (qv (qf zdw (hr.mono ⋯) rfl (za (z (U 0)) (za (qh (zf ⟨T.cls_Errand,T.na_Errand_caller⟩ zg) (z (U 3))) (za (z (U 2)) zc)))))) yy)))))
end
noncomputable def zfh(J I:Addr)(q_end_errand q_hear:X2):X5:=
 (yg (ym 3 (eOp ixT (O 1) (eC (.int 0))))
 (yg (ym 4 (eOp ixT (O 1) (eC (.int 1))))
 (yg (ym 5 (ze (qA J I) (zb (O 0) (zb (O 3) zd))))
 (sIf (zcT (yw (eOp eqA (O 2) (eC (.str "well")))) (yw (eOp ltI (eOp yD (O 4) (eC (.int 1))) (ze (qB yB) (zb (O 5) zd))))) (yE (ze (zal J I) (zb (O 0) (zb (O 3) (zb (eOp yD (O 4) (eC (.int 1))) (zb (eC (.int 1)) zd)))))) (sIf (zc9 (yw (eOp eqA (O 2) (eC (.str "well")))) (zcT (yw (eOp eqA (O 2) (eC (.str "spent")))) (yw (eOp ixT (eOp ixT (O 5) (O 4)) (eC (.int 4)))))) (yE (ze q_end_errand (zb (O 0) (zb (O 3) (zb (O 2) zd))))) (yg (qF [J] "state" (eOp ixT (zj [I] "errands" (O 0)) (O 3)) (zE (zb (eC (.str "stands")) (zb (O 4) (zb (eOp ixT (O 1) (eC (.int 2))) zd)))))
 (qF [J] "stood" (eOp ixT (zj [I] "errands" (O 0)) (O 3)) (zj [I] "came" (O 0)))))))))
section
theorem zd3:FnScope ["run","caller","word","number","at","asks"] ["run","caller","word"] (ye zgF):=by ac_rfl
theorem zdw{q_end_errand q_hear:X2}(hL:15<=L)(D:Df K mg "hear" zgF ["run","caller","word"])(T:Txt K mg J I)(zq:CalT P w K mg base 1 "asks_of" ["run","number"] (qA J I))(yH:CalT P w K mg base 15 "begin_try" ["run","number","at","tried"] (zal J I))(yN:CalT P w K mg base L "end_errand" ["run","number","word"] q_end_errand):CalT P w K mg base (L+1) "hear" ["run","caller","word"] (yi 3 6 (zfh J I q_end_errand q_hear)):=
 yt D zd3 rfl rfl (fun f cdv A outer s H E hr=>(qc (qg (i:=3) zd3.nd rfl (Or.inl rfl) (yd zh (z (U 1)) yc))
  (qc (qg (i:=4) zd3.nd rfl (Or.inl rfl) (yd zh (z (U 1)) yc))
  (qc (qg (i:=5) zd3.nd rfl (Or.inl rfl) (qf zq (hr.mono ⋯) rfl (za (z (U 0)) (za (z (U 3)) zc))))
  (qd (zC (WW.gt (zci (qr (yJ hr.units) (z (U 2)) zl (zu _)) (zbM (qr zd9 (yh zw (z (U 4)) yc) (qo zA rfl T.n_len boot_len (za (z (U 5)) zc)) (zu _))))) (qd (qv (qf yH (hr.mono ⋯) rfl (za (z (U 0)) (za (z (U 3)) (za (yh zw (z (U 4)) yc) (za yc zc))))))) (qd (zC (WW.gt (zcz (qr (yJ hr.units) (z (U 2)) zl (zu _)) (zcY (WW.gt (zci (qr (yJ hr.units) (z (U 2)) zl (zu _)) (zbM (z8 (yd zh (yd zh (z (U 5)) (z (U 4))) yc)))))))) (qd (qv (qf yN (hr.mono ⋯) rfl (za (z (U 0)) (za (z (U 3)) (za (z (U 2)) zc)))))) (qc (zN (zf ⟨T.cls_Errand,T.na_Errand_state⟩ zg) (yd zh (qh (zf ⟨T.cls_Run,T.na_Run_errands⟩ zg) (z (U 0))) (z (U 3))) (yr (za zl (za (z (U 4)) (za (yd zh (z (U 1)) yc) zc)))))
  (qd (zN (zf ⟨T.cls_Errand,T.na_Errand_stood⟩ zg) (yd zh (qh (zf ⟨T.cls_Run,T.na_Run_errands⟩ zg) (z (U 0))) (z (U 3))) (qh (zf ⟨T.cls_Run,T.na_Run_came⟩ zg) (z (U 0))))))))))))))
noncomputable def yu(J I:Addr):Nat->(X2) × (X2)
 |0=>(fun _ _=>.bad,fun _ _=>.bad)|n+1=>(yi 3 4 (zcb J I (yu J I n).1 (yu J I n).2),yi 3 6 (zfh J I (yu J I n).1 (yu J I n).2))
noncomputable def za8(J I:Addr):X2:=(yu J I 12).1
noncomputable def zjk(J I:Addr):X2:=(yu J I 12).2
theorem qV(D_end_errand:Df K mg "end_errand" zb6 ["run","number","word"])(D_hear:Df K mg "hear" zgF ["run","caller","word"])(T:Txt K mg J I)(zq:CalT P w K mg base 1 "asks_of" ["run","number"] (qA J I))(yH:CalT P w K mg base 15 "begin_try" ["run","number","at","tried"] (zal J I)):∀n,CalT P w K mg base (15+n+1) "end_errand" ["run","number","word"] (yu J I n).1/\CalT P w K mg base (15+n+1) "hear" ["run","caller","word"] (yu J I n).2
 |0=>⟨CalT.bad D_end_errand zcJ,CalT.bad D_hear zd3⟩|n+1=>by have ih:=qV D_end_errand D_hear T zq yH n;exact⟨yN ⋯ D_end_errand T ih.2,zdw ⋯ D_hear T zq yH ih.1⟩
end
noncomputable def zmh(J I:Addr):X5:=
 (yg (ym 2 (eOp ixT (zj [I] "errands" (O 0)) (O 1)))
 (yg (qF [J] "is_lost" (O 2) (eC (.bl true)))
 (yE (ze (zjk J I) (zb (O 0) (zb (zj [J] "caller" (O 2)) (zb (eC (.str "bad")) zd)))))))
noncomputable def zg1(J I:Addr):X2:=yi 2 3 (zmh J I)
section
theorem zka:FnScope ["run","number","errand"] ["run","number"] (ye ziX):=by ac_rfl
theorem zfm(D:Df K mg "lose" ziX ["run","number"])(T:Txt K mg J I)   (zdw:CalT P w K mg base 28 "hear" ["run","caller","word"] (zjk J I)):CalT P w K mg base 29 "lose" ["run","number"] (zg1 J I):=
 yt D zka rfl rfl (fun f cdv A outer s H E hr=>(qc (qg (i:=2) zka.nd rfl (Or.inl rfl) (yd zh (qh (zf ⟨T.cls_Run,T.na_Run_errands⟩ zg) (z (U 0))) (z (U 1))))
  (qc (zN (zf ⟨T.cls_Errand,T.na_Errand_is_lost⟩ zg) (z (U 2)) zaN)
  (qd (qv (X9 zdw hr (za (z (U 0)) (za (qh (zf ⟨T.cls_Errand,T.na_Errand_caller⟩ zg) (z (U 2))) (za zl zc)))))))))
end
noncomputable def zfW(J I:Addr):X5:=
 (yg (yE (zaJ z7 (eUn zL (zj [I] "payments" (O 0))) (zb (zE (zb (ze (qB yB) (zb (zj [I] "errands" (O 0)) zd)) (zb (O 1) (zb (eOp ixT (zj [I] "taken" (O 0)) (O 1)) zd)))) zd)))
 (ziw getL zdX zej (zj [I] "taken" (O 0)) (O 1) (eC (.int 1))))
noncomputable def zcy(J I:Addr):X2:=yi 2 2 (zfW J I)
section
theorem ziS:FnScope ["run","purse"] ["run","purse"] (ye zdM):=by ac_rfl
theorem zbF(D:Df K mg "take_coin" zdM ["run","purse"])(T:Txt K mg J I)   :CalT P w K mg base 1 "take_coin" ["run","purse"] (zcy J I):=
 yt D ziS rfl rfl (fun f cdv A outer s H E hr=>(qc (qv (z9 (zaq QC QE QD yM (WE.pe (qh (zf ⟨T.cls_Run,T.na_Run_payments⟩ zg) (z (U 0)))) (WA.pe (za (yr (za (qo zA rfl T.n_len boot_len (za (qh (zf ⟨T.cls_Run,T.na_Run_errands⟩ zg) (z (U 0))) zc)) (za (z (U 1)) (za (yd zh (qh (zf ⟨T.cls_Run,T.na_Run_taken⟩ zg) (z (U 0))) (z (U 1))) zc)))) zc)))))
  (qd (zmI (qh (zf ⟨T.cls_Run,T.na_Run_taken⟩ zg) (z (U 0))) (z (U 1)) zsp yc zo6 zgD))))
end
noncomputable def zfU(J I:Addr):X5:=
 (yg (ym 2 (zj [J] "state" (eOp ixT (zj [I] "errands" (O 0)) (O 1))))
 (yg (ym 3 (ze (zU J I) (zb (O 0) (zb (eOp ixT (ze (qA J I) (zb (O 0) (zb (O 1) zd))) (eOp ixT (O 2) (eC (.int 1)))) zd))))
 (yg (sIf (yw (eOp zbK (O 3) (eC .non))) (yE (ze (zcy J I) (zb (O 0) (zb (O 3) zd)))) qR)
 (yE (ze (zal J I) (zb (O 0) (zb (O 1) (zb (eOp ixT (O 2) (eC (.int 1))) (zb (eOp yD (eOp ixT (O 2) (eC (.int 2))) (eC (.int 1))) zd)))))))))
noncomputable def zcx(J I:Addr):X2:=yi 2 4 (zfU J I)
section
theorem zdc:FnScope ["run","number","state","purse"] ["run","number"] (ye zdK):=by ac_rfl
theorem zbE(D:Df K mg "try_again" zdK ["run","number"])(T:Txt K mg J I)   (qI:CalT P w K mg base 2 "purse_of" ["run","ask"] (zU J I)) (yH:CalT P w K mg base 15 "begin_try" ["run","number","at","tried"] (zal J I)) (zbF:CalT P w K mg base 1 "take_coin" ["run","purse"] (zcy J I)) (zq:CalT P w K mg base 1 "asks_of" ["run","number"] (qA J I)):CalT P w K mg base 16 "try_again" ["run","number"] (zcx J I):=
 yt D zdc rfl rfl (fun f cdv A outer s H E hr=>(qc (qg (i:=2) zdc.nd rfl (Or.inl rfl) (qh (zf ⟨T.cls_Errand,T.na_Errand_state⟩ zg) (yd zh (qh (zf ⟨T.cls_Run,T.na_Run_errands⟩ zg) (z (U 0))) (z (U 1)))))
  (qc (qg (i:=3) zdc.nd rfl (Or.inl rfl) (X9 qI hr (za (z (U 0)) (za (yd zh (X9 zq hr (za (z (U 0)) (za (z (U 1)) zc))) (yd zh (z (U 2)) yc)) zc))))
  (qc (zC (qr ze5 (z (U 3)) y8 (zu _)) (qd (qv (X9 zbF hr (za (z (U 0)) (za (z (U 3)) zc))))) yy)
  (qd (qv (X9 yH hr (za (z (U 0)) (za (z (U 1)) (za (yd zh (z (U 2)) yc) (za (yh zw (yd zh (z (U 2)) yc) yc) zc)))))))))))
end
noncomputable def zkz(J I:Addr):X5:=
 (yE (ze (za8 J I) (zb (O 0) (zb (O 1) (zb (eOp ixT (eOp ixT (ze (qA J I) (zb (O 0) (zb (O 1) zd))) (eOp ixT (zj [J] "state" (eOp ixT (zj [I] "errands" (O 0)) (O 1))) (eC (.int 1)))) (eC (.int 3))) zd)))))
noncomputable def zfE(J I:Addr):X2:=yi 2 2 (zkz J I)
section
theorem zmT:FnScope ["run","number"] ["run","number"] (ye zhn):=by ac_rfl
theorem zef(D:Df K mg "go_up" zhn ["run","number"])(T:Txt K mg J I)   (yN:CalT P w K mg base 28 "end_errand" ["run","number","word"] (za8 J I)) (zq:CalT P w K mg base 1 "asks_of" ["run","number"] (qA J I)):CalT P w K mg base 29 "go_up" ["run","number"] (zfE J I):=
 yt D zmT rfl rfl (fun f cdv A outer s H E hr=>(qd (qv (X9 yN hr (za (z (U 0)) (za (z (U 1)) (za (yd zh (yd zh (X9 zq hr (za (z (U 0)) (za (z (U 1)) zc))) (yd zh (qh (zf ⟨T.cls_Errand,T.na_Errand_state⟩ zg) (yd zh (qh (zf ⟨T.cls_Run,T.na_Run_errands⟩ zg) (z (U 0))) (z (U 1)))) yc)) yc) zc)))))))
end
noncomputable def zgV(J I:Addr):X5:=
 (yg (sIf (yw (eOp eqA (eOp ixT (O 1) (eC (.int 0))) (eC (.str "fresh")))) (yE (ze (zcq J I) (zb (O 0) (zb (eC (.int 0)) (zb (eC .non) zd))))) (sIf (yw (eOp eqA (eOp ixT (O 1) (eC (.int 0))) (eC (.str "ends")))) (yE (ze (za8 J I) (zb (O 0) (zb (eOp ixT (O 1) (eC (.int 1))) (zb (eOp ixT (O 1) (eC (.int 2))) zd))))) (sIf (yw (eOp eqA (eOp ixT (O 1) (eC (.int 0))) (eC (.str "lost")))) (yE (ze (zg1 J I) (zb (O 0) (zb (eOp ixT (O 1) (eC (.int 1))) zd)))) (sIf (yw (eOp eqA (eOp ixT (O 1) (eC (.int 0))) (eC (.str "again")))) (yE (ze (zcx J I) (zb (O 0) (zb (eOp ixT (O 1) (eC (.int 1))) zd)))) (yE (ze (zfE J I) (zb (O 0) (zb (eOp ixT (O 1) (eC (.int 1))) zd))))))))
 (zgH [I] "came" (O 0) 1))
noncomputable def zac(J I:Addr):X2:=yi 2 2 (zgV J I)
section
theorem zjG:FnScope ["run","event"] ["run","event"] (ye zeo):=by ac_rfl
theorem zaf(D:Df K mg "let_come" zeo ["run","event"])(T:Txt K mg J I)   (qS:CalT P w K mg base 15 "begin_errand" ["run","house","caller"] (zcq J I)) (yN:CalT P w K mg base 28 "end_errand" ["run","number","word"] (za8 J I)) (zfm:CalT P w K mg base 29 "lose" ["run","number"] (zg1 J I)) (zbE:CalT P w K mg base 16 "try_again" ["run","number"] (zcx J I)) (zef:CalT P w K mg base 29 "go_up" ["run","number"] (zfE J I)):CalT P w K mg base 30 "let_come" ["run","event"] (zac J I):=
 yt D zjG rfl rfl (fun f cdv A outer s H E hr=>(qc (zC (qr (yJ hr.units) (yd zh (z (U 1)) yc) zl (zu _)) (qd (qv (X9 qS hr (za (z (U 0)) (za yc (za y8 zc)))))) (qd (zC (qr (yJ hr.units) (yd zh (z (U 1)) yc) zl (zu _)) (qd (qv (X9 yN hr (za (z (U 0)) (za (yd zh (z (U 1)) yc) (za (yd zh (z (U 1)) yc) zc)))))) (qd (zC (qr (yJ hr.units) (yd zh (z (U 1)) yc) zl (zu _)) (qd (qv (X9 zfm hr (za (z (U 0)) (za (yd zh (z (U 1)) yc) zc))))) (qd (zC (qr (yJ hr.units) (yd zh (z (U 1)) yc) zl (zu _)) (qd (qv (X9 zbE hr (za (z (U 0)) (za (yd zh (z (U 1)) yc) zc))))) (qd (qv (X9 zef hr (za (z (U 0)) (za (yd zh (z (U 1)) yc) zc))))))))))))
  (qd (zmH (zf ⟨T.cls_Run,T.na_Run_came⟩ zg) (z (U 0))))))
end
noncomputable def zfo(J I kN:Addr):X5:=
 (yg (yE (ze (qG J I kN) (zb (O 2) (zb (O 3) zd))))
 (yE (ze (zac J I) (zb (O 2) (zb (O 3) zd)))))
noncomputable def zjf(J I kN:Addr):X5:=
 (yg (ym 2 (zcW I (zad J I) (zb (O 0) zd)))
 (yg (za3 (zaE (O 1)) (yj 3) (zfo J I kN))
 (zB (O 2))))
noncomputable def zco(J I kN:Addr):X2:=zS 2 4 (zjf J I kN)
section
theorem zeV:FnScope ["net","events","run","event"] ["net","events"] (ye zf8):=by ac_rfl
theorem zbb(D:Df K mg "run_of" zf8 ["net","events"])(T:Txt K mg J I)   (zdz:MakT P w K mg base 1 "Run" I ["self","net"] (zad J I)) (zQ:CalX P w K mg base 6 "check_event" ["run","event"] (qG J I kN)) (zaf:CalT P w K mg base 30 "let_come" ["run","event"] (zac J I)):CalX P w K mg base 31 "run_of" ["net","events"] (zco J I kN):=
 zbO D zeV rfl rfl (fun f cdv A outer s H E hr=>(qc (qg (i:=2) zeV.nd rfl (Or.inl rfl) (zf4 zdz (hr.mono ∅) rfl (za (z (U 0)) zc)))
  (qc (qQ PassesOwn.leaving rfl (qW (z (U 1))) (zm (zo (i:=3) zeV.nd rfl (by and_intros))) (qc (qv (zck zQ (hr.mono ∅) rfl (zd8 rfl rfl rfl rfl) (za (z (U 2)) (za (z (U 3)) zc))))
  (qd (qv (X9 zaf hr (za (z (U 2)) (za (z (U 3)) zc)))))))
  (qd (yn (z (U 2)))))))
end
noncomputable def zf2(J I kN:Addr):X5:=
 (yE (zbC zcw zeJ (O 3) (zb (ze (zak J I) (zb (O 2) (zb (O 4) zd))) zd)))
noncomputable def zgU(J I kN:Addr):X5:=
 (yg (ym 2 (ze (zco J I kN) (zb (O 0) (zb (O 1) zd))))
 (yg (ym 3 (eTk (zx (zb (eC (.tup [.str "fresh"])) zd))))
 (yg (za3 (y9 (zb (ze (qB yB) (zb (zj [I] "errands" (O 2)) zd)) zd)) (yj 4) (zf2 J I kN))
 (zB (O 3)))))
noncomputable def zeG(J I kN:Addr):X2:=zS 2 5 (zgU J I kN)
noncomputable def zbj(J I kN:Addr):X2:=zfj (zeG J I kN)
section
theorem zct:FnScope ["net","events","run","told","number"] ["net","events"] (ye zen):=by ac_rfl
theorem zae(D:Df K mg "may_come" zen ["net","events"])(T:Txt K mg J I)   (zbb:CalX P w K mg base 31 "run_of" ["net","events"] (zco J I kN)) (z3:CalT P w K mg base 4 "events_at" ["run","number"] (zak J I)):CalX P w K mg base 32 "may_come" ["net","events"] (zeG J I kN):=
 zbO D zct rfl rfl (fun f cdv A outer s H E hr=>(qc (qg (i:=2) zct.nd rfl (Or.inl rfl) (zck zbb (hr.mono ∅) rfl (zd8 rfl rfl rfl rfl) (za (z (U 0)) (za (z (U 1)) zc))))
  (qc (qg (i:=3) zct.nd rfl (Or.inl rfl) (yY (yq (za (zhS (ss:=["fresh"]) rfl T.c_FRESH) zc))))
  (qc (qQ PassesOwn.leaving rfl (zT rfl T.n_range (za (qo zA rfl T.n_len boot_len (za (qh (zf ⟨T.cls_Run,T.na_Run_errands⟩ zg) (z (U 2))) zc)) zc)) (zm (zo (i:=4) zct.nd rfl (by and_intros))) (qd (qv (zeh zgz (zaq QC PySem.F.slot_list_extend PySem.F.type_list_extend zhw (WE.pe (z (U 3))) (WA.pe (za (X9 z3 hr (za (z (U 2)) (za (z (U 4)) zc))) zc)))))))
  (qd (yn (z (U 3))))))))
end
noncomputable def zh2(J I:Addr):X5:=
 (yg (ym 1 (eFz (yP (zaX (zj [I] "errands" (O 0))) (yj 0) qK (zE (zb (zj [J] "house" (O 0)) (zb (zj [J] "caller" (O 0)) (zb (zj [J] "state" (O 0)) zd)))) ["errand"] [])))
 (zB (zE (zb (O 1) (zb (eFz (yX (y9 (zb (ze (qB yB) (zb (eOp ixT (zj [I] "net" (O 0)) (eC (.int 1))) zd)) zd)) (yj 0) qK (ze (yV J I) (zb (O 1) (zb (O 0) zd))) ["purse"] [("run",0)])) zd)))))
noncomputable def za6(J I:Addr):X2:=yi 1 2 (zh2 J I)
section
theorem zgE:FnScope ["run","errands"] ["run"] (ye zeX):=by ac_rfl
theorem zay(D:Df K mg "told_of" zeX ["run"])(T:Txt K mg J I)   (yW:CalT P w K mg base 2 "purse_told" ["run","purse"] (yV J I)):CalT P w K mg base 3 "told_of" ["run"] (za6 J I):=
 yt D zgE rfl rfl (fun f cdv A outer s H E hr=>(qc (zij (i0:=1) (tgs:=["errand"]) (ζ:=[]) (zcj (qh (zf ⟨T.cls_Run,T.na_Run_errands⟩ zg) (z (U 0)))) (by bv_omega) (fun _ _ _=>(zm (zo (i:=0) (show(["errand"]:List Str).Nodup by decide +kernel) rfl (by and_intros)))) (fun _ _ _=>yQ) (fun _ _ _=>(yr (za (qh (zf ⟨T.cls_Errand,T.na_Errand_house⟩ zg) (z (U 0))) (za (qh (zf ⟨T.cls_Errand,T.na_Errand_caller⟩ zg) (z (U 0))) (za (qh (zf ⟨T.cls_Errand,T.na_Errand_state⟩ zg) (z (U 0))) zc))))) zgE.nd rfl (Or.inl rfl))
  (qd (yn (yr (za (z (U 1)) (za (qx (zaz (tgs:=["purse"]) (ζ:=[("run",0)]) (zT rfl T.n_range (za (qo zA rfl T.n_len boot_len (za (yd zh (qh (zf ⟨T.cls_Run,T.na_Run_net⟩ zg) (z (U 0))) yc) zc)) zc)) (by bv_omega) (fun _ _ _=>(zm (zo (i:=0) (show(["purse","run"]:List Str).Nodup by decide +kernel) rfl (by and_intros)))) (fun _ _ _=>yQ) (fun _ _ _=>(X9 yW hr (za (z (U 1)) (za (z (U 0)) zc)))))) zc)))))))
end
noncomputable def znX(J I kN:Addr):X5:=
 (zB (ze (za6 J I) (zb (ze (zco J I kN) (zb (O 0) (zb (O 1) zd))) zd)))
noncomputable def zlj(J I kN:Addr):X2:=zS 2 2 (znX J I kN)
noncomputable def zix(J I kN:Addr):X2:=zbL (zlj J I kN)
section
theorem zpT:FnScope ["net","events"] ["net","events"] (ye zkZ):=by ac_rfl
theorem zfL(D:Df K mg "ran" zkZ ["net","events"])(T:Txt K mg J I)   (zay:CalT P w K mg base 3 "told_of" ["run"] (za6 J I)) (zbb:CalX P w K mg base 31 "run_of" ["net","events"] (zco J I kN)):CalX P w K mg base 32 "ran" ["net","events"] (zlj J I kN):=
 zbO D zpT rfl rfl (fun f cdv A outer s H E hr=>(qd (yn (X9 zay hr (za (zck zbb (hr.mono ∅) rfl (zd8 rfl rfl rfl rfl) (za (z (U 0)) (za (z (U 1)) zc))) zc)))))
end
noncomputable def zjC(J I:Addr):X5:=
 (yg (ym 10 (eOp yD (eOp yD (eOp ixD (O 2) (O 3)) (O 11)) (eOp zbs (O 9) (eOp zbR (O 8) (O 12)))))
 (yg (ym 8 (eOp zcQ (O 8) (O 12)))
 (ym 9 (eOp zbs (O 9) (O 12)))))
noncomputable def zky(J I:Addr):X5:=
 (yg (zgd (eOp ixD (O 1) (O 3)) (zbd 3 (zF (yj 4) (zF (yj 5) (zF (yj 6) zbe)))))
 (yg (ym 7 (eOp ixD (eOp ixD (O 0) (O 4)) (eOp ixD (O 6) (eC (.int 1)))))
 (yg (ym 8 (O 3))
 (yg (ym 9 (eC (.int 1)))
 (yg (ym 10 (eOp ixD (O 2) (O 3)))
 (yg (za3 (zaE (eSl (O 7) zey (zcU (ze (call2 zhx) (zb (eOp ixD (O 6) (eC (.int 2))) (zb (ze (qB zhz) (zb (O 7) zd)) zd)))))) (zbd 2 (zF (yj 11) (zF (yj 12) zbe))) (zjC J I))
 (zB (O 10))))))))
noncomputable def zcp(J I:Addr):X2:=yi 4 13 (zky J I)
section
theorem yR:FnScope ["waits","errands","stood","n","house","caller","state","strewing","rest","ahead","tick","wait","width"] ["waits","errands","stood","n"] (ye zhm):=by ac_rfl
theorem zb1(D:Df K mg "_law_due" zhm ["waits","errands","stood","n"])(T:Txt K mg J I)   :CalT P w K mg base 1 "_law_due" ["waits","errands","stood","n"] (zcp J I):=
 yt D yR rfl rfl (fun f cdv A outer s H E hr=>(qc (zd0 (yd (zbt hr.units) (z (U 1)) (z (U 3))) (zaQ (zbx rfl (WGs.pe (yz (qD (WG.pe (zm (zo (i:=4) yR.nd rfl (by and_intros)))) (WGs.pe (yz (qD (WG.pe (zm (zo (i:=5) yR.nd rfl (by and_intros)))) (WGs.pe (yz (qD (WG.pe (zm (zo (i:=6) yR.nd rfl (by and_intros)))) (WGs.pe zah)))))))))))))
  (qc (qg (i:=7) yR.nd rfl (Or.inl rfl) (yd (zbt hr.units) (yd (zbt hr.units) (z (U 0)) (z (U 4))) (yd (zbt hr.units) (z (U 6)) yc)))
  (qc (qg (i:=8) yR.nd rfl (Or.inl rfl) (z (U 3)))
  (qc (qg (i:=9) yR.nd rfl (Or.inl rfl) yc)
  (qc (qg (i:=10) yR.nd rfl (Or.inl rfl) (yd (zbt hr.units) (z (U 2)) (z (U 3))))
  (qc (qQ PassesOwn.never rfl (qW (zd1 (z (U 7)) zc8 (zbN (qo (zic rfl) rfl T.n_min boot_min (za (yd (zbt hr.units) (z (U 6)) yc) (za (qo zid rfl T.n_len boot_len (za (z (U 7)) zc)) zc)))))) (zaQ (zbx rfl (WGs.pe (yz (qD (WG.pe (zm (zo (i:=11) yR.nd rfl (by and_intros)))) (WGs.pe (yz (qD (WG.pe (zm (zo (i:=12) yR.nd rfl (by and_intros)))) (WGs.pe zah))))))))) (qc (qg (i:=10) yR.nd rfl (Or.inl rfl) (yh zw (yh zw (yd (zbt hr.units) (z (U 2)) (z (U 3))) (z (U 11))) (yh zc2 (z (U 9)) (yh zbk (z (U 8)) (z (U 12))))))
  (qc (qg (i:=8) yR.nd rfl (Or.inl rfl) (yh zeb (z (U 8)) (z (U 12))))
  (qd (qg (i:=9) yR.nd rfl (Or.inl rfl) (yh zc2 (z (U 9)) (z (U 12))))))))
  (qd (yn (z (U 10)))))))))))
end
noncomputable def zeO(J I kN:Addr):X5:=
 (yg (ym 8 (ze (za7 J I) (zb (O 7) zd)))
 (yg (ym 9 (ze (zdG J I) (zb (O 8) (zb (ze (zbj J I kN) (zb (O 0) (zb (eFz (yP (zaX (O 3)) (zbd 2 (zF (yj 0) (zF (yj 1) zbe))) qK (O 1) ["at","one"] [])) zd))) zd))))
 (yg (ym 6 (eOp yD (O 6) (eOp ixD (eFz (zx (zb (eC (.int 0)) (zb (eC (.int 0)) (zb (eC (.int 1)) (zb (eC (.int 1)) (zb (eC (.int 2)) (zb (ze (zr J I) (zb (O 8) (zb (eC (.int 9)) zd))) (zb (eC (.int 0)) (zb (eOp zdU (eC (.int 10)) (eC (.int 40))) zd)))))))))) (ze (zr J I) (zb (O 8) (zb (eC (.int 8)) zd))))))
 (yg (sIf (yw (eOp eqA (eOp ixD (O 9) (eC (.int 0))) (eC (.str "again")))) (ym 6 (ze (call2 ze9) (zb (O 6) (zb (ze (zcp J I) (zb (O 1) (zb (O 4) (zb (O 5) (zb (eOp ixD (O 9) (eC (.int 1))) zd))))) zd)))) qR)
 (yg (yE (zaJ z7 (eUn zL (O 3)) (zb (zE (zb (O 6) (zb (O 9) zd))) zd)))
 (yg (ym 10 (O 4))
 (yg (ym 4 (eOp ixD (ze (zix J I kN) (zb (O 0) (zb (eFz (yP (zaX (O 3)) (zbd 2 (zF (yj 0) (zF (yj 1) zbe))) qK (O 1) ["at","one"] [])) zd))) (eC (.int 0))))
 (yE (ze (zeH J I) (zb (O 10) (zb (O 4) (zb (O 5) (zb (O 6) zd)))))))))))))
noncomputable def zh6(J I kN:Addr):X5:=
 (yg (ym 3 (eTk (zx zd)))
 (yg (ym 4 (eFz (zx zd)))
 (yg (ym 5 znF)
 (yg (ym 6 (eC (.int 0)))
 (yg (za3 (zaE (O 2)) (yj 7) (zeO J I kN))
 (zB (zE (zb (O 3) (zb (O 4) (zb (O 5) zd))))))))))
noncomputable def zdF(J I kN:Addr):X2:=yi 3 11 (zh6 J I kN)
section
theorem qN:FnScope ["net","waits","cells","pairs","errands","stood","tick","cell","own","event","ahead"] ["net","waits","cells"] (ye ze1):=by ac_rfl
theorem zcG(D:Df K mg "_law_timed" ze1 ["net","waits","cells"])(T:Txt K mg J I)   (zaK:CalT P w K mg base 1 "_law_left" ["cell"] (za7 J I)) (zcH:CalT P w K mg base 2 "_law_drawn" ["own","some"] (zdG J I)) (zdu:CalT P w K mg base 1 "_law_kept" ["ahead","errands","stood","tick"] (zeH J I)) (zae:CalT P w K mg base 32 "may_come" ["net","events"] (zbj J I kN)) (zfL:CalT P w K mg base 32 "ran" ["net","events"] (zix J I kN)) (zn:CalT P w K mg base 1 "_law_next" ["pool","base"] (zr J I)) (zb1:CalT P w K mg base 1 "_law_due" ["waits","errands","stood","n"] (zcp J I)):CalT P w K mg base 33 "_law_timed" ["net","waits","cells"] (zdF J I kN):=
 yt D qN rfl rfl (fun f cdv A outer s H E hr=>(qc (qg (i:=3) qN.nd rfl (Or.inl rfl) (yY (yq zc)))
  (qc (qg (i:=4) qN.nd rfl (Or.inl rfl) (qx (yq zc)))
  (qc (qg (i:=5) qN.nd rfl (Or.inl rfl) zn6)
  (qc (qg (i:=6) qN.nd rfl (Or.inl rfl) yc)
  (qc (qQ PassesOwn.never rfl (qW (z (U 2))) (zm (zo (i:=7) qN.nd rfl (by and_intros))) (qc (qg (i:=8) qN.nd rfl (Or.inl rfl) (X9 zaK hr (za (z (U 7)) zc)))
  (qc (qg (i:=9) qN.nd rfl (Or.inl rfl) (X9 zcH hr (za (z (U 8)) (za (X9 zae hr (za (z (U 0)) (za (qx (zcA (tgs:=["at","one"]) (ζ:=[]) (zcj (z (U 3))) (by bv_omega) (fun _ _ _=>(zaQ (zbx rfl (WGs.pe (yz (qD (WG.pe (zm (zo (i:=0) (show(["at","one"]:List Str).Nodup by decide +kernel) rfl (by and_intros)))) (WGs.pe (yz (qD (WG.pe (zm (zo (i:=1) (show(["at","one"]:List Str).Nodup by decide +kernel) rfl (by and_intros)))) (WGs.pe zah)))))))))) (fun _ _ _=>yQ) (fun _ _ _=>(z (U 1))))) zc))) zc))))
  (qc (qg (i:=6) qN.nd rfl (Or.inl rfl) (yh zw (z (U 6)) (yd (zbt hr.units) (qx (yq (za yc (za yc (za yc (za yc (za yc (za (X9 zn hr (za (z (U 8)) (za yc zc))) (za yc (za (yh zbY yc yc) zc)))))))))) (X9 zn hr (za (z (U 8)) (za yc zc))))))
  (qc (zC (qr (yJ hr.units) (yd (zbt hr.units) (z (U 9)) yc) zl (zu _)) (qd (qg (i:=6) qN.nd rfl (Or.inl rfl) (qo (zcC rfl) rfl T.n_max boot_max (za (z (U 6)) (za (X9 zb1 hr (za (z (U 1)) (za (z (U 4)) (za (z (U 5)) (za (yd (zbt hr.units) (z (U 9)) yc) zc))))) zc))))) yy)
  (qc (qv (z9 (zaq QC QE QD yM (WE.pe (z (U 3))) (WA.pe (za (yr (za (z (U 6)) (za (z (U 9)) zc))) zc)))))
  (qc (qg (i:=10) qN.nd rfl (Or.inl rfl) (z (U 4)))
  (qc (qg (i:=4) qN.nd rfl (Or.inl rfl) (yd (zbt hr.units) (X9 zfL hr (za (z (U 0)) (za (qx (zcA (tgs:=["at","one"]) (ζ:=[]) (zcj (z (U 3))) (by bv_omega) (fun _ _ _=>(zaQ (zbx rfl (WGs.pe (yz (qD (WG.pe (zm (zo (i:=0) (show(["at","one"]:List Str).Nodup by decide +kernel) rfl (by and_intros)))) (WGs.pe (yz (qD (WG.pe (zm (zo (i:=1) (show(["at","one"]:List Str).Nodup by decide +kernel) rfl (by and_intros)))) (WGs.pe zah)))))))))) (fun _ _ _=>yQ) (fun _ _ _=>(z (U 1))))) zc))) yc))
  (qd (qv (X9 zdu hr (za (z (U 10)) (za (z (U 4)) (za (z (U 5)) (za (z (U 6)) zc)))))))))))))))
  (qd (yn (yr (za (z (U 3)) (za (z (U 4)) (za (z (U 5)) zc))))))))))))
end
noncomputable def zhe(J I:Addr):X5:=
 (yE (zbC zcw zeJ (O 3) (zb (eFz (zx (zb (zE (zb (eC (.str "lost")) (zb (O 4) zd))) (zb (zE (zb (eC (.str "again")) (zb (O 4) zd))) (zb (zE (zb (eC (.str "up")) (zb (O 4) zd))) (zb (zE (zb (eC (.str "ends")) (zb (O 4) (zb (eC (.str "well")) zd)))) (zb (zE (zb (eC (.str "ends")) (zb (O 4) (zb (eC (.str "none")) zd)))) zd))))))) zd)))
noncomputable def zh4(J I:Addr):X5:=
 (yg (ym 3 (eTk (zx zd)))
 (yg (za3 (zaE (eFz (zx (zb (ze (zr J I) (zb (O 0) (zb (eOp yD (O 2) (eC (.int 2))) zd))) (zb (eOp zdU (eC (.int 10)) (eC (.int 40))) (zb (eUn zi7 (eC (.int 1))) zd)))))) (yj 4) (zhe J I))
 (zB (eOp ixT (eFz (yP (zaX (O 3)) (yj 0) (yw (eOp zgk (O 0) (O 1))) (O 0) ["event"] [("some",1)])) (ze (zr J I) (zb (O 0) (zb (eC (.int 6)) zd)))))))
noncomputable def zdD(J I:Addr):X2:=yi 3 5 (zh4 J I)
section
theorem zel:FnScope ["own","some","many","found","n"] ["own","some","many"] (ye zeZ):=by ac_rfl
theorem zcE(D:Df K mg "_law_wrong" zeZ ["own","some","many"])(T:Txt K mg J I)   (zn:CalT P w K mg base 1 "_law_next" ["pool","base"] (zr J I)):CalT P w K mg base 2 "_law_wrong" ["own","some","many"] (zdD J I):=
 yt D zel rfl rfl (fun f cdv A outer s H E hr=>(qc (qg (i:=3) zel.nd rfl (Or.inl rfl) (yY (yq zc)))
  (qc (qQ PassesOwn.never rfl (qW (qx (yq (za (X9 zn hr (za (z (U 0)) (za (yh zw (z (U 2)) yc) zc))) (za (yh zbY yc yc) (za (zpJ zn8 yc) zc)))))) (zm (zo (i:=4) zel.nd rfl (by and_intros))) (qd (qv (zeh zgz (zaq QC PySem.F.slot_list_extend PySem.F.type_list_extend zhw (WE.pe (z (U 3))) (WA.pe (za (qx (yq (za (yr (za zl (za (z (U 4)) zc))) (za (yr (za zl (za (z (U 4)) zc))) (za (yr (za zl (za (z (U 4)) zc))) (za (yr (za zl (za (z (U 4)) (za zl zc)))) (za (yr (za zl (za (z (U 4)) (za zl zc)))) zc))))))) zc)))))))
  (qd (yn (yd zh (qx (zcA (tgs:=["event"]) (ζ:=[("some",1)]) (zcj (z (U 3))) (by bv_omega) (fun _ _ _=>(zm (zo (i:=0) (show(["event","some"]:List Str).Nodup by decide +kernel) rfl (by and_intros)))) (fun _ _ _=>(zf3 (qr (zoF hr.units) (z (U 0)) (z (U 1)) rfl))) (fun _ _ _=>(z (U 0))))) (X9 zn hr (za (z (U 0)) (za yc zc)))))))))
end
noncomputable def zfn(J I:Addr):X5:=
 (zk1 2 zi8 (O 4))
noncomputable def zfX(J I:Addr):X5:=
 (yg (ym 2 (eC (.int 1)))
 (yg (za3 (zaE (eSl (O 0) zey (zcU (O 1)))) (zbd 2 (zF (yj 3) (zF (yj 4) zbe))) (zfn J I))
 (zB (O 2))))
noncomputable def zbB(J I:Addr):X2:=yi 2 5 (zfX J I)
section
theorem za0:FnScope ["strewing","j","spread","wait","width"] ["strewing","j"] (ye zdN):=by ac_rfl
theorem zbG(D:Df K mg "spread_of" zdN ["strewing","j"])(T:Txt K mg J I)   :CalT P w K mg base 1 "spread_of" ["strewing","j"] (zbB J I):=
 yt D za0 rfl rfl (fun f cdv A outer s H E hr=>(qc (qg (i:=2) za0.nd rfl (Or.inl rfl) yc)
  (qc (qQ PassesOwn.never rfl (qW (zd1 (z (U 0)) zc8 (zbN (z (U 1))))) (zaQ (zbx rfl (WGs.pe (yz (qD (WG.pe (zm (zo (i:=3) za0.nd rfl (by and_intros)))) (WGs.pe (yz (qD (WG.pe (zm (zo (i:=4) za0.nd rfl (by and_intros)))) (WGs.pe zah))))))))) (qd (zn2 (i:=2) za0.nd rfl (Or.inl rfl) (z (U 4)) zo5)))
  (qd (yn (z (U 2)))))))
end
noncomputable def zfT(J I:Addr):X5:=
 (yg (ym 3 (ze (zbB J I) (zb (O 0) (zb (eOp zaA (O 2) (eC (.int 1))) zd))))
 (zB (eOp yD (eOp ixT (eOp ixT (O 0) (eOp zaA (O 2) (eC (.int 1)))) (eC (.int 0))) (eOp zbs (O 3) (eOp zbR (eOp zcQ (O 1) (O 3)) (eOp ixT (eOp ixT (O 0) (eOp zaA (O 2) (eC (.int 1)))) (eC (.int 1))))))))
noncomputable def zbA(J I:Addr):X2:=yi 3 4 (zfT J I)
section
theorem zeU:FnScope ["strewing","errand","j","ahead"] ["strewing","errand","j"] (ye zdJ):=by ac_rfl
theorem zbD(D:Df K mg "waits_for" zdJ ["strewing","errand","j"])(T:Txt K mg J I)   (zbG:CalT P w K mg base 1 "spread_of" ["strewing","j"] (zbB J I)):CalT P w K mg base 2 "waits_for" ["strewing","errand","j"] (zbA J I):=
 yt D zeU rfl rfl (fun f cdv A outer s H E hr=>(qc (qg (i:=3) zeU.nd rfl (Or.inl rfl) (X9 zbG hr (za (z (U 0)) (za (yh qO (z (U 2)) yc) zc))))
  (qd (yn (yh zw (yd zh (yd zh (z (U 0)) (yh qO (z (U 2)) yc)) yc) (yh zc2 (z (U 3)) (yh zbk (yh zeb (z (U 1)) (z (U 3))) (yd zh (yd zh (z (U 0)) (yh qO (z (U 2)) yc)) yc))))))))
end
noncomputable def zff(J I:Addr):X5:=
 (yg (ym 4 (eOp ixT (zj [I] "errands" (O 0)) (O 3)))
 (yg (ym 5 (eOp ixT (eOp ixT (O 1) (zj [J] "house" (O 4))) (eOp ixT (zj [J] "state" (O 4)) (eC (.int 1)))))
 (yg (ym 6 (ze (call2 zhx) (zb (eOp ixT (zj [J] "state" (O 4)) (eC (.int 2))) (zb (ze (qB yB) (zb (O 5) zd)) zd))))
 (zB (eOp yD (eOp ixT (eOp ixT (O 2) (zj [J] "stood" (O 4))) (eC (.int 0))) (ze (zbA J I) (zb (O 5) (zb (O 3) (zb (O 6) zd)))))))))
noncomputable def y6(J I:Addr):X2:=yi 4 7 (zff J I)
section
theorem zbI:FnScope ["run","waits","pairs","number","errand","strewing","j"] ["run","waits","pairs","number"] (ye zdd):=by ac_rfl
theorem zW(D:Df K mg "soonest_of" zdd ["run","waits","pairs","number"])(T:Txt K mg J I)   (zbD:CalT P w K mg base 2 "waits_for" ["strewing","errand","j"] (zbA J I)):CalT P w K mg base 3 "soonest_of" ["run","waits","pairs","number"] (y6 J I):=
 yt D zbI rfl rfl (fun f cdv A outer s H E hr=>(qc (qg (i:=4) zbI.nd rfl (Or.inl rfl) (yd zh (qh (zf ⟨T.cls_Run,T.na_Run_errands⟩ zg) (z (U 0))) (z (U 3))))
  (qc (qg (i:=5) zbI.nd rfl (Or.inl rfl) (yd zh (yd zh (z (U 1)) (qh (zf ⟨T.cls_Errand,T.na_Errand_house⟩ zg) (z (U 4)))) (yd zh (qh (zf ⟨T.cls_Errand,T.na_Errand_state⟩ zg) (z (U 4))) yc)))
  (qc (qg (i:=6) zbI.nd rfl (Or.inl rfl) (qo (zic rfl) rfl T.n_min boot_min (za (yd zh (qh (zf ⟨T.cls_Errand,T.na_Errand_state⟩ zg) (z (U 4))) yc) (za (qo zA rfl T.n_len boot_len (za (z (U 5)) zc)) zc))))
  (qd (yn (yh zw (yd zh (yd zh (z (U 2)) (qh (zf ⟨T.cls_Errand,T.na_Errand_stood⟩ zg) (z (U 4)))) yc) (X9 zbD hr (za (z (U 5)) (za (z (U 3)) (za (z (U 6)) zc)))))))))))
end
noncomputable def zbf(J I kN:Addr):X5:=
 (yg (yE (ze (qG J I kN) (zb (O 3) (zb (O 5) zd))))
 (yg (sIf (zcT (yw (eOp eqA (eOp ixT (O 5) (eC (.int 0))) (eC (.str "again")))) (yw (eOp ltI (O 4) (ze (y6 J I) (zb (O 3) (zb (O 1) (zb (O 2) (zb (eOp ixT (O 5) (eC (.int 1))) zd)))))))) (zd4 (zb7 kN) (zb (zj [I] "came" (O 3)) zd)) qR)
 (yE (ze (zac J I) (zb (O 3) (zb (O 5) zd))))))
noncomputable def zfV(J I kN:Addr):X5:=
 (yg (ym 3 (zcW I (zad J I) (zb (O 0) zd)))
 (yg (za3 (zaE (O 2)) (zbd 2 (zF (yj 4) (zF (yj 5) zbe))) (zbf J I kN))
 (zB (O 3))))
noncomputable def zH(J I kN:Addr):X2:=zS 3 6 (zfV J I kN)
section
theorem zb4:FnScope ["net","waits","pairs","run","tick","event"] ["net","waits","pairs"] (ye zdL):=by ac_rfl
theorem zZ(D:Df K mg "timed_run" zdL ["net","waits","pairs"])(T:Txt K mg J I)(x_NoEvent:XcF P w K mg base "NoEvent" kN)  (zdz:MakT P w K mg base 1 "Run" I ["self","net"] (zad J I)) (zQ:CalX P w K mg base 6 "check_event" ["run","event"] (qG J I kN)) (zaf:CalT P w K mg base 30 "let_come" ["run","event"] (zac J I)) (zW:CalT P w K mg base 3 "soonest_of" ["run","waits","pairs","number"] (y6 J I)):CalX P w K mg base 31 "timed_run" ["net","waits","pairs"] (zH J I kN):=
 zbO D zb4 rfl rfl (fun f cdv A outer s H E hr=>(qc (qg (i:=3) zb4.nd rfl (Or.inl rfl) (zf4 zdz (hr.mono ∅) rfl (za (z (U 0)) zc)))
  (qc (qQ PassesOwn.leaving rfl (qW (z (U 2))) (zaQ (zbx rfl (WGs.pe (yz (qD (WG.pe (zm (zo (i:=4) zb4.nd rfl (by and_intros)))) (WGs.pe (yz (qD (WG.pe (zm (zo (i:=5) zb4.nd rfl (by and_intros)))) (WGs.pe zah))))))))) (qc (qv (zck zQ (hr.mono ∅) rfl (zd8 rfl rfl rfl rfl) (za (z (U 3)) (za (z (U 5)) zc))))
  (qc (zC (WW.gt (zci (qr (yJ hr.units) (yd zh (z (U 5)) yc) zl (zu _)) (zbM (qr zd9 (z (U 4)) (X9 zW hr (za (z (U 3)) (za (z (U 1)) (za (z (U 2)) (za (yd zh (z (U 5)) yc) zc))))) (zu _))))) (qd (zgx x_NoEvent (hr.mono ∅) rfl rfl rfl rfl rfl (za (qh (zf ⟨T.cls_Run,T.na_Run_came⟩ zg) (z (U 3))) zc))) yy)
  (qd (qv (X9 zaf hr (za (z (U 3)) (za (z (U 5)) zc))))))))
  (qd (yn (z (U 3)))))))
end
noncomputable def zhI(J I kN:Addr):X5:=
 (zB (ze (za6 J I) (zb (ze (zH J I kN) (zb (O 0) (zb (O 1) (zb (O 2) zd)))) zd)))
noncomputable def zc5(J I kN:Addr):X2:=zS 3 3 (zhI J I kN)
noncomputable def zft(J I kN:Addr):X2:=zbL (zc5 J I kN)
section
theorem zmS:FnScope ["net","waits","pairs"] ["net","waits","pairs"] (ye zhk):=by ac_rfl
theorem zb0(D:Df K mg "timed" zhk ["net","waits","pairs"])(T:Txt K mg J I)   (zay:CalT P w K mg base 3 "told_of" ["run"] (za6 J I)) (zZ:CalX P w K mg base 31 "timed_run" ["net","waits","pairs"] (zH J I kN)):CalX P w K mg base 32 "timed" ["net","waits","pairs"] (zc5 J I kN):=
 zbO D zmS rfl rfl (fun f cdv A outer s H E hr=>(qd (yn (X9 zay hr (za (zck zZ (hr.mono ∅) rfl (zd8 rfl rfl rfl rfl) (za (z (U 0)) (za (z (U 1)) (za (z (U 2)) zc)))) zc)))))
end
noncomputable def zh3(J I kN:Addr):X5:=
 (yg (ym 3 (ze (zH J I kN) (zb (O 0) (zb (O 1) (zb (O 2) zd)))))
 (yg (ym 4 (eFz (yX (y9 (zb (ze (qB yB) (zb (zj [I] "errands" (O 3)) zd)) zd)) (yj 0) (yw (ze (zO J I) (zb (O 1) (zb (O 0) zd)))) (O 0) ["number"] [("run",3)])))
 (zB (eTk (yX (zaE (O 4)) (yj 0) qK (zE (zb (O 0) (zb (ze (y6 J I) (zb (O 1) (zb (O 2) (zb (O 3) (zb (O 0) zd))))) zd))) ["number"] [("run",3),("waits",1),("pairs",2)])))))
noncomputable def zdC(J I kN:Addr):X2:=zS 3 5 (zh3 J I kN)
section
theorem zek:FnScope ["net","waits","pairs","run","standing"] ["net","waits","pairs"] (ye zeY):=by ac_rfl
theorem zcD(D:Df K mg "soonest" zeY ["net","waits","pairs"])(T:Txt K mg J I)   (zZ:CalX P w K mg base 31 "timed_run" ["net","waits","pairs"] (zH J I kN)) (yK:CalT P w K mg base 2 "has_tries_left" ["run","number"] (zO J I)) (zW:CalT P w K mg base 3 "soonest_of" ["run","waits","pairs","number"] (y6 J I)):CalX P w K mg base 32 "soonest" ["net","waits","pairs"] (zdC J I kN):=
 zbO D zek rfl rfl (fun f cdv A outer s H E hr=>(qc (qg (i:=3) zek.nd rfl (Or.inr rfl) (zck zZ (hr.mono ∅) rfl (zd8 rfl rfl rfl rfl) (za (z (U 0)) (za (z (U 1)) (za (z (U 2)) zc)))))
  (qc (ziK (i0:=4) (tgs:=["number"]) (ζ:=[("run",3)]) (zT rfl T.n_range (za (qo zA rfl T.n_len boot_len (za (qh (zf ⟨T.cls_Run,T.na_Run_errands⟩ zg) (z (U 3))) zc)) zc)) (by bv_omega) (fun _ _ _=>(zm (zo (i:=0) (show(["number","run"]:List Str).Nodup by decide +kernel) rfl (by and_intros)))) (fun _ _ _=>(zf3 (z8 (X9 yK hr (za (z (U 1)) (za (z (U 0)) zc)))))) (fun _ _ _=>(z (U 0))) zek.nd rfl (Or.inl rfl))
  (qd (yn (yY (zaz (tgs:=["number"]) (ζ:=[("run",3),("waits",1),("pairs",2)]) (qW (z (U 4))) (by bv_omega) (fun _ _ _=>(zm (zo (i:=0) (show(["number","run","waits","pairs"]:List Str).Nodup by decide +kernel) rfl (by and_intros)))) (fun _ _ _=>yQ) (fun _ _ _=>(yr (za (z (U 0)) (za (X9 zW hr (za (z (U 1)) (za (z (U 2)) (za (z (U 3)) (za (z (U 0)) zc))))) zc)))))))))))
end
noncomputable def zgW(J I k_NoHouse k_TooMany k_NoDeed kN:Addr):X5:=
 (yg (ym 4 (eC .non))
 (yg (zgG 5 [kN] (sIf (yw (eOp eqA (O 3) (eC (.int 0)))) (yE (ze (zc5 J I kN) (zb (O 0) (zb (O 1) (zb (eFz (ziz zfz (zb (O 2) zd))) zd))))) (yE (ze (zdC J I kN) (zb (O 0) (zb (O 1) (zb (eFz (ziz zfz (zb (O 2) zd))) zd)))))) (ym 4 (zE (zb (eUn (xat [kN]) (O 5)) (zb (eUn (isX (zcI [k_NoHouse,k_TooMany,k_NoDeed,kN])) (O 5)) (zb (eUn (isX (zcI [k_NoHouse,k_TooMany,k_NoDeed,kN])) (O 5)) (zb (eUn (isX (zbp (zat [k_NoHouse,k_TooMany,k_NoDeed,kN] k_NoDeed) (zbp (zat [k_NoHouse,k_TooMany,k_NoDeed,kN] k_NoHouse) (zat [k_NoHouse,k_TooMany,k_NoDeed,kN] k_TooMany)))) (O 5)) zd)))))))
 (zB (O 4))))
noncomputable def zeI(J I k_NoHouse k_TooMany k_NoDeed kN:Addr):X2:=yi 4 6 (zgW J I k_NoHouse k_TooMany k_NoDeed kN)
noncomputable def zb8(J I k_NoHouse k_TooMany k_NoDeed kN:Addr):X2:=zbL (zeI J I k_NoHouse k_TooMany k_NoDeed kN)
variable {k_NoDeed k_NoHouse k_TooMany:Addr}
section
theorem zcu:FnScope ["net","waits","pairs","way","found","e"] ["net","waits","pairs","way"] (ye zep):=by ac_rfl
theorem zaL(D:Df K mg "_law_caught" zep ["net","waits","pairs","way"])(T:Txt K mg J I)(x_NoEvent:XcF P w K mg base "NoEvent" kN)(i_ValueError:IsAt K mg "ValueError" (zcI [k_NoHouse,k_TooMany,k_NoDeed,kN]))(i_WeirError:IsAt K mg "WeirError" (zcI [k_NoHouse,k_TooMany,k_NoDeed,kN]))(i_NoDeed:IsAt K mg "NoDeed" (zat [k_NoHouse,k_TooMany,k_NoDeed,kN] k_NoDeed))(i_NoHouse:IsAt K mg "NoHouse" (zat [k_NoHouse,k_TooMany,k_NoDeed,kN] k_NoHouse))(i_TooMany:IsAt K mg "TooMany" (zat [k_NoHouse,k_TooMany,k_NoDeed,kN] k_TooMany))(zb0:CalX P w K mg base 32 "timed" ["net","waits","pairs"] (zc5 J I kN))(zcD:CalX P w K mg base 32 "soonest" ["net","waits","pairs"] (zdC J I kN)):CalT P w K mg base 33 "_law_caught" ["net","waits","pairs","way"] (zeI J I k_NoHouse k_TooMany k_NoDeed kN):=
 yt D zcu rfl rfl (fun f cdv A outer s H E hr=>(qc (qg (i:=4) zcu.nd rfl (Or.inl rfl) y8)
  (qc (zmG (cs:=[kN]) (j:=5) (zpI (fun _ _=>(qr (yJ hr.units) (z (U 3)) yc (zu _))) (ziJ zb0 (hr.mono ∅) rfl (fun _ _=>(za (z (U 0)) (za (z (U 1)) (za (qx (zgy zha rfl T.n_list boot_list (za (z (U 2)) zc))) zc))))) (ziJ zcD (hr.mono ∅) rfl (fun _ _=>(za (z (U 0)) (za (z (U 1)) (za (qx (zgy zha rfl T.n_list boot_list (za (z (U 2)) zc))) zc)))))) (List.forall_mem_cons.mpr ⟨x_NoEvent.sup,List.forall_mem_nil _⟩) rfl rfl rfl rfl zcu.nd rfl rfl (fun _=>(qd (qg (i:=4) zcu.nd rfl (Or.inl rfl) (yr (za (zn4 (List.forall_mem_cons.mpr ⟨x_NoEvent.at,List.forall_mem_nil _⟩) (z (U 5))) (za (zj1 i_ValueError rfl rfl T.n_isinstance boot_isinstance (z (U 5))) (za (zj1 i_WeirError rfl rfl T.n_isinstance boot_isinstance (z (U 5))) (za (zn5 i_NoDeed i_NoHouse i_TooMany rfl rfl rfl rfl T.n_isinstance boot_isinstance (z (U 5))) zc)))))))))
  (qd (yn (z (U 4)))))))
end
noncomputable def zfZ(J I k_NoHouse k_TooMany k_NoDeed kN:Addr):X5:=
 (zB (eOp eqA (eFz (yX (y9 (zb (eC (.int 2)) zd)) (yj 0) qK (ze (zb8 J I k_NoHouse k_TooMany k_NoDeed kN) (zb (O 1) (zb (O 2) (zb (O 3) (zb (O 0) zd))))) ["way"] [("net",0),("waits",1),("pairs",2)])) (eFz (zlc (zx (zb (zE (zb (O 3) (zb (eC (.bl true)) (zb (eC (.bl true)) (zb (eC (.bl false)) zd))))) zd)) (eC (.int 2))))))
noncomputable def zdW(J I k_NoHouse k_TooMany k_NoDeed kN:Addr):X2:=yi 4 4 (zfZ J I k_NoHouse k_TooMany k_NoDeed kN)
noncomputable def zbw(J I k_NoHouse k_TooMany k_NoDeed kN:Addr):X2:=zbL (zdW J I k_NoHouse k_TooMany k_NoDeed kN)
section
theorem ziU:FnScope ["net","waits","pairs","at"] ["net","waits","pairs","at"] (ye zdP):=by ac_rfl
theorem qZ(D:Df K mg "_law_refused" zdP ["net","waits","pairs","at"])(T:Txt K mg J I)   (zaL:CalT P w K mg base 33 "_law_caught" ["net","waits","pairs","way"] (zb8 J I k_NoHouse k_TooMany k_NoDeed kN)):CalT P w K mg base 34 "_law_refused" ["net","waits","pairs","at"] (zdW J I k_NoHouse k_TooMany k_NoDeed kN):=
 yt D ziU rfl rfl (fun f cdv A outer s H E hr=>(qd (yn (zbT (yJ hr.units) (qx (zaz (tgs:=["way"]) (ζ:=[("net",0),("waits",1),("pairs",2)]) (zT rfl T.n_range (za yc zc)) (by bv_omega) (fun _ _ _=>(zm (zo (i:=0) (show(["way","net","waits","pairs"]:List Str).Nodup by decide +kernel) rfl (by and_intros)))) (fun _ _ _=>yQ) (fun _ _ _=>(X9 zaL hr (za (z (U 1)) (za (z (U 2)) (za (z (U 3)) (za (z (U 0)) zc)))))))) (qx (zn3 (yq (za (yr (za (z (U 3)) (za zaN (za zaN (za zaN zc))))) zc)) yc)) (zu _)))))
end
noncomputable def zhd(J I k_NoHouse k_TooMany k_NoDeed kN:Addr):X5:=
 (sIf (yw (eOp eqA (eOp ixT (O 14) (eC (.int 0))) (eC (.str "again")))) (yg (ym 15 (ze (zcp J I) (zb (O 3) (zb (O 8) (zb (O 9) (zb (eOp ixT (O 14) (eC (.int 1))) zd))))))
 (yg (sIf (yw (eOp gtI (O 15) (O 10))) (yg (ym 16 (eOp zaA (eOp zaA (O 15) (eC (.int 1))) (ze (zr J I) (zb (O 6) (zb (eOp zaA (O 15) (O 10)) zd)))))
 (sIf (zdx (yw (ze (zbw J I k_NoHouse k_TooMany k_NoDeed kN) (zb (O 2) (zb (O 3) (zb (eOp yD (eOp yD (O 7) (eFz (zx (zb (zE (zb (O 16) (zb (O 14) zd))) zd)))) (O 12)) (zb (O 5) zd))))))) (zB (eC (.bl false))) qR)) qR)
 (yE (ze (zft J I kN) (zb (O 2) (zb (O 3) (zb (eOp yD (O 7) (eFz (zx (zb (zE (zb (ze (call2 ze9) (zb (O 15) (zb (O 10) zd))) (zb (O 14) zd))) zd)))) zd))))))) qR)
noncomputable def zjA(J I k_NoHouse k_TooMany k_NoDeed kN:Addr):X5:=
 (yg (ym 6 (ze (za7 J I) (zb (eOp ixT (O 4) (O 5)) zd)))
 (yg (zgd (ze (zdF J I kN) (zb (O 2) (zb (O 3) (zb (eSl (O 4) zey (zcU (O 5))) zd)))) (zbd 3 (zF (yj 7) (zF (yj 8) (zF (yj 9) zbe)))))
 (yg (ym 10 (eOp ixT (eOp ixT (eOp yD (O 7) (eFz (zx (zb (zE (zb (eC (.int 0)) (zb (zE (zb (eC (.str "fresh")) zd)) zd))) zd)))) (ze (call2 ze9) (zb (eC (.int 0)) (zb (eOp zaA (O 5) (eC (.int 1))) zd)))) (eC (.int 0))))
 (yg (ym 11 (ze (zbj J I kN) (zb (O 2) (zb (eFz (yP (zaX (O 7)) (zbd 2 (zF (yj 0) (zF (yj 1) zbe))) qK (O 1) ["tick","event"] [])) zd))))
 (yg (ym 12 (eSl (eFz (zx (zb (zE (zb (eOp zdU (eC (.int 10)) (eC (.int 9))) (zb (zE (zb (eC (.str "fresh")) zd)) zd))) (zb (zE (zb (eOp zdU (eC (.int 10)) (eC (.int 9))) (zb (zE (zb (eC (.str "up")) (zb (eOp zdU (eC (.int 10)) (eC (.int 9))) zd))) zd))) zd)))) zey (zcU (ze (zr J I) (zb (O 6) (zb (eC (.int 3)) zd))))))
 (yg (ym 13 (zE (zb (O 10) (zb (ze (zdD J I) (zb (O 6) (zb (O 11) (zb (ze (qB yB) (zb (O 8) zd)) zd)))) zd))))
 (yg (sIf (zdx (yw (ze (zbw J I k_NoHouse k_TooMany k_NoDeed kN) (zb (O 2) (zb (O 3) (zb (eOp yD (eOp yD (O 7) (eFz (zx (zb (O 13) zd)))) (O 12)) (zb (O 5) zd))))))) (zB (eC (.bl false))) qR)
 (za3 (zaE (O 11)) (yj 14) (zhd J I k_NoHouse k_TooMany k_NoDeed kN)))))))))
noncomputable def znY(J I k_NoHouse k_TooMany k_NoDeed kN:Addr):X5:=
 (yg (ym 1 (ze (za7 J I) (zb (ze (zdq J I) (zb (O 0) (zb (eC (.int 0)) zd))) zd)))
 (yg (ym 2 (ze (zfD J I) (zb (O 1) (zb (eC (.int 3)) zd))))
 (yg (ym 3 (ze (zdE J I) (zb (O 1) (zb (O 2) zd))))
 (yg (ym 4 (eOp yD (eOp yD (eFz (zx (zb (eC (.int 0)) zd))) (eSl (O 0) (zcU (eC (.int 1))) (zcU (eC (.int 25))))) (eSl (eFz (zx (zb (eC (.int 1)) (zb (eC (.int 2)) (zb (eC (.int 3)) (zb (eC (.int 4)) (zb (eC (.int 5)) (zb (eC (.int 6)) (zb (eC (.int 7)) (zb (eC (.int 8)) (zb (eC (.int 9)) (zb (eC (.int 10)) (zb (eC (.int 11)) (zb (eC (.int 12)) zd)))))))))))))) zey (zcU (ze (call2 ze9) (zb (eC (.int 0)) (zb (eOp zaA (eC (.int 12)) (ze (qB yB) (zb (O 0) zd))) zd)))))))
 (yg (za3 (y9 (zb (ze (qB yB) (zb (O 4) zd)) zd)) (yj 5) (zjA J I k_NoHouse k_TooMany k_NoDeed kN))
 (zB (eC (.bl true))))))))
noncomputable def zfC(J I k_NoHouse k_TooMany k_NoDeed kN:Addr):X2:=yi 1 17 (znY J I k_NoHouse k_TooMany k_NoDeed kN)
noncomputable def zg2(J I k_NoHouse k_TooMany k_NoDeed kN:Addr):X2:=if[k_NoHouse,k_TooMany,k_NoDeed,kN].Nodup then zfC J I k_NoHouse k_TooMany k_NoDeed kN else fun _ M=>.ok (.bl true) M
section
theorem zV:FnScope ["script","pool","net","waits","cells","many","own","pairs","errands","stood","last","some","behind","wrong","event","due","early"] ["script"] (ye zk0):=by ac_rfl
theorem zqy{f:Addr}{fd:FuncData}(D:Fun K "law" "law" zk0 f fd)(T:Txt K mg J I)   (zaK:CalT P w K mg base 1 "_law_left" ["cell"] (za7 J I)) (zee:CalT P w K mg base 2 "_law_net" ["pool","most"] (zfD J I)) (zcF:CalT P w K mg base 2 "_law_waits" ["pool","net"] (zdE J I)) (zdv:CalT P w K mg base 1 "_law_cell" ["script","k"] (zdq J I)) (zcG:CalT P w K mg base 33 "_law_timed" ["net","waits","cells"] (zdF J I kN)) (zae:CalT P w K mg base 32 "may_come" ["net","events"] (zbj J I kN)) (zcE:CalT P w K mg base 2 "_law_wrong" ["own","some","many"] (zdD J I)) (qZ:CalT P w K mg base 34 "_law_refused" ["net","waits","pairs","at"] (zbw J I k_NoHouse k_TooMany k_NoDeed kN)) (zn:CalT P w K mg base 1 "_law_next" ["pool","base"] (zr J I)) (zb1:CalT P w K mg base 1 "_law_due" ["waits","errands","stood","n"] (zcp J I)) (zb0:CalT P w K mg base 32 "timed" ["net","waits","pairs"] (zft J I kN)):FnOk P w K mg base CX0 35 f fd ["script"] (spT K (zfC J I k_NoHouse k_TooMany k_NoDeed kN)):=
 zn1 D zV rfl rfl (fun cdv A outer s H E hr=>(qc (qg (i:=1) zV.nd rfl (Or.inl rfl) (X9 zaK hr (za (X9 zdv hr (za (z (U 0)) (za yc zc))) zc)))
  (qc (qg (i:=2) zV.nd rfl (Or.inl rfl) (X9 zee hr (za (z (U 1)) (za yc zc))))
  (qc (qg (i:=3) zV.nd rfl (Or.inl rfl) (X9 zcF hr (za (z (U 1)) (za (z (U 2)) zc))))
  (qc (qg (i:=4) zV.nd rfl (Or.inl rfl) (yh zw (yh zw (qx (yq (za yc zc))) (zd1 (z (U 0)) (zbN yc) (zbN yc))) (zd1 (qx (yq (za yc (za yc (za yc (za yc (za yc (za yc (za yc (za yc (za yc (za yc (za yc (za yc zc)))))))))))))) zc8 (zbN (qo (zcC rfl) rfl T.n_max boot_max (za yc (za (yh qO yc (qo zA rfl T.n_len boot_len (za (z (U 0)) zc))) zc)))))))
  (qc (qQ PassesOwn.never rfl (zT rfl T.n_range (za (qo zA rfl T.n_len boot_len (za (z (U 4)) zc)) zc)) (zm (zo (i:=5) zV.nd rfl (by and_intros))) (qc (qg (i:=6) zV.nd rfl (Or.inl rfl) (X9 zaK hr (za (yd zh (z (U 4)) (z (U 5))) zc)))
  (qc (zd0 (X9 zcG hr (za (z (U 2)) (za (z (U 3)) (za (zd1 (z (U 4)) zc8 (zbN (z (U 5)))) zc)))) (zaQ (zbx rfl (WGs.pe (yz (qD (WG.pe (zm (zo (i:=7) zV.nd rfl (by and_intros)))) (WGs.pe (yz (qD (WG.pe (zm (zo (i:=8) zV.nd rfl (by and_intros)))) (WGs.pe (yz (qD (WG.pe (zm (zo (i:=9) zV.nd rfl (by and_intros)))) (WGs.pe zah)))))))))))))
  (qc (qg (i:=10) zV.nd rfl (Or.inl rfl) (yd zh (yd zh (yh zw (z (U 7)) (qx (yq (za (yr (za yc (za (yr (za zl zc)) zc))) zc)))) (qo (zcC rfl) rfl T.n_max boot_max (za yc (za (yh qO (z (U 5)) yc) zc)))) yc))
  (qc (qg (i:=11) zV.nd rfl (Or.inl rfl) (X9 zae hr (za (z (U 2)) (za (qx (zcA (tgs:=["tick","event"]) (ζ:=[]) (zcj (z (U 7))) (by bv_omega) (fun _ _ _=>(zaQ (zbx rfl (WGs.pe (yz (qD (WG.pe (zm (zo (i:=0) (show(["tick","event"]:List Str).Nodup by decide +kernel) rfl (by and_intros)))) (WGs.pe (yz (qD (WG.pe (zm (zo (i:=1) (show(["tick","event"]:List Str).Nodup by decide +kernel) rfl (by and_intros)))) (WGs.pe zah)))))))))) (fun _ _ _=>yQ) (fun _ _ _=>(z (U 1))))) zc))))
  (qc (qg (i:=12) zV.nd rfl (Or.inl rfl) (zd1 (qx (yq (za (yr (za (yh zbY yc yc) (za (yr (za zl zc)) zc))) (za (yr (za (yh zbY yc yc) (za (yr (za zl (za (yh zbY yc yc) zc))) zc))) zc)))) zc8 (zbN (X9 zn hr (za (z (U 6)) (za yc zc))))))
  (qc (qg (i:=13) zV.nd rfl (Or.inl rfl) (yr (za (z (U 10)) (za (X9 zcE hr (za (z (U 6)) (za (z (U 11)) (za (qo zA rfl T.n_len boot_len (za (z (U 8)) zc)) zc)))) zc))))
  (qc (zC (zcZ (z8 (X9 qZ hr (za (z (U 2)) (za (z (U 3)) (za (yh zw (yh zw (z (U 7)) (qx (yq (za (z (U 13)) zc)))) (z (U 12))) (za (z (U 5)) zc))))))) (qd (yn zaN)) yy)
  (qd (qQ PassesOwn.never rfl (qW (z (U 11))) (zm (zo (i:=14) zV.nd rfl (by and_intros))) (qd (zC (qr (yJ hr.units) (yd zh (z (U 14)) yc) zl (zu _)) (qc (qg (i:=15) zV.nd rfl (Or.inl rfl) (X9 zb1 hr (za (z (U 3)) (za (z (U 8)) (za (z (U 9)) (za (yd zh (z (U 14)) yc) zc))))))
  (qc (zC (qr zea (z (U 15)) (z (U 10)) (zu _)) (qc (qg (i:=16) zV.nd rfl (Or.inl rfl) (yh qO (yh qO (z (U 15)) yc) (X9 zn hr (za (z (U 6)) (za (yh qO (z (U 15)) (z (U 10))) zc)))))
  (qd (zC (zcZ (z8 (X9 qZ hr (za (z (U 2)) (za (z (U 3)) (za (yh zw (yh zw (z (U 7)) (qx (yq (za (yr (za (z (U 16)) (za (z (U 14)) zc))) zc)))) (z (U 12))) (za (z (U 5)) zc))))))) (qd (yn zaN)) yy))) yy)
  (qd (qv (X9 zb0 hr (za (z (U 2)) (za (z (U 3)) (za (yh zw (z (U 7)) (qx (yq (za (yr (za (qo (zcC rfl) rfl T.n_max boot_max (za (z (U 15)) (za (z (U 10)) zc))) (za (z (U 14)) zc))) zc)))) zc)))))))) yy))))))))))))
  (qd (yn zaN))))))))
end
end My
open Lean in
local macro_rules | `(tactic| erw [$rs,*]) => do
  let xs<-rs.getElems.mapM fun r=>match r with
   |`(Lean.Parser.Tactic.rwRule| ← $t)=>`(Lean.Parser.Tactic.simpLemma| ← $t)
   |`(Lean.Parser.Tactic.rwRule| $t:term)=>`(Lean.Parser.Tactic.simpLemma| $t:term)
   |_=>Lean.Macro.throwUnsupported
  let ids := ("FT.zlJ FT.ztr FT.zts FT.startT FT.yg FT.zB FT.ym FT.sIf FT.yE FT.zgd FT.qR FT.za3 FT.O FT.eC FT.eOp FT.eUn FT.zll FT.eOr FT.zlk FT.eIf FT.ze FT.zE FT.eFz FT.eTk FT.zx FT.ziz FT.zg4 FT.lOp FT.eSl FT.zey FT.zcU FT.zno FT.zhL FT.ztz FT.ztM FT.zaJ FT.zd FT.zb FT.yw FT.zcT FT.zc9 FT.zdx FT.ztK FT.zc7 FT.ztk FT.yp FT.zsF FT.zsH FT.zsG FT.zs4 FT.zs3 FT.zs6 FT.zs5 FT.yj FT.zjz FT.zbd FT.zF FT.zbe FT.zaE FT.y9 FT.ztu FT.ziR FT.ixT FT.zgh FT.zlg FT.ztU FT.ztT FT.ztS FT.ztR FT.yX FT.zce FT.qK Option.join_some Option.join_none FT.znh FT.zni FT.zej FT.ztP FT.ztO FT.ztN QF map_nil Qp length_nil List.cons_append nil_append List.getElem?_cons_zero getElem?_cons_succ List.set_cons_zero List.set_cons_succ List.replicate Nat.zero_add Nat.reduceAdd Nat.reduceSub FT.ztw FT.ztv FT.zty FT.ztx Int.reduceBEq Int.reduceLT FT.zto FT.ztE FT.ztF FT.ztH FT.zje FT.ztC FT.zkp FT.ztI FT.ztD FT.ztG FT.zs9 Bool.false_eq_true reduceIte Nat.reduceEqDiff Nat.succ.injEq Bool.not_true Bool.not_false FT.zfx FT.ztt FT.ztJ Int.reduceToNat Int.reducePow ne_eq Int.reduceEq not_false_eq_true Int.reduceNeg Bool.bne_true Bool.bne_false Bool.true_bne Bool.false_bne decide_true decide_false FT.znK FT.ztj FT.zti FT.ztp FT.ztq".splitOn " ").toArray.map fun s => Lean.mkIdent s.toName
  `(tactic| simp (config := {decide := true}) only [$[$ids:term],*, $xs,*])
namespace My
open PySem L2 FT
structure Ask where
 to:Str
 tries:Int
 purse:Option Str
 word:Str
 hears:Bool
 sure:Bool
structure Hs where
 name:Str
 asks:List Ask
structure Pu where
 name:Str
 earns:Str
 per:Int
structure Net where
 hs:List Hs
 ps:List Pu
noncomputable section
def opS(o:Option Str):FT.T:=o.elim .non .str
def zG(a:Ask):FT.T:=.tup [.str a.to,.int a.tries,opS a.purse,.str a.word,.bl a.hears,.bl a.sure]
def hsT(h:Hs):FT.T:=.tup [.str h.name,.tup (h.asks.map zG)]
def puT(p:Pu):FT.T:=.tup [.str p.name,.str p.earns,.int p.per]
def yf(n:Net):FT.T:=.tup [.tup (n.hs.map hsT),.tup (n.ps.map puT)]
end
inductive Ph where
 |works
 |waits (a t:Nat)
 |stands (a t:Nat)
 |ended (w:Str)
noncomputable def phT:Ph->FT.T
 |.works=>.tup [.str "works"]|.waits a t=>.tup [.str "waits",.int (a:Int),.int (t:Int)]|.stands a t=>.tup [.str "stands",.int (a:Int),.int (t:Int)]|.ended w=>.tup [.str "ended",.str w]
structure Er where
 house:Nat
 caller:Option (Nat × Nat × Nat)
 ph:Ph
 lost:Bool
 asked:Option Nat
 stood:Option Nat
noncomputable section
abbrev nT(n:Nat):FT.T:=.int (n:Int)
def clT(o:Option (Nat × Nat × Nat)):FT.T:=o.elim .non fun c=>.tup [nT c.1,nT c.2.1,nT c.2.2]
def onT(o:Option Nat):FT.T:=o.elim .non nT
def erF(e:Er):List (Str × FT.T):=[("house",nT e.house),("caller",clT e.caller),("state",phT e.ph),("is_lost",.bl e.lost),("asked",onT e.asked),("stood",onT e.stood)]
end
structure Run where
 came:Nat
 es:List Er
 puts:List (List Nat)
 pays:List (Nat × Nat × Nat)
 taken:List Nat
noncomputable def zgg(p:Nat × Nat × Nat):FT.T:=.tup [nT p.1,nT p.2.1,nT p.2.2]
structure Lay where
 a:Nat
 p:Nat
 q:Nat
 t:Nat
 es:List Nat
 ps:List Nat
noncomputable def zcm(nt:FT.T)(l:Lay)(R:Run):List (Str × FT.T):=[("net",nt),("came",nT R.came),("errands",.ref l.a),("puts",.ref l.p),("payments",.ref l.q),("taken",.ref l.t)]
variable {e:Er}{l:Lay}{u:List Nat}{M M':Mem}{i x:Nat}{R:Run}
section
variable (J I:Addr)
noncomputable def ezC(es:List Nat)(rs:List Er):List (Nat × Cell):=List.zipWith (fun x e=>(x,Cell.ins J (erF e))) es rs
noncomputable def pzC(ps:List Nat)(us:List (List Nat)):List (Nat × Cell):=List.zipWith (fun x u=>(x,Cell.lst (u.map nT))) ps us
noncomputable def cells(nt:FT.T)(r:Nat)(l:Lay)(R:Run):List (Nat × Cell):=
 (r,.ins I (zcm nt l R))::(l.a,.lst (l.es.map .ref))::(l.p,.lst (l.ps.map .ref))::(l.q,.lst (R.pays.map zgg))::(l.t,.lst (R.taken.map nT))::(ezC J l.es R.es++pzC l.ps R.puts)
def Holds(M:Mem)(L:List (Nat × Cell)):Prop:=∀p ∈ L,M[p.1]? = some p.2
theorem Holds.set{L:List (Nat × Cell)}(h:Holds M L)(nd:(L.map (·.1)).Nodup){k:Nat}{p:Nat × Cell}(hk:L[k]? = some p)(c:Cell):Holds (M.set p.1 c) (L.set k (p.1,c)):=by
 intro q hq;have hkl:=(Qy.mp hk).1;obtain⟨i,hi⟩:=mem_iff_getElem?.mp hq;rw[Qc]at hi
 by_cases e:k=i
 ·rw[Qz e,Qz hkl]at hi;cases hi;exact get_set (h p (Qa hk))
 ·rw[QA e]at hi;have hne:p.1 ≠ q.1:=fun z=>by
   have h1:(L.map (·.1))[k]? = some p.1:=by rw[Qb,hk];rfl
   have h2:(L.map (·.1))[i]? = some q.1:=by rw[Qb,hi];rfl
   exact e ((List.getElem?_inj (by simpa using hkl) nd).mp (h1.trans (by rw[h2,z])))
  rw[Qc,QA hne];exact h q (Qa hi)
structure RunAt (nt:FT.T) (b r:Nat) (l:Lay) (M:Mem) (R:Run):Prop where
 ho:Holds M (cells J I nt r l R)
 nd:((cells J I nt r l R).map (·.1)).Nodup
 lo:∀p ∈ cells J I nt r l R,b<=p.1
 el:l.es.length=R.es.length
 pl:l.ps.length=R.puts.length
 tl:R.taken.length=R.puts.length
def Kp(b:Nat)(M M':Mem):Prop:=M.length<=M'.length/\∀i,i<b->M'[i]? = M[i]?
def Kp.refl(b:Nat)(M:Mem):Kp b M M:=⟨Q3 _,fun _ _=>rfl⟩
theorem Kp.trans{b:Nat}{A B C:Mem}(h:Kp b A B)(g:Kp b B C):Kp b A C:=⟨Qj h.1 g.1,fun i hi=>by rw[g.2 i hi,h.2 i hi]⟩
theorem Kp.set{b:Nat}(M:Mem)(c:Cell)(hx:b<=x):Kp b M (M.set x c):=⟨by simp,fun i hi=>by rw[Qc,QA ⋯]⟩
theorem Kp.app{b:Nat}(M:Mem)(cs:List Cell)(hb:b<=M.length):Kp b M (M++cs):=⟨by simp,fun i hi=>Q6 ⋯⟩
def Kp.fr(h:Kp M.length M M'):Fr [] M M':=⟨h.1,fun i hi _=>h.2 i hi⟩
variable {J I}{nt:FT.T}{b r:Nat}{l:Lay}{M:Mem}{R:Run}
theorem zip_get{α β γ:Type}{f:α->β->γ}{as:List α}{bs:List β}{x:α}{y:β}(h1:as[i]? = some x)(h2:bs[i]? = some y):(List.zipWith f as bs)[i]? = some (f x y):=by rw[List.getElem?_zipWith,h1,h2]
def RunAt.run(h:RunAt J I nt b r l M R):M[r]? = some (.ins I (zcm nt l R)):=h.ho (r,_) (.head _)
def RunAt.er(h:RunAt J I nt b r l M R):M[l.a]? = some (.lst (l.es.map .ref)):=h.ho (l.a,_) (.tail _ (.head _))
def RunAt.pu(h:RunAt J I nt b r l M R):M[l.p]? = some (.lst (l.ps.map .ref)):=h.ho (l.p,_) (.tail _ (.tail _ (.head _)))
def RunAt.py(h:RunAt J I nt b r l M R):M[l.q]? = some (.lst (R.pays.map zgg)):=h.ho (l.q,_) (.tail _ (.tail _ (.tail _ (.head _))))
def RunAt.tk(h:RunAt J I nt b r l M R):M[l.t]? = some (.lst (R.taken.map nT)):=h.ho (l.t,_) (.tail _ (.tail _ (.tail _ (.tail _ (.head _)))))
def zrt{es:List Nat}{rs:List Er}(h1:es[i]? = some x)(h2:rs[i]? = some e):(ezC J es rs)[i]? = some (x,.ins J (erF e)):=zip_get h1 h2
def zp2{ps:List Nat}{us:List (List Nat)}(h1:ps[i]? = some x)(h2:us[i]? = some u):(pzC ps us)[i]? = some (x,.lst (u.map nT)):=zip_get h1 h2
theorem zec(h:RunAt J I nt b r l M R):(ezC J l.es R.es).length=R.es.length:=by unfold ezC;rw[List.length_zipWith,h.el,Nat.min_self]
theorem zmu(h:RunAt J I nt b r l M R)(h1:l.es[i]? = some x)(h2:R.es[i]? = some e):(cells J I nt r l R)[5+i]? = some (x,.ins J (erF e)):=by have hi:=(Qy.mp h2).1;rw[Nat.add_comm];show(ezC J l.es R.es++pzC l.ps R.puts)[i]? = _;rw[Q6 (by rw[zec h];exact hi)];exact zrt h1 h2
theorem zmt(h:RunAt J I nt b r l M R)(h1:l.ps[i]? = some x)(h2:R.puts[i]? = some u):(cells J I nt r l R)[5+(R.es.length+i)]? = some (x,.lst (u.map nT)):=by rw[Nat.add_comm 5];show(ezC J l.es R.es++pzC l.ps R.puts)[R.es.length+i]? = _;rw[Q8 (by rw[zec h];omega),zec h,show R.es.length+i-R.es.length=i by omega];exact zp2 h1 h2
theorem RunAt.at_e(h:RunAt J I nt b r l M R)(h2:R.es[i]? = some e):∃x,l.es[i]? = some x/\M[x]? = some (.ins J (erF e)):=by have hi:=(Qy.mp h2).1;refine⟨l.es[i]'(by rw[h.el];exact hi),Q0 _,?_⟩;exact h.ho _ (Qa (zmu h (Q0 (by rw[h.el];exact hi)) h2))
theorem RunAt.at_p(h:RunAt J I nt b r l M R)(h2:R.puts[i]? = some u):∃x,l.ps[i]? = some x/\M[x]? = some (.lst (u.map nT)):=by have hi:=(Qy.mp h2).1;refine⟨l.ps[i]'(by rw[h.pl];exact hi),Q0 _,?_⟩;exact h.ho _ (Qa (zmt h (Q0 (by rw[h.pl];exact hi)) h2))
theorem RunAt.write(h:RunAt J I nt b r l M R){k:Nat}{c0 c:Cell}(hk:(cells J I nt r l R)[k]? = some (x,c0)){R':Run}(e:cells J I nt r l R'=(cells J I nt r l R).set k (x,c))(h1:R'.es.length=R.es.length)(h2:R'.puts.length=R.puts.length)(h3:R'.taken.length=R.taken.length):RunAt J I nt b r l (M.set x c) R'/\b<=x:=by
 have em:(cells J I nt r l R').map (·.1)=(cells J I nt r l R).map (·.1):=by
  rw[e,List.map_set];refine ext_getElem? fun i=>?_;rw[Qc]
  by_cases z:k=i
  ·subst z;have:=(Qy.mp hk).1;rw[Qz rfl,Qz (by simpa using this),Qb,hk];rfl
  ·rw[QA z]
 refine⟨⟨by rw[e];exact h.ho.set h.nd hk c,by rw[em];exact h.nd,fun p hp=>?_,by rw[h1];exact h.el,by rw[h2];exact h.pl,by rw[h3,h2];exact h.tl⟩,h.lo _ (Qa hk)⟩;have:p.1 ∈ (cells J I nt r l R').map (·.1):=mem_map.mpr ⟨p,hp,rfl⟩;rw[em]at this;obtain⟨q,hq,eq⟩:=mem_map.mp this;rw[←eq];exact h.lo q hq
theorem zhh{α β γ:Type}{f:α->β->γ}:∀{as:List α} {bs:List β} {i:Nat} {x:α} (y:β),as[i]? = some x->List.zipWith f as (bs.set i y)=(List.zipWith f as bs).set i (f x y)
 |[],_,_,_,_,h=>by simp at h|a::as,[],i,x,y,h=>by simp|a::as,b::bs,0,x,y,h=>by simp at h;simp[h]|a::as,b::bs,i+1,x,y,h=>by simp at h;simp[zhh y h]
noncomputable def Run.setE(R:Run)(i:Nat)(e:Er):Run:={ R with es:=R.es.set i e }
theorem RunAt.setE(h:RunAt J I nt b r l M R)(h1:l.es[i]? = some x)(h2:R.es[i]? = some e)(e':Er):RunAt J I nt b r l (M.set x (.ins J (erF e'))) (R.setE i e')/\b<=x:=by refine h.write (zmu h h1 h2) ?_ (by simp[Run.setE]) rfl rfl;have hi:=(Qy.mp h2).1;rw[Nat.add_comm 5];show _=_::_::_::_::_::(ezC J l.es R.es++pzC l.ps R.puts).set i (x,.ins J (erF e'));rw[List.set_append_left _ _ (by rw[zec h];exact hi),show(ezC J l.es R.es).set i (x,.ins J (erF e'))=ezC J l.es (R.es.set i e')from(zhh e' h1).symm];rfl
noncomputable def Run.setP(R:Run)(i:Nat)(u:List Nat):Run:={ R with puts:=R.puts.set i u }
theorem RunAt.setP(h:RunAt J I nt b r l M R)(h1:l.ps[i]? = some x)(h2:R.puts[i]? = some u)(u':List Nat):RunAt J I nt b r l (M.set x (.lst (u'.map nT))) (R.setP i u')/\b<=x:=by refine h.write (zmt h h1 h2) ?_ rfl (by simp[Run.setP]) rfl;rw[Nat.add_comm 5];show _=_::_::_::_::_::(ezC J l.es R.es++pzC l.ps R.puts).set (R.es.length+i) (x,.lst (u'.map nT));rw[set_append_right _ _ (by rw[zec h];omega),zec h,show R.es.length+i-R.es.length=i by omega,show(pzC l.ps R.puts).set i (x,.lst (u'.map nT))=pzC l.ps (R.puts.set i u')from(zhh u' h1).symm];rfl
def RunAt.setCame(h:RunAt J I nt b r l M R)(n:Nat):RunAt J I nt b r l (M.set r (.ins I (zcm nt l { R with came:=n }))) { R with came:=n }/\b<=r:=h.write (k:=0) rfl rfl rfl rfl rfl
def RunAt.setPays(h:RunAt J I nt b r l M R)(ps:List (Nat × Nat × Nat)):RunAt J I nt b r l (M.set l.q (.lst (ps.map zgg))) { R with pays:=ps }/\b<=l.q:=h.write (k:=3) rfl rfl rfl rfl rfl
def RunAt.setTaken(h:RunAt J I nt b r l M R)(ts:List Nat)(ht:ts.length=R.taken.length):RunAt J I nt b r l (M.set l.t (.lst (ts.map nT))) { R with taken:=ts }/\b<=l.t:=h.write (k:=4) rfl rfl rfl rfl ht
def RunAt.kept(h:RunAt J I nt b r l M R)(k:∀(i:Nat) c,M[i]? = some c->M'[i]? = some c):RunAt J I nt b r l M' R:=⟨fun p hp=>k _ _ (h.ho p hp),h.nd,h.lo,h.el,h.pl,h.tl⟩
theorem RunAt.app(h:RunAt J I nt b r l M R)(cs:List Cell):RunAt J I nt b r l (M++cs) R:=h.kept fun i c e=>by rw[Q6 (zK e)];exact e
noncomputable def Run.push(R:Run)(e:Er):Run:={ R with es:=R.es++[e] }
theorem RunAt.push(h:RunAt J I nt b r l M R)(hb:b<=M.length)(e:Er):RunAt J I nt b r { l with es:=l.es++[M.length] } ((M++[Cell.ins J (erF e)]).set l.a (.lst ((l.es++[M.length]).map .ref))) (R.push e):=by
 have ez:ezC J (l.es++[M.length]) (R.es++[e])=ezC J l.es R.es++[(M.length,.ins J (erF e))]:=by unfold ezC;rw[List.zipWith_append h.el];rfl
 have fresh:∀p ∈ cells J I nt r l R,p.1<M.length:=fun p hp=>zK (h.ho p hp);have hm:∀p,p ∈ cells J I nt r { l with es:=l.es++[M.length] } (R.push e)->p=(l.a,.lst ((l.es++[M.length]).map .ref))\/p=(M.length,.ins J (erF e))\/(p ∈ cells J I nt r l R/\p.1 ≠ l.a):=by
  intro p hp;have nd:=h.nd;have na:∀q ∈ ezC J l.es R.es++pzC l.ps R.puts,q.1 ≠ l.a:=fun q hq z=>by have h2:=(nodup_cons.mp (nodup_cons.mp nd).2).1;exact h2 (mem_map.mpr ⟨q,.tail _ (.tail _ (.tail _ hq)),z⟩)
  have n0:r ≠ l.a:=fun z=>(nodup_cons.mp nd).1 (mem_map.mpr ⟨(l.a,_),.head _,z.symm⟩);have n2:l.p ≠ l.a:=fun z=>(nodup_cons.mp (nodup_cons.mp nd).2).1 (mem_map.mpr ⟨(l.p,_),.head _,z⟩);have n3:l.q ≠ l.a:=fun z=>(nodup_cons.mp (nodup_cons.mp nd).2).1 (mem_map.mpr ⟨(l.q,_),.tail _ (.head _),z⟩);have n4:l.t ≠ l.a:=fun z=>(nodup_cons.mp (nodup_cons.mp nd).2).1 (mem_map.mpr ⟨(l.t,_),.tail _ (.tail _ (.head _)),z⟩);unfold cells at hp;rcases QB.mp hp with rfl | hp
  ·exact .inr (.inr ⟨.head _,n0⟩)
  rcases QB.mp hp with rfl | hp
  ·exact .inl rfl
  rcases QB.mp hp with rfl | hp
  ·exact .inr (.inr ⟨.tail _ (.tail _ (.head _)),n2⟩)
  rcases QB.mp hp with rfl | hp
  ·exact .inr (.inr ⟨.tail _ (.tail _ (.tail _ (.head _))),n3⟩)
  rcases QB.mp hp with rfl | hp
  ·exact .inr (.inr ⟨.tail _ (.tail _ (.tail _ (.tail _ (.head _)))),n4⟩)
  replace hp:p ∈ ezC J (l.es++[M.length]) (R.es++[e])++pzC l.ps R.puts:=hp;rw[ez]at hp;rcases mem_append.mp hp with hp | hp
  ·rcases mem_append.mp hp with hp | hp
   ·exact .inr (.inr ⟨.tail _ (.tail _ (.tail _ (.tail _ (.tail _ (mem_append_left _ hp))))),na p (mem_append_left _ hp)⟩)
   ·exact .inr (.inl (QG.mp hp))
  ·exact .inr (.inr ⟨.tail _ (.tail _ (.tail _ (.tail _ (.tail _ (Qm _ hp))))),na p (Qm _ hp)⟩)
 have la:=h.er;have hla:=zK la;refine⟨fun p hp=>?_,?_,fun p hp=>?_,by simp[Run.push,h.el],h.pl,h.tl⟩
 ·rcases hm p hp with rfl | rfl | ⟨hp,hne⟩
  ·exact get_set (by rw[Q6 hla];exact la)
  ·show(List.set _ _ _)[M.length]? = _;rw[Qc,QA ⋯];exact yS
  ·rw[Qc,QA (Ne.symm hne),Q6 (fresh p hp)];exact h.ho p hp
 ·have e2:(cells J I nt r { l with es:=l.es++[M.length] } (R.push e)).map (·.1)=r::l.a::l.p::l.q::l.t::((ezC J l.es R.es).map (·.1)++[M.length]++(pzC l.ps R.puts).map (·.1)):=by show _::_::_::_::_::(ezC J (l.es++[M.length]) (R.es++[e])++pzC l.ps R.puts).map (·.1)=_;rw[ez];simp
  have e1:(cells J I nt r l R).map (·.1)=r::l.a::l.p::l.q::l.t::((ezC J l.es R.es).map (·.1)++(pzC l.ps R.puts).map (·.1)):=by show _::_::_::_::_::(ezC J l.es R.es++pzC l.ps R.puts).map (·.1)=_;rw[Qq]
  have pm:List.Perm ((cells J I nt r { l with es:=l.es++[M.length] } (R.push e)).map (·.1)) (M.length::(cells J I nt r l R).map (·.1)):=by
   rw[e2,e1];have:List.Perm ((ezC J l.es R.es).map (·.1)++[M.length]++(pzC l.ps R.puts).map (·.1)) (M.length::((ezC J l.es R.es).map (·.1)++(pzC l.ps R.puts).map (·.1))):=by rw[append_assoc];exact List.perm_middle
   refine((((((this.cons _).cons _).cons _).cons _).cons _).trans ?_);have sw:∀(x y:Nat) (L:List Nat),List.Perm (x::y::L) (y::x::L):=fun x y L=>List.Perm.swap y x L;refine((((sw _ _ _).cons _).cons _).cons _).cons _ |>.trans ?_;refine(((sw _ _ _).cons _).cons _).cons _ |>.trans ?_;refine((sw _ _ _).cons _).cons _ |>.trans ?_;refine(sw _ _ _).cons _ |>.trans ?_;exact sw _ _ _
  refine pm.nodup_iff.mpr (nodup_cons.mpr ⟨fun z=>?_,h.nd⟩);obtain⟨q,hq,eq⟩:=mem_map.mp z;have:=fresh q hq;omega
 ·rcases hm p hp with rfl | rfl | ⟨hp,_⟩
  ·exact h.lo (l.a,.lst (l.es.map .ref)) (.tail _ (.head _))
  ·exact hb
  ·exact h.lo p hp
end
noncomputable def zb9(s:Str):List Str->Nat->Option Nat
 |[],_=>none|y::ys,k=>if(y==s)=true then some k else zb9 s ys (k+1)
theorem zl7(s:Str):∀(ys:List Str) (k:Nat),zhC (.str s) (ys.map .str) k=zb9 s ys k
 |[],_=>rfl|y::ys,k=>by show(if(y==s)=true then some k else zhC (.str s) (ys.map .str) (k+1))=_;rw[zl7 s ys (k+1)];rfl
theorem zhD{s:Str}:∀{ys:List Str} {k n:Nat},zb9 s ys k=some n->k<=n/\n<k+ys.length
 |[],_,_,h=>by cases h|y::ys,k,n,h=>by
  unfold zb9 at h;split at h
  ·cases h;simp
  ·have:=zhD h;rw[Qp];omega
noncomputable section
def Net.hix(n:Net)(s:Str):Nat:=(zb9 s (n.hs.map (·.name)) 0).getD 0
def Net.pix(n:Net)(s:Str):Nat:=(zb9 s (n.ps.map (·.name)) 0).getD 0
def Net.asks(n:Net)(h:Nat):List Ask:=((n.hs[h]?).map (·.asks)).getD []
def Net.pof(n:Net)(a:Ask):Option Nat:=a.purse.map n.pix
end
structure WA (n:Net) (i:Nat) (a:Ask):Prop where
 to:zb9 a.to (n.hs.map (·.name)) 0=some (n.hix a.to)
 up:i<n.hix a.to
 pu:∀s,a.purse=some s->zb9 s (n.ps.map (·.name)) 0=some (n.pix s)
 tr:0<=a.tries
structure WN (n:Net):Prop where
 hl:n.hs.length<=4
 h1:0<n.hs.length
 pl:n.ps.length<=100
 al:∀h ∈ n.hs,h.asks.length<=100
 as:∀i a,a ∈ n.asks i->WA n i a
 pr:∀p ∈ n.ps,1<=p.per/\p.per<=1000000
variable {n:Net}
theorem WA.lt{a:Ask}(h:WA n i a):n.hix a.to<n.hs.length:=by have:=zhD h.to;simp at this;exact this
theorem WA.plt{a:Ask}(h:WA n i a){k:Nat}(e:n.pof a=some k):k<n.ps.length:=by
 unfold Net.pof at e;cases q:a.purse with
 |none=>rw[q]at e;cases e|some s=>rw[q]at e;cases e;have:=zhD (h.pu s q);simp at this;exact this
variable {t:FT.T}{f:Str}
section
variable (J I:Addr)
theorem zhY{α:Type}(xs:List α)(nm:α->Str)(tl:α->List FT.T){s:Str}{n:Nat}(h:zb9 s (xs.map nm) 0=some n)(hl:xs.length<=1000)(M:Mem):zai J I [.tup (xs.map fun x=>.tup (.str (nm x)::tl x)),.str s] M = .ok (nT n) M:=by
 unfold zai zfY;have c:yA (yj 0) qK (eOp ixT (O 0) (eC (.int 0))) (xs.map fun x=>FT.T.tup (.str (nm x)::tl x)) [none] M [] = .ok ((xs.map nm).map .str) M:=by rw[map_map];exact Ok.mapc (r:=fun x=>FT.T.tup (.str (nm x)::tl x)) (fun σ=>∃o,σ=[o]) _ ⟨_,rfl⟩ ⋯ (by rintro x σ hx ⟨o,rfl⟩;exact⟨[some (.tup (.str (nm x)::tl x))],rfl,⟨_,rfl⟩,by simp_arith;rfl⟩)
 have k:zhE (.lst ((xs.map nm).map .str)) [.str s] M = .ok (nT n) M:=by
  unfold zhE qC;dsimp only;rw[Qz,zl7,h]
  ·rw[Qs];refine⟨rfl,all_eq_true.mpr fun t ht=>?_⟩;obtain⟨y,_,rfl⟩:=mem_map.mp ht;rfl
 have i1:zcw (.lst ((xs.map nm).map .str)) M=true:=rfl;erw[c,zbC,i1,k]
variable {J I}
theorem znM(wn:WN n){a:Ask}(w:WA n i a)(M:Mem):zaH J I [yf n,zG a] M = .ok (nT (n.hix a.to)) M:=by unfold zaH zgY yf zG;have h:=fun M=>zhY J I n.hs (·.name) (fun h=>[.tup (h.asks.map zG)]) w.to (by have:=wn.hl;omega) M;rw[show(n.hs.map fun h=>FT.T.tup (.str h.name::[.tup (h.asks.map zG)]))=n.hs.map hsT from rfl]at h;erw[h]
variable {b r:Nat}
theorem qH{k:Addr}{fs:List (Str × FT.T)}(h:M[x]? = some (.ins k fs))(e:fs.lookup f=some t):zaV [k] f (.ref x) M = .ok t M:=by unfold zaV;simp only[h];rw[Qz (by simp),e];rfl
theorem zbh{k:Addr}{fs fs':List (Str × FT.T)}{y:FT.T}(h:M[x]? = some (.ins k fs))(e:zdh f y fs=fs')(hl:fs.length<1000):zaZ [k] f (.ref x) y M = .ok () (M.set x (.ins k fs')):=by unfold zaZ;simp only[h];rw[Qz ⟨by simp,hl⟩,e]
theorem RunAt.net(h:RunAt J I (yf n) b r l M R):zaV [I] "net" (.ref r) M = .ok (yf n) M:=qH h.run rfl
theorem RunAt.came(h:RunAt J I (yf n) b r l M R):zaV [I] "came" (.ref r) M = .ok (nT R.came) M:=qH h.run rfl
theorem RunAt.errands(h:RunAt J I (yf n) b r l M R):zaV [I] "errands" (.ref r) M = .ok (.ref l.a) M:=qH h.run rfl
def RunAt.putsF(h:RunAt J I (yf n) b r l M R):zaV [I] "puts" (.ref r) M = .ok (.ref l.p) M:=qH h.run rfl
def RunAt.payF(h:RunAt J I (yf n) b r l M R):zaV [I] "payments" (.ref r) M = .ok (.ref l.q) M:=qH h.run rfl
def RunAt.takenF(h:RunAt J I (yf n) b r l M R):zaV [I] "taken" (.ref r) M = .ok (.ref l.t) M:=qH h.run rfl
theorem qp{α:Type}{f:α->FT.T}{xs:List α}{x:α}(e:xs[i]? = some x):atI (xs.map f) (i:Int)=some (f x):=by rw[FT.qX,Qb,e];rfl
theorem yU(h:RunAt J I (yf n) b r l M R)(he:R.es[i]? = some e)(hh:e.house<n.hs.length):qA J I [.ref r,nT i] M = .ok (.tup ((n.asks e.house).map zG)) M:=by
 unfold qA zh8;obtain⟨x,hx,hc⟩:=h.at_e he;have h1:=qH (f:="house") hc rfl;have hn:n.hs[e.house]? = some n.hs[e.house]:=Q0 hh;have h2:=qp (f:=hsT) hn;have h3:n.asks e.house=(n.hs[e.house]).asks:=by unfold Net.asks;rw[hn];rfl
 rw[h3];have hnt:=h.net;unfold yf at hnt;erw[zj,hnt,h.errands,h.er,qp (f:=FT.T.ref) hx,h1,h2];rw[show hsT n.hs[e.house] = .tup [.str n.hs[e.house].name,.tup (n.hs[e.house].asks.map zG)]from rfl];simp_arith
theorem zdT(h:RunAt J I (yf n) b r l M R)(wn:WN n){a:Ask}(w:WA n i a):zU J I [.ref r,zG a] M = .ok (onT (n.pof a)) M:=by
 unfold zU zgT zG;have hnt:=h.net;unfold yf at hnt;cases q:a.purse with
 |none=>
  have i1:∀M,isN (opS none) .non M = .ok (.bl true) M:=fun _=>rfl;have e1:n.pof a=none:=by unfold Net.pof;rw[q];rfl
  rw[e1];erw[eIf,i1];rfl
 |some s=>
  have i1:∀M,isN (opS (some s)) .non M = .ok (.bl false) M:=fun _=>rfl;have e1:n.pof a=some (n.pix s):=by unfold Net.pof;rw[q];rfl
  rw[e1];have hk:=zhY J I n.ps (·.name) (fun p=>[.str p.earns,.int p.per]) (w.pu s q) (by have:=wn.pl;omega) M;rw[show(n.ps.map fun p=>FT.T.tup (.str p.name::[.str p.earns,.int p.per]))=n.ps.map puT from rfl,show FT.T.str s=opS (some s)from rfl]at hk;erw[eIf,i1,zj,hnt,hk];rfl
noncomputable def Run.told(R:Run)(n:Net)(k:Nat):Int × Int:=((((R.puts.getD k []).length:Int) % (n.ps.getD k ⟨"","",1⟩).per),((R.puts.getD k []).length:Int) / (n.ps.getD k ⟨"","",1⟩).per-(R.taken.getD k 0:Nat))
theorem zj6(h:RunAt J I (yf n) b r l M R)(wn:WN n)(hp:R.puts.length=n.ps.length){k:Nat}(hk:k<n.ps.length):yV J I [.ref r,nT k] M = .ok (.tup [.int (R.told n k).1,.int (R.told n k).2]) M:=by
 unfold yV zfg;have hpe:n.ps[k]? = some n.ps[k]:=Q0 hk;have hu:R.puts[k]? = some (R.puts[k]'⋯):=Q0 _;obtain⟨x,hx,hc⟩:=h.at_p hu;have ht:R.taken[k]? = some (R.taken[k]'(by have:=h.tl;omega)):=Q0 _;have hper:=wn.pr n.ps[k] (getElem_mem _);have hnt:=h.net;unfold yf at hnt;have h2:atI (n.ps.map puT) (k:Int)=some (.tup [.str n.ps[k].name,.str n.ps[k].earns,.int n.ps[k].per]):=qp (f:=puT) hpe;have ln:yB (.ref x) M = .ok (.int (((R.puts[k]'⋯).length:Nat):Int)) M:=by unfold yB zX qC;simp only[hc];simp
 have dv:∀i M,zcQ (.int i) (.int n.ps[k].per) M = .ok (.int (i.fdiv n.ps[k].per)) M:=fun i M=>zed (ziD 100 ∅ ⋯ (by refine Nat.lt_of_le_of_lt (show n.ps[k].per.natAbs<=10 ^ 7 from by simp only[Nat.reducePow];omega) (Nat.pow_lt_pow_right ∅ ∅)))
 have md:∀i M,zbR (.int i) (.int n.ps[k].per) M = .ok (.int (i.fmod n.ps[k].per)) M:=fun i M=>zfx ⋯;have cm:za9 J I [.ref r,nT k] M = .ok (.int ((((R.puts[k]'⋯).length:Nat):Int).fdiv n.ps[k].per)) M:=by unfold za9 zfi;erw[zj,h.putsF,h.pu,qp (f:=FT.T.ref) hx,ln,hnt,h2,dv]
 erw[zj,h.putsF,h.pu,qp (f:=FT.T.ref) hx,ln,hnt,h2,md,cm,h.takenF,h.tk,qp (f:=nT) ht];unfold Run.told;rw[Q7,Q7,Q7,hu,hpe,ht,Q9 _ ⋯,Int.fdiv_eq_ediv_of_nonneg _ ⋯];rfl
end
noncomputable def zy(h:Nat)(c:Option (Nat × Nat × Nat)):Er:=⟨h,c,.works,false,none,none⟩
noncomputable def Net.any(n:Net)(k:Nat):Bool:=(n.ps.getD k ⟨"","",1⟩).earns==("any":Str)
noncomputable def Run.share(R:Run)(n:Net)(a:Ask)(tr x:Nat):Run:=match n.pof a with
 |none=>R|some k=>if tr=1\/n.any k=true then R.setP k (R.puts.getD k []++[x])else R
noncomputable def zas(n:Net)(g:Run->Nat->Option (Nat × Nat × Nat)->Run)(R:Run)(num at' tr:Nat):Run:=match R.es[num]? with
 |none=>R|some e=>match (n.asks e.house)[at']? with
  |none=>R|some a=>g ((R.setE num { e with ph:=.waits at' tr,asked:=some R.es.length }).share n a tr R.es.length) (n.hix a.to) (some (num,at',tr))
noncomputable def zM(n:Net):Nat->Run->Nat->Option (Nat × Nat × Nat)->Run
 |0,R,_,_=>R|f+1,R,h,c=>if n.asks h=[]then R.push (zy h c)else zas n (zM n f) (R.push (zy h c)) R.es.length 0 1
structure SB (B:Nat) (R:Run):Prop where
 es:R.es.length<=B
 pu:∀u ∈ R.puts,u.length<=B
 py:R.pays.length<=B
 tk:∀v ∈ R.taken,v<=B
variable {B:Nat}
def SB.mono{C:Nat}(h:SB B R)(hc:B<=C):SB C R:=⟨Qj h.es hc,fun u hu=>Qj (h.pu u hu) hc,Qj h.py hc,fun v hv=>Qj (h.tk v hv) hc⟩
theorem SB.push(h:SB B R)(e:Er):SB (B+1) (R.push e):=⟨by simp[Run.push];exact h.es,fun u hu=>Nat.le_succ_of_le (h.pu u hu),Nat.le_succ_of_le h.py,fun v hv=>Nat.le_succ_of_le (h.tk v hv)⟩
theorem SB.setE(h:SB B R)(i:Nat)(e:Er):SB B (R.setE i e):=⟨by simp[Run.setE];exact h.es,h.pu,h.py,h.tk⟩
theorem mem_set{α:Type}{xs:List α}{k:Nat}{y v:α}(h:v ∈ xs.set k y):v ∈ xs\/v=y:=by
 obtain⟨i,hi⟩:=mem_iff_getElem?.mp h;rw[Qc]at hi;split at hi
 ·split at hi
  ·exact .inr (by cases hi;rfl)
  ·cases hi
 ·exact .inl (Qa hi)
theorem SB.share(h:SB B R)(n:Net)(a:Ask)(tr x:Nat):SB (B+1) (R.share n a tr x):=by
 unfold Run.share;split
 ·exact h.mono ⋯
 ·rename_i k _;split
  ·refine⟨Nat.le_succ_of_le h.es,fun u hu=>?_,Nat.le_succ_of_le h.py,fun v hv=>Nat.le_succ_of_le (h.tk v hv)⟩;rcases mem_set hu with hu | rfl
   ·exact Nat.le_succ_of_le (h.pu u hu)
   ·rw[Qn,Qv]
    by_cases hk:k<R.puts.length
    ·have:=h.pu (R.puts.getD k []) (by rw[Q7,Q0 hk];exact getElem_mem _);omega
    ·rw[Q7,getElem?_eq_none ⋯];simp
  ·exact h.mono ⋯
theorem zbV(R:Run)(n:Net)(a:Ask)(tr x:Nat):(R.share n a tr x).es=R.es/\(R.share n a tr x).puts.length=R.puts.length/\(R.share n a tr x).taken=R.taken/\(R.share n a tr x).pays=R.pays/\(R.share n a tr x).came=R.came:=by
 unfold Run.share;split
 ·exact⟨rfl,rfl,rfl,rfl,rfl⟩
 ·split
  ·exact⟨rfl,by simp[Run.setP],rfl,rfl,rfl⟩
  ·exact⟨rfl,rfl,rfl,rfl,rfl⟩
variable {J I:Addr}{q1 q2:X2}{at':Nat}{g:Run->Nat->Option (Nat × Nat × Nat)->Run}
section
variable {b r:Nat}
noncomputable def Lv(J I:Addr)(n:Net)(b r:Nat)(R':Run)(M:Mem):FT.T->Mem->Prop:=fun t M'=>t = .non/\Kp b M M'/\∃l',RunAt J I (yf n) b r l' M' R'
theorem any_eq{k:Nat}{p:Pu}(h:n.ps[k]? = some p)(M:Mem):eqA (.str p.earns) (.str "any") M = .ok (.bl (n.any k)) M:=by unfold Net.any;rw[Q7,h];rfl
theorem zlz(wn:WN n)(hB:B<100000){num tr:Nat}{a:Ask} 
 (h:RunAt J I (yf n) b r l M R) (sb:SB B R) (hp:R.puts.length=n.ps.length) (he:R.es[num]? = some e) (hh:e.house<n.hs.length) (ha:(n.asks e.house)[at']? = some a)
 (hg:∀(l:Lay) (M:Mem) (R':Run),R'=(R.setE num { e with ph:=.waits at' tr,asked:=some R.es.length }).share n a tr R.es.length->RunAt J I (yf n) b r l M R'->Ok (q2 [.ref r,nT (n.hix a.to),clT (some (num,at',tr))] M) (Lv J I n b r (g R' (n.hix a.to) (some (num,at',tr))) M)) :
  Ok (yi 4 7 (zbz J I q1 q2) [.ref r,nT num,nT at',nT tr] M) (Lv J I n b r (zas n g R num at' tr) M):=by
 have w:=wn.as e.house a (Qa ha);have e0:zas n g R num at' tr=g ((R.setE num { e with ph:=.waits at' tr,asked:=some R.es.length }).share n a tr R.es.length) (n.hix a.to) (some (num,at',tr)):=by unfold zas;rw[he];dsimp only;rw[ha]
 rw[e0];refine qz rfl ?_;unfold zbz;obtain⟨x,hx,hc⟩:=h.at_e he;have ln:yB (.ref l.a) M = .ok (nT R.es.length) M:=by unfold yB zX qC;simp only[h.er];simp[h.el]
 obtain⟨h1,bx⟩:=h.setE hx he { e with ph:=.waits at' tr };have s1:=zbh (f:="state") (y:=.tup [.str "waits",nT at',nT tr]) (fs':=erF { e with ph:=.waits at' tr }) hc rfl (by simp[erF]);have he1:(R.setE num { e with ph:=.waits at' tr }).es[num]? = some { e with ph:=.waits at' tr }:=by show(R.es.set num _)[num]? = _;rw[Qc,Qz rfl,Qz (Qy.mp he).1]
 obtain⟨h2,_⟩:=h1.setE hx he1 { e with ph:=.waits at' tr,asked:=some R.es.length };have ss:(R.setE num { e with ph:=.waits at' tr }).setE num { e with ph:=.waits at' tr,asked:=some R.es.length }=R.setE num { e with ph:=.waits at' tr,asked:=some R.es.length }:=by show({ R with es:=(R.es.set num _).set num _ }:Run)=_;rw[List.set_set];rfl
 rw[ss]at h2;have hc1:(M.set x (.ins J (erF { e with ph:=.waits at' tr })))[x]? = some (.ins J (erF { e with ph:=.waits at' tr })):=get_set hc;have s2:=zbh (f:="asked") (y:=nT R.es.length) (fs':=erF { e with ph:=.waits at' tr,asked:=some R.es.length }) hc1 rfl (by simp[erF]);erw[yU h he hh,qp (f:=zG) ha,zj,h.errands,ln,qF,h.er,qp (f:=FT.T.ref) hx,s1,h1.errands,h1.er,s2,zdT h2 wn w];generalize hM2:(M.set x (.ins J (erF { e with ph:=.waits at' tr }))).set x (.ins J (erF { e with ph:=.waits at' tr,asked:=some R.es.length }))=M2 at h2 ⊢;have k2:Kp b M M2:=by rw[←hM2];exact(Kp.set _ _ bx).trans (Kp.set _ _ bx)
 have hnt:=h2.net;have ξ:∀(l3:Lay) (M3:Mem),Kp b M M3->RunAt J I (yf n) b r l3 M3 ((R.setE num { e with ph:=.waits at' tr,asked:=some R.es.length }).share n a tr R.es.length)->
   Ok ((zaH J I [yf n,zG a] M3).bind fun y M=>(q2 [.ref r,y,.tup [nT num,nT at',nT tr]] M).bind fun _ M=>.ok .non M) (Lv J I n b r (g ((R.setE num { e with ph:=.waits at' tr,asked:=some R.es.length }).share n a tr R.es.length) (n.hix a.to) (some (num,at',tr))) M):=by
  intro l3 M3 k3 h3;rw[znM wn w];simp_arith;refine Ok.bind (hg l3 M3 _ rfl h3) ?_;rintro t M4 ⟨rfl,k4,l4,h4⟩
  try simp_arith
  exact Ok.ret ⟨rfl,k3.trans k4,l4,h4⟩
 cases q:n.pof a with
 |none=>
  have i1:∀M,zbK (onT none) .non M = .ok (.bl false) M:=fun _=>rfl;have e1:(R.setE num { e with ph:=.waits at' tr,asked:=some R.es.length }).share n a tr R.es.length=R.setE num { e with ph:=.waits at' tr,asked:=some R.es.length }:=by unfold Run.share;rw[q]
  erw[i1,hnt];exact ξ l M2 k2 (by rw[e1];exact h2)
 |some k=>
  have hk:=w.plt q;rw[show onT (some k) = .int (k:Int)from rfl];have i1:∀M,zbK (.int (k:Int)) .non M = .ok (.bl true) M:=fun _=>rfl;have hu:(R.setE num { e with ph:=.waits at' tr,asked:=some R.es.length }).puts[k]? = some (R.puts[k]'⋯):=Q0 (show k<R.puts.length by omega);obtain⟨y,hy,hcy⟩:=h2.at_p hu;have gd:R.puts.getD k []=R.puts[k]'⋯:=by rw[Q7,Q0 (show k<R.puts.length by omega)];rfl
  obtain⟨h3,by3⟩:=h2.setP hy hu (R.puts.getD k []++[R.es.length]);have ap:=zao (t:=nT R.es.length) hcy (by rw[Qh,sizeLine_eq];have:=sb.pu _ (getElem_mem (show k<R.puts.length by omega));omega);have hps:n.ps[k]? = some n.ps[k]:=Q0 hk;have hpa:atI (n.ps.map puT) (k:Int)=some (.tup [.str n.ps[k].name,.str n.ps[k].earns,.int n.ps[k].per]):=qp (f:=puT) hps;have lc:zL (.ref y) M2 = .ok (.ref y) M2:=yT hcy;unfold yf at hnt
  by_cases hs:tr=1\/n.any k=true
  ·have e1:(R.setE num { e with ph:=.waits at' tr,asked:=some R.es.length }).share n a tr R.es.length=(R.setE num { e with ph:=.waits at' tr,asked:=some R.es.length }).setP k (R.puts.getD k []++[R.es.length]):=by unfold Run.share;rw[q];dsimp only;rw[Qz hs];rfl
   have h3':RunAt J I (yf n) b r l (M2.set y (.lst (((R.puts[k]'⋯).map nT)++[nT R.es.length]))) ((R.setE num { e with ph:=.waits at' tr,asked:=some R.es.length }).share n a tr R.es.length):=by rw[e1,gd];rw[gd,Qq]at h3;exact h3
   have k3:Kp b M (M2.set y (.lst (((R.puts[k]'⋯).map nT)++[nT R.es.length]))):=k2.trans (Kp.set _ _ by3);have fn:=ξ l _ k3 h3';have hn3:=h3'.net
   by_cases z:tr=1
   ·have zt:((tr:Int)==1)=true:=by rw[z];rfl
    erw[i1,zt,h2.putsF,h2.pu,qp (f:=FT.T.ref) hy,lc,ap,hn3];exact fn
   ·have zt:((tr:Int)==1)=false:=by simp;omega
    have ha':n.any k=true:=hs.resolve_left z;erw[i1,zt,hnt,hpa,any_eq hps,ha',h2.putsF,h2.pu,qp (f:=FT.T.ref) hy,lc,ap,hn3];exact fn
  ·have e1:(R.setE num { e with ph:=.waits at' tr,asked:=some R.es.length }).share n a tr R.es.length=R.setE num { e with ph:=.waits at' tr,asked:=some R.es.length }:=by unfold Run.share;rw[q];dsimp only;rw[QA hs]
   have zt:((tr:Int)==1)=false:=by have:¬tr=1:=fun z=>hs (.inl z);simp;omega
   have ha':n.any k=false:=by cases z:n.any k with|false=>rfl|true=>exact absurd (.inr z) hs
   have fn:=ξ l M2 k2 (by rw[e1];exact h2);unfold yf at fn;erw[i1,zt,hnt,hpa,any_eq hps,ha'];exact fn
def zc1(R:Run)(e:Er):(R.push e).es[R.es.length]? = some e:=List.getElem?_concat_length
theorem zjy(wn:WN n):∀(f m:Nat),2*f<=m->∀{B:Nat} {h:Nat} {c:Option (Nat × Nat × Nat)} {l:Lay} {M:Mem} {R:Run},B+2*f<100000->RunAt J I (yf n) b r l M R->b<=M.length->SB B R->R.puts.length=n.ps.length->h<n.hs.length->n.hs.length<=h+f->
  Ok ((yk J I m).2 [.ref r,nT h,clT c] M) (Lv J I n b r (zM n f R h c) M)
 |0,m,_,B,h,c,l,M,R,_,_,_,_,_,hh,hf=>absurd hh ⋯|f+1,0,hm,B,h,c,l,M,R,_,_,_,_,_,hh,hf=>absurd hm ⋯|f+1,m+1,hm,B,h,c,l,M,R,hB,ra,hbM,sb,hp,hh,hf=>by
  show Ok (yi 3 4 (zbm J I (yk J I m).1 (yk J I m).2) [.ref r,nT h,clT c] M) _;refine qz rfl ?_;unfold zbm;have i0:zY J I [.ref M.length,nT h,clT c] (M++[.ins J []]) = .ok .non (M++[.ins J (erF (zy h c))]):=by
   unfold zY zeR;have st:∀(fs fs':List (Str × FT.T)) (f:Str) (y:FT.T),zdh f y fs=fs'->fs.length<1000->zaZ [J] f (.ref M.length) y (M++[.ins J fs]) = .ok () (M++[.ins J fs']):=fun fs fs' f y e hl=>by rw[zbh (x:=M.length) yS e hl];congr 1;rw[set_append_right _ _ (Q3 _),Nat.sub_self];rfl
   erw[qF,st [] [("house",nT h)] "house" (nT h) rfl (by simp),st [("house",nT h)] [("house",nT h),("caller",clT c)] "caller" (clT c) rfl (by simp),st [("house",nT h),("caller",clT c)] [("house",nT h),("caller",clT c),("state",.tup [.str "works"])] "state" (.tup [.str "works"]) rfl (by simp),st [("house",nT h),("caller",clT c),("state",.tup [.str "works"])] [("house",nT h),("caller",clT c),("state",.tup [.str "works"]),("is_lost",.bl false)] "is_lost" (.bl false) rfl (by simp),st [("house",nT h),("caller",clT c),("state",.tup [.str "works"]),("is_lost",.bl false)] [("house",nT h),("caller",clT c),("state",.tup [.str "works"]),("is_lost",.bl false),("asked",.non)] "asked" .non rfl (by simp),st [("house",nT h),("caller",clT c),("state",.tup [.str "works"]),("is_lost",.bl false),("asked",.non)] (erF (zy h c)) "stood" .non rfl (by simp)]
  have ra1:=ra.push hbM (zy h c);have er1:(M++[Cell.ins J (erF (zy h c))])[l.a]? = some (.lst (l.es.map .ref)):=by rw[Q6 (zK ra.er)];exact ra.er
  have ap:=zao (t:=.ref M.length) er1 (by rw[Qh,sizeLine_eq,ra.el];have:=sb.es;omega);rw[show l.es.map FT.T.ref++[.ref M.length]=(l.es++[M.length]).map .ref from by simp]at ap;have kp:Kp b M ((M++[Cell.ins J (erF (zy h c))]).set l.a (.lst ((l.es++[M.length]).map .ref))):=(Kp.app _ _ hbM).trans (Kp.set _ _ (ra.lo (l.a,.lst (l.es.map .ref)) (.tail _ (.head _))));have mk:zcW J (zY J I) (zb (O 1) (zb (O 2) zd)) [some (.ref r),some (nT h),some (clT c),none] M = .ok (.ref M.length) (M++[.ins J (erF (zy h c))]):=by erw[zcW,i0];rfl
  erw[zj,ra.errands,yT ra.er,mk,ap];generalize hM1:(M++[Cell.ins J (erF (zy h c))]).set l.a (.lst ((l.es++[M.length]).map .ref))=M1 at ra1 kp ⊢;have ln:yB (.ref l.a) M1 = .ok (.int ((R.es.length:Int)+1)) M1:=by unfold yB zX qC;have:=ra1.er;simp only at this;simp only[this];simp[ra.el]
  have sub1:(R.es.length:Int)+1-1=(R.es.length:Int):=by omega
  have hn1:(R.push (zy h c)).es[R.es.length]? = some (zy h c):=zc1 R _;have as1:=yU ra1 hn1 hh;erw[ra1.errands,ln,sub1,as1]
  by_cases h0:n.asks h=[]
  ·have e1:zM n (f+1) R h c=R.push (zy h c):=by unfold zM;rw[Qz h0]
   rw[e1];have:(zy h c).house=h:=rfl;rw[this,h0];simp_arith;exact Ok.ret ⟨rfl,kp,_,ra1⟩
  ·have e1:zM n (f+1) R h c=zas n (zM n f) (R.push (zy h c)) R.es.length 0 1:=by rw[zM,QA h0]
   rw[e1];obtain⟨a,as,hq⟩:=List.exists_cons_of_ne_nil h0;have ha:(n.asks (zy h c).house)[0]? = some a:=by show(n.asks h)[0]? = _;rw[hq];rfl
   have w:=wn.as h a (by rw[hq];exact .head _);have hlen:decide ((0:Int)<(((n.asks (zy h c).house).map zG).length:Int))=true:=Qw (by rw[Qh];show(0:Int)<((n.asks h).length:Int);rw[hq];simp)
   erw[hlen];obtain⟨m',rfl⟩:∃m',m=m'+1:=⟨m-1,⋯⟩;refine Ok.bind (zlz wn (q1:=(yk J I m').1) (q2:=(yk J I m').2) (g:=zM n f) (B:=B+1) ⋯ ra1 (sb.push _) hp hn1 hh ha ?_) ?_
   ·intro l3 M3 R3 e3 ra3;have hM3:b<=M3.length:=Qj (ra3.lo _ (.head _)) (Nat.le_of_lt (zK ra3.run));have sl:=zbV ((R.push (zy h c)).setE R.es.length { zy h c with ph:=.waits 0 1,asked:=some (R.push (zy h c)).es.length }) n a 1 (R.push (zy h c)).es.length;refine zjy wn f m' ⋯ (B:=B+2) ⋯ ra3 hM3 ?_ ?_ (by exact w.lt) (by have:=w.up;omega)
    ·rw[e3];exact((sb.push _).setE _ _).share n a 1 _
    ·rw[e3,sl.2.1];exact hp
   ·rintro t M2 ⟨rfl,k2,l2,h2⟩
    try simp_arith
    exact Ok.ret ⟨rfl,kp.trans k2,l2,h2⟩
end
noncomputable def zca(n:Net)(g:Run->Nat->Str->Run)(R:Run)(c:Nat × Nat × Nat)(w:Str):Run:=match R.es[c.1]? with
 |none=>R|some e=>if(w==("well":Str))=true/\c.2.1+1<(n.asks e.house).length then zas n (zM n 4) R c.1 (c.2.1+1) 1
  else if(w==("well":Str))=true\/((w==("spent":Str))=true/\((n.asks e.house)[c.2.1]?).any (·.hears)=true)then g R c.1 w
  else R.setE c.1 { e with ph:=.stands c.2.1 c.2.2,stood:=some R.came }
noncomputable def zax(n:Net):Nat->Run->Nat->Str->Run
 |0,R,_,_=>R|f+1,R,i,w=>match R.es[i]? with
  |none=>R|some e=>match e.caller with
   |none=>R.setE i { e with ph:=.ended w }
   |some c=>if e.lost=true then R.setE i { e with ph:=.ended w }else zca n (zax n f) (R.setE i { e with ph:=.ended w }) c w
def zex(n:Net)(e:Er):Prop:=match e.ph with
 |.waits a t=>a<(n.asks e.house).length/\1<=t|.stands a t=>a<(n.asks e.house).length/\e.stood.isSome=true/\1<=t|_=>True
structure RI (n:Net) (R:Run):Prop where
 hs:∀(i:Nat) (e:Er),R.es[i]? = some e->e.house<n.hs.length
 cl:∀(i:Nat) (e:Er) (c:Nat × Nat × Nat),R.es[i]? = some e->e.caller=some c->c.1<i/\∃ce,R.es[c.1]? = some ce/\ce.house<e.house/\c.2.1<(n.asks ce.house).length
 ph:∀(i:Nat) (e:Er),R.es[i]? = some e->zex n e
 pl:R.puts.length=n.ps.length
variable {e' q:Er}{j:Nat}
theorem zau{es:List Er}(h:(es.set i e')[j]? = some q):(j=i/\q=e'/\i<es.length)\/(j ≠ i/\es[j]? = some q):=by
 rw[Qc]at h;split at h
 ·rename_i z;split at h
  ·cases h;exact .inl ⟨z.symm,rfl,⋯⟩
  ·cases h
 ·rename_i z;exact .inr ⟨fun y=>z y.symm,h⟩
theorem RI.setE(h:RI n R)(he:R.es[i]? = some e)(h1:e'.house=e.house)(h2:e'.caller=e.caller)(h3:zex n e'):RI n (R.setE i e'):=by
 have fwd:∀{j:Nat} {q:Er},R.es[j]? = some q->∃q',(R.setE i e').es[j]? = some q'/\q'.house=q.house:=fun {j q} hq=>by
  show ∃q',(R.es.set i e')[j]? = some q'/\_;rw[Qc]
  by_cases z:i=j
  ·rw[Qz z,Qz (Qy.mp he).1];subst z;rw[he]at hq;cases hq;exact⟨e',rfl,h1⟩
  ·rw[QA z];exact⟨q,hq,rfl⟩
 refine⟨fun j q hq=>?_,fun j q c hq hc=>?_,fun j q hq=>?_,h.pl⟩
 ·rcases zau hq with⟨rfl,rfl,_⟩ | ⟨_,hq⟩
  ·rw[h1];exact h.hs _ _ he
  ·exact h.hs _ _ hq
 ·rcases zau hq with⟨rfl,rfl,_⟩ | ⟨_,hq⟩
  ·rw[h2]at hc;obtain⟨a,ce,b1,b2,b3⟩:=h.cl _ _ _ he hc;obtain⟨q',d1,d2⟩:=fwd b1;exact⟨a,q',d1,by rw[d2,h1];exact b2,by rw[d2];exact b3⟩
  ·obtain⟨a,ce,b1,b2,b3⟩:=h.cl _ _ _ hq hc;obtain⟨q',d1,d2⟩:=fwd b1;exact⟨a,q',d1,by rw[d2];exact b2,by rw[d2];exact b3⟩
 ·rcases zau hq with⟨rfl,rfl,_⟩ | ⟨_,hq⟩
  ·exact h3
  ·exact h.ph _ _ hq
section
variable {b r:Nat}
def zg3(w s:Str)(M:Mem):eqA (.str w) (.str s) M = .ok (.bl (w==s)) M:=rfl
def znV(w s:Str)(M:Mem):neA (.str w) (.str s) M = .ok (.bl (!(w==s))) M:=rfl
theorem zj4(wn:WN n)(hB:B<90000){num tr:Nat}{a:Ask} 
 (h:RunAt J I (yf n) b r l M R) (sb:SB B R) (hp:R.puts.length=n.ps.length) (he:R.es[num]? = some e) (hh:e.house<n.hs.length) (ha:(n.asks e.house)[at']? = some a) :
  Ok (zal J I [.ref r,nT num,nT at',nT tr] M) (Lv J I n b r (zas n (zM n 4) R num at' tr) M):=by
 show Ok (yi 4 7 (zbz J I (yk J I 11).1 (yk J I 11).2) [.ref r,nT num,nT at',nT tr] M) _;have w:=wn.as e.house a (Qa ha);refine zlz wn (B:=B) ⋯ h sb hp he hh ha ?_;intro l3 M3 R3 e3 ra3;have hM3:b<=M3.length:=Qj (ra3.lo _ (.head _)) (Nat.le_of_lt (zK ra3.run));have sl:=zbV (R.setE num { e with ph:=.waits at' tr,asked:=some R.es.length }) n a tr R.es.length;refine zjy wn 4 11 ⋯ (B:=B+1) ⋯ ra3 hM3 (by rw[e3];exact(sb.setE _ _).share n a tr _) (by rw[e3,sl.2.1];exact hp) w.lt (by have:=wn.hl;omega)
theorem zkw(wn:WN n){g:Run->Nat->Str->Run}(hB:B<90000){c:Nat × Nat × Nat}{w:Str} 
 (h:RunAt J I (yf n) b r l M R) (sb:SB B R) (ri:RI n R) (he:R.es[c.1]? = some e) (hat:c.2.1<(n.asks e.house).length)
 (hg:Ok (q1 [.ref r,nT c.1,.str w] M) (Lv J I n b r (g R c.1 w) M)) :
  Ok (yi 3 6 (zfh J I q1 q2) [.ref r,clT (some c),.str w] M) (Lv J I n b r (zca n g R c w) M):=by
 have hh:=ri.hs _ _ he;generalize hR:zca n g R c w=R';have e0:R'=if(w==("well":Str))=true/\c.2.1+1<(n.asks e.house).length then zas n (zM n 4) R c.1 (c.2.1+1) 1
  else if(w==("well":Str))=true\/((w==("spent":Str))=true/\((n.asks e.house)[c.2.1]?).any (·.hears)=true)then g R c.1 w
  else R.setE c.1 { e with ph:=.stands c.2.1 c.2.2,stood:=some R.came }:=by
  rw[←hR];unfold zca;rw[he]
 obtain⟨x,hx,hc⟩:=h.at_e he;have ha:(n.asks e.house)[c.2.1]? = some (n.asks e.house)[c.2.1]:=Q0 hat;have haa:atI ((n.asks e.house).map zG) (c.2.1:Int)=some (.tup [.str (n.asks e.house)[c.2.1].to,.int (n.asks e.house)[c.2.1].tries,opS (n.asks e.house)[c.2.1].purse,.str (n.asks e.house)[c.2.1].word,.bl (n.asks e.house)[c.2.1].hears,.bl (n.asks e.house)[c.2.1].sure]):=qp (f:=zG) ha;have a4:∀(t0 t1 t2 t3 t4 t5:FT.T),atI [t0,t1,t2,t3,t4,t5] 4=some t4:=fun _ _ _ _ _ _=>rfl;refine qz rfl ?_;unfold zfh;rw[show clT (some c) = .tup [nT c.1,nT c.2.1,nT c.2.2]from rfl];have hl:(((n.asks e.house).map zG).length:Int)=((n.asks e.house).length:Int):=by rw[Qh]
 erw[yU h he hh,zg3,hl];have s1:=zbh (f:="state") (y:=.tup [.str "stands",nT c.2.1,nT c.2.2]) (fs':=erF { e with ph:=.stands c.2.1 c.2.2 }) hc rfl (by simp[erF]);obtain⟨h1,bx⟩:=h.setE hx he { e with ph:=.stands c.2.1 c.2.2 };have hc1:(M.set x (.ins J (erF { e with ph:=.stands c.2.1 c.2.2 })))[x]? = some (.ins J (erF { e with ph:=.stands c.2.1 c.2.2 })):=get_set hc;have s2:=zbh (f:="stood") (y:=nT R.came) (fs':=erF { e with ph:=.stands c.2.1 c.2.2,stood:=some R.came }) hc1 rfl (by simp[erF]);have he1:(R.setE c.1 { e with ph:=.stands c.2.1 c.2.2 }).es[c.1]? = some { e with ph:=.stands c.2.1 c.2.2 }:=by show(R.es.set c.1 _)[c.1]? = _;rw[Qc,Qz rfl,Qz (Qy.mp he).1]
 obtain⟨h2,_⟩:=h1.setE hx he1 { e with ph:=.stands c.2.1 c.2.2,stood:=some R.came };have ss:(R.setE c.1 { e with ph:=.stands c.2.1 c.2.2 }).setE c.1 { e with ph:=.stands c.2.1 c.2.2,stood:=some R.came }=R.setE c.1 { e with ph:=.stands c.2.1 c.2.2,stood:=some R.came }:=by show({ R with es:=(R.es.set c.1 _).set c.1 _ }:Run)=_;rw[List.set_set];rfl
 rw[ss]at h2;have k2:Kp b M ((M.set x (.ins J (erF { e with ph:=.stands c.2.1 c.2.2 }))).set x (.ins J (erF { e with ph:=.stands c.2.1 c.2.2,stood:=some R.came }))):=(Kp.set _ _ bx).trans (Kp.set _ _ bx);have ca:zaV [I] "came" (.ref r) (M.set x (.ins J (erF { e with ph:=.stands c.2.1 c.2.2 }))) = .ok (nT R.came) (M.set x (.ins J (erF { e with ph:=.stands c.2.1 c.2.2 }))):=h1.came
 by_cases hw:(w==("well":Str))=true
 ·by_cases hl2:c.2.1+1<(n.asks e.house).length
  ·rw[Qz ⟨hw,hl2⟩]at e0;rw[e0];have d1:decide ((c.2.1:Int)+1<((n.asks e.house).length:Int))=true:=Qw ⋯;erw[hw,d1];refine Ok.bind (zj4 wn hB h sb ri.pl he hh (at':=c.2.1+1) (tr:=1) (Q0 hl2)) ?_;rintro t M2 ⟨rfl,k2,l2,h2⟩
   try simp_arith
   exact Ok.ret ⟨rfl,k2,l2,h2⟩
  ·rw[QA fun z=>hl2 z.2,Qz (.inl hw)]at e0;rw[e0];have d1:decide ((c.2.1:Int)+1<((n.asks e.house).length:Int))=false:=Qx ⋯;erw[hw,d1];refine Ok.bind hg ?_;rintro t M2 ⟨rfl,k2,l2,h2⟩
   try simp_arith
   exact Ok.ret ⟨rfl,k2,l2,h2⟩
 ·have hw':(w==("well":Str))=false:=by simpa using hw
  rw[QA fun z=>hw z.1]at e0
  by_cases hs:(w==("spent":Str))=true
  ·by_cases hh2:(n.asks e.house)[c.2.1].hears=true
   ·rw[Qz (.inr ⟨hs,by rw[ha];exact hh2⟩)]at e0;rw[e0];erw[hw',hs,haa,a4,hh2];refine Ok.bind hg ?_;rintro t M2 ⟨rfl,k2,l2,h2⟩
    try simp_arith
    exact Ok.ret ⟨rfl,k2,l2,h2⟩
   ·have hh3:(n.asks e.house)[c.2.1].hears=false:=by simpa using hh2
    rw[QA (by
     rintro (z | ⟨_,z⟩)
     ·exact hw z
     ·rw[ha]at z;exact hh2 z)]at e0
    rw[e0];erw[hw',hs,haa,a4,hh3,qF,zj,h.errands,h.er,qp (f:=FT.T.ref) hx,s1,ca,h1.errands,h1.er,s2];exact Ok.ret ⟨rfl,k2,l,h2⟩
  ·have hs':(w==("spent":Str))=false:=by simpa using hs
   rw[QA (by
    rintro (z | ⟨z,_⟩)
    ·exact hw z
    ·exact hs z)]at e0
   rw[e0];erw[hw',hs',qF,zj,h.errands,h.er,qp (f:=FT.T.ref) hx,s1,ca,h1.errands,h1.er,s2];exact Ok.ret ⟨rfl,k2,l,h2⟩
theorem zjp(wn:WN n):∀(f m:Nat),2*f<=m->∀{B i:Nat} {w:Str} {e:Er} {l:Lay} {M:Mem} {R:Run},B<90000->RunAt J I (yf n) b r l M R->SB B R->RI n R->R.es[i]? = some e->e.house<f->
  Ok ((yu J I m).1 [.ref r,nT i,.str w] M) (Lv J I n b r (zax n f R i w) M)
 |0,m,_,B,i,w,e,l,M,R,_,_,_,_,_,hf=>absurd hf ⋯|f+1,0,hm,B,i,w,e,l,M,R,_,_,_,_,_,hf=>absurd hm ⋯|f+1,m+1,hm,B,i,w,e,l,M,R,hB,h,sb,ri,he,hf=>by
  show Ok (yi 3 4 (zcb J I (yu J I m).1 (yu J I m).2) [.ref r,nT i,.str w] M) _;refine qz rfl ?_;unfold zcb;obtain⟨x,hx,hc⟩:=h.at_e he;have s1:=zbh (f:="state") (y:=.tup [.str "ended",.str w]) (fs':=erF { e with ph:=.ended w }) hc rfl (by simp[erF]);obtain⟨h1,bx⟩:=h.setE hx he { e with ph:=.ended w };have hc1:(M.set x (.ins J (erF { e with ph:=.ended w })))[x]? = some (.ins J (erF { e with ph:=.ended w })):=get_set hc;have f1:=qH (f:="caller") hc1 rfl;have f2:=qH (f:="is_lost") hc1 rfl;have k1:Kp b M (M.set x (.ins J (erF { e with ph:=.ended w }))):=Kp.set _ _ bx;generalize hR:zax n (f+1) R i w=R';erw[zj,h.errands,h.er,qp (f:=FT.T.ref) hx,qF,s1,f1];generalize hM1:M.set x (.ins J (erF { e with ph:=.ended w }))=M1 at h1 f1 f2 k1 ⊢;cases q:e.caller with
  |none=>
   have e1:zax n (f+1) R i w=R.setE i { e with ph:=.ended w }:=by unfold zax;rw[he];dsimp only;rw[q]
   have i1:∀M,zbK (clT none) .non M = .ok (.bl false) M:=fun _=>rfl;rw[←hR,e1];have q':({ e with ph:=.ended w }:Er).caller=none:=q;rw[q]at f1;erw[i1];exact Ok.ret ⟨rfl,k1,l,h1⟩
  |some c=>
   have i1:∀M,zbK (clT (some c)) .non M = .ok (.bl true) M:=fun _=>rfl;cases ql:e.lost with
   |true=>
    have e1:zax n (f+1) R i w=R.setE i { e with ph:=.ended w }:=by unfold zax;rw[he];dsimp only;rw[q];dsimp only;rw[Qz ql]
    rw[←hR,e1];rw[ql]at f2;erw[i1,f2];exact Ok.ret ⟨rfl,k1,l,h1⟩
   |false=>
    have e1:zax n (f+1) R i w=zca n (zax n f) (R.setE i { e with ph:=.ended w }) c w:=by rw[zax,he];dsimp only;rw[q];dsimp only;rw[QA (by rw[ql];simp)]
    rw[←hR,e1];rw[ql]at f2;rw[q]at f1;have ri1:RI n (R.setE i { e with ph:=.ended w }):=ri.setE he rfl rfl True.intro;have hei:(R.setE i { e with ph:=.ended w }).es[i]? = some { e with ph:=.ended w }:=by show(R.es.set i _)[i]? = _;rw[Qc,Qz rfl,Qz (Qy.mp he).1]
    obtain⟨_,ce,c1,c2,c3⟩:=ri1.cl i _ c hei q;obtain⟨m',rfl⟩:∃m',m=m'+1:=⟨m-1,⋯⟩;erw[i1,f2,f1];refine Ok.bind (zkw wn (q1:=(yu J I m').1) (q2:=(yu J I m').2) (g:=zax n f) hB h1 (sb.setE _ _) ri1 c1 c3 ?_) ?_
    ·exact zjp wn f m' ⋯ hB h1 (sb.setE _ _) ri1 c1 (by have c2':ce.house<e.house:=c2;omega)
    ·rintro t M2 ⟨rfl,k2,l2,h2⟩
     try simp_arith
     exact Ok.ret ⟨rfl,k1.trans k2,l2,h2⟩
end
inductive Evt where
 |fresh
 |ends (i:Nat) (w:Str)
 |lost (i:Nat)
 |again (i:Nat)
 |up (i:Nat)
noncomputable def evT:Evt->FT.T
 |.fresh=>.tup [.str "fresh"]|.ends i w=>.tup [.str "ends",nT i,.str w]|.lost i=>.tup [.str "lost",nT i]|.again i=>.tup [.str "again",nT i]|.up i=>.tup [.str "up",nT i]
noncomputable def Ph.isW:Ph->Bool
 |.works=>true|_=>false
noncomputable def Ph.isS:Ph->Bool
 |.stands _ _=>true|_=>false
noncomputable def Ph.isE:Ph->Bool
 |.ended _=>true|_=>false
noncomputable def Ph.at1:Ph->Nat
 |.waits a _=>a|.stands a _=>a|_=>0
noncomputable def Ph.at2:Ph->Nat
 |.waits _ t=>t|.stands _ t=>t|_=>0
noncomputable def Run.er(R:Run)(i:Nat):Er:=R.es.getD i (zy 0 none)
theorem zaI(h:R.es[i]? = some e):R.er i=e:=by unfold Run.er;rw[Q7,h];rfl
noncomputable def Net.ask(n:Net)(h k:Nat):Ask:=(n.asks h).getD k ⟨"",0,none,"",false,false⟩
theorem zeg{h k:Nat}{a:Ask}(e:(n.asks h)[k]? = some a):n.ask h k=a:=by unfold Net.ask;rw[Q7,e];rfl
noncomputable def zc3(n:Net)(R:Run)(e:Er):Bool:=match e.caller with
 |none=>false|some c=>!(e.lost || e.ph.isE) && !(n.ask (R.er c.1).house c.2.1).sure
noncomputable def yO(n:Net)(e:Er):Bool:=e.ph.isS && ((n.ask e.house e.ph.at1).tries==0 || decide ((e.ph.at2:Int)<(n.ask e.house e.ph.at1).tries))
noncomputable def zjs(n:Net)(R:Run)(e:Er):Bool:=match n.pof (n.ask e.house e.ph.at1)with
 |none=>true|some k=>decide (0<(R.told n k).2)
noncomputable def zaT(n:Net)(R:Run)(i:Nat):List Evt:=(if(R.er i).ph.isW=true then[.ends i "bad",.ends i "spent",.ends i "well"]else[])++(if zc3 n R (R.er i)=true then[.lost i]else[])++(if yO n (R.er i)=true then[.again i]else[])++(if(R.er i).ph.isS=true then[.up i]else[])
noncomputable def Evt.isA:Evt->Bool
 |.again _=>true|_=>false
noncomputable def zaW(n:Net)(R:Run)(i:Nat):List Evt:=(zaT n R i).filter fun ev=>!ev.isA || zjs n R (R.er i)
variable {xs:List FT.T}
section
variable {b r:Nat}
theorem phW(p:Ph)(M:Mem):∃t ts,phT p = .tup (t::ts)/\eqA t (.str "works") M = .ok (.bl p.isW) M/\eqA t (.str "stands") M = .ok (.bl p.isS) M/\neA t (.str "stands") M = .ok (.bl (!p.isS)) M/\eqA t (.str "ended") M = .ok (.bl p.isE) M:=by cases p with|works=>exact⟨_,_,rfl,rfl,rfl,rfl,rfl⟩|waits a t=>exact⟨_,_,rfl,rfl,rfl,rfl,rfl⟩|stands a t=>exact⟨_,_,rfl,rfl,rfl,rfl,rfl⟩|ended w=>exact⟨_,_,rfl,rfl,rfl,rfl,rfl⟩
theorem phS{p:Ph}(h:p.isS=true):phT p = .tup [.str "stands",nT p.at1,nT p.at2]:=by cases p with|stands a t=>rfl|_=>cases h
theorem zdi(h:e.ph.isS=true)(k:zex n e):e.ph.at1<(n.asks e.house).length:=by unfold zex at k;cases q:e.ph with|stands a t=>rw[q]at k;exact k.1|_=>rw[q]at h;cases h
theorem zd6(h:e.ph.isS=true)(k:zex n e):1<=e.ph.at2/\e.stood.isSome=true:=by unfold zex at k;cases q:e.ph with|stands a t=>rw[q]at k;exact⟨k.2.2,k.2.1⟩|_=>rw[q]at h;cases h
theorem zjP(h:RunAt J I (yf n) b r l M R)(ri:RI n R)(he:R.es[i]? = some e):zaO J I [.ref r,nT i] M = .ok (.bl (zc3 n R e)) M:=by
 unfold zaO zeQ;obtain⟨x,hx,hc⟩:=h.at_e he;have f1:=qH (f:="caller") hc rfl;have f2:=qH (f:="is_lost") hc rfl;have f3:=qH (f:="state") hc rfl;obtain⟨t,ts,p1,_,_,_,p4⟩:=phW e.ph M;rw[p1]at f3;unfold zc3;cases q:e.caller with
 |none=>rw[q]at f1;have i1:∀M,isN (clT none) .non M = .ok (.bl true) M:=fun _=>rfl;erw[zj,h.errands,h.er,qp (f:=FT.T.ref) hx,f1,i1]
 |some c=>
  rw[q]at f1;have i1:∀M,isN (.tup [nT c.1,nT c.2.1,nT c.2.2]) .non M = .ok (.bl false) M:=fun _=>rfl;rw[show clT (some c) = .tup [nT c.1,nT c.2.1,nT c.2.2]from rfl]at f1;obtain⟨_,ce,c1,c2,c3⟩:=ri.cl i e c he q;have ha:(n.asks ce.house)[c.2.1]? = some (n.asks ce.house)[c.2.1]:=Q0 c3;have haa:atI ((n.asks ce.house).map zG) (c.2.1:Int)=some (.tup [.str (n.asks ce.house)[c.2.1].to,.int (n.asks ce.house)[c.2.1].tries,opS (n.asks ce.house)[c.2.1].purse,.str (n.asks ce.house)[c.2.1].word,.bl (n.asks ce.house)[c.2.1].hears,.bl (n.asks ce.house)[c.2.1].sure]):=qp (f:=zG) ha;have a5:∀(t0 t1 t2 t3 t4 t5:FT.T),atI [t0,t1,t2,t3,t4,t5] 5=some t5:=fun _ _ _ _ _ _=>rfl;dsimp only;rw[zaI c1,zeg ha];cases ql:e.lost with
  |true=>rw[ql]at f2;erw[zj,h.errands,h.er,qp (f:=FT.T.ref) hx,f1,i1,f2];rfl
  |false=>
   rw[ql]at f2;cases qe:e.ph.isE with
   |true=>rw[qe]at p4;erw[zj,h.errands,h.er,qp (f:=FT.T.ref) hx,f1,i1,f2,f3,p4];rfl
   |false=>rw[qe]at p4;erw[zj,h.errands,h.er,qp (f:=FT.T.ref) hx,f1,i1,f2,f3,p4,yU h c1 (ri.hs _ _ c1),haa,a5];cases (n.asks ce.house)[c.2.1].sure<;>rfl
theorem zik(h:RunAt J I (yf n) b r l M R)(ri:RI n R)(he:R.es[i]? = some e):zO J I [.ref r,nT i] M = .ok (.bl (yO n e)) M:=by
 unfold zO zdp;obtain⟨x,hx,hc⟩:=h.at_e he;have f3:=qH (f:="state") hc rfl;unfold yO;cases qs:e.ph.isS with
 |false=>obtain⟨t,ts,p1,_,_,p3,_⟩:=phW e.ph M;rw[p1]at f3;rw[qs]at p3;erw[zj,h.errands,h.er,qp (f:=FT.T.ref) hx,f3,p3];rfl
 |true=>
  rw[phS qs]at f3;have hl:=zdi qs (ri.ph _ _ he);have ha:(n.asks e.house)[e.ph.at1]? = some (n.asks e.house)[e.ph.at1]:=Q0 hl;have haa:atI ((n.asks e.house).map zG) (e.ph.at1:Int)=some (.tup [.str (n.asks e.house)[e.ph.at1].to,.int (n.asks e.house)[e.ph.at1].tries,opS (n.asks e.house)[e.ph.at1].purse,.str (n.asks e.house)[e.ph.at1].word,.bl (n.asks e.house)[e.ph.at1].hears,.bl (n.asks e.house)[e.ph.at1].sure]):=qp (f:=zG) ha;rw[zeg ha];have ns:∀M,neA (.str "stands") (.str "stands") M = .ok (.bl false) M:=fun _=>rfl;cases q0:(n.asks e.house)[e.ph.at1].tries==0 with
  |true=>erw[zj,h.errands,h.er,qp (f:=FT.T.ref) hx,f3,ns,yU h he (ri.hs _ _ he),haa,q0];rfl
  |false=>erw[zj,h.errands,h.er,qp (f:=FT.T.ref) hx,f3,ns,yU h he (ri.hs _ _ he),haa,q0];rfl
theorem zpv(h:RunAt J I (yf n) b r l M R)(wn:WN n)(ri:RI n R)(he:R.es[i]? = some e)(qs:e.ph.isS=true):zbn J I [.ref r,nT i] M = .ok (.bl (zjs n R e)) M:=by
 unfold zbn zgX;obtain⟨x,hx,hc⟩:=h.at_e he;have f3:=qH (f:="state") hc rfl;rw[phS qs]at f3;have hl:=zdi qs (ri.ph _ _ he);have ha:(n.asks e.house)[e.ph.at1]? = some (n.asks e.house)[e.ph.at1]:=Q0 hl;have haa:atI ((n.asks e.house).map zG) (e.ph.at1:Int)=some (zG (n.asks e.house)[e.ph.at1]):=qp (f:=zG) ha;have w:=wn.as e.house _ (Qa ha);have po:=zdT h wn w;unfold zjs;rw[zeg ha];cases q:n.pof (n.asks e.house)[e.ph.at1]with
 |none=>rw[q]at po;have i1:∀M,isN (onT none) .non M = .ok (.bl true) M:=fun _=>rfl;erw[zj,h.errands,h.er,qp (f:=FT.T.ref) hx,f3,yU h he (ri.hs _ _ he),haa,po,i1]
 |some k=>rw[q]at po;have i1:∀M,isN (onT (some k)) .non M = .ok (.bl false) M:=fun _=>rfl;have te:=zj6 h wn ri.pl (w.plt q);rw[show(nT k:FT.T)=onT (some k)from rfl]at te;erw[zj,h.errands,h.er,qp (f:=FT.T.ref) hx,f3,yU h he (ri.hs _ _ he),haa,po,i1,te]
theorem zhK{a:Nat}{ys:List FT.T}(h:M[a]? = some (.lst xs))(hl:xs.length+ys.length<1000000):zeJ (.ref a) [.lst ys] M = .ok .non (M.set a (.lst (xs++ys))):=by unfold zeJ;simp only[h,Qz hl]
theorem zfd{a:Nat}(h:M[a]? = some (.lst xs)):zcw (.ref a) M=true:=by unfold zcw qC;simp only[h];rfl
theorem zjW(h:RunAt J I (yf n) b r l M R)(ri:RI n R)(he:R.es[i]? = some e):zap J I [.ref r,nT i] M = .ok (.lst ((zaT n R i).map evT)) M:=by
 have key:Ok (zbu J I [.ref r,nT i] M) fun t M'=>t = .ref M.length/\M'=M++[.lst ((zaT n R i).map evT)]:=by
  refine qz rfl ?_;unfold zcS;obtain⟨x,hx,hc⟩:=h.at_e he;have f3:=qH (f:="state") hc rfl;obtain⟨t,ts,p1,p2,p3,_,_⟩:=phW e.ph M;have p2':∀M',eqA t (.str "works") M' = .ok (.bl e.ph.isW) M':=fun M'=>by obtain⟨t',ts',q1,q2,_⟩:=phW e.ph M';rw[p1]at q1;cases q1;exact q2
  have p3':∀M',eqA t (.str "stands") M' = .ok (.bl e.ph.isS) M':=fun M'=>by obtain⟨t',ts',q1,_,q2,_⟩:=phW e.ph M';rw[p1]at q1;cases q1;exact q2
  rw[p1]at f3;have ml:=fun cs=>zjP (h.app cs) ri he;have tl:=fun cs=>zik (h.app cs) ri he;have lc:∀(ys:List FT.T),zL (.ref M.length) (M++[.lst ys]) = .ok (.ref M.length) (M++[.lst ys]):=fun ys=>yT yS;have ap:∀(ys:List FT.T) (y:FT.T),ys.length<100->z7 (.ref M.length) [y] (M++[.lst ys]) = .ok .non (M++[.lst (ys++[y])]):=fun ys y hl=>by rw[zao yS (by rw[sizeLine_eq];omega),set_append_right _ _ (Q3 _),Nat.sub_self];rfl
  have ex:∀(zs:List FT.T),zs.length<100->zeJ (.ref M.length) [.lst zs] (M++[.lst []]) = .ok .non (M++[.lst zs]):=fun zs hl=>by rw[zhK yS (by simp;omega),set_append_right _ _ (Q3 _),Nat.sub_self];rfl
  have il:∀(ys:List FT.T),zcw (.ref M.length) (M++[.lst ys])=true:=fun ys=>zfd yS;unfold zaT;rw[zaI he];cases qw:e.ph.isW<;>cases qm:zc3 n R e<;>cases qt:yO n e<;>cases qs:e.ph.isS<;>(erw[zj,h.errands,h.er,qp (f:=FT.T.ref) hx,f3,p2',p3',qw,qs,ml,qm,tl,qt,zbC,il,ex,lc,ap,Nat.reduceLT];exact Ok.ret ⟨rfl,rfl⟩)
 obtain⟨t,M',e1,rfl,rfl⟩:=key;unfold zap zfj;rw[e1];dsimp only;rw[yS];dsimp only;rw[Qz];refine⟨by simp,Q3 _,fun y hy=>?_⟩;obtain⟨ev,_,rfl⟩:=mem_map.mp hy;cases ev<;>exact .tup fun z hz=>by simp only[QB,not_mem_nil,or_false]at hz;rcases hz with rfl | rfl | rfl<;>first | exact .str _ | exact .int _
end
noncomputable def Evt.num:Evt->Nat
 |.fresh=>0|.ends i _=>i|.lost i=>i|.again i=>i|.up i=>i
noncomputable def Evt.isF:Evt->Bool
 |.fresh=>true|_=>false
variable {ev:Evt}
section
variable {kN:Addr}{b r:Nat}
theorem zl5(h:ev ∈ zaT n R i)(ha:ev.isA=true):(R.er i).ph.isS=true:=by
 unfold zaT at h;cases ev with
 |again j=>
  simp only[mem_append]at h;rcases h with ((h | h) | h) | h
  ·split at h<;>simp at h
  ·split at h<;>simp at h
  ·split at h
   ·rename_i q;unfold yO at q;rw[Qs]at q;exact q.1
   ·simp at h
  ·split at h<;>simp at h
 |_=>cases ha
theorem zfF(ev:Evt):∃s ts,evT ev = .tup (.str s::ts)/\(s==("again":Str))=ev.isA/\(s==("fresh":Str))=ev.isF:=by cases ev<;>exact⟨_,_,rfl,rfl,rfl⟩
theorem zkG(i:Nat):(zaT n R i).length<=10:=by
 unfold zaT;rw[Qn,Qn,Qn];have:∀(c:Bool) (xs:List Evt),xs.length<=3->(if c=true then xs else[]).length<=3:=fun c xs h=>by cases c<;>simp[h]
 have h1:=this (R.er i).ph.isW [.ends i "bad",.ends i "spent",.ends i "well"] (by simp);have h2:(if zc3 n R (R.er i)=true then[Evt.lost i]else[]).length<=1:=by split<;>simp
 have h3:(if yO n (R.er i)=true then[Evt.again i]else[]).length<=1:=by split<;>simp
 have h4:(if(R.er i).ph.isS=true then[Evt.up i]else[]).length<=1:=by split<;>simp
 omega
theorem zgp(h:RunAt J I (yf n) b r l M R)(wn:WN n)(ri:RI n R)(he:R.es[i]? = some e):zak J I [.ref r,nT i] M = .ok (.lst ((zaW n R i).map evT)) M:=by
 unfold zak zf0;have c:yA (yj 0) (zc9 (yw (eOp neA (eOp ixT (O 0) (eC (.int 0))) (eC (.str "again")))) (yw (ze (zbn J I) (zb (O 1) (zb (O 2) zd))))) (O 0) ((zaT n R i).map evT) [none,some (.ref r),some (nT i)] M [] = .ok ((zaW n R i).map evT) M:=
  Ok.filt (r:=evT) (fun σ=>∃o,σ=[o,some (.ref r),some (nT i)]) _ evT ⟨_,rfl⟩ (Qj (zkG i) ∅) (by
   rintro ev σ hev ⟨o,rfl⟩;refine⟨[some (evT ev),some (.ref r),some (nT i)],rfl,⟨_,rfl⟩,?_,fun _=>rfl⟩;obtain⟨s,ts,h1,h2,_⟩:=zfF ev;rw[h1];cases q:ev.isA with
   |false=>rw[q]at h2;erw[znV,h2];rfl
   |true=>
    rw[q]at h2;have hs:e.ph.isS=true:=by rw[←zaI he];exact zl5 hev q
    erw[znV,h2,zpv h wn ri he hs];rw[zaI he];rfl)
 erw[zjW h ri he,c]
theorem zrv(M:Mem)(x y:Evt):∃q,eqD M 20 (evT x) (evT y)=some q/\(x=y->q=true):=by
 have hs:∀w:Str,eqS (.str w) (.str w)=true:=fun w=>by show(w==w)=true;simp
 have hi:∀i:Int,eqS (.int i) (.int i)=true:=fun w=>by show(w==w)=true;simp
 cases x<;>cases y<;>refine⟨_,rfl,fun z=>?_⟩<;>first | (cases z) | skip
 all_goals first | rfl | (simp[hs,hi]) | skip
theorem zqW(M:Mem){x:Evt}:∀{ys:List Evt},x ∈ ys->∃bs,zbo M (evT x) (ys.map evT)=some bs/\bs.any id=true:=by
 intro ys;have all:∀ys:List Evt,∃bs,zbo M (evT x) (ys.map evT)=some bs/\(x ∈ ys->bs.any id=true):=by
  intro ys
  induction ys with
  |nil=>exact⟨[],rfl,fun h=>by cases h⟩|cons y ys ih=>
   obtain⟨bs,h1,h2⟩:=ih;obtain⟨q,q1,q2⟩:=zrv M y x;refine⟨q::bs,?_,fun h=>?_⟩
   ·rw[QF];unfold zbo;rw[q1,h1]
   ·rcases QB.mp h with rfl | h
    ·rw[any_cons,q2 rfl];rfl
    ·rw[any_cons,h2 h,Bool.or_true]
 intro h;obtain⟨bs,h1,h2⟩:=all ys;exact⟨bs,h1,h2 h⟩
theorem zib(cc:qP J I [.ref r,t] M = .ok (.bl true) M):qG J I kN [.ref r,t] M = .ok .non M:=by
 have:OkX (qG J I kN [.ref r,t] M) (fun u M'=>u = .non/\M'=M) (fun _ _ _=>False):=by refine qY rfl ?_;unfold zcP;erw[cc];exact⟨rfl,rfl⟩
 obtain⟨u,M',e,rfl,rfl⟩:=this.toOk;exact e
theorem znI{c:Nat}(h:RunAt J I (yf n) b r l M R)(hc:R.came=c)(cc:qP J I [.ref r,t] M = .ok (.bl false) M):OkX (qG J I kN [.ref r,t] M) (fun _ _=>False) (fun C fs M'=>C=kN/\fs=[(("at":Str),nT c)]/\M'=M):=by refine qY rfl ?_;unfold zcP;have cm:=h.came;rw[hc]at cm;erw[cc,zd4,zb7,zj,cm];exact⟨rfl,rfl,rfl⟩
theorem zrz(h:RunAt J I (yf n) b r l M R)(wn:WN n)(ri:RI n R)(hB:R.es.length<1000000)(hf:ev.isF=false)(he:R.es[ev.num]? = some e)(hm:ev ∈ zaW n R ev.num):qG J I kN [.ref r,evT ev] M = .ok .non M:=by
 have hl:=(Qy.mp he).1;have cc:qP J I [.ref r,evT ev] M = .ok (.bl true) M:=by
  unfold qP zcV;obtain⟨bs,b1,b2⟩:=zqW M hm;have iN:inN (evT ev) (.lst ((zaW n R ev.num).map evT)) M = .ok (.bl true) M:=by unfold inN zX qC;simp only[b1,b2]
  have ii:∀(xs:List FT.T) M,zaw (.tup xs) (.ty "tuple") M = .ok (.bl true) M:=fun _ _=>rfl;have ln:yB (.ref l.a) M = .ok (nT R.es.length) M:=by unfold yB zX qC;simp only[h.er];simp[h.el]
  have wi:zaj J I [nT ev.num,.int 0,.int ((R.es.length:Int)-1)] M = .ok (.bl true) M:=by
   have wh:zaG J I [nT ev.num] M = .ok (.bl true) M:=by unfold zaG zeF;have h1:zaw (nT ev.num) (.ty "int") M = .ok (.bl true) M:=rfl;have h2:zaw (nT ev.num) (.ty "bool") M = .ok (.bl false) M:=rfl;erw[h1,h2]
   unfold zaj zdV;have d1:decide ((0:Int)<=(ev.num:Int))=true:=Qw ⋯;have d2:decide ((ev.num:Int)<=(R.es.length:Int)-1)=true:=Qw ⋯;erw[wh,d1,d2]
  have ea:=zgp h wn ri he;have e0:∃s ts,evT ev = .tup (.str s::nT ev.num::ts)/\eqA (evT ev) (.tup [.str "fresh"]) M = .ok (.bl false) M:=by cases ev with|fresh=>cases hf|ends i w=>exact⟨_,_,rfl,rfl⟩|lost i=>exact⟨_,_,rfl,rfl⟩|again i=>exact⟨_,_,rfl,rfl⟩|up i=>exact⟨_,_,rfl,rfl⟩
  obtain⟨s,ts,e1,e2⟩:=e0;rw[e1]at e2 iN ⊢;have d3:decide (((FT.T.str s::nT ev.num::ts).length:Int)<2)=false:=Qx (by simp;omega);simp only[Qp]at d3;erw[e2,ii,d3,zj,h.errands,ln,wi,ea,iN]
 exact zib cc
theorem zmx(h:RunAt J I (yf n) b r l M R):qG J I kN [.ref r,evT .fresh] M = .ok .non M:=by
 have cc:qP J I [.ref r,evT .fresh] M = .ok (.bl true) M:=by unfold qP zcV;have e2:eqA (evT .fresh) (.tup [.str "fresh"]) M = .ok (.bl true) M:=rfl;erw[e2]
 exact zib cc
end
noncomputable section
def zkT(R:Run)(k:Nat):Run:={ R with pays:=R.pays++[(R.es.length,k,R.taken.getD k 0)],taken:=R.taken.set k (R.taken.getD k 0+1) }
def takeO(R:Run)(o:Option Nat):Run:=o.elim R (zkT R)
def zfp(n:Net)(R:Run)(i:Nat):Run:=zas n (zM n 4) (takeO R (n.pof (n.ask (R.er i).house (R.er i).ph.at1))) i (R.er i).ph.at1 ((R.er i).ph.at2+1)
def zeB(n:Net)(R:Run)(i:Nat):Run:=(R.er i).caller.elim R fun c=>zca n (zax n 4) (R.setE i { R.er i with lost:=true }) c "bad"
def upR(n:Net)(R:Run)(i:Nat):Run:=zax n 4 R i (n.ask (R.er i).house (R.er i).ph.at1).word
end
noncomputable def doR(n:Net)(R:Run):Evt->Run
 |.fresh=>zM n 4 R 0 none|.ends i w=>zax n 4 R i w|.lost i=>zeB n R i|.again i=>zfp n R i|.up i=>upR n R i
noncomputable def Run.tick(R:Run):Run:={ R with came:=R.came+1 }
noncomputable def zcs(n:Net)(R:Run)(ev:Evt):Run:=(doR n R ev).tick
section
variable {b r:Nat}
theorem SB.takeO(sb:SB B R)(o:Option Nat):SB (B+1) (takeO R o):=by
 cases o with
 |none=>exact sb.mono ⋯|some k=>
  refine⟨Nat.le_succ_of_le sb.es,fun u hu=>Nat.le_succ_of_le (sb.pu u hu),?_,fun v hv=>?_⟩
  ·show(R.pays++_).length<=_;rw[Qn,Qv];have:=sb.py;omega
  ·rcases mem_set hv with hv | rfl
   ·exact Nat.le_succ_of_le (sb.tk v hv)
   ·by_cases hk:k<R.taken.length
    ·have:=sb.tk (R.taken.getD k 0) (by rw[Q7,Q0 hk];exact getElem_mem _);omega
    ·rw[Q7,getElem?_eq_none ⋯];simp
theorem ziM(R:Run)(o:Option Nat):(takeO R o).es=R.es/\(takeO R o).puts=R.puts/\(takeO R o).came=R.came:=by cases o<;>exact⟨rfl,rfl,rfl⟩
theorem zoc(h:RunAt J I (yf n) b r l M R)(hB:B<90000)(sb:SB B R)(hp:R.puts.length=n.ps.length){k:Nat}(hk:k<n.ps.length):Ok (zcy J I [.ref r,nT k] M) (Lv J I n b r (zkT R k) M):=by
 refine qz rfl ?_;unfold zfW;have hkt:k<R.taken.length:=by have:=h.tl;omega
 have ht:R.taken[k]? = some R.taken[k]:=Q0 hkt;have gd:R.taken.getD k 0=R.taken[k]:=by rw[Q7,ht];rfl
 have ln:yB (.ref l.a) M = .ok (nT R.es.length) M:=by unfold yB zX qC;simp only[h.er];simp[h.el]
 obtain⟨h1,b1⟩:=h.setPays (R.pays++[(R.es.length,k,R.taken[k])]);have ap:=zao (t:=.tup [nT R.es.length,nT k,nT R.taken[k]]) h.py (by rw[Qh,sizeLine_eq];have:=sb.py;omega);rw[show R.pays.map zgg++[.tup [nT R.es.length,nT k,nT R.taken[k]]]=(R.pays++[(R.es.length,k,R.taken[k])]).map zgg from by simp[zgg]]at ap;erw[zj,h.payF,yT h.py,h.errands,ln,h.takenF,h.tk,qp (f:=nT) ht,ap];generalize hM1:M.set l.q (.lst ((R.pays++[(R.es.length,k,R.taken[k])]).map zgg))=M1 at h1 ⊢;have k1:Kp b M M1:=by rw[←hM1];exact Kp.set _ _ b1
 obtain⟨h2,b2⟩:=h1.setTaken (R.taken.set k (R.taken[k]+1)) (by simp);have hix:ixN (R.taken.map nT).length (k:Int)=some k:=by rw[zqU (by rw[Qh];omega),Int.toNat_natCast]
 have tk1:M1[l.t]? = some (.lst (R.taken.map nT)):=h1.tk;have ms:(R.taken.map nT).set k (.int ((R.taken[k]:Int)+1))=(R.taken.set k (R.taken[k]+1)).map nT:=by rw[List.map_set];rfl
 have ad:∀i j M,zdX (.int i) (.int j) M = .ok (.int (i+j)) M:=fun _ _ _=>rfl;unfold ziw getL;erw[zj,h1.takenF,zhZ tk1,qp (f:=nT) ht,ad,tk1,hix,ms];refine Ok.ret ⟨rfl,k1.trans (Kp.set _ _ b2),l,?_⟩;unfold zkT;rw[gd];exact h2
def zsl(h:RunAt J I (yf n) b r l M R):b<=M.length:=Qj (h.lo _ (.head _)) (Nat.le_of_lt (zK h.run))
theorem znN(h:RunAt J I (yf n) b r l M R)(wn:WN n)(hB:B+1<90000)(sb:SB B R)(ri:RI n R)(he:R.es[i]? = some e)(hs:e.ph.isS=true):Ok (zcx J I [.ref r,nT i] M) (Lv J I n b r (zfp n R i) M):=by
 refine qz rfl ?_;unfold zfU;have hl:=zdi hs (ri.ph _ _ he);have ha:(n.asks e.house)[e.ph.at1]? = some (n.asks e.house)[e.ph.at1]:=Q0 hl;have haa:atI ((n.asks e.house).map zG) (e.ph.at1:Int)=some (zG (n.asks e.house)[e.ph.at1]):=qp (f:=zG) ha;have w:=wn.as e.house _ (Qa ha);have po:=zdT h wn w;obtain⟨x,hx,hc⟩:=h.at_e he;have f3:=qH (f:="state") hc rfl;rw[phS hs]at f3;unfold zfp;rw[zaI he,zeg ha];erw[zj,h.errands,h.er,qp (f:=FT.T.ref) hx,f3,yU h he (ri.hs _ _ he),haa,po];have go:∀(l1:Lay) (M1:Mem) (o:Option Nat),Kp b M M1->RunAt J I (yf n) b r l1 M1 (takeO R o)->Ok ((zal J I [.ref r,nT i,nT e.ph.at1,.int ((e.ph.at2:Int)+1)] M1).bind fun _ M=>.ok FT.T.non M) (Lv J I n b r (zas n (zM n 4) (takeO R o) i e.ph.at1 (e.ph.at2+1)) M):=by intro l1 M1 o k1 h1;have te:=ziM R o;refine Ok.bind (zj4 wn (B:=B+1) (tr:=e.ph.at2+1) hB h1 (sb.takeO o) (by rw[te.2.1];exact ri.pl) (by rw[te.1];exact he) (ri.hs _ _ he) ha) ?_;rintro t M2 ⟨rfl,k2,l2,h2⟩;exact Ok.ret ⟨rfl,k1.trans k2,l2,h2⟩
 cases q:n.pof (n.asks e.house)[e.ph.at1]with
 |none=>have i1:∀M,zbK (onT none) .non M = .ok (.bl false) M:=fun _=>rfl;erw[i1];exact go l M none (Kp.refl _ _) h
 |some k=>
  have i1:∀M,zbK (onT (some k)) .non M = .ok (.bl true) M:=fun _=>rfl;erw[i1];rw[show onT (some k)=nT k from rfl];refine Ok.bind (zoc h ⋯ sb ri.pl (w.plt q)) ?_;rintro t M1 ⟨rfl,k1,l1,h1⟩
  try simp_arith
  exact go l1 M1 (some k) k1 h1
theorem zkD(h:RunAt J I (yf n) b r l M R)(wn:WN n)(hB:B<90000)(sb:SB B R)(ri:RI n R)(he:R.es[i]? = some e)(w:Str):Ok (za8 J I [.ref r,nT i,.str w] M) (Lv J I n b r (zax n 4 R i w) M):=
 zjp wn 4 12 ⋯ hB h sb ri he (by have:=ri.hs _ _ he;have:=wn.hl;omega)
theorem zrG(h:RunAt J I (yf n) b r l M R)(wn:WN n)(hB:B<90000)(sb:SB B R)(ri:RI n R)(he:R.es[i]? = some e)(hs:e.ph.isS=true):Ok (zfE J I [.ref r,nT i] M) (Lv J I n b r (upR n R i) M):=by
 refine qz rfl ?_;unfold zkz;have hl:=zdi hs (ri.ph _ _ he);have ha:(n.asks e.house)[e.ph.at1]? = some (n.asks e.house)[e.ph.at1]:=Q0 hl;have haa:atI ((n.asks e.house).map zG) (e.ph.at1:Int)=some (.tup [.str (n.asks e.house)[e.ph.at1].to,.int (n.asks e.house)[e.ph.at1].tries,opS (n.asks e.house)[e.ph.at1].purse,.str (n.asks e.house)[e.ph.at1].word,.bl (n.asks e.house)[e.ph.at1].hears,.bl (n.asks e.house)[e.ph.at1].sure]):=qp (f:=zG) ha;obtain⟨x,hx,hc⟩:=h.at_e he;have f3:=qH (f:="state") hc rfl;rw[phS hs]at f3;unfold upR;rw[zaI he,zeg ha];erw[zj,h.errands,h.er,qp (f:=FT.T.ref) hx,f3,yU h he (ri.hs _ _ he),haa];refine Ok.bind (zkD h wn hB sb ri he _) ?_;rintro t M2 ⟨rfl,k2,l2,h2⟩
 try simp_arith
 exact Ok.ret ⟨rfl,k2,l2,h2⟩
theorem zoW(h:RunAt J I (yf n) b r l M R)(wn:WN n)(hB:B<90000)(sb:SB B R)(ri:RI n R)(he:R.es[i]? = some e){c:Nat × Nat × Nat}(hq:e.caller=some c):Ok (zg1 J I [.ref r,nT i] M) (Lv J I n b r (zeB n R i) M):=by
 refine qz rfl ?_;unfold zmh;obtain⟨x,hx,hc⟩:=h.at_e he;have s1:=zbh (f:="is_lost") (y:=.bl true) (fs':=erF { e with lost:=true }) hc rfl (by simp[erF]);obtain⟨h1,bx⟩:=h.setE hx he { e with lost:=true };have hc1:(M.set x (.ins J (erF { e with lost:=true })))[x]? = some (.ins J (erF { e with lost:=true })):=get_set hc;have f1:=qH (f:="caller") hc1 rfl;have k1:Kp b M (M.set x (.ins J (erF { e with lost:=true }))):=Kp.set _ _ bx;have e0:zeB n R i=zca n (zax n 4) (R.setE i { e with lost:=true }) c "bad":=by
  have el:∀(o:Option (Nat × Nat × Nat)) (f:Nat × Nat × Nat->Run),o=some c->o.elim R f=f c:=fun o f h=>by rw[h];rfl
  unfold zeB;rw[zaI he];exact el _ _ hq
 rw[e0];erw[zj,h.errands,h.er,qp (f:=FT.T.ref) hx,qF,s1];generalize hM1:M.set x (.ins J (erF { e with lost:=true }))=M1 at h1 f1 k1 ⊢;replace f1:zaV [J] "caller" (.ref x) M1 = .ok (clT e.caller) M1:=f1;rw[hq]at f1;have ri1:RI n (R.setE i { e with lost:=true }):=ri.setE he rfl rfl (by have:=ri.ph _ _ he;unfold zex at this ⊢;exact this);have hei:(R.setE i { e with lost:=true }).es[i]? = some { e with lost:=true }:=by show(R.es.set i _)[i]? = _;rw[Qc,Qz rfl,Qz (Qy.mp he).1]
 obtain⟨_,ce,c1,c2,c3⟩:=ri1.cl i _ c hei hq;erw[f1];refine Ok.bind (show Ok (zjk J I [.ref r,clT (some c),.str "bad"] M1) (Lv J I n b r (zca n (zax n 4) (R.setE i { e with lost:=true }) c "bad") M1)from ?_) ?_
 ·show Ok (yi 3 6 (zfh J I (yu J I 11).1 (yu J I 11).2) [.ref r,clT (some c),.str "bad"] M1) _;refine zkw wn hB h1 (sb.setE _ _) ri1 c1 c3 ?_;exact zjp wn 4 11 ⋯ hB h1 (sb.setE _ _) ri1 c1 (by have:=ri1.hs _ _ c1;have:=wn.hl;omega)
 ·rintro t M2 ⟨rfl,k2,l2,h2⟩
  try simp_arith
  exact Ok.ret ⟨rfl,k1.trans k2,l2,h2⟩
noncomputable def zrE(R:Run):Evt->Prop
 |.fresh=>True|.ends i _=>∃e,R.es[i]? = some e|.lost i=>∃e c,R.es[i]? = some e/\e.caller=some c|.again i=>∃e,R.es[i]? = some e/\e.ph.isS=true|.up i=>∃e,R.es[i]? = some e/\e.ph.isS=true
theorem zqD(h:RunAt J I (yf n) b r l M R)(wn:WN n)(hB:B+10<90000)(sb:SB B R)(ri:RI n R)(ho:zrE R ev):Ok (zac J I [.ref r,evT ev] M) (Lv J I n b r (zcs n R ev) M):=by
 refine qz rfl ?_;unfold zgV;have ξ:∀(M1:Mem),Lv J I n b r (doR n R ev) M .non M1->Ok ((zgH [I] "came" (O 0) 1 [some (.ref r),some (evT ev)] M1).bind zcN) (Lv J I n b r (zcs n R ev) M):=by rintro M1 ⟨_,k1,l1,h1⟩;obtain⟨h2,b2⟩:=h1.setCame ((doR n R ev).came+1);have s1:=zbh (f:="came") (y:=.int (((doR n R ev).came:Int)+1)) (fs':=zcm (yf n) l1 { (doR n R ev)with came:=(doR n R ev).came+1 }) h1.run rfl (by simp[zcm]);have ad:∀i j M,zdX (.int i) (.int j) M = .ok (.int (i+j)) M:=fun _ _ _=>rfl;erw[zgH,h1.came,ad,s1];exact Ok.ret ⟨rfl,k1.trans (Kp.set _ _ b2),l1,h2⟩
 cases ev with
 |fresh=>
  have q:∀M,eqA (.str "fresh") (.str "fresh") M = .ok (.bl true) M:=fun _=>rfl;rw[show evT .fresh = .tup [.str "fresh"]from rfl]at ξ ⊢;erw[q];refine Ok.bind (show Ok (zcq J I [.ref r,.int 0,.non] M) (Lv J I n b r (zM n 4 R 0 none) M)from zjy wn 4 12 ⋯ (B:=B) (c:=none) (h:=0) ⋯ h (zsl h) sb ri.pl wn.h1 (by have:=wn.hl;omega)) ?_;rintro t M1 ⟨rfl,k1,l1,h1⟩;have:=ξ M1 ⟨rfl,k1,l1,h1⟩
  try simp_arith
  exact this
 |ends i w=>
  obtain⟨e,he⟩:=ho;have q0:∀M,eqA (.str "ends") (.str "fresh") M = .ok (.bl false) M:=fun _=>rfl;have q:∀M,eqA (.str "ends") (.str "ends") M = .ok (.bl true) M:=fun _=>rfl;rw[show evT (.ends i w) = .tup [.str "ends",nT i,.str w]from rfl]at ξ ⊢;erw[q0,q];refine Ok.bind (zkD h wn ⋯ sb ri he w) ?_;rintro t M1 ⟨rfl,k1,l1,h1⟩;have:=ξ M1 ⟨rfl,k1,l1,h1⟩
  try simp_arith
  exact this
 |lost i=>
  obtain⟨e,c,he,hq⟩:=ho;have q0:∀M,eqA (.str "lost") (.str "fresh") M = .ok (.bl false) M:=fun _=>rfl;have q1:∀M,eqA (.str "lost") (.str "ends") M = .ok (.bl false) M:=fun _=>rfl;have q:∀M,eqA (.str "lost") (.str "lost") M = .ok (.bl true) M:=fun _=>rfl;rw[show evT (.lost i) = .tup [.str "lost",nT i]from rfl]at ξ ⊢;erw[q0,q1,q];refine Ok.bind (zoW h wn ⋯ sb ri he hq) ?_;rintro t M1 ⟨rfl,k1,l1,h1⟩;have:=ξ M1 ⟨rfl,k1,l1,h1⟩
  try simp_arith
  exact this
 |again i=>
  obtain⟨e,he,hs⟩:=ho;have q0:∀M,eqA (.str "again") (.str "fresh") M = .ok (.bl false) M:=fun _=>rfl;have q1:∀M,eqA (.str "again") (.str "ends") M = .ok (.bl false) M:=fun _=>rfl;have q2:∀M,eqA (.str "again") (.str "lost") M = .ok (.bl false) M:=fun _=>rfl;have q:∀M,eqA (.str "again") (.str "again") M = .ok (.bl true) M:=fun _=>rfl;rw[show evT (.again i) = .tup [.str "again",nT i]from rfl]at ξ ⊢;erw[q0,q1,q2,q];refine Ok.bind (znN h wn ⋯ sb ri he hs) ?_;rintro t M1 ⟨rfl,k1,l1,h1⟩;have:=ξ M1 ⟨rfl,k1,l1,h1⟩
  try simp_arith
  exact this
 |up i=>
  obtain⟨e,he,hs⟩:=ho;have q0:∀M,eqA (.str "up") (.str "fresh") M = .ok (.bl false) M:=fun _=>rfl;have q1:∀M,eqA (.str "up") (.str "ends") M = .ok (.bl false) M:=fun _=>rfl;have q2:∀M,eqA (.str "up") (.str "lost") M = .ok (.bl false) M:=fun _=>rfl;have q:∀M,eqA (.str "up") (.str "again") M = .ok (.bl false) M:=fun _=>rfl;rw[show evT (.up i) = .tup [.str "up",nT i]from rfl]at ξ ⊢;erw[q0,q1,q2,q];refine Ok.bind (zrG h wn ⋯ sb ri he hs) ?_;rintro t M1 ⟨rfl,k1,l1,h1⟩;have:=ξ M1 ⟨rfl,k1,l1,h1⟩
  try simp_arith
  exact this
end
variable {n:Net}
def lv(e:Er):Prop:=e.lost=false/\e.ph.isE=false
def WT(R:Run):Prop:=∀(i:Nat) (e:Er) (c:Nat × Nat × Nat),R.es[i]? = some e->e.caller=some c->lv e->∃ce,R.es[c.1]? = some ce/\ce.ph = .waits c.2.1 c.2.2/\ce.asked=some i
def NL(R:Run)(k:Nat):Prop:=∀(i:Nat) (e:Er) (c:Nat × Nat × Nat),R.es[i]? = some e->e.caller=some c->c.1=k->¬lv e
def QS(R R':Run)(k:Nat):Prop:=∀(i:Nat) (e':Er),R'.es[i]? = some e'->e'.ph.isS=true->(∃e,R.es[i]? = some e/\e.ph=e'.ph/\e.stood=e'.stood)\/(e'.stood=some k/\∃e a t,R.es[i]? = some e/\e.ph = .waits a t)
structure Inv' (n:Net) (R:Run):Prop where
 ri:RI n R
 wt:WT R
theorem zhG(he:R.es[i]? = some e)(e':Er):(R.setE i e').es[i]? = some e':=by show(R.es.set i _)[i]? = _;rw[Qc,Qz rfl,Qz (Qy.mp he).1]
theorem zhH(h:j ≠ i):(R.setE i e').es[j]? = R.es[j]?:=by show(R.es.set i _)[j]? = _;rw[Qc,QA (Ne.symm h)]
theorem WT.setE(h:WT R)(he:R.es[i]? = some e)(h2:e'.caller=e.caller)(hv:lv e'->lv e)(nl:NL R i):WT (R.setE i e'):=by
 intro j q c hq hc lq;have key:∀q0,R.es[j]? = some q0->q0.caller=some c->lv q0->∃ce,(R.setE i e').es[c.1]? = some ce/\ce.ph = .waits c.2.1 c.2.2/\ce.asked=some j:=fun q0 h0 hc0 l0=>by obtain⟨ce,c1,c2,c3⟩:=h j q0 c h0 hc0 l0;have:c.1 ≠ i:=fun z=>nl j q0 c h0 hc0 z l0;exact⟨ce,by rw[zhH this];exact c1,c2,c3⟩
 rcases zau hq with⟨rfl,rfl,_⟩ | ⟨_,hq⟩
 ·exact key e he (by rw[←h2];exact hc) (hv lq)
 ·exact key q hq hc lq
theorem RI.push(h:RI n R){hh:Nat}{c:Option (Nat × Nat × Nat)}(h1:hh<n.hs.length)(hc:∀c',c=some c'->∃ce,R.es[c'.1]? = some ce/\ce.house<hh/\c'.2.1<(n.asks ce.house).length):RI n (R.push (zy hh c)):=by
 have old:∀{j:Nat} {q:Er},(R.push (zy hh c)).es[j]? = some q->(R.es[j]? = some q)\/(j=R.es.length/\q=zy hh c):=fun {j q} hq=>by
  replace hq:(R.es++[zy hh c])[j]? = some q:=hq
  by_cases z:j<R.es.length
  ·rw[Q6 z]at hq;exact .inl hq
  ·rw[Q8 ⋯]at hq;have:j-R.es.length=0:=by have:=(Qy.mp hq).1;simp at this;omega
   rw[this]at hq;cases hq;exact .inr ⟨⋯,rfl⟩
 have fwd:∀{j:Nat} {q:Er},R.es[j]? = some q->(R.push (zy hh c)).es[j]? = some q:=fun {j q} hq=>by show(R.es++_)[j]? = _;rw[Q6 (Qy.mp hq).1];exact hq
 refine⟨fun j q hq=>?_,fun j q c' hq hc'=>?_,fun j q hq=>?_,h.pl⟩
 ·rcases old hq with hq | ⟨_,rfl⟩
  ·exact h.hs _ _ hq
  ·exact h1
 ·rcases old hq with hq | ⟨rfl,rfl⟩
  ·obtain⟨a,ce,b1,b2,b3⟩:=h.cl _ _ _ hq hc';exact⟨a,ce,fwd b1,b2,b3⟩
  ·obtain⟨ce,b1,b2,b3⟩:=hc c' hc';exact⟨(Qy.mp b1).1,ce,fwd b1,b2,b3⟩
 ·rcases old hq with hq | ⟨_,rfl⟩
  ·exact h.ph _ _ hq
  ·exact True.intro
theorem zi1{x:Er}(hq:(R.push x).es[j]? = some q):R.es[j]? = some q\/(j=R.es.length/\q=x):=by
 replace hq:(R.es++[x])[j]? = some q:=hq
 by_cases z:j<R.es.length
 ·rw[Q6 z]at hq;exact .inl hq
 ·rw[Q8 ⋯]at hq;have:j-R.es.length=0:=by have:=(Qy.mp hq).1;simp at this;omega
  rw[this]at hq;cases hq;exact .inr ⟨⋯,rfl⟩
theorem zew{x:Er}(hq:R.es[j]? = some q):(R.push x).es[j]? = some q:=by show(R.es++_)[j]? = _;rw[Q6 (Qy.mp hq).1];exact hq
theorem RI.share(h:RI n R)(a:Ask)(tr x:Nat):RI n (R.share n a tr x):=by obtain⟨s1,s2,_⟩:=zbV R n a tr x;exact⟨by rw[s1];exact h.hs,by rw[s1];exact h.cl,by rw[s1];exact h.ph,by rw[s2];exact h.pl⟩
def Old(R R':Run):Prop:=R.es.length<=R'.es.length/\R'.came=R.came/\(∀(i:Nat) (e:Er),R.es[i]? = some e->R'.es[i]? = some e)/\∀(i:Nat) (e:Er),R'.es[i]? = some e->R.es.length<=i->e.ph.isS=false
theorem zj5{num tr:Nat}{a:Ask}(he:R.es[num]? = some e)(ha:(n.asks e.house)[at']? = some a):zas n g R num at' tr=g ((R.setE num { e with ph:=.waits at' tr,asked:=some R.es.length }).share n a tr R.es.length) (n.hix a.to) (some (num,at',tr)):=by unfold zas;rw[he];dsimp only;rw[ha]
theorem WT.share(h:WT R)(a:Ask)(tr x:Nat):WT (R.share n a tr x):=by intro i e c;rw[(zbV R n a tr x).1];exact h i e c
theorem zhN(wn:WN n):∀(f:Nat) {R:Run} {h:Nat} {c:Option (Nat × Nat × Nat)} {B:Nat},n.hs.length<=h+f->RI n R->WT R->SB B R->h<n.hs.length->
  (∀c',c=some c'->∃ce,R.es[c'.1]? = some ce/\ce.house<h/\c'.2.1<(n.asks ce.house).length/\ce.ph = .waits c'.2.1 c'.2.2/\ce.asked=some R.es.length)->
  RI n (zM n f R h c)/\WT (zM n f R h c)/\SB (B+2*f) (zM n f R h c)/\Old R (zM n f R h c)
 |0,R,h,c,B,hf,_,_,_,hh,_=>absurd hh ⋯|f+1,R,h,c,B,hf,ri,wt,sb,hh,hc=>by
  have ri1:RI n (R.push (zy h c)):=ri.push hh fun c' z=>by obtain⟨ce,a1,a2,a3,_⟩:=hc c' z;exact⟨ce,a1,a2,a3⟩
  have wt1:WT (R.push (zy h c)):=fun i e c' he hc' l=>by
   rcases zi1 he with he | ⟨rfl,rfl⟩
   ·obtain⟨ce,a1,a2,a3⟩:=wt i e c' he hc' l;exact⟨ce,zew a1,a2,a3⟩
   ·obtain⟨ce,a1,_,_,a4,a5⟩:=hc c' hc';exact⟨ce,zew a1,a4,a5⟩
  have od1:Old R (R.push (zy h c)):=⟨by simp[Run.push],rfl,fun i e he=>zew he,fun i e he hi=>by
   rcases zi1 he with he | ⟨rfl,rfl⟩
   ·exact absurd (Qy.mp he).1 ⋯
   ·rfl⟩
  by_cases h0:n.asks h=[]
  ·have e1:zM n (f+1) R h c=R.push (zy h c):=by unfold zM;rw[Qz h0]
   rw[e1];exact⟨ri1,wt1,(sb.push _).mono ⋯,od1⟩
  ·have e1:zM n (f+1) R h c=zas n (zM n f) (R.push (zy h c)) R.es.length 0 1:=by rw[zM,QA h0]
   obtain⟨a,as,hq⟩:=List.exists_cons_of_ne_nil h0;have ha:(n.asks (zy h c).house)[0]? = some a:=by show(n.asks h)[0]? = _;rw[hq];rfl
   have w:=wn.as h a (by rw[hq];exact .head _);rw[e1,zj5 (zc1 R _) ha];have len1:(R.push (zy h c)).es.length=R.es.length+1:=by simp[Run.push]
   have nl:NL (R.push (zy h c)) R.es.length:=fun i e c' he hc' z=>by have:=(ri1.cl i e c' he hc').1;have:=(Qy.mp he).1;omega
   have ri2:RI n ((R.push (zy h c)).setE R.es.length { zy h c with ph:=.waits 0 1,asked:=some (R.push (zy h c)).es.length }):=ri1.setE (zc1 R _) rfl rfl (show 0<(n.asks h).length/\1<=1 from⟨by rw[hq];simp,Q3 _⟩);have wt2:WT ((R.push (zy h c)).setE R.es.length { zy h c with ph:=.waits 0 1,asked:=some (R.push (zy h c)).es.length }):=wt1.setE (zc1 R _) rfl (fun _=>⟨rfl,rfl⟩) nl;have sb2:=((sb.push (zy h c)).setE R.es.length { zy h c with ph:=.waits 0 1,asked:=some (R.push (zy h c)).es.length }).share n a 1 (R.push (zy h c)).es.length;obtain⟨s1,s2,s3,s4,s5⟩:=zbV ((R.push (zy h c)).setE R.es.length { zy h c with ph:=.waits 0 1,asked:=some (R.push (zy h c)).es.length }) n a 1 (R.push (zy h c)).es.length;obtain⟨r1,r2,r3,r4⟩:=zhN wn f (h:=n.hix a.to) (c:=some (R.es.length,0,1)) (by have:=w.up;omega) (ri2.share a 1 _) (wt2.share a 1 _) sb2 w.lt (fun c' z=>by
    cases z;rw[s1];refine⟨_,zhG (zc1 R _) _,w.up,?_,rfl,?_⟩
    ·show 0<(n.asks h).length;rw[hq];simp
    ·show some (R.push (zy h c)).es.length=some (List.length (List.set _ _ _));rw[length_set])
   refine⟨r1,r2,r3.mono ⋯,?_,?_,fun i e he=>?_,fun i e he hi=>?_⟩
   ·have l2:((R.push (zy h c)).setE R.es.length { zy h c with ph:=.waits 0 1,asked:=some (R.push (zy h c)).es.length }).es.length=R.es.length+1:=by simp[Run.setE,Run.push]
    have:=r4.1;rw[s1,l2]at this;exact Qj (Nat.le_succ _) this
   ·rw[r4.2.1,s5];rfl
   ·refine r4.2.2.1 i e ?_;rw[s1,zhH (by have:=(Qy.mp he).1;omega)];exact zew he
   ·by_cases z:i<R.es.length+1
    ·have hi':i=R.es.length:=by omega
     subst hi';have:=r4.2.2.1 R.es.length { zy h c with ph:=.waits 0 1,asked:=some (R.push (zy h c)).es.length } (by rw[s1];exact zhG (zc1 R _) _);rw[he]at this;cases this;rfl
    ·exact r4.2.2.2 i e he (by rw[s1];simp[Run.setE,Run.push];omega)
theorem zj3(wn:WN n){num tr:Nat}(ri:RI n R)(wt:WT R)(sb:SB B R)(he:R.es[num]? = some e)(hat:at'<(n.asks e.house).length)(hl:e.ph.isE=false)(nl:NL R num)(htr:1<=tr) :
  RI n (zas n (zM n 4) R num at' tr)/\WT (zas n (zM n 4) R num at' tr)/\SB (B+9) (zas n (zM n 4) R num at' tr)/\R.es.length<=(zas n (zM n 4) R num at' tr).es.length/\(zas n (zM n 4) R num at' tr).came=R.came /\
   (∀(i:Nat) (q:Er),R.es[i]? = some q->i ≠ num->(zas n (zM n 4) R num at' tr).es[i]? = some q)/\QS R (zas n (zM n 4) R num at' tr) R.came:=by
 have ha:(n.asks e.house)[at']? = some (n.asks e.house)[at']:=Q0 hat;have w:=wn.as e.house _ (Qa ha);rw[zj5 he ha];have ri2:RI n (R.setE num { e with ph:=.waits at' tr,asked:=some R.es.length }):=ri.setE he rfl rfl (show at'<(n.asks e.house).length/\1<=tr from⟨hat,htr⟩);have wt2:WT (R.setE num { e with ph:=.waits at' tr,asked:=some R.es.length }):=wt.setE he rfl (fun z=>⟨z.1,hl⟩) nl;obtain⟨s1,s2,s3,s4,s5⟩:=zbV (R.setE num { e with ph:=.waits at' tr,asked:=some R.es.length }) n (n.asks e.house)[at'] tr R.es.length;have sb2:=(sb.setE num { e with ph:=.waits at' tr,asked:=some R.es.length }).share n (n.asks e.house)[at'] tr R.es.length;obtain⟨r1,r2,r3,r4⟩:=zhN wn 4 (h:=n.hix (n.asks e.house)[at'].to) (c:=some (num,at',tr)) (by have:=wn.hl;omega) (ri2.share _ tr _) (wt2.share _ tr _) sb2 w.lt (fun c' z=>by cases z;rw[s1];refine⟨_,zhG he _,w.up,hat,rfl,?_⟩;show some R.es.length=some (List.length (List.set _ _ _));rw[length_set])
 have ol:∀(i:Nat) (q:Er),R.es[i]? = some q->i ≠ num->(zM n 4 ((R.setE num { e with ph:=.waits at' tr,asked:=some R.es.length }).share n (n.asks e.house)[at'] tr R.es.length) (n.hix (n.asks e.house)[at'].to) (some (num,at',tr))).es[i]? = some q:=fun i q hq hi=>r4.2.2.1 i q (by rw[s1,zhH hi];exact hq);refine⟨r1,r2,r3.mono ⋯,?_,by rw[r4.2.1,s5];rfl,ol,fun i e' h' hs=>?_⟩
 ·have l2:(R.setE num { e with ph:=.waits at' tr,asked:=some R.es.length }).es.length=R.es.length:=by simp[Run.setE]
  have:=r4.1;rw[s1,l2]at this;exact this
 ·by_cases z:i<R.es.length
  ·by_cases hi:i=num
   ·subst hi;have:=r4.2.2.1 i { e with ph:=.waits at' tr,asked:=some R.es.length } (by rw[s1];exact zhG he _);rw[h']at this;cases this;cases hs
   ·have hq:R.es[i]? = some R.es[i]:=Q0 z;have:=ol i _ hq hi;rw[h']at this;cases this;exact .inl ⟨_,hq,rfl,rfl⟩
  ·have:=r4.2.2.2 i e' h' (by rw[s1];simp[Run.setE];omega);rw[hs]at this;cases this
end My
namespace My
open PySem L2 FT
variable {n:Net}
structure Res (n:Net) (R R':Run) (B:Nat):Prop where
 ri:RI n R'
 wt:WT R'
 sb:SB B R'
 le:R.es.length<=R'.es.length
 ca:R'.came=R.came
 qs:QS R R' R.came
variable {B:Nat}{R:Run}
theorem zjc(wn:WN n){g:Run->Nat->Str->Run}{c:Nat × Nat × Nat}{w:Str}{ce:Er}(ri:RI n R)(wt:WT R)(sb:SB B R)(he:R.es[c.1]? = some ce)(hat:c.2.1<(n.asks ce.house).length)(hw:ce.ph = .waits c.2.1 c.2.2)(nl:NL R c.1)(hg:Res n R (g R c.1 w) (B+9)):Res n R (zca n g R c w) (B+9):=by
 unfold zca;rw[he];dsimp only;split
 ·rename_i h1;obtain⟨r1,r2,r3,r4,r5,_,r7⟩:=zj3 wn (tr:=1) ri wt sb he h1.2 (by rw[hw];rfl) nl (Q3 _);exact⟨r1,r2,r3,r4,r5,r7⟩
 ·split
  ·exact hg
  ·have h1:1<=c.2.2:=by have:=ri.ph _ _ he;unfold zex at this;rw[hw]at this;exact this.2
   refine⟨ri.setE he rfl rfl (show c.2.1<(n.asks ce.house).length/\(some R.came).isSome=true/\1<=c.2.2 from⟨hat,rfl,h1⟩),wt.setE he rfl (fun z=>⟨z.1,by rw[hw];rfl⟩) nl,(sb.setE _ _).mono ⋯,by simp[Run.setE],rfl,fun i e' h' hs=>?_⟩;rcases zau h' with⟨rfl,rfl,_⟩ | ⟨_,h'⟩
   ·exact .inr ⟨rfl,ce,_,_,he,hw⟩
   ·exact .inl ⟨e',h',rfl,rfl⟩
theorem zfI(wn:WN n):∀(f:Nat) {R:Run} {i:Nat} {w:Str} {e:Er} {B:Nat},RI n R->WT R->SB B R->R.es[i]? = some e->e.house<f->e.ph.isE=false->NL R i->Res n R (zax n f R i w) (B+9)
 |0,R,i,w,e,B,_,_,_,_,hf,_,_=>absurd hf ⋯|f+1,R,i,w,e,B,ri,wt,sb,he,hf,hl,nl=>by
  have ri1:RI n (R.setE i { e with ph:=.ended w }):=ri.setE he rfl rfl True.intro;have wt1:WT (R.setE i { e with ph:=.ended w }):=wt.setE he rfl (fun z=>absurd z.2 (by show ¬true=false;simp)) nl;have back:∀{j:Nat} {q:Er},(R.setE i { e with ph:=.ended w }).es[j]? = some q->q.ph.isE=false->R.es[j]? = some q:=fun {j q} hq hE=>by
   rcases zau hq with⟨rfl,rfl,_⟩ | ⟨_,hq⟩
   ·cases hE
   ·exact hq
  have stop:Res n R (R.setE i { e with ph:=.ended w }) (B+9):=⟨ri1,wt1,(sb.setE _ _).mono ⋯,by simp[Run.setE],rfl,fun j e' h' hs=>by
   rcases zau h' with⟨rfl,rfl,_⟩ | ⟨_,h'⟩
   ·cases hs
   ·exact .inl ⟨e',h',rfl,rfl⟩⟩
  unfold zax;rw[he];dsimp only;cases q:e.caller with
  |none=>rw[q]at stop;exact stop|some c=>
   dsimp only;cases ql:e.lost with
   |true=>rw[Qz rfl];rw[q,ql]at stop;exact stop|false=>
    rw[QA (by simp)];have es:({ e with ph:=.ended w }:Er)={ house:=e.house,caller:=some c,ph:=.ended w,lost:=false,asked:=e.asked,stood:=e.stood }:=by rw[←q,←ql]
    rw[←es];obtain⟨ce,c1,c2,c3⟩:=wt i e c he q ⟨ql,hl⟩;obtain⟨d1,ce',d2,d3,d4⟩:=ri.cl i e c he q;rw[c1]at d2;cases d2;have hne:c.1 ≠ i:=by omega
    have c1':(R.setE i { e with ph:=.ended w }).es[c.1]? = some ce:=by rw[zhH hne];exact c1
    have nl1:NL (R.setE i { e with ph:=.ended w }) c.1:=fun j e' cc h' hc' z l'=>by have h2:=back h' l'.2;obtain⟨x,x1,x2,x3⟩:=wt j e' cc h2 hc' l';rw[z,c1]at x1;cases x1;rw[c3]at x3;cases x3;rw[zhG he]at h';cases h';cases l'.2
    have hend:=zfI wn f (w:=w) ri1 wt1 (sb.setE _ _) c1' ⋯ (by rw[c2];rfl) nl1;have hh:=zjc wn (w:=w) ri1 wt1 (sb.setE _ _) c1' d4 c2 nl1 hend;refine⟨hh.ri,hh.wt,hh.sb,by have:=hh.le;simp[Run.setE]at this;exact this,hh.ca,fun j e' h' hs=>?_⟩;rcases hh.qs j e' h' hs with⟨e1,a1,a2,a3⟩ | ⟨a1,e1,a,t,a2,a3⟩
    ·exact .inl ⟨e1,back a1 (by rw[a2];cases z:e'.ph<;>rw[z]at hs<;>first | rfl | cases hs),a2,a3⟩
    ·exact .inr ⟨a1,e1,a,t,back a2 (by rw[a3];rfl),a3⟩
variable {e:Er}{i:Nat}
theorem zlt(wt:WT R)(he:R.es[i]? = some e)(hn:∀a t,e.ph ≠ .waits a t):NL R i:=fun j e' c h' hc z l=>by obtain⟨ce,a1,a2,_⟩:=wt j e' c h' hc l;rw[z,he]at a1;cases a1;exact hn _ _ a2
noncomputable def EvC(n:Net)(R:Run):Evt->Prop
 |.fresh=>True|.ends i _=>∃e,R.es[i]? = some e/\e.ph.isW=true|.lost i=>∃e c,R.es[i]? = some e/\e.caller=some c/\lv e|.again i=>∃e,R.es[i]? = some e/\e.ph.isS=true/\yO n e=true|.up i=>∃e,R.es[i]? = some e/\e.ph.isS=true
variable {ev:Evt}
theorem zfG(he:R.es[i]? = some e)(h:ev ∈ zaW n R i):ev.isF=false/\ev.num=i/\EvC n R ev:=by
 have h:=(mem_filter.mp h).1;unfold zaT at h;rw[zaI he]at h;simp only[mem_append]at h;rcases h with ((h | h) | h) | h
 ·split at h
  ·rename_i q;simp only[QB,not_mem_nil,or_false]at h;rcases h with rfl | rfl | rfl<;>exact⟨rfl,rfl,e,he,q⟩
  ·cases h
 ·split at h
  ·rename_i q;rw[QG.mp h];unfold zc3 at q;split at q
   ·cases q
   ·rename_i c hc;rw[Qs]at q;have q1:=q.1;refine⟨rfl,rfl,e,c,he,hc,?_,?_⟩
    ·cases z:e.lost with|false=>rfl|true=>rw[z]at q1;cases q1
    ·cases z:e.ph.isE with|false=>rfl|true=>rw[z,Bool.or_true]at q1;cases q1
  ·cases h
 ·split at h
  ·rename_i q;rw[QG.mp h];have q':=q;unfold yO at q';rw[Qs]at q';exact⟨rfl,rfl,e,he,q'.1,q⟩
  ·cases h
 ·split at h
  ·rename_i q;rw[QG.mp h];exact⟨rfl,rfl,e,he,q⟩
  ·cases h
theorem EvC.ok(h:EvC n R ev):zrE R ev:=by cases ev with|fresh=>exact True.intro|ends i w=>obtain⟨e,a,_⟩:=h;exact⟨e,a⟩|lost i=>obtain⟨e,c,a,b,_⟩:=h;exact⟨e,c,a,b⟩|again i=>obtain⟨e,a,b,_⟩:=h;exact⟨e,a,b⟩|up i=>exact h
theorem zjq(wn:WN n)(ri:RI n R)(wt:WT R)(sb:SB B R)(hc:EvC n R ev):Res n R (doR n R ev) (B+10):=by
 have up10:∀{R':Run},Res n R R' (B+9)->Res n R R' (B+10):=fun h=>⟨h.ri,h.wt,h.sb.mono ⋯,h.le,h.ca,h.qs⟩;cases ev with
 |fresh=>
  obtain⟨r1,r2,r3,r4⟩:=zhN wn 4 (h:=0) (c:=none) (by have:=wn.hl;omega) ri wt sb wn.h1 (fun c' z=>by cases z);refine⟨r1,r2,r3.mono ⋯,r4.1,r4.2.1,fun i e' h' hs=>?_⟩
  by_cases z:i<R.es.length
  ·have hq:R.es[i]? = some R.es[i]:=Q0 z;have:=r4.2.2.1 i _ hq;rw[show doR n R .fresh=zM n 4 R 0 none from rfl,this]at h';cases h';exact .inl ⟨_,hq,rfl,rfl⟩
  ·have:=r4.2.2.2 i e' h' ⋯;rw[hs]at this;cases this
 |ends i w=>
  obtain⟨e,he,hw⟩:=hc;have hp:e.ph = .works:=by cases q:e.ph with|works=>rfl|_=>rw[q]at hw;cases hw
  exact up10 (zfI wn 4 ri wt sb he (by have:=ri.hs _ _ he;have:=wn.hl;omega) (by rw[hp];rfl) (zlt wt he fun a t z=>by rw[hp]at z;cases z))
 |up i=>obtain⟨e,he,hs⟩:=hc;exact up10 (zfI wn 4 ri wt sb he (by have:=ri.hs _ _ he;have:=wn.hl;omega) (by cases q:e.ph<;>rw[q]at hs<;>first | rfl | cases hs) (zlt wt he fun a t z=>by rw[z]at hs;cases hs))
 |again i=>
  obtain⟨e,he,hs,_⟩:=hc;show Res n R (zfp n R i) _;unfold zfp;rw[zaI he];have te:=ziM R (n.pof (n.ask e.house e.ph.at1));have ri1:RI n (takeO R (n.pof (n.ask e.house e.ph.at1))):=⟨by rw[te.1];exact ri.hs,by rw[te.1];exact ri.cl,by rw[te.1];exact ri.ph,by rw[te.2.1];exact ri.pl⟩;have wt1:WT (takeO R (n.pof (n.ask e.house e.ph.at1))):=by intro j q c;rw[te.1];exact wt j q c
  have nl1:NL (takeO R (n.pof (n.ask e.house e.ph.at1))) i:=by intro j q c;rw[te.1];exact zlt wt he (fun a t z=>by rw[z]at hs;cases hs) j q c
  obtain⟨r1,r2,r3,r4,r5,_,r7⟩:=zj3 wn (at':=e.ph.at1) (tr:=e.ph.at2+1) ri1 wt1 (sb.takeO _) (by rw[te.1];exact he) (zdi hs (ri.ph _ _ he)) (by cases q:e.ph<;>rw[q]at hs<;>first | rfl | cases hs) nl1 ⋯;refine⟨r1,r2,r3.mono ⋯,by rw[te.1]at r4;exact r4,by rw[r5,te.2.2],?_⟩;intro j e' h' hs';have:=r7 j e' h' hs';rw[te.1,te.2.2]at this;exact this
 |lost i=>
  obtain⟨e,c,he,hq,hlv⟩:=hc;show Res n R (zeB n R i) _;have e0:zeB n R i=zca n (zax n 4) (R.setE i { e with lost:=true }) c "bad":=by
   have el:∀(o:Option (Nat × Nat × Nat)) (f:Nat × Nat × Nat->Run),o=some c->o.elim R f=f c:=fun o f h=>by rw[h];rfl
   unfold zeB;rw[zaI he];exact el _ _ hq
  rw[e0];have ri1:RI n (R.setE i { e with lost:=true }):=ri.setE he rfl rfl (by have:=ri.ph _ _ he;unfold zex at this ⊢;exact this);obtain⟨ce,c1,c2,c3⟩:=wt i e c he hq hlv;obtain⟨d1,ce',d2,d3,d4⟩:=ri.cl i e c he hq;rw[c1]at d2;cases d2;have hne:c.1 ≠ i:=by omega
  have c1':(R.setE i { e with lost:=true }).es[c.1]? = some ce:=by rw[zhH hne];exact c1
  have wt1:WT (R.setE i { e with lost:=true }):=fun j q cc h' hc' l'=>by
   have key:∀q0,R.es[j]? = some q0->q0.caller=some cc->lv q0->∃ce,(R.setE i { e with lost:=true }).es[cc.1]? = some ce/\ce.ph = .waits cc.2.1 cc.2.2/\ce.asked=some j:=fun q0 h0 hc0 l0=>by
    obtain⟨x,x1,x2,x3⟩:=wt j q0 cc h0 hc0 l0
    by_cases z:cc.1=i
    ·rw[z]at x1 ⊢;rw[he]at x1;cases x1;exact⟨_,zhG he _,x2,x3⟩
    ·exact⟨x,by rw[zhH z];exact x1,x2,x3⟩
   rcases zau h' with⟨rfl,rfl,_⟩ | ⟨_,h'⟩
   ·cases l'.1
   ·exact key q h' hc' l'
  have nl1:NL (R.setE i { e with lost:=true }) c.1:=fun j e' cc h' hc' z l'=>by
   rcases zau h' with⟨rfl,rfl,_⟩ | ⟨hji,h'⟩
   ·cases l'.1
   ·obtain⟨x,x1,x2,x3⟩:=wt j e' cc h' hc' l';rw[z,c1]at x1;cases x1;rw[c3]at x3;cases x3;exact hji rfl
  have hend:=zfI wn 4 (w:="bad") ri1 wt1 (sb.setE _ _) c1' (by have:=ri1.hs _ _ c1';have:=wn.hl;omega) (by rw[c2];rfl) nl1;have hh:=zjc wn (w:="bad") ri1 wt1 (sb.setE _ _) c1' d4 c2 nl1 hend;refine⟨hh.ri,hh.wt,hh.sb.mono ⋯,by have:=hh.le;simp[Run.setE]at this;exact this,hh.ca,fun j e' h' hs=>?_⟩;rcases hh.qs j e' h' hs with⟨e1,a1,a2,a3⟩ | ⟨a1,e1,a,t,a2,a3⟩
  ·rcases zau a1 with⟨rfl,rfl,_⟩ | ⟨_,a1⟩
   ·exact .inl ⟨e,he,a2,a3⟩
   ·exact .inl ⟨e1,a1,a2,a3⟩
  ·rcases zau a2 with⟨rfl,rfl,_⟩ | ⟨_,a2⟩
   ·exact .inr ⟨a1,e,a,t,he,a3⟩
   ·exact .inr ⟨a1,e1,a,t,a2,a3⟩
end My
namespace My
open PySem L2 FT
noncomputable def Run.new(n:Net):Run:=⟨0,[],n.ps.map fun _=>[],[],n.ps.map fun _=>0⟩
noncomputable def yo(n:Net)(evs:List Evt):Run:=evs.foldl (zcs n) (Run.new n)
def Can(n:Net)(R:Run)(ev:Evt):Prop:=ev.isF=true\/((∃e,R.es[ev.num]? = some e)/\ev ∈ zaW n R ev.num)
noncomputable def VEv(n:Net):Run->List Evt->Prop
 |_,[]=>True|R,ev::evs=>Can n R ev/\VEv n (zcs n R ev) evs
variable {ev:Evt}{n:Net}{R:Run}
theorem Can.c(h:Can n R ev):EvC n R ev:=by
 rcases h with h | ⟨⟨e,he⟩,hm⟩
 ·cases ev with|fresh=>exact True.intro|_=>cases h
 ·exact(zfG he hm).2.2
structure Good (n:Net) (R:Run) (B:Nat):Prop where
 ri:RI n R
 wt:WT R
 sb:SB B R
 sd:∀(i:Nat) (e:Er) (k:Nat),R.es[i]? = some e->e.ph.isS=true->e.stood=some k->k<R.came
theorem zns(n:Net):Good n (Run.new n) 0:=⟨⟨fun i e h=>by simp[Run.new]at h,fun i e c h=>by simp[Run.new]at h,fun i e h=>by simp[Run.new]at h,by simp[Run.new]⟩,fun i e c h=>by simp[Run.new]at h,⟨Q3 _,fun u hu=>by
 obtain⟨_,_,rfl⟩:=mem_map.mp hu;exact Q3 _,Q3 _,fun v hv=>by
 obtain⟨_,_,rfl⟩:=mem_map.mp hv;exact Q3 _⟩,fun i e k h=>by simp[Run.new]at h⟩
variable {B:Nat}
theorem zmc(wn:WN n)(g:Good n R B)(hc:Can n R ev):Good n (zcs n R ev) (B+10):=by
 have r:=zjq wn g.ri g.wt g.sb hc.c;exact⟨⟨r.ri.hs,r.ri.cl,r.ri.ph,r.ri.pl⟩,r.wt,⟨r.sb.es,r.sb.pu,r.sb.py,r.sb.tk⟩,fun i e k he hs hk=>by
  show k<(doR n R ev).came+1;rw[r.ca];rcases r.qs i e he hs with⟨e1,a1,a2,a3⟩ | ⟨a1,_⟩
  ·have:=g.sd i e1 k a1 (by rw[a2];exact hs) (by rw[a3];exact hk);omega
  ·rw[a1]at hk;cases hk;omega⟩
variable {J I:Addr}{l:Lay}{M:Mem}
section
variable {b r:Nat}
theorem zk9{G:Gd}{bd:FT.T->FT.Ev->Mem->Out FT.Ev}{el:FT.Ev->Mem->Out FT.T}{M:Mem}{α:Type}{r:α->FT.T}(hG:zdn G M)(I:FT.Ev->Prop)(f:α->FT.T):∀{xs:List α} {σ:FT.Ev} {acc:List FT.T},I σ->acc.length+xs.length<=100000->
  (∀x σ,x ∈ xs->I σ->∃σ1,bd (r x) σ M = .ok σ1 M/\I σ1/\el σ1 M = .ok (f x) M)->zJ G bd qK el (xs.map r) σ M acc = .ok (acc++xs.map f) M
 |[],σ,acc,_,_,_=>by simp[zJ,zdo hG]|x::xs,σ,acc,h,hl,t=>by obtain⟨σ1,e1,h1,e2⟩:=t x σ (.head _) h;rw[Qp]at hl;have ih:=zk9 hG I f (xs:=xs) (σ:=σ1) (acc:=acc++[f x]) h1 (by rw[Qn,Qp,length_nil];omega) (fun y σ hy=>t y σ (.tail _ hy));rw[QF];unfold zJ;rw[zdo hG,e1];show((el σ1 M).bind _)=_;rw[e2];show(if acc.length<sizeLine then zJ G bd qK el (xs.map r) σ1 M (acc++[f x])else .bad)=_;rw[Qz (by rw[sizeLine_eq];omega),ih];simp
theorem zgl{a:Nat}{xs:List FT.T}(h:M[a]? = some (.lst xs)):zdl (.ref a) M=some (xs,[(a,xs)]):=by show(match M[a]? with | some (.lst xs)=>some (xs,[(a,xs)]) | _=>none)=_;rw[h]
noncomputable def erT(e:Er):FT.T:=.tup [nT e.house,clT e.caller,phT e.ph]
noncomputable def tdT(p:Int × Int):FT.T:=.tup [.int p.1,.int p.2]
noncomputable def zei(n:Net)(R:Run):FT.T:=.tup [.lst (R.es.map erT),.lst ((List.range n.ps.length).map fun k=>tdT (R.told n k))]
theorem zgA(h:RunAt J I (yf n) b r l M R)(wn:WN n)(ri:RI n R)(hB:B<90000)(sb:SB B R):za6 J I [.ref r] M = .ok (zei n R) M:=by
 unfold za6 zh2;have zp:l.es.map FT.T.ref=(List.zip l.es R.es).map fun q=>FT.T.ref q.1:=by rw[show(fun q:Nat × Er=>FT.T.ref q.1)=FT.T.ref ∘ Prod.fst from rfl,←map_map,List.map_fst_zip (by rw[h.el];exact Q3 _)]
 have z2:R.es.map erT=(List.zip l.es R.es).map fun q=>erT q.2:=by rw[show(fun q:Nat × Er=>erT q.2)=erT ∘ Prod.snd from rfl,←map_map,List.map_snd_zip (by rw[h.el];exact Q3 _)]
 have c1:=zk9 (G:=[(l.a,l.es.map FT.T.ref)]) (bd:=yj 0) (el:=zE (zb (zj [J] "house" (O 0)) (zb (zj [J] "caller" (O 0)) (zb (zj [J] "state" (O 0)) zd)))) (M:=M) (r:=fun q:Nat × Er=>FT.T.ref q.1) (zeE h.er) (fun σ=>∃o,σ=[o]) (fun q=>erT q.2) (xs:=List.zip l.es R.es) (σ:=[none]) (acc:=[]) ⟨_,rfl⟩ (by rw[length_nil,List.length_zip,h.el,Nat.min_self];have:=sb.es;omega) (by
  rintro⟨x,e⟩ σ hx ⟨o,rfl⟩;obtain⟨i,hi⟩:=mem_iff_getElem?.mp hx;have hxe:l.es[i]? = some x/\R.es[i]? = some e:=by rw[List.getElem?_zip_eq_some]at hi;exact hi
  obtain⟨x',hx',hc⟩:=h.at_e hxe.2;rw[hxe.1]at hx';cases hx';refine⟨[some (.ref x)],rfl,⟨_,rfl⟩,?_⟩;have f1:=qH (f:="house") hc rfl;have f2:=qH (f:="caller") hc rfl;have f3:=qH (f:="state") hc rfl;erw[zj,f1,f2,f3];rfl)
 rw[nil_append,←zp,←z2]at c1;have rg:zge [.int ((n.ps.map puT).length:Int)] M = .ok ((rgI n.ps.length).map .int) M:=by rw[zaR (by rw[Qh];have:=wn.pl;omega),Qh,Int.toNat_natCast]
 have c2:yA (yj 0) qK (ze (yV J I) (zb (O 1) (zb (O 0) zd))) ((rgI n.ps.length).map .int) [none,some (.ref r)] M [] = .ok ((List.range n.ps.length).map fun k=>tdT (R.told n k)) M:=by rw[show(rgI n.ps.length).map FT.T.int=(List.range n.ps.length).map nT by unfold rgI;rw[map_map];rfl];exact Ok.mapc (r:=nT) (fun σ=>∃o,σ=[o,some (.ref r)]) _ ⟨_,rfl⟩ (by rw[List.length_range];have:=wn.pl;omega) (by rintro k σ hk ⟨o,rfl⟩;refine⟨[some (nT k),some (.ref r)],rfl,⟨_,rfl⟩,?_⟩;erw[zj6 h wn ri.pl (mem_range.mp hk)];rfl)
 have hnt:=h.net;unfold yf at hnt;erw[zj,h.errands,zaX,zgl h.er,yP,c1,hnt,rg,c2];rfl
end
variable {kN:Addr}{t:FT.T}{evs:List Evt}{M' X:Mem}{i:Nat}
section
theorem zkn(M X:Mem)(c:Cell):(M++(c::X))[M.length]? = some c:=by rw[Q8 (Q3 _),Nat.sub_self];rfl
theorem zoQ(M X:Mem)(c d:Cell):(M++(c::X)).set M.length d=M++(d::X):=by rw[set_append_right _ _ (Q3 _),Nat.sub_self];rfl
theorem ze8{c d:Cell}(h:X[i]? = some d):(M++(c::X))[M.length+1+i]? = some d:=by rw[Q8 ⋯,show M.length+1+i-M.length=i+1 by omega,getElem?_cons_succ];exact h
theorem setM{fs fs':List (Str × FT.T)}{f:Str}{y:FT.T}(e:zdh f y fs=fs')(hl:fs.length<1000):zaZ [I] f (.ref M.length) y (M++(.ins I fs::X)) = .ok () (M++(.ins I fs'::X)):=by rw[zbh (zkn M X _) e hl,zoQ]
noncomputable def puA(b p:Nat):List Nat:=(List.range p).map fun j=>b+2+j
noncomputable def newX(n:Net)(b:Nat):Mem:=(.lst []::List.replicate n.ps.length (.lst []))++[.lst ((puA b n.ps.length).map .ref)]++[.lst []]++[.lst ((n.ps.map fun _=>0).map nT)]
noncomputable def zcO(n:Net)(b:Nat):Lay:=⟨b+1,b+2+n.ps.length,b+3+n.ps.length,b+4+n.ps.length,[],puA b n.ps.length⟩
theorem zoM(M:Mem):RunAt J I (yf n) M.length M.length (zcO n M.length) (M++(.ins I (zcm (yf n) (zcO n M.length) (Run.new n))::newX n M.length)) (Run.new n):=by
 have pz:pzC (puA M.length n.ps.length) (n.ps.map fun _=>[])=(List.range n.ps.length).map fun j=>(M.length+2+j,Cell.lst []):=by
  unfold pzC puA;refine ext_getElem? fun i=>?_;rw[List.getElem?_zipWith,Qb,Qb,Qb]
  by_cases z:i<n.ps.length
  ·rw[getElem?_range z,Q0 z];rfl
  ·rw[getElem?_eq_none (by simpa using z)];rfl
 have cs:cells J I (yf n) M.length (zcO n M.length) (Run.new n)=(M.length,.ins I (zcm (yf n) (zcO n M.length) (Run.new n)))::(M.length+1,.lst [])::(M.length+2+n.ps.length,.lst ((puA M.length n.ps.length).map .ref))::(M.length+3+n.ps.length,.lst [])::(M.length+4+n.ps.length,.lst ((n.ps.map fun _=>0).map nT))::((List.range n.ps.length).map fun j=>(M.length+2+j,Cell.lst [])):=by rw[←pz];rfl
 have xl:newX n M.length=Cell.lst []::(List.replicate n.ps.length (Cell.lst [])++[.lst ((puA M.length n.ps.length).map .ref),.lst [],.lst ((n.ps.map fun _=>0).map nT)]):=by unfold newX;simp
 have ap:∀(k:Nat) (d:Cell),[Cell.lst ((puA M.length n.ps.length).map FT.T.ref),.lst [],.lst ((n.ps.map fun _=>0).map nT)][k]? = some d->(newX n M.length)[n.ps.length+1+k]? = some d:=fun k d h=>by rw[xl,show n.ps.length+1+k=(n.ps.length+k)+1 by omega,getElem?_cons_succ,Q8 (by rw[length_replicate];omega),length_replicate,show n.ps.length+k-n.ps.length=k by omega];exact h
 refine⟨?_,?_,?_,rfl,by simp[zcO,puA,Run.new],by simp[Run.new]⟩
 ·rw[cs];intro p hp;rcases QB.mp hp with rfl | hp
  ·exact zkn _ _ _
  rcases QB.mp hp with rfl | hp
  ·exact ze8 (i:=0) (by rw[xl];rfl)
  rcases QB.mp hp with rfl | hp
  ·have:=ze8 (M:=M) (c:=.ins I (zcm (yf n) (zcO n M.length) (Run.new n))) (ap 0 _ rfl);rw[show M.length+1+(n.ps.length+1+0)=M.length+2+n.ps.length by omega]at this;exact this
  rcases QB.mp hp with rfl | hp
  ·have:=ze8 (M:=M) (c:=.ins I (zcm (yf n) (zcO n M.length) (Run.new n))) (ap 1 _ rfl);rw[show M.length+1+(n.ps.length+1+1)=M.length+3+n.ps.length by omega]at this;exact this
  rcases QB.mp hp with rfl | hp
  ·have:=ze8 (M:=M) (c:=.ins I (zcm (yf n) (zcO n M.length) (Run.new n))) (ap 2 _ rfl);rw[show M.length+1+(n.ps.length+1+2)=M.length+4+n.ps.length by omega]at this;exact this
  ·obtain⟨j,hj,rfl⟩:=mem_map.mp hp;have hj:=mem_range.mp hj;have:(newX n M.length)[1+j]? = some (.lst []):=by rw[xl,Nat.add_comm 1 j,getElem?_cons_succ,Q6 (by rw[length_replicate];exact hj),List.getElem?_replicate,Qz hj]
   have:=ze8 (M:=M) (c:=.ins I (zcm (yf n) (zcO n M.length) (Run.new n))) this;rw[show M.length+1+(1+j)=M.length+2+j by omega]at this;exact this
 ·rw[cs];simp only[QF,map_map];have hm:∀x,x ∈ (List.range n.ps.length).map ((fun p:Nat × Cell=>p.1) ∘ fun j=>(M.length+2+j,Cell.lst []))->M.length+2<=x/\x<M.length+2+n.ps.length:=fun x hx=>by obtain⟨j,hj,rfl⟩:=mem_map.mp hx;have:=mem_range.mp hj;simp only[Function.comp];omega
  refine nodup_cons.mpr ⟨?_,nodup_cons.mpr ⟨?_,nodup_cons.mpr ⟨?_,nodup_cons.mpr ⟨?_,nodup_cons.mpr ⟨?_,?_⟩⟩⟩⟩⟩
  ·intro z;simp only[QB]at z;rcases z with z | z | z | z | z
   ·omega
   ·omega
   ·omega
   ·omega
   ·have:=hm _ z;omega
  ·intro z;simp only[QB]at z;rcases z with z | z | z | z
   ·omega
   ·omega
   ·omega
   ·have:=hm _ z;omega
  ·intro z;simp only[QB]at z;rcases z with z | z | z
   ·omega
   ·omega
   ·have:=hm _ z;omega
  ·intro z;simp only[QB]at z;rcases z with z | z
   ·omega
   ·have:=hm _ z;omega
  ·intro z;have:=hm _ z;omega
  ·rw[List.Nodup,List.pairwise_map];exact(List.nodup_range).imp fun h=>by simp only[Function.comp];omega
 ·rw[cs];intro p hp;rcases QB.mp hp with rfl | hp
  ·exact Q3 _
  rcases QB.mp hp with rfl | hp
  ·exact Nat.le_succ _
  rcases QB.mp hp with rfl | hp
  ·show M.length<=M.length+2+n.ps.length;omega
  rcases QB.mp hp with rfl | hp
  ·show M.length<=M.length+3+n.ps.length;omega
  rcases QB.mp hp with rfl | hp
  ·show M.length<=M.length+4+n.ps.length;omega
  ·obtain⟨j,_,rfl⟩:=mem_map.mp hp;show M.length<=M.length+2+j;omega
theorem zgq:∀(xs:List FT.T) (o:Option FT.T) (M:Mem) (acc:List FT.T),acc.length+xs.length<=100000->yA (yj 0) qK (eTk (zx zd)) xs [o] M acc = .ok (acc++(List.range xs.length).map fun j=>.ref (M.length+j)) (M++List.replicate xs.length (.lst []))
 |[],o,M,acc,_=>by simp[yA]|x::xs,o,M,acc,hl=>by
  rw[Qp]at hl;have ih:=zgq xs (some x) (M++[.lst []]) (acc++[.ref M.length]) (by rw[Qn,Qv];omega);unfold yA;show(if acc.length<sizeLine then yA (yj 0) qK (eTk (zx zd)) xs [some x] (M++[.lst []]) (acc++[.ref M.length])else .bad)=_;rw[Qz (by rw[sizeLine_eq];omega),ih];congr 1
  ·rw[append_assoc,Qp,List.range_succ_eq_map,QF,map_map];congr 1;show FT.T.ref M.length::_=FT.T.ref (M.length+0)::_;congr 1;refine List.map_congr_left fun j _=>?_;simp;omega
  ·rw[Qp,replicate_succ];simp
theorem zhB(wn:WN n)(M:Mem):Ok (zad J I [.ref M.length,yf n] (M++[.ins I []])) fun t M'=>t = .non/\M'=M++(.ins I (zcm (yf n) (zcO n M.length) (Run.new n))::newX n M.length):=by
 refine qz rfl ?_;unfold zgZ;have pl:=wn.pl;have ap:∀(X:Mem) (c d:Cell),M++c::X++[d]=M++(c::(X++[d])):=fun X c d=>by simp
 have ln:∀(X:Mem) (c:Cell),(M++c::X).length=M.length+1+X.length:=fun X c=>by simp;omega
 have s1:=setM (I:=I) (M:=M) (X:=[]) (fs:=[]) (f:="net") (y:=yf n) (fs':=[("net",yf n)]) rfl ∅;have s2:=setM (I:=I) (M:=M) (X:=[]) (fs:=[("net",yf n)]) (f:="came") (y:=.int 0) (fs':=[("net",yf n),("came",.int 0)]) rfl (by simp);have s3:=setM (I:=I) (M:=M) (X:=[.lst []]) (fs:=[("net",yf n),("came",.int 0)]) (f:="errands") (y:=.ref (M.length+1)) (fs':=[("net",yf n),("came",.int 0),("errands",.ref (M.length+1))]) rfl (by simp);have it:zaE (eOp ixT (O 1) (eC (.int 1))) [some (.ref M.length),some (yf n)]=fun M=>.ok (n.ps.map puT) M:=rfl;have cp:∀o,yA (yj 0) qK (eTk (zx zd)) (n.ps.map puT) [o] (M++(.ins I [("net",yf n),("came",.int 0),("errands",.ref (M.length+1))]::[.lst []])) [] = .ok ((puA M.length n.ps.length).map .ref) (M++(.ins I [("net",yf n),("came",.int 0),("errands",.ref (M.length+1))]::(.lst []::List.replicate n.ps.length (.lst [])))):=fun o=>by
  rw[zgq _ _ _ _ (by rw[length_nil,Qh];omega),Qh,nil_append];congr 1
  ·unfold puA;rw[map_map];refine List.map_congr_left fun j _=>?_;simp
  ·simp
 have s4:=setM (I:=I) (M:=M) (X:=(.lst []::List.replicate n.ps.length (.lst []))++[.lst ((puA M.length n.ps.length).map .ref)]) (fs:=[("net",yf n),("came",.int 0),("errands",.ref (M.length+1))]) (f:="puts") (y:=.ref (M.length+2+n.ps.length)) (fs':=[("net",yf n),("came",.int 0),("errands",.ref (M.length+1)),("puts",.ref (M.length+2+n.ps.length))]) rfl (by simp);have s5:=setM (I:=I) (M:=M) (X:=(.lst []::List.replicate n.ps.length (.lst []))++[.lst ((puA M.length n.ps.length).map .ref)]++[.lst []]) (fs:=[("net",yf n),("came",.int 0),("errands",.ref (M.length+1)),("puts",.ref (M.length+2+n.ps.length))]) (f:="payments") (y:=.ref (M.length+3+n.ps.length)) (fs':=[("net",yf n),("came",.int 0),("errands",.ref (M.length+1)),("puts",.ref (M.length+2+n.ps.length)),("payments",.ref (M.length+3+n.ps.length))]) rfl (by simp);have s6:=setM (I:=I) (M:=M) (X:=newX n M.length) (fs:=[("net",yf n),("came",.int 0),("errands",.ref (M.length+1)),("puts",.ref (M.length+2+n.ps.length)),("payments",.ref (M.length+3+n.ps.length))]) (f:="taken") (y:=.ref (M.length+4+n.ps.length)) (fs':=zcm (yf n) (zcO n M.length) (Run.new n)) rfl (by simp);have ct:∀o M',yA (yj 0) qK (eC (.int 0)) (n.ps.map puT) [o] M' [] = .ok ((n.ps.map fun _=>0).map nT) M':=fun o M'=>by rw[map_map];exact Ok.mapc (r:=puT) (fun σ=>∃o,σ=[o]) _ ⟨_,rfl⟩ ⋯ (by rintro x σ hx ⟨o,rfl⟩;exact⟨[some (puT x)],rfl,⟨_,rfl⟩,rfl⟩)
 have l4:(M++Cell.ins I [("net",yf n),("came",.int 0),("errands",.ref (M.length+1))]::(.lst []::List.replicate n.ps.length (Cell.lst []))).length=M.length+2+n.ps.length:=by simp;omega
 have l5:(M++Cell.ins I [("net",yf n),("came",.int 0),("errands",.ref (M.length+1)),("puts",.ref (M.length+2+n.ps.length))]::((.lst []::List.replicate n.ps.length (Cell.lst []))++[.lst ((puA M.length n.ps.length).map .ref)])).length=M.length+3+n.ps.length:=by simp;omega
 have l6:(M++Cell.ins I [("net",yf n),("came",.int 0),("errands",.ref (M.length+1)),("puts",.ref (M.length+2+n.ps.length)),("payments",.ref (M.length+3+n.ps.length))]::((.lst []::List.replicate n.ps.length (Cell.lst []))++[.lst ((puA M.length n.ps.length).map .ref)]++[.lst []])).length=M.length+4+n.ps.length:=by simp;omega
 have st:∀(f:Str) (y:FT.T) (fv:Ev->Mem->Out FT.T) (M0 M1 M2:Mem),fv [some (.ref M.length),some (yf n)] M0 = .ok y M1->zaZ [I] f (.ref M.length) y M1 = .ok () M2->qF [I] f (O 0) fv [some (.ref M.length),some (yf n)] M0 = .ok (.nx [some (.ref M.length),some (yf n)]) M2:=fun f y fv M0 M1 M2 h1 h2=>by unfold qF;rw[h1];show(zaZ [I] f (.ref M.length) y M1).bind _=_;rw[h2];rfl
 refine⟨.non,_,?_,rfl,rfl⟩;have t1:=st "net" (yf n) (O 1) _ _ _ rfl s1;have t2:=st "came" (.int 0) (eC (.int 0)) _ _ _ rfl s2;have t3:=st "errands" (.ref (M.length+1)) (eTk (zx zd)) (M++(.ins I [("net",yf n),("came",.int 0)]::[])) _ _ (by show Out.ok (FT.T.ref (M++[Cell.ins I [("net",yf n),("came",.int 0)]]).length) (M++[Cell.ins I [("net",yf n),("came",.int 0)]]++[.lst []]) = .ok (.ref (M.length+1)) (M++(.ins I [("net",yf n),("came",.int 0)]::[.lst []]));simp) s3
 have t4:=st "puts" (.ref (M.length+2+n.ps.length)) (eTk (yX (zaE (eOp ixT (O 1) (eC (.int 1)))) (yj 0) qK (eTk (zx zd)) ["purse"] [])) (M++(.ins I [("net",yf n),("came",.int 0),("errands",.ref (M.length+1))]::[.lst []])) _ _ (by show((yA (yj 0) qK (eTk (zx zd)) (n.ps.map puT) [none] (M++(.ins I [("net",yf n),("came",.int 0),("errands",.ref (M.length+1))]::[.lst []])) []).bind fun ts M1=>Out.ok (FT.T.ref M1.length) (M1++[Cell.lst ts]))=_;rw[cp];show Out.ok (FT.T.ref (List.length _)) _=_;rw[l4,ap]) s4
 have t5:=st "payments" (.ref (M.length+3+n.ps.length)) (eTk (zx zd)) (M++(.ins I [("net",yf n),("came",.int 0),("errands",.ref (M.length+1)),("puts",.ref (M.length+2+n.ps.length))]::((.lst []::List.replicate n.ps.length (.lst []))++[.lst ((puA M.length n.ps.length).map .ref)]))) _ _ (by show Out.ok (FT.T.ref (List.length _)) _=_;rw[l5,ap]) s5
 have t6:=st "taken" (.ref (M.length+4+n.ps.length)) (eTk (yX (zaE (eOp ixT (O 1) (eC (.int 1)))) (yj 0) qK (eC (.int 0)) ["purse"] [])) (M++(.ins I [("net",yf n),("came",.int 0),("errands",.ref (M.length+1)),("puts",.ref (M.length+2+n.ps.length)),("payments",.ref (M.length+3+n.ps.length))]::((.lst []::List.replicate n.ps.length (.lst []))++[.lst ((puA M.length n.ps.length).map .ref)]++[.lst []]))) _ _ (by show((yA (yj 0) qK (eC (.int 0)) (n.ps.map puT) [none] _ []).bind fun ts M1=>Out.ok (FT.T.ref M1.length) (M1++[Cell.lst ts]))=_;rw[ct];show Out.ok (FT.T.ref (List.length _)) _=_;rw[l6,ap];rfl) s6
 rw[show startT 2 [.ref M.length,yf n]=[some (.ref M.length),some (yf n)]from rfl];unfold yg;rw[t1];show((((qF [I] "came" (O 0) (eC (.int 0)) [some (.ref M.length),some (yf n)] _).bind _)).bind zcN)=_;rw[t2];show((((qF [I] "errands" (O 0) (eTk (zx zd)) [some (.ref M.length),some (yf n)] _).bind _)).bind zcN)=_;rw[t3];show((((qF [I] "puts" (O 0) _ [some (.ref M.length),some (yf n)] _).bind _)).bind zcN)=_;rw[t4];show((((qF [I] "payments" (O 0) _ [some (.ref M.length),some (yf n)] _).bind _)).bind zcN)=_;rw[t5];show(((qF [I] "taken" (O 0) _ [some (.ref M.length),some (yf n)] _)).bind zcN)=_;rw[t6];rfl
theorem zlV(wn:WN n)(M:Mem){σ:Ev}(hσ:O 0 σ=fun M=>.ok (yf n) M):∃M',zcW I (zad J I) (zb (O 0) zd) σ M = .ok (.ref M.length) M'/\RunAt J I (yf n) M.length M.length (zcO n M.length) M' (Run.new n)/\Kp M.length M M':=by
 obtain⟨t,M',e,rfl,rfl⟩:=zhB (J:=J) (I:=I) wn M;refine⟨_,?_,zoM M,?_⟩
 ·unfold zcW zb zd;rw[hσ];show((zad J I [.ref M.length,yf n] (M++[.ins I []])).bind _)=_;rw[e];rfl
 ·exact⟨by simp,fun i hi=>Q6 hi⟩
def EvS(t:FT.T)(evs:List Evt):Prop:=t = .lst (evs.map evT)\/t = .tup (evs.map evT)
theorem zdB{α β:Type}{f:β->α->β}{x:β}{xs:List α}{k:Nat}{y:α}(h:xs[k]? = some y):(xs.take (k+1)).foldl f x=f ((xs.take k).foldl f x) y:=by rw[take_succ,h,foldl_append];rfl
theorem VEv.at_{n:Net}:∀{evs:List Evt} {R:Run} {k:Nat} {ev:Evt},VEv n R evs->evs[k]? = some ev->Can n ((evs.take k).foldl (zcs n) R) ev
 |[],_,_,_,_,h=>by simp at h|e0::evs,R,0,ev,v,h=>by simp at h;subst h;exact v.1
 |e0::evs,R,k+1,ev,v,h=>by simp at h;exact VEv.at_ (k:=k) v.2 h
theorem za5(wn:WN n){evs:List Evt}(v:VEv n (Run.new n) evs):∀k,k<=evs.length->Good n (yo n (evs.take k)) (10*k)
 |0,_=>zns n|k+1,h=>by have hk:evs[k]? = some evs[k]:=Q0 ⋯;have g:=za5 wn v k ⋯;have c:=v.at_ hk;unfold yo at g ⊢;rw[zdB hk];have:=zmc wn g c;exact⟨this.ri,this.wt,this.sb.mono ⋯,this.sd⟩
theorem ze6(wn:WN n){b r:Nat}(h:RunAt J I (yf n) b r l M R)(g:Good n R B)(hB:B+10<90000)(hc:Can n R ev):qG J I kN [.ref r,evT ev] M = .ok .non M/\Ok (zac J I [.ref r,evT ev] M) (Lv J I n b r (zcs n R ev) M):=by
 refine⟨?_,zqD h wn hB g.sb g.ri hc.c.ok⟩;rcases hc with hf | ⟨⟨e,he⟩,hm⟩
 ·cases ev with|fresh=>exact zmx h|_=>cases hf
 ·have:=zfG he hm;exact zrz h wn g.ri (by have:=g.sb.es;omega) this.1 he hm
theorem zlI(wn:WN n)(ht:EvS t evs)(v:VEv n (Run.new n) evs)(hl:evs.length<=2000)(M:Mem):Ok (zco J I kN [yf n,t] M) fun u M'=>u = .ref M.length/\Kp M.length M M'/\∃l,RunAt J I (yf n) M.length M.length l M' (yo n evs):=by
 refine OkX.toOk (qY rfl (OkX.ok ?_));unfold zjf;obtain⟨M1,e1,h1,k1⟩:=zlV (J:=J) (I:=I) wn M (σ:=[some (yf n),some t,none,none]) rfl;have loop:Ok (forL (yj 3) (zfo J I kN) (evs.map evT) [some (yf n),some t,some (.ref M.length),none] M1) fun fl M'=>∃σ,fl = .nx σ/\∃o,σ=[some (yf n),some t,some (.ref M.length),o]/\Kp M.length M M'/\∃l,RunAt J I (yf n) M.length M.length l M' (yo n evs):=by
  refine(Ok.for (r:=evT) (xs:=evs) (fun k σ M'=>∃o,σ=[some (yf n),some t,some (.ref M.length),o]/\Kp M.length M M'/\∃l,RunAt J I (yf n) M.length M.length l M' (yo n (evs.take k))) ⟨none,rfl,k1,_,h1⟩ ?_).mono ?_
  ·rintro k ev σ M2 hk ⟨o,rfl,k2,l2,h2⟩;have hkl:=(Qy.mp hk).1;obtain⟨c1,c2⟩:=ze6 (kN:=kN) wn h2 (za5 wn v k ⋯) ⋯ (v.at_ hk);unfold zfo;erw[c1];refine Ok.bind c2 ?_;rintro u M3 ⟨rfl,k3,l3,h3⟩
   try simp_arith
   refine Ok.ret ⟨_,rfl,_,rfl,k2.trans k3,l3,?_⟩;unfold yo at h3 ⊢;rw[zdB hk];exact h3
  ·rintro fl M' ⟨σ,rfl,o,rfl,k2,l2,h2⟩;rw[take_length]at h2;exact⟨_,rfl,o,rfl,k2,l2,h2⟩
 erw[e1];rcases ht with rfl | rfl
 ·simp_arith;refine Ok.bind loop ?_;rintro fl M' ⟨σ,rfl,o,rfl,k2,l2,h2⟩;simp_arith;exact Ok.ret ⟨rfl,k2,l2,h2⟩
 ·simp_arith;refine Ok.bind loop ?_;rintro fl M' ⟨σ,rfl,o,rfl,k2,l2,h2⟩;simp_arith;exact Ok.ret ⟨rfl,k2,l2,h2⟩
theorem zfr(h:Kp M.length M M'):M'.take M.length=M:=by
 refine ext_getElem? fun i=>?_
 by_cases z:i<M.length
 ·rw[List.getElem?_take_of_lt z];exact h.2 i z
 ·rw[getElem?_eq_none (by rw[Qr];omega),getElem?_eq_none ⋯]
theorem zse(e:Er):FT.T.lt 0 (erT e):=by
 refine .tup fun t ht=>?_;simp only[QB,not_mem_nil,or_false]at ht;rcases ht with rfl | rfl | rfl
 ·exact .int _
 ·cases e.caller with
  |none=>exact .non|some c=>refine .tup fun u hu=>?_;simp only[QB,not_mem_nil,or_false]at hu;rcases hu with rfl | rfl | rfl<;>exact .int _
 ·cases e.ph with
  |works=>refine .tup fun u hu=>?_;simp only[QB,not_mem_nil,or_false]at hu;rcases hu with rfl;exact .str _
  |waits a t=>
   refine .tup fun u hu=>?_;simp only[QB,not_mem_nil,or_false]at hu;rcases hu with rfl | rfl | rfl
   ·exact .str _
   ·exact .int _
   ·exact .int _
  |stands a t=>
   refine .tup fun u hu=>?_;simp only[QB,not_mem_nil,or_false]at hu;rcases hu with rfl | rfl | rfl
   ·exact .str _
   ·exact .int _
   ·exact .int _
  |ended w=>
   refine .tup fun u hu=>?_;simp only[QB,not_mem_nil,or_false]at hu;rcases hu with rfl | rfl
   ·exact .str _
   ·exact .str _
theorem zkq(n:Net)(R:Run):FT.T.lt 0 (zei n R):=by
 refine .tup fun t ht=>?_;simp only[QB,not_mem_nil,or_false]at ht;rcases ht with rfl | rfl
 ·refine .lst fun u hu=>?_;obtain⟨e,_,rfl⟩:=mem_map.mp hu;exact zse e
 ·refine .lst fun u hu=>?_;obtain⟨k,_,rfl⟩:=mem_map.mp hu;refine .tup fun v hv=>?_;simp only[QB,not_mem_nil,or_false]at hv;rcases hv with rfl | rfl<;>exact .int _
theorem zpY(wn:WN n)(ht:EvS t evs)(v:VEv n (Run.new n) evs)(hl:evs.length<=2000)(M:Mem):zix J I kN [yf n,t] M = .ok (zei n (yo n evs)) M:=by
 have key:Ok (zlj J I kN [yf n,t] M) fun u M'=>u=zei n (yo n evs)/\Kp M.length M M':=by refine OkX.toOk (qY rfl (OkX.ok ?_));unfold znX;simp_arith;refine Ok.bind (zlI wn ht v hl M) ?_;rintro u M1 ⟨rfl,k1,l1,h1⟩;have g:=za5 wn v evs.length (Q3 _);rw[take_length]at g;erw[zgA h1 wn g.ri (B:=10*evs.length) ⋯ g.sb];exact Ok.ret ⟨rfl,k1⟩
 obtain⟨u,M',e,rfl,k⟩:=key;unfold zix zbL;rw[e];dsimp only;rw[Qz ⟨zfr k,zkq _ _⟩]
end
noncomputable def zav(n:Net)(R:Run):List Evt:=.fresh::(List.range R.es.length).flatMap (zaW n R)
variable {st:List (Int × Int)}
section
def zjm(R:Run)(i:Nat):(zaW n R i).length<=10:=Qj (List.length_filter_le _ _) (zkG i)
theorem zgo(R:Run):∀k,((List.range k).flatMap (zaW n R)).length<=10*k
 |0=>by simp|k+1=>by
  rw[List.range_succ,List.flatMap_append,Qn];have h1:=zgo R k;have h2:=zjm (n:=n) R k;have h3:([k].flatMap (zaW n R))=zaW n R k:=by simp
  rw[h3];omega
theorem zsd(ev:Evt):FT.T.lt 0 (evT ev):=by
 cases ev with
 |fresh=>refine .tup fun u hu=>?_;rw[QG.mp hu];exact .str _
 |ends i w=>
  refine .tup fun u hu=>?_;simp only[QB,not_mem_nil,or_false]at hu;rcases hu with rfl | rfl | rfl
  ·exact .str _
  ·exact .int _
  ·exact .str _
 |lost i=>
  refine .tup fun u hu=>?_;simp only[QB,not_mem_nil,or_false]at hu;rcases hu with rfl | rfl
  ·exact .str _
  ·exact .int _
 |again i=>
  refine .tup fun u hu=>?_;simp only[QB,not_mem_nil,or_false]at hu;rcases hu with rfl | rfl
  ·exact .str _
  ·exact .int _
 |up i=>
  refine .tup fun u hu=>?_;simp only[QB,not_mem_nil,or_false]at hu;rcases hu with rfl | rfl
  ·exact .str _
  ·exact .int _
theorem zlX(wn:WN n)(ht:EvS t evs)(v:VEv n (Run.new n) evs)(hl:evs.length<=2000)(M:Mem):zbj J I kN [yf n,t] M = .ok (.lst ((zav n (yo n evs)).map evT)) M:=by
 have g:=za5 wn v evs.length (Q3 _);rw[take_length]at g;have key:Ok (zeG J I kN [yf n,t] M) fun u M'=>∃a,u = .ref a/\M.length<=a/\M'[a]? = some (.lst ((zav n (yo n evs)).map evT))/\Kp M.length M M':=by
  refine OkX.toOk (qY rfl (OkX.ok ?_));unfold zgU;simp_arith;refine Ok.bind (zlI wn ht v hl M) ?_;rintro u M1 ⟨rfl,k1,l1,h1⟩;have hM1:=k1.1;have ln:∀cs,yB (.ref l1.a) (M1++cs) = .ok (nT (yo n evs).es.length) (M1++cs):=fun cs=>by unfold yB zX qC;simp only[(h1.app cs).er];simp[h1.el]
  have rg:=fun (M:Mem)=>zaR (M:=M) (j:=((yo n evs).es.length:Int)) (by have:=g.sb.es;omega);erw[zj,(h1.app [.lst [.tup [.str "fresh"]]]).errands,ln,rg,Int.toNat_natCast];refine Ok.bind (Ok.for (r:=FT.T.int) (xs:=rgI (yo n evs).es.length) (fun k σ M'=>∃o,σ=[some (yf n),some t,some (.ref M.length),some (.ref M1.length),o]/\M'[M1.length]? = some (.lst ((Evt.fresh::(List.range k).flatMap (zaW n (yo n evs))).map evT))/\RunAt J I (yf n) M.length M.length l1 M' (yo n evs)/\Kp M.length M M') ⟨none,rfl,yS,h1.app _,k1.trans (Kp.app _ _ hM1)⟩ ?_) ?_
  ·rintro k x σ M2 hx ⟨o,rfl,c2,h2,k2⟩;obtain⟨hk,rfl⟩:=zfs hx;have he:(yo n evs).es[k]? = some (yo n evs).es[k]:=Q0 hk;unfold zf2;have ex:=zhK (ys:=(zaW n (yo n evs) k).map evT) c2 (by rw[Qh,Qh,Qp];have:=zgo (n:=n) (yo n evs) k;have:=zjm (n:=n) (yo n evs) k;have:=g.sb.es;omega)
   rw[←Qq,show(Evt.fresh::(List.range k).flatMap (zaW n (yo n evs)))++zaW n (yo n evs) k=Evt.fresh::(List.range (k+1)).flatMap (zaW n (yo n evs)) by rw[List.range_succ,List.flatMap_append];simp]at ex;erw[zbC,zfd c2,zgp h2 wn g.ri he,ex];refine Ok.ret ⟨_,rfl,_,rfl,get_set c2,?_,k2.trans (Kp.set _ _ hM1)⟩;refine⟨fun p hp=>?_,h2.nd,h2.lo,h2.el,h2.pl,h2.tl⟩;have:=h1.ho p hp;have hlt:=zK this;rw[Qc,QA ⋯];exact h2.ho p hp
  ·rintro fl M2 ⟨σ,rfl,o,rfl,c2,h2,k2⟩;rw[zc0]at c2;simp_arith;exact Ok.ret ⟨_,rfl,hM1,c2,k2⟩
 obtain⟨u,M',e,a,rfl,ha,c,k⟩:=key;unfold zbj zfj;rw[e];dsimp only;rw[c];dsimp only;rw[Qz];refine⟨zfr k,ha,fun x hx=>?_⟩;obtain⟨ev,_,rfl⟩:=mem_map.mp hx;exact zsd ev
theorem zko(h:ev ∈ zav n R):Can n R ev:=by
 rcases QB.mp h with rfl | h
 ·exact .inl rfl
 ·obtain⟨i,hi,hm⟩:=mem_flatMap.mp h;have hi:=mem_range.mp hi;have he:R.es[i]? = some R.es[i]:=Q0 hi;have:=zfG he hm;exact .inr ⟨⟨_,by rw[this.2.1];exact he⟩,by rw[this.2.1];exact hm⟩
noncomputable section
def prd(st:List (Int × Int)):Int:=(st.map (·.2)).foldl (· * ·) 1
def pwT(p:Int × Int):FT.T:=.tup [.int p.1,.int p.2]
def yG(st:List (Int × Int)):FT.T:=.tup (st.map pwT)
def wtT(W:List (List (List (Int × Int)))):FT.T:=.tup (W.map fun row=>.tup (row.map yG))
end
def WS1(st:List (Int × Int)):Prop:=st.length<=6/\∀p ∈ st,(0<=p.1/\p.1<=1000001)/\1<=p.2/\p.2<=1000
theorem zlM{st:List (Int × Int)}(h:∀p ∈ st,1<=p.2/\p.2<=1000):∀k,k<=st.length->1<=prd (st.take k)/\prd (st.take k)<=1000 ^ k
 |0,_=>by simp[prd]|k+1,hk=>by
  have ih:=zlM h k ⋯;have hp:st[k]? = some st[k]:=Q0 ⋯;have hb:=h st[k] (getElem_mem _);have e:prd (st.take (k+1))=prd (st.take k)*st[k].2:=by unfold prd;rw[take_succ,hp,Qq,foldl_append];rfl
  rw[e];constructor
  ·have:=Int.mul_le_mul ih.1 hb.1 ⋯ ⋯;omega
  ·rw[Int.pow_succ];exact Int.mul_le_mul ih.2 hb.2 ⋯ (Int.pow_nonneg ⋯)
theorem zi2{k:Nat}{p:Int × Int}(h:st[k]? = some p):prd (st.take (k+1))=prd (st.take k)*p.2:=by unfold prd;rw[take_succ,h,Qq,foldl_append];rfl
theorem zgM(h:WS1 st){k:Nat}(hk:k<=st.length):1<=prd (st.take k)/\prd (st.take k)<=1000 ^ 6:=by
 have:=zlM (fun p hp=>(h.2 p hp).2) k hk;exact⟨this.1,Int.le_trans this.2 (by
  have:k<=6:=Qj hk h.1
  exact_mod_cast Nat.pow_le_pow_right (show 0<1000 by decide) this)⟩
end
variable {s:Str}
section
variable {b r:Nat}
def Wrg(t:FT.T):Prop:=∃(s:Str) (k:Int),t = .tup [.str s,.int k]\/∃w:Str,t = .tup [.str s,.int k,.str w]
theorem zjY(w:Wrg t)(M:Mem)(ev:Evt):∃q,eqD M 20 (evT ev) t=some q/\eqD [] 20 (evT ev) t=some q:=by obtain⟨s,k,rfl | ⟨w,rfl⟩⟩:=w<;>cases ev<;>exact⟨_,rfl,rfl⟩
def Nin(n:Net)(R:Run)(t:FT.T):Prop:=∀ev ∈ zav n R,eqD [] 20 (evT ev) t=some false
theorem zhu{t:FT.T}(w:Wrg t)(M:Mem):∀{ys:List Evt},(∀ev ∈ ys,eqD [] 20 (evT ev) t=some false)->∃bs,zbo M t (ys.map evT)=some bs/\bs.any id=false
 |[],_=>⟨[],rfl,rfl⟩|y::ys,h=>by obtain⟨bs,h1,h2⟩:=zhu w M (ys:=ys) fun ev he=>h ev (.tail _ he);obtain⟨q,q1,q2⟩:=zjY w M y;rw[h y (.head _)]at q2;cases q2;refine⟨false::bs,?_,by rw[any_cons,h2];rfl⟩;rw[QF];unfold zbo;rw[q1,h1]
theorem zkJ{t:FT.T}(w:Wrg t)(M:Mem):∀(ys:List Evt),∃bs,zbo M t (ys.map evT)=some bs/\(bs.any id=false->∀ev ∈ ys,eqD [] 20 (evT ev) t=some false)
 |[]=>⟨[],rfl,fun _ ev he=>by cases he⟩|y::ys=>by
  obtain⟨bs,h1,h2⟩:=zkJ w M ys;obtain⟨q,q1,q2⟩:=zjY w M y;refine⟨q::bs,?_,fun h ev he=>?_⟩
  ·rw[QF];unfold zbo;rw[q1,h1]
  ·rw[any_cons,Bool.or_eq_false_iff]at h;rcases QB.mp he with rfl | he
   ·rw[q2];exact congrArg some h.1
   ·exact h2 h.2 ev he
theorem zoS(h:ev ∈ zav n R):ev = .fresh\/(ev.isF=false/\ev.num<R.es.length):=by
 rcases QB.mp h with rfl | h
 ·exact .inl rfl
 ·obtain⟨i,hi,hm⟩:=mem_flatMap.mp h;have hi:=mem_range.mp hi;have he:R.es[i]? = some R.es[i]:=Q0 hi;have:=zfG he hm;exact .inr ⟨this.1,by rw[this.2.1];exact hi⟩
theorem zkj{k:Int}(ht:t = .tup [.str s,.int k]\/∃w:Str,t = .tup [.str s,.int k,.str w])(hk:k<0\/(R.es.length:Int)<=k):Nin n R t:=fun ev he=>by
 have key:∀i:Nat,i<R.es.length->((i:Int)==k)=false:=fun i hi=>by rw[beq_eq_false_iff_ne];omega
 have ke:∀i:Nat,i<R.es.length->eqS (nT i) (.int k)=false:=fun i hi=>key i hi;rcases zoS he with rfl | ⟨hf,hi⟩
 ·rcases ht with rfl | ⟨w,rfl⟩
  ·show some _=_;simp
  ·show some _=_;simp
 ·cases ev with
  |fresh=>cases hf|_=>
   have:=ke _ hi;rcases ht with rfl | ⟨w,rfl⟩
   ·show some _=some false;simp[Evt.num]at this;simp[this]
   ·show some _=some false;simp[Evt.num]at this;simp[this]
theorem zrA(h:RunAt J I (yf n) b r l M R)(wn:WN n)(ri:RI n R)(hB:R.es.length<1000000)(w:Wrg t)(hn:Nin n R t):qP J I [.ref r,t] M = .ok (.bl false) M:=by
 obtain⟨s,k,hs⟩:∃(s:Str) (k:Int),∃ts,t = .tup (.str s :: .int k::ts):=by
  obtain⟨s,k,rfl | ⟨w,rfl⟩⟩:=w
  ·exact⟨s,k,_,rfl⟩
  ·exact⟨s,k,_,rfl⟩
 obtain⟨ts,hs⟩:=hs;have e2:eqA t (.tup [.str "fresh"]) M = .ok (.bl false) M:=by
  obtain⟨s',k',rfl | ⟨w,rfl⟩⟩:=w
  ·show Out.ok (FT.T.bl _) M=_;simp
  ·show Out.ok (FT.T.bl _) M=_;simp
 have ii:∀(xs:List FT.T) M,zaw (.tup xs) (.ty "tuple") M = .ok (.bl true) M:=fun _ _=>rfl;have ln:yB (.ref l.a) M = .ok (nT R.es.length) M:=by unfold yB zX qC;simp only[h.er];simp[h.el]
 have wi:zaj J I [.int k,.int 0,.int ((R.es.length:Int)-1)] M = .ok (.bl (decide (0<=k) && decide (k<=(R.es.length:Int)-1))) M:=by
  have wh:zaG J I [.int k] M = .ok (.bl true) M:=by unfold zaG zeF;have h1:zaw (.int k) (.ty "int") M = .ok (.bl true) M:=rfl;have h2:zaw (.int k) (.ty "bool") M = .ok (.bl false) M:=rfl;erw[h1,h2]
  unfold zaj zdV
  by_cases d1:(0:Int)<=k
  ·erw[wh,Qw d1,Bool.true_and]
  ·erw[wh,Qx d1,Bool.false_and]
 have d3:decide (((FT.T.str s::FT.T.int k::ts).length:Int)<2)=false:=Qx (by simp;omega);simp only[Qp]at d3;unfold qP zcV
 by_cases hk:0<=k/\k<=(R.es.length:Int)-1
 ·obtain⟨i,rfl⟩:∃i:Nat,k=i:=⟨k.toNat,⋯⟩;have hi:i<R.es.length:=by omega
  have he:R.es[i]? = some R.es[i]:=Q0 hi;have ea:=zgp h wn ri he;obtain⟨bs,b1,b2⟩:=zhu w M (ys:=zaW n R i) fun ev hev=>hn ev (mem_cons_of_mem _ (mem_flatMap.mpr ⟨i,mem_range.mpr hi,hev⟩));have iN:inN t (.lst ((zaW n R i).map evT)) M = .ok (.bl false) M:=by unfold inN zX qC;simp only[b1,b2]
  rw[show(decide (0<=((i:Nat):Int)) && decide (((i:Nat):Int)<=(R.es.length:Int)-1))=true by rw[Qw hk.1,Qw hk.2];rfl]at wi;rw[hs]at e2 iN ⊢;erw[e2,ii,d3,zj,h.errands,ln,wi,ea,iN]
 ·rw[show(decide (0<=k) && decide (k<=(R.es.length:Int)-1))=false by rw[←Bool.decide_and];exact Qx hk]at wi
  rw[hs]at e2 ⊢;erw[e2,ii,d3,zj,h.errands,ln,wi]
end
variable {e:Er}{pairs:List (Int × Evt)}{W:List (List (List (Int × Int)))}
section
theorem zfl(xs:List FT.T)(n:Nat):zbv xs none (some (n:Int))=xs.take n:=by
 unfold zbv;rw[HT.zmU,HT.zhp,List.drop_zero,Nat.sub_zero]
 by_cases h:n<=xs.length
 ·rw[Nat.min_eq_left h]
 ·rw[Nat.min_eq_right ⋯,List.take_of_length_le (Q3 _),List.take_of_length_le ⋯]
theorem zlC(h:WS1 st){k:Nat}(hk:k<=st.length)(M:Mem):zbB J I [yG st,nT k] M = .ok (.int (prd (st.take k))) M:=by
 have key:Ok (zbB J I [yG st,nT k] M) fun t M'=>t = .int (prd (st.take k))/\M'=M:=by
  refine qz rfl ?_;unfold zfX yG;have k1:zbv (st.map pwT) none (some (k:Int))=(st.take k).map pwT:=by rw[zfl,map_take]
  erw[k1];refine Ok.bind (Ok.for (r:=pwT) (xs:=st.take k) (fun j σ M'=>∃o3 o4,σ=[some (.tup (st.map pwT)),some (nT k),some (.int (prd ((st.take k).take j))),o3,o4]/\M'=M) ⟨none,none,by simp[prd],rfl⟩ ?_) ?_
  ·rintro j p σ M1 hj ⟨o3,o4,rfl,rfl⟩;have hjl:=(Qy.mp hj).1;rw[Qr]at hjl;have hp:=h.2 p (List.mem_of_mem_take (Qa hj));have b:=zgM h (k:=j) ⋯;have tt:(st.take k).take j=st.take j:=by rw[List.take_take,Nat.min_eq_left ⋯]
   have mu:zi8 (.int (prd (st.take j))) (.int p.2) M1 = .ok (.int (prd (st.take j)*p.2)) M1:=Qz (.inr (.inr (show -(2 ^ 64)<p.2/\p.2<2 ^ 64 by omega)));unfold zfn;rw[show pwT p = .tup [.int p.1,.int p.2]from rfl];rw[tt];erw[zk1,mu];refine Ok.ret ⟨_,rfl,some (.int p.1),some (.int p.2),?_,rfl⟩;rw[zi2 hj,tt]
  ·rintro fl M1 ⟨σ,rfl,o3,o4,rfl,rfl⟩;rw[take_length];simp_arith;exact Ok.ret ⟨rfl,rfl⟩
 obtain⟨t,M',e,rfl,rfl⟩:=key;exact e
noncomputable def zdr(st:List (Int × Int))(i k:Nat):Int:=(st.getD k (0,1)).1+prd (st.take k)*((i:Int) / prd (st.take k) % (st.getD k (0,1)).2)
theorem zmL(h:WS1 st){k:Nat}(hk:k<st.length)(M:Mem):zbA J I [yG st,nT i,.int ((k:Int)+1)] M = .ok (.int (zdr st i k)) M:=by
 unfold zbA zfT;have b:=zgM h (k:=k) ⋯;have hp:st[k]? = some st[k]:=Q0 hk;have hb:=h.2 st[k] (getElem_mem _);have s1:=zlC (J:=J) (I:=I) h (k:=k) ⋯ M;have a1:atI (st.map pwT) (k:Int)=some (.tup [.int st[k].1,.int st[k].2]):=qp (f:=pwT) hp;unfold yG at s1 ⊢;have sb:(k:Int)+1-1=(k:Int):=by omega
 have dv:∀M,zcQ (nT i) (.int (prd (st.take k))) M = .ok (.int ((i:Int).fdiv (prd (st.take k)))) M:=fun M=>zed (ziD 100 ∅ ⋯ (by refine Nat.lt_of_le_of_lt (show(prd (st.take k)).natAbs<=10 ^ 18 from ?_) (Nat.pow_lt_pow_right ∅ ∅);simp only[Nat.reducePow];simp only[Int.reducePow]at b;omega))
 have md:∀x M,zbR (.int x) (.int st[k].2) M = .ok (.int (x.fmod st[k].2)) M:=fun x M=>zfx ⋯;have mu:∀x M,zbs (.int (prd (st.take k))) (.int x) M = .ok (.int (prd (st.take k)*x)) M:=fun x M=>ze7 (by simp only[Int.reducePow]at b ⊢;omega);erw[sb,s1,a1,dv,md,mu];unfold zdr;rw[Q7,hp,Int.fdiv_eq_ediv_of_nonneg _ ⋯,Q9 _ ⋯];rfl
structure WW (n:Net) (W:List (List (List (Int × Int)))):Prop where
 hl:W.length=n.hs.length
 al:∀(h:Nat) row,W[h]? = some row->row.length=(n.asks h).length
 ok:∀row ∈ W,∀st ∈ row,WS1 st
 ne:∀(h k:Nat) row st a,W[h]? = some row->row[k]? = some st->(n.asks h)[k]? = some a->a.tries ≠ 1->0<st.length
noncomputable section
def yL(W:List (List (List (Int × Int))))(e:Er):List (Int × Int):=(W.getD e.house []).getD e.ph.at1 []
def kOf(W:List (List (List (Int × Int))))(e:Er):Nat:=min e.ph.at2 (yL W e).length-1
def zaB(W:List (List (List (Int × Int))))(ts:List Int)(e:Er)(i:Nat):Int:=ts.getD (e.stood.getD 0) 0+zdr (yL W e) i (kOf W e)
def prT(p:Int × Evt):FT.T:=.tup [.int p.1,evT p.2]
end
variable {b r:Nat}
theorem ziu(ww:WW n W)(ri:RI n R)(he:R.es[i]? = some e)(hs:e.ph.isS=true):∃row,W[e.house]? = some row/\row[e.ph.at1]? = some (yL W e):=by have hh:=ri.hs _ _ he;have hl:=zdi hs (ri.ph _ _ he);have h1:W[e.house]? = some (W[e.house]'(by rw[ww.hl];exact hh)):=Q0 _;have h2:=ww.al _ _ h1;refine⟨_,h1,?_⟩;unfold yL;rw[Q7 (l:=W),h1];rw[Q7];show(W[e.house]'(by rw[ww.hl];exact hh))[e.ph.at1]? = some (((W[e.house]'(by rw[ww.hl];exact hh))[e.ph.at1]?).getD []);rw[Q0 ⋯];rfl
theorem zj8(h:RunAt J I (yf n) b r l M R)(ww:WW n W)(ri:RI n R)(he:R.es[i]? = some e)(hs:e.ph.isS=true)(ht:1<=e.ph.at2)(hne:0<(yL W e).length){k:Nat}(hk:e.stood=some k)(hkl:k<pairs.length)(zs:List FT.T):y6 J I [.ref r,wtT W,.lst (pairs.map prT++zs),nT i] M = .ok (.int (zaB W (pairs.map (·.1)) e i)) M:=by
 unfold y6 zff;obtain⟨x,hx,hc⟩:=h.at_e he;have f1:=qH (f:="house") hc rfl;have f3:=qH (f:="state") hc rfl;have f4:=qH (f:="stood") hc rfl;rw[phS hs]at f3;rw[hk,show onT (some k)=nT k from rfl]at f4;obtain⟨row,r1,r2⟩:=ziu ww ri he hs;have w1:atI (W.map fun row=>FT.T.tup (row.map yG)) (e.house:Int)=some (.tup (row.map yG)):=qp (f:=fun row=>FT.T.tup (row.map yG)) r1;have w2:atI (row.map yG) (e.ph.at1:Int)=some (yG (yL W e)):=qp (f:=yG) r2;have ws:=ww.ok _ (Qa r1) _ (Qa r2);have hp:pairs[k]? = some pairs[k]:=Q0 hkl;have p1:atI (pairs.map prT++zs) (k:Int)=some (.tup [.int pairs[k].1,evT pairs[k].2]):=by rw[FT.qX,Q6 (by rw[Qh];exact hkl),←FT.qX];exact qp (f:=prT) hp
 have mn:∀i j M,zhx (.int i) (.int j) M = .ok (.int (if j<i then j else i)) M:=fun _ _ _=>rfl;have ln:yB (yG (yL W e)) M = .ok (nT (yL W e).length) M:=by unfold yG;rw[znh,Qh]
 have kk:(if((yL W e).length:Int)<(e.ph.at2:Int)then((yL W e).length:Int)else(e.ph.at2:Int))=((kOf W e:Nat):Int)+1:=by
  unfold kOf
  by_cases z:(yL W e).length<e.ph.at2
  ·rw[Qz ⋯,Nat.min_eq_right ⋯];omega
  ·rw[QA ⋯,Nat.min_eq_left ⋯];omega
 have hkk:kOf W e<(yL W e).length:=by unfold kOf;have:=Nat.min_le_right e.ph.at2 (yL W e).length;omega
 have we:=zmL (J:=J) (I:=I) ws (i:=i) hkk M;unfold wtT;erw[zj,h.errands,h.er,qp (f:=FT.T.ref) hx,f1,w1,f3,w2,ln,mn,kk,f4,p1,we];unfold zaB;rw[hk,Q7,Option.getD_some,Qb,hp];rfl
end
section
theorem zds(wn:WN n){evs:List Evt}(v:VEv n (Run.new n) evs):∀k,k<=evs.length->(yo n (evs.take k)).came=k
 |0,_=>rfl|k+1,h=>by have hk:evs[k]? = some evs[k]:=Q0 ⋯;have g:=za5 wn v k ⋯;have ih:=zds wn v k ⋯;have c:=v.at_ hk;unfold yo at g ih ⊢;rw[zdB hk];have:=(zjq wn g.ri g.wt g.sb c.c).ca;show(doR n _ _).came+1=_;rw[this,ih]
structure TOk (n:Net) (W:List (List (List (Int × Int)))) (pairs:List (Int × Evt)):Prop where
 v:VEv n (Run.new n) (pairs.map (·.2))
 s:∀(k:Nat) (p:Int × Evt) (i:Nat),pairs[k]? = some p->p.2 = .again i->zaB W (pairs.map (·.1)) ((yo n ((pairs.take k).map (·.2))).er i) i<=p.1
theorem ziv(ww:WW n W)(ri:RI n R)(he:R.es[i]? = some e)(ht:yO n e=true):0<(yL W e).length:=by
 have ht':=ht;unfold yO at ht';rw[Qs,Bool.or_eq_true]at ht';obtain⟨hs,h2⟩:=ht';obtain⟨row,r1,r2⟩:=ziu ww ri he hs;have hl:=zdi hs (ri.ph _ _ he);have ha:(n.asks e.house)[e.ph.at1]? = some (n.asks e.house)[e.ph.at1]:=Q0 hl;refine ww.ne _ _ _ _ _ r1 r2 ha fun z=>?_;rw[zeg ha,z]at h2;have:=(zd6 hs (ri.ph _ _ he)).1;rcases h2 with h2 | h2
 ·simp at h2
 ·have:=of_decide_eq_true h2;omega
theorem OkX.forA{bd:FT.T->FT.Ev->Mem->Out FT.Ev}{body:FT.Ev->Mem->Out Fl}{α:Type}{r:α->FT.T}{ys:List FT.T}{Q:Fl->Mem->Prop}{E:Addr->List (Str × FT.T)->Mem->Prop}(P:Nat->FT.Ev->Mem->Prop):∀(xs:List α) (i:Nat) {σ:FT.Ev} {M:Mem},P i σ M->
  (∀(k:Nat) x σ M,xs[k]? = some x->P (i+k) σ M->Ok ((bd (r x) σ M).bind fun σ1 M1=>body σ1 M1) fun fl M'=>∃σ',fl = .nx σ'/\P (i+k+1) σ' M')->(∀σ M,P (i+xs.length) σ M->OkX (forL bd body ys σ M) Q E)->OkX (forL bd body (xs.map r++ys) σ M) Q E
 |[],i,σ,M,h,_,e=>e σ M h|x::xs,i,σ,M,h,t,e=>by
  obtain⟨fl,M1,e1,σ1,rfl,h1⟩:=t 0 x σ M rfl h;rw[QF,List.cons_append,zdA];cases q:bd (r x) σ M with
  |bad=>rw[q]at e1;cases e1|exn C fs M'=>rw[q]at e1;cases e1|ok σ3 M3=>rw[q]at e1;replace e1:body σ3 M3 = .ok (.nx σ1) M1:=e1;show OkX ((body σ3 M3).bind (zab (forL bd body (xs.map r++ys)))) _ _;rw[e1];exact OkX.forA P xs (i+1) h1 (fun k y σ M hk hp=>by have:=t (k+1) y σ M (by simpa using hk) (by rw[show i+(k+1)=i+1+k by omega];exact hp);rw[show i+(k+1)+1=i+1+k+1 by omega]at this;exact this) (fun σ M hp=>e σ M (by rw[Qp,show i+(xs.length+1)=i+1+xs.length by omega];exact hp))
theorem zeT(wn:WN n)(ww:WW n W)(tv:TOk n W pairs)(hl:pairs.length<=2000)(zs:List FT.T)(M:Mem){Q:Mem->Prop}{E:Addr->List (Str × FT.T)->Mem->Prop}
 (e:∀o4 o5 M' l,Kp M.length M M'->RunAt J I (yf n) M.length M.length l M' (yo n (pairs.map (·.2)))->OkX (forL (zbd 2 (zF (yj 4) (zF (yj 5) zbe))) (zbf J I kN) zs [some (yf n),some (wtT W),some (.lst (pairs.map prT++zs)),some (.ref M.length),o4,o5] M') (fun fl M2=>(∃o4 o5,fl = .nx [some (yf n),some (wtT W),some (.lst (pairs.map prT++zs)),some (.ref M.length),o4,o5])/\Q M2) E) :
  OkX (zH J I kN [yf n,wtT W,.lst (pairs.map prT++zs)] M) (fun u M2=>u = .ref M.length/\Q M2) E:=by
 refine qY rfl ?_;unfold zfV;obtain⟨M1,e1,h1,k1⟩:=zlV (J:=J) (I:=I) wn M (σ:=[some (yf n),some (wtT W),some (.lst (pairs.map prT++zs)),none,none,none]) rfl;erw[e1];refine OkX.bind (OkX.forA (r:=prT) (Q:=fun fl M2=>(∃o4 o5,fl = .nx [some (yf n),some (wtT W),some (.lst (pairs.map prT++zs)),some (.ref M.length),o4,o5])/\Q M2) (fun k σ M'=>∃o4 o5,σ=[some (yf n),some (wtT W),some (.lst (pairs.map prT++zs)),some (.ref M.length),o4,o5]/\Kp M.length M M'/\∃l,RunAt J I (yf n) M.length M.length l M' (yo n ((pairs.take k).map (·.2)))) pairs 0 ⟨none,none,rfl,k1,_,h1⟩ ?_ ?_) ?_
 ·rintro k p σ M2 hk ⟨o4,o5,rfl,k2,l2,h2⟩;rw[Nat.zero_add]at h2 ⊢;have hkl:=(Qy.mp hk).1;have hk':(pairs.map (·.2))[k]? = some p.2:=by rw[Qb,hk];rfl
  have g:=za5 wn tv.v k (by rw[Qh];omega);have ca:=zds wn tv.v k (by rw[Qh];omega);have hc:=tv.v.at_ hk';rw[←map_take]at g ca hc;have hc':Can n (yo n ((pairs.take k).map (·.2))) p.2:=hc;obtain⟨c1,c2⟩:=ze6 (kN:=kN) wn h2 g ⋯ hc';have st:yo n ((pairs.take (k+1)).map (·.2))=zcs n (yo n ((pairs.take k).map (·.2))) p.2:=by unfold yo;rw[map_take,map_take,zdB hk']
  have ξ:Ok ((zac J I [.ref M.length,evT p.2] M2).bind fun _ M'=>.ok (Fl.nx [some (yf n),some (wtT W),some (.lst (pairs.map prT++zs)),some (.ref M.length),some (.int p.1),some (evT p.2)]) M') fun fl M'=>∃σ',fl=Fl.nx σ'/\∃o4 o5,σ'=[some (yf n),some (wtT W),some (.lst (pairs.map prT++zs)),some (.ref M.length),o4,o5]/\Kp M.length M M'/\∃l,RunAt J I (yf n) M.length M.length l M' (yo n ((pairs.take (k+1)).map (·.2))):=by refine Ok.bind c2 ?_;rintro u M3 ⟨rfl,k3,l3,h3⟩;exact Ok.ret ⟨_,rfl,_,_,rfl,k2.trans k3,l3,by rw[st];exact h3⟩
  unfold zbf;rw[show prT p = .tup [.int p.1,evT p.2]from rfl];obtain⟨s,ts,hd,ha,_⟩:=zfF p.2;cases q:p.2.isA with
  |false=>rw[q]at ha;rw[hd]at c1 ξ ⊢;erw[c1,zg3,ha];exact ξ
  |true=>
   cases hp:p.2 with
   |again i=>rw[hp]at c1 ξ hc';obtain⟨e,he,hs,ht⟩:=hc'.c;obtain⟨a2,a3⟩:=zd6 hs (g.ri.ph _ _ he);obtain⟨sk,hsk⟩:=Option.isSome_iff_exists.mp a3;have hlt:=g.sd i e sk he hs hsk;rw[ca]at hlt;have se:=zj8 h2 ww g.ri (pairs:=pairs) he hs a2 (ziv ww g.ri he ht) hsk ⋯ zs;have hle:=tv.s k p i hk hp;rw[zaI he]at hle;rw[show evT (.again i) = .tup [.str "again",nT i]from rfl]at c1 ξ ⊢;have ea:∀M,eqA (.str "again") (.str "again") M = .ok (.bl true) M:=fun _=>rfl;erw[c1,ea,se,Qx (show ¬p.1<zaB W (pairs.map (·.1)) e i by omega)];exact ξ
   |_=>rw[hp]at q;cases q
 ·rintro σ M2 ⟨o4,o5,rfl,k2,l2,h2⟩;rw[Nat.zero_add,take_length]at h2;exact e o4 o5 M2 l2 k2 h2
 ·rintro fl M2 ⟨⟨o4,o5,rfl⟩,q⟩;simp_arith;exact⟨rfl,q⟩
theorem zmM(wn:WN n)(ww:WW n W)(tv:TOk n W pairs)(hl:pairs.length<=2000)(M:Mem):Ok (zH J I kN [yf n,wtT W,.lst (pairs.map prT)] M) fun u M'=>u = .ref M.length/\Kp M.length M M'/\∃l,RunAt J I (yf n) M.length M.length l M' (yo n (pairs.map (·.2))):=by have:=zeT (J:=J) (I:=I) (kN:=kN) wn ww tv hl [] M (Q:=fun M'=>Kp M.length M M'/\∃l,RunAt J I (yf n) M.length M.length l M' (yo n (pairs.map (·.2)))) (E:=fun _ _ _=>False) fun o4 o5 M' l k h=>⟨⟨o4,o5,rfl⟩,k,l,h⟩;rw[append_nil]at this;exact this.toOk
theorem zby(wn:WN n)(tv:TOk n W pairs):Good n (yo n (pairs.map (·.2))) (10*pairs.length):=by have g:=za5 wn tv.v (pairs.map (·.2)).length (Q3 _);rw[take_length,Qh]at g;exact g
theorem zmN(wn:WN n)(ww:WW n W)(tv:TOk n W pairs)(hl:pairs.length<=2000)(M:Mem):zft J I kN [yf n,wtT W,.lst (pairs.map prT)] M = .ok (zei n (yo n (pairs.map (·.2)))) M:=by
 have key:Ok (zc5 J I kN [yf n,wtT W,.lst (pairs.map prT)] M) fun u M'=>u=zei n (yo n (pairs.map (·.2)))/\Kp M.length M M':=by refine OkX.toOk (qY rfl (OkX.ok ?_));unfold zhI;simp_arith;refine Ok.bind (zmM wn ww tv hl M) ?_;rintro u M1 ⟨rfl,k1,l1,h1⟩;have g:=zby wn tv;erw[zgA h1 wn g.ri (B:=10*pairs.length) ⋯ g.sb];exact Ok.ret ⟨rfl,k1⟩
 obtain⟨u,M',e,rfl,k⟩:=key;unfold zft zbL;rw[e];dsimp only;rw[Qz ⟨zfr k,zkq _ _⟩]
def Rfs(kN:Addr)(k:Nat)(M:Mem)(C:Addr)(fs:List (Str × FT.T))(M':Mem):Prop:=C=kN/\fs=[(("at":Str),nT k)]/\Kp M.length M M'
theorem zg9(wn:WN n)(tv:TOk n W pairs):(yo n (pairs.map (·.2))).came=pairs.length:=by have:=zds wn tv.v (pairs.map (·.2)).length (Q3 _);rw[take_length,Qh]at this;exact this
theorem zpB(wn:WN n)(ww:WW n W)(tv:TOk n W pairs)(hl:pairs.length<=2000)(w:Wrg t)(hn:Nin n (yo n (pairs.map (·.2))) t)(tk:Int)(zs:List FT.T)(M:Mem):OkX (zH J I kN [yf n,wtT W,.lst (pairs.map prT ++ .tup [.int tk,t]::zs)] M) (fun _ _=>False) (Rfs kN pairs.length M):=by have g:=zby wn tv;refine(zeT (J:=J) (I:=I) (kN:=kN) wn ww tv hl (.tup [.int tk,t]::zs) M (Q:=fun _=>False) (E:=Rfs kN pairs.length M) fun o4 o5 M' l k h=>?_).mono (fun _ _ h=>h.2) (fun _ _ _ h=>h);have cc:=zrA h wn g.ri (by have:=g.sb.es;omega) w hn;have ck:=znI (kN:=kN) h (zg9 wn tv) cc;rw[zdA];unfold zbf;simp_arith;refine OkX.bind (P:=fun _ _=>False) (ck.mono (fun _ _ h=>h) ?_) (fun _ _ h=>h.elim);rintro C fs M2 ⟨rfl,rfl,rfl⟩;exact⟨rfl,rfl,k⟩
theorem zmP(wn:WN n)(ww:WW n W)(tv:TOk n W pairs)(hl:pairs.length<=2000)(hc:Can n (yo n (pairs.map (·.2))) (.again i)){tk:Int}(ht:tk<zaB W (pairs.map (·.1)) ((yo n (pairs.map (·.2))).er i) i)(zs:List FT.T)(M:Mem):OkX (zH J I kN [yf n,wtT W,.lst (pairs.map prT ++ .tup [.int tk,.tup [.str "again",nT i]]::zs)] M) (fun _ _=>False) (Rfs kN pairs.length M):=by have g:=zby wn tv;refine(zeT (J:=J) (I:=I) (kN:=kN) wn ww tv hl (.tup [.int tk,.tup [.str "again",nT i]]::zs) M (Q:=fun _=>False) (E:=Rfs kN pairs.length M) fun o4 o5 M' l k h=>?_).mono (fun _ _ h=>h.2) (fun _ _ _ h=>h);obtain⟨c1,_⟩:=ze6 (kN:=kN) wn h g ⋯ hc;obtain⟨e,he,hs,htr⟩:=hc.c;obtain⟨a2,a3⟩:=zd6 hs (g.ri.ph _ _ he);obtain⟨sk,hsk⟩:=Option.isSome_iff_exists.mp a3;have hlt:=g.sd i e sk he hs hsk;rw[zg9 wn tv]at hlt;have se:=zj8 h ww g.ri (pairs:=pairs) he hs a2 (ziv ww g.ri he htr) hsk hlt (.tup [.int tk,.tup [.str "again",nT i]]::zs);rw[zaI he]at ht;have cm:=h.came;rw[zg9 wn tv]at cm;have ea:∀M,eqA (.str "again") (.str "again") M = .ok (.bl true) M:=fun _=>rfl;rw[show evT (.again i) = .tup [.str "again",nT i]from rfl]at c1;rw[zdA];unfold zbf;erw[c1,ea,se,Qw ht,zd4,zb7,zj,cm];exact⟨rfl,rfl,k⟩
theorem zob{pt:FT.T}{k:Nat}(h:OkX (zH J I kN [yf n,wtT W,pt] M) (fun _ _=>False) (Rfs kN k M)):OkX (zc5 J I kN [yf n,wtT W,pt] M) (fun _ _=>False) (Rfs kN k M):=by refine qY rfl ?_;unfold zhI;simp_arith;exact OkX.bind h fun _ _ z=>z.elim
theorem zlD{pt:FT.T}{k:Nat}(h:OkX (zH J I kN [yf n,wtT W,pt] M) (fun _ _=>False) (Rfs kN k M)):OkX (zdC J I kN [yf n,wtT W,pt] M) (fun _ _=>False) (Rfs kN k M):=by refine qY rfl ?_;unfold zh3;simp_arith;exact OkX.bind h fun _ _ z=>z.elim
end
variable {d:Int}{xs:List Int}
section
theorem zfb(c:Int)(M:Mem):za7 J I [.int c] M = .ok (.ref M.length) (M++[(Po.new c).cell]):=by unfold za7 zjh;simp_arith;rw[show Po.new c=⟨if c-10 ^ 18 > 0 then c-10 ^ 18 else 0,c % 10 ^ 18,0⟩from rfl,Q9 _ ∅];rfl
theorem zl2(p:Po)(a:Nat)(base:Int)(M:Mem)(e:M[a]? = some p.cell)(h:0<base)(hb:base.natAbs<10 ^ 100):zr J I [.ref a,.int base] M = .ok (.int (p.dig base)) (M.set a (p.nxt base).cell):=by
 unfold zr zjg;have ha:a<M.length:=(Qy.mp e).1;have hd:∀i M,zcQ (.int i) (.int base) M = .ok (.int (i.fdiv base)) M:=fun i M=>zed (ziD 100 ∅ ⋯ hb);have hm:∀i M,zbR (.int i) (.int base) M = .ok (.int (i.fmod base)) M:=fun i M=>zfx ⋯
 by_cases hp:0<p.a
 ·erw[e,Po.cell,hd,hm,Qw hp];unfold Po.dig Po.nxt;rw[Qz hp,Qz hp,Q9 _ ⋯,Int.fdiv_eq_ediv_of_nonneg _ ⋯]
 ·have hs:∀c:Cell,(M.set a c)[a]? = some c:=fun c=>by rw[Qc,Qz rfl,Qz ha]
  have h1:∀j M,zbs (.int 7919) (.int j) M = .ok (.int (7919*j)) M:=fun j M=>ze7 ∅;have hx:∀x:Int,0<=x.fmod 1000000007/\x.fmod 1000000007<1000000007:=fun x=>by rw[Q9 _ ∅];omega
  have hy:∀x:Int,0<=x.fmod 998244353/\x.fmod 998244353<998244353:=fun x=>by rw[Q9 _ ∅];omega
  have h2:∀(x y:Int) M,zbs (.int (x.fmod 1000000007+11)) (.int y) M = .ok (.int ((x.fmod 1000000007+11)*y)) M:=fun x y M=>ze7 (by have:=hx x;omega);have h3:∀(x y:Int) M,zbs (.int (x.fmod 998244353)) (.int y) M = .ok (.int (x.fmod 998244353*y)) M:=fun x y M=>ze7 (by have:=hy x;omega);erw[e,Po.cell,hd,hm,Qx hp,hs,h1,h2,h3];unfold Po.dig Po.nxt;rw[QA hp,QA hp];simp only[Q9 _ (show(0:Int)<=1000000007 by decide),Q9 _ (show(0:Int)<=998244353 by decide),Q9 _ (show(0:Int)<=2147483647 by decide),Int.fdiv_eq_ediv_of_nonneg _ (show(0:Int)<=8 by decide),Q9 _ (show(0:Int)<=base by omega)]
def PO(a:Nat)(M:Mem):Prop:=∃p:Po,M[a]? = some p.cell
theorem PO.fr{a:Nat}(h:PO a M){S:List Nat}(f:Fr S M M')(hs:a ∉ S):PO a M':=by obtain⟨p,e⟩:=h;exact⟨p,f.get e hs⟩
theorem zD{a:Nat}{base:Int}(e:PO a M)(h:0<base)(hb:base.natAbs<10 ^ 100) :
  Ok (zr J I [.ref a,.int base] M) fun t M'=>∃d:Int,t = .int d/\0<=d/\d<base/\PO a M'/\Fr [a] M M':=by
 obtain⟨p,e⟩:=e;exact Ok.of (zl2 p a base M e h hb) ⟨_,rfl,p.dig_lo h,p.dig_hi h,⟨_,get_set e⟩,Fr.set _ _ _⟩
def PO.app{c:Int}:PO M.length (M++[(Po.new c).cell]):=⟨_,yS⟩
theorem zpw(ns:List Int)(n:Nat)(M:Mem):∃c,zdq J I [.lst (ns.map .int),.int (n:Int)] M = .ok (.int c) M:=by
 unfold zdq zjj
 by_cases h:n<ns.length
 ·refine⟨ns[n],?_⟩;have a:atI (ns.map FT.T.int) (n:Int)=some (.int ns[n]):=by rw[FT.qX];simp[h]
  have d:decide ((n:Int)<((ns.map FT.T.int).length:Int))=true:=Qw (by rw[Qh];omega);erw[d,a]
 ·have d:decide ((n:Int)<((ns.map FT.T.int).length:Int))=false:=Qx (by rw[Qh];omega);exact⟨0,by erw[d]⟩
theorem pick(h0:0<=d)(h1:d<xs.length):∃v ∈ xs,atI (xs.map FT.T.int) d=some (.int v):=by obtain⟨x,h1,h2⟩:=zjD (xs:=xs.map FT.T.int) h0 (by simpa using h1);obtain⟨v,hv,rfl⟩:=mem_map.mp h2;exact⟨v,hv,h1⟩
theorem zhs(lo hi:Int)(h0:0<=d)(h1:d<xs.length)(h:xs.all (fun v=>decide (lo<=v/\v<=hi))=true):∃v:Int,atI (xs.map FT.T.int) d=some (.int v)/\lo<=v/\v<=hi:=by obtain⟨v,hv,e⟩:=pick h0 h1;have:=all_eq_true.mp h v hv;exact⟨v,e,of_decide_eq_true this⟩
theorem zdH{b:Int}(h0:0<b)(h:b<=10 ^ 40):b.natAbs<10 ^ 100:=by refine Nat.lt_of_le_of_lt (show b.natAbs<=10 ^ 40 from ?_) (Nat.pow_lt_pow_right ∅ ∅);simp only[Int.reducePow]at h;simp only[Nat.reducePow];omega
theorem znS{xs:List Str}(h0:0<=d)(h1:d<xs.length):∃v ∈ xs,atI (xs.map FT.T.str) d=some (.str v):=by obtain⟨x,h1,h2⟩:=zjD (xs:=xs.map FT.T.str) h0 (by simpa using h1);obtain⟨v,hv,rfl⟩:=mem_map.mp h2;exact⟨v,hv,h1⟩
theorem zkv{ys:List Str}(nd:ys.Nodup){j:Nat}(h:ys[j]? = some s):∀k,zb9 s ys k=some (k+j):=by
 induction ys generalizing j with
 |nil=>simp at h|cons y ys ih=>
  intro k;have nd':=nodup_cons.mp nd;unfold zb9;cases j with
  |zero=>simp at h;rw[h];simp
  |succ j=>
   simp at h;have hne:¬(y==s)=true:=fun z=>by
    have:y=s:=by simpa using z
    exact nd'.1 (this ▸ Qa h)
   rw[QA hne,ih nd'.2 h (k+1)];congr 1;omega
end
end My
namespace FT
open PySem L2
variable {σ:Ev}{p q:X5}{Q:Fl->Mem->Prop}{M:Mem}
def Ok.seqX(h:∀X,X=zcr q->Ok ((p σ M).bind X) Q):Ok (yg p q σ M) Q:=h _ rfl
theorem Ok.seqR{Q:T->Mem->Prop}(h:∀X,X=(fun fl M=>(zcr q fl M).bind zcN)->Ok ((p σ M).bind X) Q):Ok ((yg p q σ M).bind zcN) Q:=by have:=h _ rfl;unfold yg;rw[znK];exact this
def Ok.seqP(P:Fl->Mem->Prop)(h:Ok (p σ M) P)(g:∀fl M',P fl M'->Ok (zcr q fl M') Q):Ok (yg p q σ M) Q:=Ok.bind h g
end FT
namespace My
open PySem L2 FT
variable {J I:Addr}{nms:List Str}{M M':Mem}{F P many:Nat}{A:Nat->List Ask}
section
structure NX (n:Net):Prop where
 tr:∀i a,a ∈ n.asks i->0<=a.tries/\a.tries<=3
 al:∀i,(n.asks i).length<=3
structure AO (nms pns:List Str) (many i:Nat) (a:Ask):Prop where
 to:∃j,i<j/\j<many/\nms[j]? = some a.to
 pu:∀s,a.purse=some s->s ∈ pns
 tr:0<=a.tries/\a.tries<=3
theorem zoR{ys:List Str}(nd:ys.Nodup){s:Str}(h:s ∈ ys):∃j,zb9 s ys 0=some j:=by obtain⟨j,hj⟩:=mem_iff_getElem?.mp h;exact⟨_,zkv nd hj 0⟩
noncomputable def zaC(nms:List Str)(many:Nat)(A:Nat->List Ask)(ps:List Pu):Net:=⟨(List.range many).map fun k=>⟨nms.getD k "",A k⟩,ps⟩
theorem zne(nms:List Str)(h:many<=nms.length)(A:Nat->List Ask)(ps:List Pu):(zaC nms many A ps).hs.map (·.name)=nms.take many:=by
 unfold zaC;rw[map_map];refine ext_getElem? fun i=>?_;rw[Qb,getElem?_take]
 by_cases z:i<many
 ·rw[getElem?_range z,Qz z];show some (nms.getD i "")=_;rw[Q7,Q0 ⋯];rfl
 ·rw[QA z,getElem?_eq_none (by simpa using z)];rfl
theorem zkm(nms:List Str)(many:Nat)(A:Nat->List Ask)(ps:List Pu)(i:Nat):(zaC nms many A ps).asks i=if i<many then A i else[]:=by
 unfold zaC Net.asks;dsimp only;rw[Qb]
 by_cases z:i<many
 ·rw[getElem?_range z,Qz z];rfl
 ·rw[QA z,getElem?_eq_none (by simpa using z)];rfl
theorem zsb{ps:List Pu}(nd:nms.Nodup)(h3:nms.length=3)(m2:2<=many/\many<=3)(pd:(ps.map (·.name)).Nodup)(pl:ps.length<=2)(pr:∀p ∈ ps,1<=p.per/\p.per<=3)(ao:∀i a,a ∈ A i->AO nms (ps.map (·.name)) many i a)(al:∀i,(A i).length<=3):WN (zaC nms many A ps)/\NX (zaC nms many A ps):=by
 have hl:(zaC nms many A ps).hs.length=many:=by simp[zaC]
 have nm:=zne nms (many:=many) ⋯ A ps;have inA:∀i a,a ∈ (zaC nms many A ps).asks i->a ∈ A i:=fun i a h=>by
  rw[zkm]at h;split at h
  ·exact h
  ·cases h
 refine⟨⟨⋯,⋯,Qj pl ∅,fun h hh=>?_,fun i a ha=>?_,fun p hp=>by have:=pr p hp;omega⟩,⟨fun i a ha=>(ao i a (inA i a ha)).tr,fun i=>?_⟩⟩
 ·obtain⟨k,_,rfl⟩:=mem_map.mp hh;exact Qj (al k) ∅
 ·have q:=ao i a (inA i a ha);obtain⟨j,j1,j2,j3⟩:=q.to;have e:zb9 a.to ((zaC nms many A ps).hs.map (·.name)) 0=some j:=by rw[nm];have:=zkv (ys:=nms.take many) (nd.sublist (List.take_sublist _ _)) (j:=j) (s:=a.to) (by rw[getElem?_take,Qz j2];exact j3) 0;rw[this,Nat.zero_add]
  have hx:(zaC nms many A ps).hix a.to=j:=by unfold Net.hix;rw[e];rfl
  refine⟨by rw[hx];exact e,by rw[hx];exact j1,fun s hs=>?_,q.tr.1⟩;obtain⟨k,hk⟩:=zoR pd (q.pu s hs);have hk2:zb9 s ((zaC nms many A ps).ps.map (·.name)) 0=some k:=hk;unfold Net.pix;rw[hk2];rfl
 ·rw[zkm];split
  ·exact al i
  ·simp
noncomputable def zkW(A:Nat->List Ask)(i:Nat)(a:Ask):Nat->List Ask:=fun k=>if k=i then A i++[a]else A k
theorem zk4{ps:List Pu}(hl:ps.length<=2)(h:M'[P]? = some (.lst (ps.map puT)))(o:Option FT.T):zJ [(P,ps.map puT)] (yj 0) qK (eOp ixT (O 0) (eC (.int 0))) (ps.map puT) [o] M' [] = .ok (ps.map fun p=>.str p.name) M':=by
 have:=zk9 (G:=[(P,ps.map puT)]) (bd:=yj 0) (el:=eOp ixT (O 0) (eC (.int 0))) (M:=M') (r:=puT) (zeE h) (fun σ=>∃o,σ=[o]) (fun p=>.str p.name) (xs:=ps) (σ:=[o]) (acc:=[]) ⟨_,rfl⟩ (by rw[length_nil];omega) (by rintro x σ hx ⟨o,rfl⟩;exact⟨[some (puT x)],rfl,⟨_,rfl⟩,by erw[puT]⟩)
 rw[nil_append]at this;exact this
structure AT (a P F many:Nat) (nms:List Str) (ps:List Pu) (A:Nat->List Ask) (M:Mem):Prop where
 ce:∀j,j<many->M[F+j]? = some (.lst ((A j).map zG))
 ao:∀i q,q ∈ A i->AO nms (ps.map (·.name)) many i q
 al:∀i,(A i).length<=3
 pu:M[P]? = some (.lst (ps.map puT))
 po:PO a M
theorem AT.fr{a:Nat}{ps:List Pu}(h:AT a P F many nms ps A M)(f:Fr [a] M M')(p:PO a M')(h1:a<P)(h2:a<F):AT a P F many nms ps A M':=⟨fun j hj=>f.get (h.ce j hj) (by simp;omega),h.ao,h.al,f.get h.pu (by simp;omega),p⟩
theorem zoa{a:Nat}{ps:List Pu}(h:AT a P F many nms ps A M)(h1:a<P)(h2:P<F)(n3:nms.length=3)(m2:2<=many/\many<=3)(pl:ps.length<=2)(o5 o7 o8 o9 o10 o11:Option FT.T) :
  Ok (zgv J I [some (.ref a),some (.int 3),some (.int (many:Int)),some (.lst (nms.map .str)),some (.ref P),o5,some (.lst ((List.range many).map fun j=>.ref (F+j))),o7,o8,o9,o10,o11] M) fun fl M'=>∃σ',fl=Fl.nx σ'/\∃(A:Nat->List Ask) (o7 o8 o9 o10 o11:Option FT.T),σ'=[some (.ref a),some (.int 3),some (.int (many:Int)),some (.lst (nms.map .str)),some (.ref P),o5,some (.lst ((List.range many).map fun j=>.ref (F+j))),o7,o8,o9,o10,o11]/\AT a P F many nms ps A M'/\∀S,Fr [a] S M->P<F->S.length<=P->Fr [a] S M':=by
 unfold zgv;nofun;simp_arith;refine Ok.bind (zD h.po ⋯ (zdH ⋯ ⋯)) ?_;rintro t M7 ⟨v,rfl,v1,v2,p7,f8⟩;obtain⟨at',hat⟩:∃at':Nat,v=(at':Int):=⟨v.toNat,⋯⟩;subst hat
 try simp_arith
 left;nofun;simp_arith;refine Ok.bind (zD p7 ⋯ (zdH ⋯ ⋯)) ?_;rintro t M8 ⟨y,rfl,y1,y2,p8,f9⟩;obtain⟨j,hj⟩:∃j:Nat,(at':Int)+1+y=(j:Int):=⟨((at':Int)+1+y).toNat,⋯⟩;have hjm:at'<j/\j<many:=by omega
 have hto:nms[j]? = some (nms[j]'⋯):=Q0 _;have b8:=(h.fr f8 p7 h1 ⋯).fr f9 p8 h1 ⋯;have ln8:yB (.ref P) M8 = .ok (nT ps.length) M8:=by unfold yB zX qC;simp only[b8.pu];simp
 have ad8:∀M,yD (.lst [.non]) (.lst (ps.map fun p=>FT.T.str p.name)) M = .ok (.lst (FT.T.non::ps.map fun p=>.str p.name)) M:=fun M=>Qz (Qj (show 1+(ps.map fun p=>FT.T.str p.name).length<=1000 by rw[Qh];omega) ∅);erw[hj,qp (f:=FT.T.str) hto];left;nofun;erw[zaX,zgl b8.pu,yP,zk4 pl b8.pu none,ad8,ln8];refine Ok.bind (zD p8 ⋯ (zdH ⋯ ⋯)) ?_;rintro t M9 ⟨z,rfl,z1,z2,p9,f10⟩;obtain⟨pu,hpu,hpm⟩:∃pu:Option Str,atI (FT.T.non::ps.map fun p=>.str p.name) z=some (opS pu)/\∀s,pu=some s->s ∈ ps.map (·.name):=by
  obtain⟨zz,rfl⟩:=Int.eq_ofNat_of_zero_le z1;rw[FT.qX];cases zz with
  |zero=>exact⟨none,rfl,fun s h=>by cases h⟩|succ zz=>rw[getElem?_cons_succ,Qb,Q0 (show zz<ps.length by omega)];exact⟨some (ps[zz]'⋯).name,rfl,fun s h=>by cases h;exact mem_map.mpr ⟨_,getElem_mem _,rfl⟩⟩
 erw[hpu];left;nofun;simp_arith;refine Ok.bind (zD p9 ∅ ∅) ?_;rintro t M10 ⟨tt,rfl,t1,t2,p10,f11⟩;obtain⟨tr,htr,tr1,tr2⟩:=zhs (xs:=[1,2,3,0]) 0 3 t1 t2 rfl;simp only[QF,map_nil]at htr;erw[htr];refine Ok.bind (zD p10 ∅ ∅) ?_;rintro t M11 ⟨wd,rfl,wd1,wd2,p11,f12'⟩;obtain⟨wo,_,hwo⟩:=znS (xs:=["bad","spent"]) wd1 (by simpa using wd2);simp only[QF,map_nil]at hwo;have fr11:Fr [a] M M11:=((((f8.trans f9).trans f10).trans f11).trans f12');have b11:=h.fr fr11 p11 h1 ⋯;have hf:atI ((List.range many).map fun j=>FT.T.ref (F+j)) (at':Int)=some (.ref (F+at')):=qp (f:=fun j=>FT.T.ref (F+j)) (getElem?_range ⋯);have ln11:yB (.ref (F+at')) M11 = .ok (nT (A at').length) M11:=by unfold yB zX qC;simp only[b11.ce at' ⋯];simp
 erw[hwo];left
 by_cases hl3:(A at').length<3
 ·erw[hf,ln11,Qw (show((A at').length:Int)<3 by omega),yT (b11.ce at' ⋯)];refine Ok.bind (zD p11 ∅ ∅) ?_;rintro t M12 ⟨w1,rfl,h11,h12,p12,f13⟩
  try simp_arith
  refine Ok.bind (zD p12 ∅ ∅) ?_;rintro t M13 ⟨w2,rfl,h21,h22,p13,f14⟩;have fr13:Fr [a] M M13:=(fr11.trans f13).trans f14;have b13:=h.fr fr13 p13 h1 ⋯;have cA13:=b13.ce at' ⋯;obtain⟨q0,hq0⟩:∃q0:Ask,q0=⟨nms[j]'⋯,tr,pu,wo,w1==0,w2==0⟩:=⟨_,rfl⟩;have ap:=zao (t:=zG q0) cA13 (zbU (by rw[Qh];omega));rw[show(A at').map zG++[zG q0]=(A at'++[q0]).map zG from by simp,show zG q0 = .tup [.str (nms[j]'⋯),.int tr,opS pu,.str wo,.bl (w1==0),.bl (w2==0)]from by rw[hq0];rfl]at ap;erw[ap];refine Ok.ret ⟨_,rfl,zkW A at' q0,_,_,_,_,_,rfl,⟨fun i hi=>?_,fun i q hq=>?_,fun i=>?_,?_,p13.fr (Fr.set _ _ _) (by simp;omega)⟩,fun S fs _ hS=>(fs.trans fr13).tr (Fr.set _ _ _) (by simp;omega)⟩
  ·unfold zkW;rw[Qc]
   by_cases z:i=at'
   ·rw[Qz ⋯,Qz (zK cA13),Qz z]
   ·rw[QA ⋯,QA z];exact b13.ce i hi
  ·unfold zkW at hq;split at hq
   ·rename_i z;rcases mem_append.mp hq with hq | hq
    ·rw[z];exact h.ao at' q hq
    ·rw[QG.mp hq,z,hq0];exact⟨⟨j,hjm.1,hjm.2,hto⟩,hpm,tr1,tr2⟩
   ·exact h.ao i q hq
  ·unfold zkW;split
   ·rw[Qn,Qv];omega
   ·exact h.al i
  ·rw[Qc,QA ⋯];exact b13.pu
 ·erw[hf,ln11,Qx (show ¬((A at').length:Int)<3 by omega)];exact Ok.ret ⟨_,rfl,A,_,_,_,_,_,rfl,b11,fun S fs _ _=>fs.trans fr11⟩
theorem zqz{a:Nat}(e:PO a M):Ok (zfD J I [.ref a,.int 3] M) fun t M'=>∃n,t=yf n/\WN n/\NX n/\PO a M'/\Fr [a] M M':=by
 refine qz rfl ?_;unfold zkx;have ha:a<M.length:=by obtain⟨p,e⟩:=e;exact zK e
 rw[show startT 12 [.ref a,.int 3]=[some (.ref a),some (.int 3),none,none,none,none,none,none,none,none,none,none]from rfl];right;simp_arith;refine Ok.bind (zD e ∅ ∅) ?_;rintro t M1 ⟨d,rfl,d1,d2,p1,f1⟩;obtain⟨many,hm⟩:∃many:Nat,2+d=(many:Int):=⟨(2+d).toNat,⋯⟩;have hm2:2<=many/\many<=3:=by omega
 erw[hm];left;right;simp_arith;refine Ok.bind (zD p1 ∅ ∅) ?_;rintro t M2 ⟨d',rfl,e1,e2,p2,f2⟩;obtain⟨nms,hnm,nd,n3⟩:∃nms:List Str,atI [FT.T.lst [.str "gate",.str "desk",.str "mill"],.lst [.str "a",.str "aa",.str "b"]] d'=some (.lst (nms.map .str))/\nms.Nodup/\nms.length=3:=by
  have:d'=0\/d'=1:=by omega
  rcases this with rfl | rfl
  ·exact⟨["gate","desk","mill"],rfl,by decide +kernel,rfl⟩
  ·exact⟨["a","aa","b"],rfl,by decide +kernel,rfl⟩
 erw[hnm];left;right;simp_arith;left;right;simp_arith;have f12:Fr [a] M (M2++[.lst []]):=(f1.trans f2).tr (Fr.app _ _) (by simp);have l2:M.length<=M2.length:=(f1.trans f2).1;refine Ok.bind (zD (p2.fr (Fr.app _ [.lst []]) (by simp)) ∅ ∅) ?_;rintro t M3 ⟨c,rfl,c1,c2,p3,f3⟩;erw[zaR (M:=M3) (show -(2 ^ 62)<=c/\c<2 ^ 62 by omega)];refine Ok.bind (Ok.for (r:=FT.T.int) (xs:=rgI c.toNat) (fun k σ M'=>∃(ps:List Pu) (o5:Option FT.T),σ=[some (.ref a),some (.int 3),some (.int (many:Int)),some (.lst (nms.map .str)),some (.ref M2.length),o5,none,none,none,none,none,none]/\M'[M2.length]? = some (.lst (ps.map puT))/\ps.length=k/\ps.map (·.name)=([("p":Str),"a"]).take k/\(∀p ∈ ps,1<=p.per/\p.per<=3)/\PO a M'/\Fr [a] M M') ⟨[],none,rfl,f3.get yS (by simp;omega),rfl,rfl,(fun p hp=>by cases hp),p3,f12.trans f3⟩ ?_) ?_
 ·rintro k x σ M4 hx ⟨ps,o5,rfl,g1,hl,hn,hp,p4,f4⟩;obtain⟨hk,rfl⟩:=zfs hx;have hk2:k<2:=by omega
  unfold zjB;obtain⟨nm,hnmk,hnt⟩:∃nm:Str,atI [FT.T.str "p",.str "a"] (k:Int)=some (.str nm)/\([("p":Str),"a"]).take (k+1)=([("p":Str),"a"]).take k++[nm]:=by
   have:k=0\/k=1:=by omega
   rcases this with rfl | rfl
   ·exact⟨"p",rfl,rfl⟩
   ·exact⟨"a",rfl,rfl⟩
  erw[yT g1,hnmk];refine Ok.bind (zD p4 ∅ ∅) ?_;rintro t M5 ⟨w,rfl,w1,w2,p5,f5⟩;obtain⟨ea,_,hea⟩:=znS (xs:=["first","any"]) w1 (by simpa using w2);simp only[QF,map_nil]at hea;erw[hea];refine Ok.bind (zD p5 ∅ ∅) ?_;rintro t M6 ⟨q,rfl,q1,q2,p6,f6⟩;have g6:M6[M2.length]? = some (.lst (ps.map puT)):=f6.get (f5.get g1 (by simp;omega)) (by simp;omega);have ap:=zao (t:=puT ⟨nm,ea,1+q⟩) g6 (zbU (by rw[Qh];omega));rw[show ps.map puT++[puT ⟨nm,ea,1+q⟩]=(ps++[(⟨nm,ea,1+q⟩:Pu)]).map puT from by simp,show puT ⟨nm,ea,1+q⟩ = .tup [.str nm,.str ea,.int (1+q)]from rfl]at ap;erw[ap];refine Ok.ret ⟨_,rfl,ps++[⟨nm,ea,1+q⟩],_,rfl,get_set g6,by simp;omega,by rw[hnt,Qq,hn];rfl,fun p hp'=>?_,p6.fr (Fr.set _ _ _) (by simp;omega),((f4.trans f5).trans f6).tr (Fr.set _ _ _) (by simp;omega)⟩;rcases mem_append.mp hp' with hp' | hp'
  ·exact hp p hp'
  ·rw[QG.mp hp'];show 1<=1+q/\1+q<=3;omega
 ·rintro fl M4 ⟨σ,rfl,ps,o5,rfl,g1,hl,hn,hp,p4,f4⟩;left;rw[zc0]at hl hn;have l4:M2.length<M4.length:=zK g1;have cn:=zgq ((rgI many).map FT.T.int) none M4 [] (by rw[length_nil,Qh,zc0];omega);rw[Qh,zc0,nil_append]at cn;right;erw[zaR (M:=M4) (j:=(many:Int)) ⋯,Int.toNat_natCast,cn];left;right;simp_arith;have f5:Fr [a] M (M4++List.replicate many (Cell.lst [])):=f4.tr (Fr.app _ _) (by simp);refine Ok.bind (zD (p4.fr (Fr.app _ (List.replicate many (Cell.lst []))) (by simp)) ∅ ∅) ?_;rintro t M5 ⟨u,rfl,u1,u2,p5,f6⟩;erw[zaR (M:=M5) (show -(2 ^ 62)<=1+u/\1+u<2 ^ 62 by omega)];have l45:M4.length+many<=M5.length:=by have:=f6.1;simp at this;exact this
  have init:∀k,k<many->M5[M4.length+k]? = some (.lst (([]:List Ask).map zG)):=fun k hk=>by refine f6.get ?_ (by simp;omega);rw[Q8 ⋯,show M4.length+k-M4.length=k by omega,List.getElem?_replicate,Qz hk];rfl
  have g5:M5[M2.length]? = some (.lst (ps.map puT)):=f6.get (by rw[Q6 l4];exact g1) (by simp;omega);have at0:AT a M2.length M4.length many nms ps (fun _=>[]) M5:=⟨init,(fun i q h=>by cases h),(fun i=>by simp),g5,p5⟩;refine Ok.bind (Ok.for (r:=FT.T.int) (xs:=rgI (1+u).toNat) (fun k σ M'=>∃(A:Nat->List Ask) (o7 o8 o9 o10 o11:Option FT.T),σ=[some (.ref a),some (.int 3),some (.int (many:Int)),some (.lst (nms.map .str)),some (.ref M2.length),o5,some (.lst ((List.range many).map fun j=>.ref (M4.length+j))),o7,o8,o9,o10,o11]/\AT a M2.length M4.length many nms ps A M'/\Fr [a] M M') ⟨fun _=>[],none,none,none,none,none,rfl,at0,f5.trans f6⟩ ?_) ?_
  ·rintro k x σ M6 hx ⟨A,o7,o8,o9,o10,o11,rfl,hAT,f7⟩;refine(zoa hAT ⋯ l4 n3 hm2 ⋯ o5 (some (.int x)) o8 o9 o10 o11).mono ?_;rintro fl M7 ⟨σ,rfl,A',o7,o8,o9,o10,o11,rfl,hAT',ff⟩;exact⟨_,rfl,A',_,_,_,_,_,rfl,hAT',ff M f7 l4 l2⟩
  ·rintro fl M6 ⟨σ,rfl,A,o7,o8,o9,o10,o11,rfl,hAT,f7⟩;obtain⟨cA,aoA,alA,g6,p6⟩:=hAT;left;have c3:yA (yj 0) qK (zE (zb (eOp ixT (O 1) (O 0)) (zb (ze (qB zar) (zb (eOp ixT (O 2) (O 0)) zd)) zd))) ((rgI many).map .int) [none,some (.lst (nms.map .str)),some (.lst ((List.range many).map fun j=>.ref (M4.length+j)))] M6 [] = .ok ((zaC nms many A ps).hs.map hsT) M6:=by rw[show(rgI many).map FT.T.int=(List.range many).map nT by unfold rgI;rw[map_map];rfl];unfold zaC;rw[map_map];exact Ok.mapc (r:=nT) (fun σ=>∃o,σ=[o,some (.lst (nms.map .str)),some (.lst ((List.range many).map fun j=>.ref (M4.length+j)))]) _ ⟨_,rfl⟩ (by rw[List.length_range];omega) (by rintro i σ hi ⟨o,rfl⟩;have hi:=mem_range.mp hi;refine⟨[some (nT i),some (.lst (nms.map .str)),some (.lst ((List.range many).map fun j=>.ref (M4.length+j)))],rfl,⟨_,rfl⟩,?_⟩;have h1:nms[i]? = some (nms[i]'⋯):=Q0 _;have h2:atI ((List.range many).map fun j=>FT.T.ref (M4.length+j)) (i:Int)=some (.ref (M4.length+i)):=qp (f:=fun j=>FT.T.ref (M4.length+j)) (getElem?_range hi);erw[qp (f:=FT.T.str) h1,h2,zb2 (cA i hi)];simp only[Function.comp,Q7,h1];rfl)
   have tl:∀(xs:List FT.T) M,zar (.lst xs) M = .ok (.tup xs) M:=fun _ _=>rfl;erw[zaR (M:=M6) (j:=(many:Int)) ⋯,Int.toNat_natCast,c3,tl,zb2 g6];have pn:(ps.map (·.name)).Nodup:=by rw[hn];exact(show([("p":Str),"a"]).Nodup by decide +kernel).sublist (List.take_sublist _ _)
   obtain⟨w1,w2⟩:=zsb nd n3 hm2 pn ⋯ hp aoA alA;exact Ok.ret ⟨zaC nms many A ps,rfl,w1,w2,p6,f7⟩
end
variable {n:Net}
section
theorem zpR(xs:List (Int × Int))(p:Int × Int):xs.map pwT++[pwT p]=(xs++[p]).map pwT:=by simp
theorem zkV{a c2 c5:Nat}{m:Int}(hm:m<=6)(e:PO a M)(hc2:c2<M.length)(ha2:a ≠ c2)(ha5:a ≠ c5)(hc5:c5<M.length)(h25:c2 ≠ c5){o3 o4 o6:Option FT.T}(oo9 oo10:Option FT.T) :
  Ok (forL (yj 9) (zcX J I) ((rgI m.toNat).map .int) [some (.ref a),some (yf n),some (.ref c2),o3,o4,some (.ref c5),o6,some (.int m),some (.ref M.length),oo9,oo10] (M++[.lst []])) fun fl M'=>∃σ,fl = .nx σ/\∃(st:List (Int × Int)) (o9 o10:Option FT.T),σ=[some (.ref a),some (yf n),some (.ref c2),o3,o4,some (.ref c5),o6,some (.int m),some (.ref M.length),o9,o10]/\M'[M.length]? = some (.lst (st.map pwT))/\st.length=m.toNat/\WS1 st/\PO a M'/\Fr [a] M M':=by
 have ha:a<M.length:=by obtain⟨p,e⟩:=e;exact zK e
 refine(Ok.for (r:=FT.T.int) (xs:=rgI m.toNat) (fun k σ M'=>∃(st:List (Int × Int)) (o9 o10:Option FT.T),σ=[some (.ref a),some (yf n),some (.ref c2),o3,o4,some (.ref c5),o6,some (.int m),some (.ref M.length),o9,o10]/\M'[M.length]? = some (.lst (st.map pwT))/\st.length=k/\(∀p ∈ st,(0<=p.1/\p.1<=1000001)/\1<=p.2/\p.2<=1000)/\PO a M'/\Fr [a] M M') ⟨[],oo9,oo10,rfl,yS,rfl,(fun p h=>by cases h),e.fr (Fr.app _ _) (by simp),(Fr.app _ _).mono⟩ ?_).mono ?_
 ·rintro k x σ M1 hx ⟨st,o9,o10,rfl,g1,hl,hb,p1,f1⟩;obtain⟨hk,rfl⟩:=zfs hx;unfold zcX;simp_arith;refine Ok.bind (zD p1 ∅ ∅) ?_;rintro t M2 ⟨d,rfl,d1,d2,p2,f2⟩;obtain⟨v,hv,v1,v2⟩:=zhs (xs:=[1,3,12,1000001]) 1 1000001 d1 d2 rfl;simp only[QF,map_nil]at hv;rw[show(1000001:Int)=1000000+1 from rfl]at hv;erw[hv];refine Ok.bind (zD p2 ⋯ (zdH ⋯ ⋯)) ?_;rintro t M3 ⟨w,rfl,w1,w2,p3,f3⟩;have g3:M3[M.length]? = some (.lst (st.map pwT)):=f3.get (f2.get g1 (by simp;omega)) (by simp;omega);erw[yT g3];refine Ok.bind (zD p3 ∅ ∅) ?_;rintro t M4 ⟨q,rfl,q1,q2,p4,f4⟩;obtain⟨u,hu,u1,u2⟩:=zhs (xs:=[1,2,4,1000]) 1 1000 q1 q2 rfl;simp only[QF,map_nil]at hu;erw[hu];refine Ok.bind (zD p4 ⋯ (zdH ⋯ ⋯)) ?_;rintro t M5 ⟨y,rfl,y1,y2,p5,f5⟩;have g5:M5[M.length]? = some (.lst (st.map pwT)):=f5.get (f4.get g3 (by simp;omega)) (by simp;omega);have ap:=zao (t:=pwT (w,1+y)) g5 (zbU (by rw[Qh];omega));rw[zpR,show pwT (w,1+y) = .tup [.int w,.int (1+y)]from rfl]at ap;erw[ap];refine Ok.ret ⟨_,rfl,st++[(w,1+y)],_,_,rfl,get_set g5,by simp;omega,fun p hp=>?_,p5.fr (Fr.set _ _ _) (by simp;omega),((((f1.trans f2).trans f3).trans f4).trans f5).tr (Fr.set _ _ _) (by simp)⟩;rcases mem_append.mp hp with hp | hp
  ·exact hb p hp
  ·rw[QG.mp hp];show(0<=w/\w<=1000001)/\1<=1+y/\1+y<=1000;omega
 ·rintro fl M1 ⟨σ,rfl,st,o9,o10,rfl,g1,hl,hb,p1,f1⟩;rw[zc0]at hl;exact⟨_,rfl,st,o9,o10,rfl,g1,hl,⟨⋯,hb⟩,p1,f1⟩
structure RW (as:List Ask) (row:List (List (Int × Int))):Prop where
 ln:row.length=as.length
 ok:∀st ∈ row,WS1 st
 ne:∀(k:Nat) st a,row[k]? = some st->as[k]? = some a->a.tries ≠ 1->0<st.length
theorem zmK{a:Nat}(wn:WN n)(nx:NX n)(e:PO a M):Ok (zdE J I [.ref a,yf n] M) fun t M'=>∃W,t=wtT W/\WW n W/\PO a M'/\Fr [a] M M':=by
 refine qz rfl ?_;unfold zh5;have ha:a<M.length:=by obtain⟨p,e⟩:=e;exact zK e
 have hn:∀i h,n.hs[i]? = some h->n.asks i=h.asks:=fun i h e=>by unfold Net.asks;rw[e];rfl
 rw[show yf n = .tup [.tup (n.hs.map hsT),.tup (n.ps.map puT)]from rfl];simp_arith;refine Ok.bind (Ok.for (r:=hsT) (xs:=n.hs) (fun k σ M'=>∃(W:List (List (List (Int × Int)))) (o3 o4 o5 o6 o7 o8 o9 o10:Option FT.T),σ=[some (.ref a),some (yf n),some (.ref M.length),o3,o4,o5,o6,o7,o8,o9,o10]/\M'[M.length]? = some (.lst (W.map fun row=>.tup (row.map yG)))/\W.length=k/\(∀(i:Nat) row h,W[i]? = some row->n.hs[i]? = some h->RW h.asks row)/\PO a M'/\Fr [a] M M') ⟨[],none,none,none,none,none,none,none,none,rfl,yS,rfl,(fun i row h z=>by simp at z),e.fr (Fr.app _ _) (by simp),(Fr.app _ _).mono⟩ ?_) ?_
 ·rintro k h σ M1 hk ⟨W,o3,o4,o5,o6,o7,o8,o9,o10,rfl,g1,hl,hW,p1,f1⟩;have hkl:=(Qy.mp hk).1;have hal:=wn.al h (Qa hk);have l1:M.length<M1.length:=zK g1;unfold zhb;rw[show hsT h = .tup [.str h.name,.tup (h.asks.map zG)]from rfl];simp_arith;refine Ok.bind (Ok.for (r:=zG) (xs:=h.asks) (fun j σ M'=>∃(row:List (List (Int × Int))) (o6 o7 o8 o9 o10:Option FT.T),σ=[some (.ref a),some (yf n),some (.ref M.length),some (.str h.name),some (.tup (h.asks.map zG)),some (.ref M1.length),o6,o7,o8,o9,o10]/\M'[M1.length]? = some (.lst (row.map yG))/\row.length=j/\(∀st ∈ row,WS1 st)/\(∀(k:Nat) st a,row[k]? = some st->h.asks[k]? = some a->a.tries ≠ 1->0<st.length)/\M'[M.length]? = some (.lst (W.map fun row=>.tup (row.map yG)))/\PO a M'/\Fr [a] M M') ⟨[],_,_,_,_,_,rfl,yS,rfl,(fun st z=>by cases z),(fun k st a z=>by simp at z),by rw[Q6 l1];exact g1,p1.fr (Fr.app _ _) (by simp),f1.tr (Fr.app _ _) (by simp)⟩ ?_) ?_
  ·rintro j q σ M2 hj ⟨row,o6,o7,o8,o9,o10,rfl,r1,rl,rok,rne,g2,p2,f2⟩;have hjl:=(Qy.mp hj).1;have htr:=nx.tr k q (by rw[hn k h hk];exact Qa hj);have ha2:a<M2.length:=by obtain⟨p,e⟩:=p2;exact zK e
   have l2:M1.length<M2.length:=zK r1;unfold zhc;rw[show zG q = .tup [.str q.to,.int q.tries,opS q.purse,.str q.word,.bl q.hears,.bl q.sure]from rfl];have ξ:∀(m:Int) (M3:Mem) (o9 o10:Option FT.T),m<=6->(q.tries ≠ 1->0<m.toNat)->PO a M3->M3[M1.length]? = some (.lst (row.map yG))->M3[M.length]? = some (.lst (W.map fun row=>.tup (row.map yG)))->Fr [a] M M3->
     Ok ((forL (yj 9) (zcX J I) ((rgI m.toNat).map .int) [some (.ref a),some (yf n),some (.ref M.length),some (.str h.name),some (.tup (h.asks.map zG)),some (.ref M1.length),some (.tup [.str q.to,.int q.tries,opS q.purse,.str q.word,.bl q.hears,.bl q.sure]),some (.int m),some (.ref M3.length),o9,o10] (M3++[.lst []])).bind (zcr (yE (zaJ z7 (eUn zL (O 5)) (zb (ze (qB zar) (zb (O 8) zd)) zd))))) fun fl M'=>∃σ',fl=Fl.nx σ'/\∃(row:List (List (Int × Int))) (o6 o7 o8 o9 o10:Option FT.T),σ'=[some (.ref a),some (yf n),some (.ref M.length),some (.str h.name),some (.tup (h.asks.map zG)),some (.ref M1.length),o6,o7,o8,o9,o10]/\M'[M1.length]? = some (.lst (row.map yG))/\row.length=j+1/\(∀st ∈ row,WS1 st)/\(∀(k:Nat) st a,row[k]? = some st->h.asks[k]? = some a->a.tries ≠ 1->0<st.length)/\M'[M.length]? = some (.lst (W.map fun row=>.tup (row.map yG)))/\PO a M'/\Fr [a] M M':=by
    intro m M3 o9 o10 hm6 hne p3 r3 g3 f3;have l3:M1.length<M3.length:=zK r3;refine Ok.bind (zkV hm6 p3 ⋯ ⋯ ⋯ ⋯ ⋯ o9 o10) ?_;rintro fl M4 ⟨σ,rfl,st,o9,o10,rfl,s4,sl,sw,p4,f4⟩;have r4:M4[M1.length]? = some (.lst (row.map yG)):=f4.get r3 (by simp;omega);have g4:M4[M.length]? = some (.lst (W.map fun row=>.tup (row.map yG))):=f4.get g3 (by simp;omega);have ap:=zao (t:=yG st) r4 (zbU (by rw[Qh];omega));rw[show row.map yG++[yG st]=(row++[st]).map yG from by simp,show yG st = .tup (st.map pwT)from rfl]at ap;erw[yT r4,zb2 s4,ap];refine Ok.ret ⟨_,rfl,row++[st],_,_,_,_,_,rfl,get_set r4,by simp;omega,fun z hz=>?_,fun i z b hz hb hb1=>?_,?_,p4.fr (Fr.set _ _ _) (by simp;omega),(f3.trans f4).tr (Fr.set _ _ _) (by simp;omega)⟩
    ·rcases mem_append.mp hz with hz | hz
     ·exact rok z hz
     ·rw[QG.mp hz];exact sw
    ·by_cases hi:i<row.length
     ·rw[Q6 hi]at hz;exact rne i z b hz hb hb1
     ·have hi2:i=row.length:=by have:=(Qy.mp hz).1;simp at this;omega
      subst hi2;rw[List.getElem?_concat_length]at hz;cases hz;rw[rl,hj]at hb;cases hb;rw[sl];exact hne hb1
    ·rw[Qc,QA ⋯];exact g4
   by_cases h0:q.tries=0
   ·erw[h0];refine Ok.bind (zD p2 ∅ ∅) ?_;rintro t M3 ⟨d,rfl,d1,d2,p3,f3⟩;erw[zaR (M:=M3++[.lst []]) (show -(2 ^ 62)<=1+d/\1+d<2 ^ 62 by omega)];have:=ξ (1+d) M3 o9 o10 ⋯ (fun _=>by omega) p3 (f3.get r1 (by simp;omega)) (f3.get g2 (by simp;omega)) (f2.trans f3);rw[h0]at this;exact this
   ·have h0':(q.tries==0)=false:=by simpa using h0
    erw[h0',zaR (M:=M2++[.lst []]) (show -(2 ^ 62)<=q.tries-1/\q.tries-1<2 ^ 62 by omega)];exact ξ (q.tries-1) M2 o9 o10 ⋯ (fun _=>by omega) p2 r1 g2 f2
  ·rintro fl M2 ⟨σ,rfl,row,o6,o7,o8,o9,o10,rfl,r1,rl,rok,rne,g2,p2,f2⟩;have l2:M1.length<M2.length:=zK r1;have ap:=zao (t:=.tup (row.map yG)) g2 (zbU (by rw[Qh];have:=wn.hl;omega));rw[show(W.map fun row=>FT.T.tup (row.map yG))++[.tup (row.map yG)]=(W++[row]).map fun row=>.tup (row.map yG)from by simp]at ap;erw[yT g2,zb2 r1,ap];refine Ok.ret ⟨_,rfl,W++[row],_,_,_,_,_,_,_,_,rfl,get_set g2,by simp;omega,fun i r' h' hr hh=>?_,p2.fr (Fr.set _ _ _) (by simp;omega),f2.tr (Fr.set _ _ _) (by simp)⟩
   by_cases hi:i<W.length
   ·rw[Q6 hi]at hr;exact hW i r' h' hr hh
   ·have hi2:i=W.length:=by have:=(Qy.mp hr).1;simp at this;omega
    subst hi2;rw[List.getElem?_concat_length]at hr;cases hr;rw[hl,hk]at hh;cases hh;exact⟨rl,rok,rne⟩
 ·rintro fl M1 ⟨σ,rfl,W,o3,o4,o5,o6,o7,o8,o9,o10,rfl,g1,hl,hW,p1,f1⟩;erw[zb2 g1];refine Ok.ret ⟨W,rfl,⟨hl,fun h row hr=>?_,fun row hr st hs=>?_,fun h k row st b hr hs hb hb1=>?_⟩,p1,f1⟩
  ·have hlt:=(Qy.mp hr).1;have hh:n.hs[h]? = some (n.hs[h]'⋯):=Q0 _;rw[hn h _ hh];exact(hW h row _ hr hh).ln
  ·obtain⟨i,hi⟩:=mem_iff_getElem?.mp hr;have hlt:=(Qy.mp hi).1;exact(hW i row _ hi (Q0 ⋯)).ok st hs
  ·have hlt:=(Qy.mp hr).1;have hh:n.hs[h]? = some (n.hs[h]'⋯):=Q0 _;rw[hn h _ hh]at hb;exact(hW h row _ hr hh).ne k st b hs hb hb1
end
variable {e:Er}{t:FT.T}{D:List (Key × FT.T)}{W:List (List (List (Int × Int)))}{i s:Nat}{R:Run}
section
def ziB(xs:List FT.T)(i:Int)(M:Mem):ixD (.lst xs) (.int i) M=ixT (.lst xs) (.int i) M:=rfl
def zeC(xs:List FT.T)(i:Int)(M:Mem):ixD (.tup xs) (.int i) M=ixT (.tup xs) (.int i) M:=rfl
theorem zsh{i:Int}(h:M[s]? = some (.dic D))(e:zI D (.inl i)=some t):ixD (.ref s) (.int i) M = .ok t M:=by unfold ixD zfJ;simp only[h,zjb,e];rfl
def zqE(xs:List FT.T)(M:Mem):zhz (.tup xs) M = .ok (nT xs.length) M:=rfl
def zl1(xs:List FT.T)(M:Mem):zhz (.lst xs) M = .ok (nT xs.length) M:=rfl
theorem zmo(ww:WW n W)(ri:RI n R)(he:R.es[i]? = some e)(ht:yO n e=true)(hs:M[s]? = some (.dic D)){tk:Int}(hd:zI D (.inl (i:Int))=some (.int tk)) :
  zcp J I [wtT W,.lst (R.es.map erT),.ref s,nT i] M = .ok (.int (tk+zdr (yL W e) i (kOf W e))) M:=by
 have hS:e.ph.isS=true:=by have:=ht;unfold yO at this;rw[Qs]at this;exact this.1
 have a2:=(zd6 hS (ri.ph _ _ he)).1;obtain⟨row,r1,r2⟩:=ziu ww ri he hS;have hne:=ziv ww ri he ht;have w1:atI (W.map fun row=>FT.T.tup (row.map yG)) (e.house:Int)=some (.tup (row.map yG)):=qp (f:=fun row=>FT.T.tup (row.map yG)) r1;have w2:atI (row.map yG) (e.ph.at1:Int)=some (.tup ((yL W e).map pwT)):=qp (f:=yG) r2;have ws:=ww.ok _ (Qa r1) _ (Qa r2);have hkk:kOf W e<(yL W e).length:=by unfold kOf;have:=Nat.min_le_right e.ph.at2 (yL W e).length;omega
 have hmin:min e.ph.at2 (yL W e).length=kOf W e+1:=by unfold kOf;have:1<=min e.ph.at2 (yL W e).length:=Nat.le_min.mpr ⟨a2,hne⟩;omega
 have er1:atI (R.es.map erT) (i:Int)=some (.tup [nT e.house,clT e.caller,.tup [.str "stands",nT e.ph.at1,nT e.ph.at2]]):=by have:=qp (f:=erT) he;unfold erT at this;rw[phS hS]at this;exact this
 have mn:∀M,zhx (nT e.ph.at2) (nT (yL W e).length) M = .ok (nT (kOf W e+1)) M:=fun M=>by
  show Out.ok (FT.T.int (if((yL W e).length:Int)<(e.ph.at2:Int)then((yL W e).length:Int)else(e.ph.at2:Int))) M=_;rw[←hmin];congr 2
  by_cases z:(yL W e).length<e.ph.at2
  ·rw[Qz ⋯,Nat.min_eq_right ⋯]
  ·rw[QA ⋯,Nat.min_eq_left ⋯]
 have cu:zbv ((yL W e).map pwT) none (some ((kOf W e+1:Nat):Int))=((yL W e).take (kOf W e+1)).map pwT:=by rw[zfl,map_take]
 have dd:=zsh hs hd;generalize yL W e=st at *;generalize kOf W e=kk at *;have key:Ok (zcp J I [wtT W,.lst (R.es.map erT),.ref s,nT i] M) fun t M'=>t = .int (tk+zdr st i kk)/\M'=M:=by
  refine qz rfl ?_;unfold zky;rw[show wtT W = .tup (W.map fun row=>FT.T.tup (row.map yG))from rfl];erw[ziB,er1,zeC,w1,w2,dd,zqE,Qh,mn,cu];refine Ok.bind (Ok.for (r:=pwT) (xs:=st.take (kk+1)) (fun j σ M'=>∃(o11 o12:Option FT.T),σ=[some (.tup (W.map fun row=>FT.T.tup (row.map yG))),some (.lst (R.es.map erT)),some (.ref s),some (nT i),some (nT e.house),some (clT e.caller),some (.tup [.str "stands",nT e.ph.at1,nT e.ph.at2]),some (.tup (st.map pwT)),some (.int ((i:Int) / prd (st.take j))),some (.int (prd (st.take j))),some (.int (if j=0 then tk else tk+zdr st i (j-1))),o11,o12]/\M'=M) ⟨none,none,by simp[prd],rfl⟩ ?_) ?_
  ·rintro j p σ M1 hj ⟨o11,o12,rfl,rfl⟩;have hjl:=(Qy.mp hj).1;rw[Qr]at hjl;have hp:st[j]? = some p:=by
    rw[getElem?_take]at hj;split at hj
    ·exact hj
    ·cases hj
   have hb:=ws.2 p (Qa hp);have b:=zgM ws (k:=j) ⋯;have md:∀x M,zbR (.int x) (.int p.2) M = .ok (.int (x.fmod p.2)) M:=fun x M=>zfx ⋯;have mu:∀x M,zbs (.int (prd (st.take j))) (.int x) M = .ok (.int (prd (st.take j)*x)) M:=fun x M=>ze7 (by simp only[Int.reducePow]at b ⊢;omega);have dv:∀x M,zcQ (.int x) (.int p.2) M = .ok (.int (x.fdiv p.2)) M:=fun x M=>zed (ziD 100 ∅ ⋯ (by refine Nat.lt_of_le_of_lt (show p.2.natAbs<=10 ^ 7 from by simp only[Nat.reducePow];omega) (Nat.pow_lt_pow_right ∅ ∅)))
   unfold zjC;rw[show pwT p = .tup [.int p.1,.int p.2]from rfl];erw[dd,md,mu,dv];refine Ok.ret ⟨_,rfl,some (.int p.1),some (.int p.2),?_,rfl⟩;rw[Nat.add_sub_cancel,Int.fdiv_eq_ediv_of_nonneg _ ⋯,Q9 _ ⋯,Int.ediv_ediv_of_nonneg ⋯,zi2 hp];unfold zdr;rw[Q7,hp,Int.add_assoc];rfl
  ·rintro fl M1 ⟨σ,rfl,o11,o12,rfl,rfl⟩;have ll:(st.take (kk+1)).length=kk+1:=by rw[Qr];omega
   rw[ll,QA ⋯,Nat.add_sub_cancel];simp_arith;exact Ok.ret ⟨rfl,rfl⟩
 obtain⟨t,M',e',rfl,rfl⟩:=key;exact e'
end
variable {v:FT.T}{j:Key}
section
theorem zjS{k:Key}(h:j ≠ k):((D.map fun kv=>if kv.1=k then(kv.1,v)else kv).find? fun kv=>decide (kv.1=j)).map (·.2)=(D.find? fun kv=>decide (kv.1=j)).map (·.2):=by
 induction D with
 |nil=>rfl|cons kv D ih=>
  rw[QF,find?_cons,find?_cons]
  by_cases e:kv.1=k
  ·rw[Qz e];have:¬kv.1=j:=fun z=>h (z.symm.trans e);simp only[this,decide_false];exact ih
  ·rw[QA e]
   by_cases z:kv.1=j
   ·simp only[z,decide_true]
   ·simp only[z,decide_false];exact ih
theorem znC{k:Key} :zI (D++[(k,v)]) j=match zI D j with | some x=>some x | none=>if j=k then some v else none:=by
 unfold zI;rw[List.find?_append];cases q:D.find? fun kv=>decide (kv.1=j)with
 |some x=>rfl|none=>
  by_cases z:j=k
  ·subst z;simp
  ·have:¬k=j:=fun x=>z x.symm;simp[z,this]
theorem zjT{k:Key}(h:(D.any fun kv=>decide (kv.1=k))=true):zI (D.map fun kv=>if kv.1=k then(kv.1,v)else kv) k=some v:=by
 unfold zI
 induction D with
 |nil=>cases h|cons kv D ih=>
  rw[QF,find?_cons]
  by_cases e:kv.1=k
  ·rw[Qz e];simp only[e,decide_true];rfl
  ·rw[QA e];simp only[e,decide_false];refine ih ?_;rw[any_cons]at h
   simpa[e]using h
theorem zgm(D:List (Key × FT.T))(k j:Key)(v:FT.T):zI (zcR D k v) j=if j=k then some v else zI D j:=by
 unfold zcR;split
 ·rename_i h
  by_cases z:j=k
  ·rw[Qz z,z];exact zjT h
  ·rw[QA z];exact zjS z
 ·rename_i h;rw[znC]
  by_cases z:j=k
  ·rw[Qz z,Qz z,z];have:zI D k=none:=by unfold zI;rw[show(D.find? fun kv=>decide (kv.1=k))=none from List.find?_eq_none.mpr fun x hx hz=>h (List.any_eq_true.mpr ⟨x,hx,hz⟩)];rfl
   rw[this]
  ·rw[QA z,QA z];cases zI D j<;>rfl
theorem zoo(D:List (Key × FT.T))(k:Key)(v:FT.T):(zcR D k v).length<=D.length+1:=by
 unfold zcR;split
 ·rw[Qh];omega
 ·simp
theorem zoj{i:Int}(h:M[s]? = some (.dic D))(hl:D.length<=100000):ziQ (.ref s) (.int i) t M = .ok () (M.set s (.dic (zcR D (.inl i) t))):=by show(match M[s]? with | some (.dic kvs)=>if kvs.length<sizeLine then Out.ok () (M.set s (.dic (zcR kvs (.inl i) t)))else .bad | _=>zej (.ref s) (.int i) t M)=_;rw[h];dsimp only;rw[Qz (by rw[sizeLine_eq];omega)]
theorem zoN(a t:Nat)(M:Mem):neA (.tup [.str "stands",nT a,nT t]) (.tup [.str "stands",nT a,nT t]) M = .ok (.bl false) M:=by have h:eqD M 20 (.tup [.str "stands",nT a,nT t]) (.tup [.str "stands",nT a,nT t])=some (true && (((a:Int)==a) && (((t:Int)==t) && true))):=rfl;unfold neA;rw[h,beq_self_eq_true,beq_self_eq_true];rfl
def zoO(a t a' t':Nat)(M:Mem):neA (.tup [.str "waits",nT a',nT t']) (.tup [.str "stands",nT a,nT t]) M = .ok (.bl true) M:=rfl
def zje(i j:Int)(M:Mem):geI (.int i) (.int j) M = .ok (.bl (decide (j<=i))) M:=rfl
theorem zoz(p:Ph):∃s ts,phT p = .tup (.str s::ts)/\(s==("stands":Str))=p.isS:=by cases p<;>exact⟨_,_,rfl,rfl⟩
theorem zpu{α:Type}(f:α->FT.T)(xs:List α):enT (xs.map f)=xs.zipIdx.map fun q=>FT.T.tup [nT q.2,f q.1]:=by unfold enT;rw[List.mapIdx_eq_zipIdx_map,List.zipIdx_map,map_map];rfl
theorem zpE{α:Type}{xs:List α}{k:Nat}{q:α × Nat}(h:xs.zipIdx[k]? = some q):q.2=k/\xs[k]? = some q.1:=by rw[List.getElem?_zipIdx]at h;cases z:xs[k]? with|none=>rw[z]at h;cases h|some x=>rw[z]at h;cases h;exact⟨Nat.zero_add k,rfl⟩
def Kpt(R:Run)(c:Nat)(D D':List (Key × FT.T))(tick:Int)(i:Nat)(e':Er):Prop:=
 ((∃e,R.es[i]? = some e/\e.ph=e'.ph/\e.stood=e'.stood)/\zI D' (.inl (i:Int))=zI D (.inl (i:Int)))\/(e'.stood=some c/\zI D' (.inl (i:Int))=some (.int tick))
theorem zo1{R':Run}{c:Nat}(qs:QS R R' c)(hl:R'.es.length<=1000)(hs:M[s]? = some (.dic D))(hD:D.length<=90000)(tick:Int) :
  Ok (zeH J I [.lst (R.es.map erT),.lst (R'.es.map erT),.ref s,.int tick] M) fun _ M'=>∃D',M'[s]? = some (.dic D')/\Fr [s] M M'/\D'.length<=D.length+R'.es.length/\∀(i:Nat) e',R'.es[i]? = some e'->e'.ph.isS=true->Kpt R c D D' tick i e':=by
 refine qz rfl ?_;unfold zji;erw[zgR,zpu];refine Ok.bind (Ok.for (r:=fun q:Er × Nat=>FT.T.tup [nT q.2,erT q.1]) (xs:=R'.es.zipIdx) (fun k σ M'=>∃(o4 o5:Option FT.T) (D':List (Key × FT.T)),σ=[some (.lst (R.es.map erT)),some (.lst (R'.es.map erT)),some (.ref s),some (.int tick),o4,o5]/\M'[s]? = some (.dic D')/\Fr [s] M M'/\D'.length<=D.length+k/\(∀(i:Nat) e',i<k->R'.es[i]? = some e'->e'.ph.isS=true->Kpt R c D D' tick i e')/\∀i:Nat,k<=i->zI D' (.inl (i:Int))=zI D (.inl (i:Int))) ⟨none,none,D,rfl,hs,Fr.refl _ _,⋯,fun i _ h=>absurd h ⋯,fun _ _=>rfl⟩ ?_) ?_
 ·rintro k ⟨e',k'⟩ σ M1 hk ⟨o4,o5,D',rfl,h1,f1,l1,p1,q1⟩;obtain⟨rfl,he'⟩:k'=k/\R'.es[k]? = some e':=zpE hk;have hkl:=(Qy.mp he').1;have stay:(e'.ph.isS=true->Kpt R c D D' tick k' e')->∀o4 o5:Option FT.T,∃(o4' o5':Option FT.T) (D'':List (Key × FT.T)),[some (FT.T.lst (R.es.map erT)),some (.lst (R'.es.map erT)),some (.ref s),some (.int tick),o4,o5]=[some (.lst (R.es.map erT)),some (.lst (R'.es.map erT)),some (.ref s),some (.int tick),o4',o5']/\M1[s]? = some (.dic D'')/\Fr [s] M M1/\D''.length<=D.length+(k'+1)/\(∀(i:Nat) e',i<k'+1->R'.es[i]? = some e'->e'.ph.isS=true->Kpt R c D D'' tick i e')/\∀i:Nat,k'+1<=i->zI D'' (.inl (i:Int))=zI D (.inl (i:Int)):=fun hh o4 o5=>⟨o4,o5,D',rfl,h1,f1,⋯,fun i q hi hq hs=>by
   by_cases z:i=k'
   ·subst z;rw[he']at hq;cases hq;exact hh hs
   ·exact p1 i q ⋯ hq hs,fun i hi=>q1 i ⋯⟩
  unfold zii;show Ok ((zbd 2 (zF (yj 4) (zF (yj 5) zbe)) (.tup [nT k',erT e']) _ M1).bind _) _;cases hS:e'.ph.isS with
  |false=>obtain⟨x,ts,ph,hx⟩:=zoz e'.ph;rw[hS]at hx;rw[show erT e' = .tup [nT e'.house,clT e'.caller,phT e'.ph]from rfl,ph];erw[zeC,zg3,hx];exact Ok.ret ⟨_,rfl,stay (fun z=>by rw[hS]at z;cases z) _ _⟩
  |true=>
   obtain⟨e,hR,hq⟩:∃e,R.es[k']? = some e/\((e.ph=e'.ph/\e.stood=e'.stood)\/(e'.stood=some c/\∃a t,e.ph = .waits a t)):=by
    rcases qs k' e' he' hS with⟨e,h1,h2⟩ | ⟨h1,e,a,t,h2,h3⟩
    ·exact⟨e,h1,.inl h2⟩
    ·exact⟨e,h2,.inr ⟨h1,a,t,h3⟩⟩
   have hRl:=(Qy.mp hR).1;have a1:atI (R.es.map erT) (k':Int)=some (.tup [nT e.house,clT e.caller,phT e.ph]):=qp (f:=erT) hR;have ge:decide (((R.es.map erT).length:Int)<=(k':Int))=false:=Qx (by rw[Qh];omega);have es:∀M,eqA (.str "stands") (.str "stands") M = .ok (.bl true) M:=fun _=>rfl;rw[show erT e' = .tup [nT e'.house,clT e'.caller,phT e'.ph]from rfl,phS hS];rcases hq with⟨hp,hst⟩ | ⟨hst,a,t,hp⟩
   ·rw[hp,phS hS]at a1;erw[zeC,ziB,es,zl1,zje,ge,a1,zoN];exact Ok.ret ⟨_,rfl,stay (fun _=>.inl ⟨⟨e,hR,hp,hst⟩,q1 k' (Q3 _)⟩) _ _⟩
   ·rw[hp,show phT (.waits a t) = .tup [.str "waits",nT a,nT t]from rfl]at a1;erw[zeC,ziB,es,zl1,zje,ge,a1,zoO,zoj h1 (show D'.length<=100000 by omega)];have lp:=zoo D' (.inl (k':Int)) (.int tick);refine Ok.ret ⟨_,rfl,_,_,_,rfl,get_set h1,f1.trans (Fr.set _ _ _),⋯,fun i q hi hq hs=>?_,fun i hi=>?_⟩
    ·by_cases z:i=k'
     ·subst z;rw[he']at hq;cases hq;refine .inr ⟨hst,?_⟩;rw[zgm,Qz rfl]
     ·have:=p1 i q ⋯ hq hs;unfold Kpt at this ⊢;rw[zgm,QA (fun x=>z (by have:=Sum.inl.inj x;omega))];exact this
    ·rw[zgm,QA (fun x=>by have:=Sum.inl.inj x;omega)];exact q1 i ⋯
 ·rintro fl M1 ⟨σ,rfl,o4,o5,D',rfl,h1,f1,l1,p1,q1⟩;rw[List.length_zipIdx]at l1 p1;simp_arith;exact Ok.ret ⟨D',h1,f1,l1,fun i e' he'=>p1 i e' (Qy.mp he').1 he'⟩
theorem znG{a:Nat}(e:PO a M){xs:List Evt}(h0:0<xs.length)(hl:xs.length<=100000):Ok (zdG J I [.ref a,.lst (xs.map evT)] M) fun t M'=>∃ev ∈ xs,t=evT ev/\PO a M'/\Fr [a] M M':=by
 refine qz rfl ?_;unfold zh7;have h1:xs[0]? = some xs[0]:=Q0 h0;have a0:atI (xs.map evT) (0:Int)=some (evT xs[0]):=qp (f:=evT) (i:=0) h1;have ln:∀M,yB (.lst (xs.map evT)) M = .ok (nT xs.length) M:=fun M=>by rw[show yB (.lst (xs.map evT)) M = .ok (nT (xs.map evT).length) M from rfl,Qh]
 by_cases h1:1<xs.length
 ·erw[ln,Qw (show(1:Int)<(xs.length:Int) by omega)];refine Ok.bind (zD e ∅ ∅) ?_;rintro t M1 ⟨d,rfl,d1,d2,p1,f1⟩
  by_cases hd:0<d
  ·erw[Qw hd,ln];refine Ok.bind (zD p1 (show(0:Int)<(xs.length:Int)-1 by omega) (zdH ⋯ ⋯)) ?_;rintro t M2 ⟨v,rfl,v1,v2,p2,f2⟩;obtain⟨y,y1,y2⟩:=zjD (xs:=xs.map evT) (show(0:Int)<=1+v by omega) (by rw[Qh];omega);obtain⟨ev,hev,rfl⟩:=mem_map.mp y2;erw[y1];exact Ok.ret ⟨ev,hev,rfl,p2,f1.trans f2⟩
  ·erw[Qx hd,a0];exact Ok.ret ⟨xs[0],getElem_mem _,rfl,p1,f1⟩
 ·erw[ln,Qx (show ¬(1:Int)<(xs.length:Int) by omega),a0];exact Ok.ret ⟨xs[0],getElem_mem _,rfl,e,Fr.refl _ _⟩
end
variable {ev:Evt}{ps:List (Int × Evt)}{d:Nat}
section
theorem VEv.snoc{n:Net}:∀{evs:List Evt} {R:Run} {ev:Evt},VEv n R evs->Can n (evs.foldl (zcs n) R) ev->VEv n R (evs++[ev])
 |[],_,_,_,c=>⟨c,True.intro⟩|_::_,_,_,v,c=>⟨v.1,VEv.snoc v.2 c⟩
theorem zmQ{ts us:List Int}{j:Nat}(h:e.stood=some j)(hj:j<ts.length):zaB W (ts++us) e i=zaB W ts e i:=by unfold zaB;rw[h,Option.getD_some,Q7,Q7,Q6 hj]
theorem zgw(wn:WN n){B:Nat}(g:Good n R B)(c:Can n R (.again i)):∃e j,R.es[i]? = some e/\e.ph.isS=true/\yO n e=true/\e.stood=some j/\j<R.came:=by obtain⟨e,he,hs,ht⟩:=c.c;obtain⟨a2,a3⟩:=zd6 hs (g.ri.ph _ _ he);obtain⟨sk,hsk⟩:=Option.isSome_iff_exists.mp a3;exact⟨e,sk,he,hs,ht,hsk,g.sd i e sk he hs hsk⟩
theorem TOk.snoc(wn:WN n){t:Int}(tv:TOk n W ps)(c:Can n (yo n (ps.map (·.2))) ev)(h:∀i,ev = .again i->zaB W (ps.map (·.1)) ((yo n (ps.map (·.2))).er i) i<=t):TOk n W (ps++[(t,ev)]):=by
 have key:∀(k:Nat),k<=ps.length->∀i,Can n (yo n ((ps.take k).map (·.2))) (.again i)->zaB W ((ps++[(t,ev)]).map (·.1)) ((yo n ((ps.take k).map (·.2))).er i) i=zaB W (ps.map (·.1)) ((yo n ((ps.take k).map (·.2))).er i) i:=fun k hk i hc=>by have g:=za5 wn tv.v k (by rw[Qh];exact hk);have ca:=zds wn tv.v k (by rw[Qh];exact hk);rw[←map_take]at g ca;obtain⟨e,j,he,_,_,hj,hl⟩:=zgw wn g hc;rw[zaI he,Qq];exact zmQ hj (by rw[Qh];omega)
 refine⟨?_,fun k p i hk hp=>?_⟩
 ·rw[Qq];exact tv.v.snoc c
 ·have hkl:=(Qy.mp hk).1;rw[Qn,Qv]at hkl
  by_cases z:k<ps.length
  ·rw[Q6 z]at hk;rw[List.take_append_of_le_length ⋯];have hk':(ps.map (·.2))[k]? = some p.2:=by rw[Qb,hk];rfl
   have hc:=tv.v.at_ hk';rw[hp,←map_take]at hc;rw[key k ⋯ i hc];exact tv.s k p i hk hp
  ·have zk:k=ps.length:=by omega
   subst zk;rw[Q8 (Q3 _),Nat.sub_self]at hk;cases hk;have kk:=key ps.length (Q3 _) i (by rw[take_length,←show ev = .again i from hp];exact c);rw[take_length]at kk;rw[List.take_left,kk];exact h i hp
structure TI (n:Net) (W:List (List (List (Int × Int)))) (a d:Nat) (M:Mem) (ps:List (Int × Evt)) (D:List (Key × FT.T)):Prop where
 pc:M[a]? = some (.lst (ps.map prT))
 dc:M[d]? = some (.dic D)
 tv:TOk n W ps
 dl:D.length<=1000*ps.length
 dk:∀(i:Nat) (e:Er) (j:Nat),(yo n (ps.map (·.2))).es[i]? = some e->e.ph.isS=true->e.stood=some j->zI D (.inl (i:Int))=some (.int ((ps.map (·.1)).getD j 0))
theorem zmR{a:Nat}(h:M[a]? = some (.lst (ps.map prT)))(hl:ps.length<=1000):zJ [(a,ps.map prT)] (zbd 2 (zF (yj 0) (zF (yj 1) zbe))) qK (O 1) (ps.map prT) [none,none] M [] = .ok ((ps.map (·.2)).map evT) M:=by
 have:=zk9 (G:=[(a,ps.map prT)]) (bd:=zbd 2 (zF (yj 0) (zF (yj 1) zbe))) (el:=O 1) (M:=M) (r:=prT) (zeE h) (fun σ=>∃o o',σ=[o,o']) (fun p=>evT p.2) (xs:=ps) (σ:=[none,none]) (acc:=[]) ⟨_,_,rfl⟩ (by rw[length_nil];omega) (by rintro p σ _ ⟨o,o',rfl⟩;exact⟨[some (.int p.1),some (evT p.2)],rfl,⟨_,_,rfl⟩,rfl⟩)
 rw[this,nil_append,map_map];rfl
theorem TI.next(wn:WN n){a:Nat}{D':List (Key × FT.T)}{t:Int}(ti:TI n W a d M ps D)(hl:ps.length<=60)(c:Can n (yo n (ps.map (·.2))) ev)(tv':TOk n W (ps++[(t,ev)]))(pc:M'[a]? = some (.lst ((ps++[(t,ev)]).map prT)))(dc:M'[d]? = some (.dic D'))(dl:D'.length<=D.length+(yo n ((ps++[(t,ev)]).map (·.2))).es.length)
 (kp:∀(i:Nat) e',(yo n ((ps++[(t,ev)]).map (·.2))).es[i]? = some e'->e'.ph.isS=true->Kpt (yo n (ps.map (·.2))) (yo n (ps.map (·.2))).came D D' t i e'):TI n W a d M' (ps++[(t,ev)]) D':=by
 have g:=zby wn ti.tv;have g':=zby wn tv';have ca:=zds wn ti.tv.v (ps.map (·.2)).length (Q3 _);rw[take_length,Qh]at ca;refine⟨pc,dc,tv',?_,fun i e' j he' hs hj=>?_⟩
 ·have:=g'.sb.es;have:=ti.dl;rw[Qn,Qv]at *;omega
 ·rcases kp i e' he' hs with⟨⟨e,h1,h2,h3⟩,h4⟩ | ⟨h1,h2⟩
  ·have hs':e.ph.isS=true:=by rw[h2];exact hs
   have hj':e.stood=some j:=h3.trans hj;have hlt:=g.sd i e j h1 hs' hj';rw[h4,ti.dk i e j h1 hs' hj',Qq,Q7,Q7,Q6 (by rw[Qh];omega)]
  ·rw[hj]at h1;cases h1;rw[h2,ca,Qq,Q7,Q8 (by rw[Qh];exact Q3 _),Qh,Nat.sub_self];rfl
theorem zol(wn:WN n){t:Int}(tv:TOk n W ps)(c:Can n (yo n (ps.map (·.2))) ev):QS (yo n (ps.map (·.2))) (yo n ((ps++[(t,ev)]).map (·.2))) (yo n (ps.map (·.2))).came:=by
 have g:=zby wn tv;have q:=(zjq wn g.ri g.wt g.sb c.c).qs;have e:yo n ((ps++[(t,ev)]).map (·.2))=zcs n (yo n (ps.map (·.2))) ev:=by unfold yo;rw[Qq,foldl_append];rfl
 rw[e];exact q
end
variable {kN:Addr}{σ:FT.Ev}{cs:List Int}
section
theorem zhM{a:Nat}{s1 s2:Str}(hσ:O i σ M = .ok (.ref a) M)(h:M[a]? = some (.lst (ps.map prT)))(hl:ps.length<=1000):yP (zaX (O i)) (zbd 2 (zF (yj 0) (zF (yj 1) zbe))) qK (O 1) [s1,s2] [] σ M = .ok ((ps.map (·.2)).map evT) M:=by unfold yP zaX;rw[hσ];show((match zdl (.ref a) M with | some g=>Out.ok g M | none=>.bad).bind _)=_;rw[zgl h];exact zmR h hl
theorem zoT(n:Net)(R:Run):0<(zav n R).length/\(zav n R).length<=1+10*R.es.length:=by have:=zgo (n:=n) R R.es.length;unfold zav;rw[Qp];omega
theorem zoe(wn:WN n)(ww:WW n W){a:Nat}{tick c:Int}{cs:FT.T}(ti:TI n W a d M ps D)(hl:ps.length<=60)(had:a ≠ d)(o8 o9 o10:Option FT.T) :
  Ok (zeO J I kN [some (yf n),some (wtT W),some cs,some (.ref a),some (.lst ((yo n (ps.map (·.2))).es.map erT)),some (.ref d),some (.int tick),some (.int c),o8,o9,o10] M) fun fl M'=>∃σ',fl=Fl.nx σ'/\∃(t:Int) (ev:Evt) (D':List (Key × FT.T)) (o8 o9 o10:Option FT.T),σ'=[some (yf n),some (wtT W),some cs,some (.ref a),some (.lst ((yo n ((ps++[(t,ev)]).map (·.2))).es.map erT)),some (.ref d),some (.int t),some (.int c),o8,o9,o10]/\TI n W a d M' (ps++[(t,ev)]) D'/\Fr [a,d] M M'/\tick<=t:=by
 have g:=zby wn ti.tv;have ha:=zK ti.pc;have hd:=zK ti.dc;unfold zeO;nofun;erw[zfb];left;have pc1:(M++[(Po.new c).cell])[a]? = some (.lst (ps.map prT)):=(Fr.app M [(Po.new c).cell]).get ti.pc (by simp);have f1:Fr [] M (M++[(Po.new c).cell]):=Fr.app _ _;have po1:PO M.length (M++[(Po.new c).cell]):=PO.app;generalize M++[(Po.new c).cell]=M1 at *;nofun;have my:=zlX (J:=J) (I:=I) (kN:=kN) wn (.inl rfl) ti.tv.v (by rw[Qh];omega) M1;simp_arith;rw[zhM ?hs pc1 ⋯]
 case hs=>rfl
 rw[zc7,my,zc7];have ml:=zoT n (yo n (ps.map (·.2)));have:=g.sb.es;refine Ok.bind (znG po1 ml.1 ⋯) ?_;rintro t M2 ⟨ev,hev,rfl,po2,f2⟩;have hc:=zko hev;left;nofun;simp_arith;refine Ok.bind (zD po2 ∅ ∅) ?_;rintro t M3 ⟨u,rfl,u1,u2,po3,f3⟩;refine Ok.bind (zD po3 ∅ ∅) ?_;rintro t M4 ⟨w,rfl,w1,w2,po4,f4⟩;obtain⟨v,hv,v0⟩:∃v:Int,atI [FT.T.int 0,.int 0,.int 1,.int 1,.int 2,.int u,.int 0,.int 10000000000000000000000000000000000000000] w=some (.int v)/\0<=v:=by obtain⟨v,hm,h⟩:=pick (xs:=[0,0,1,1,2,u,0,10000000000000000000000000000000000000000]) w1 (by show w<8;exact w2);exact⟨v,h,by simp only[QB,not_mem_nil,or_false]at hm;omega⟩
 erw[ziB,hv];left;have fM:Fr [] M M4:=f1.tr (f2.trans (f3.trans f4)) (by simp);have pc4:=fM.get ti.pc (by simp);have dc4:=fM.get ti.dc (by simp);refine Ok.seqP (fun fl M'=>M'=M4/\∃t:Int,fl=Fl.nx [some (yf n),some (wtT W),some cs,some (.ref a),some (.lst ((yo n (ps.map (·.2))).es.map erT)),some (.ref d),some (.int t),some (.int c),some (.ref M.length),some (evT ev),o10]/\tick<=t/\∀i,ev = .again i->zaB W (ps.map (·.1)) ((yo n (ps.map (·.2))).er i) i<=t) ?_ ?_
 ·obtain⟨s,ts,hd',ha',_⟩:=zfF ev;cases q:ev.isA with
  |false=>rw[q]at ha';rw[hd'];erw[zeC,zg3,ha'];exact Ok.ret ⟨rfl,_,rfl,⋯,fun i z=>by rw[z]at q;cases q⟩
  |true=>
   cases ev with
   |again i=>obtain⟨e,j,he,hs,ht,hj,hlt⟩:=zgw wn g hc;have de:=zmo (J:=J) (I:=I) ww g.ri he ht dc4 (ti.dk i e j he hs hj);have ea:∀M,eqA (.str "again") (.str "again") M = .ok (.bl true) M:=fun _=>rfl;rw[show evT (.again i) = .tup [.str "again",nT i]from rfl];erw[zeC,ea,de,zkp];refine Ok.ret ⟨rfl,_,rfl,by split<;>omega,fun i' z=>?_⟩;cases z;rw[zaI he];unfold zaB;rw[hj,Option.getD_some];split<;>omega
   |_=>cases q
 ·rintro fl M' ⟨rfl,t,rfl,tt,ht⟩;simp only[yp];have tv':=ti.tv.snoc wn hc ht;have g':=zby wn tv';have lps:(ps++[(t,ev)]).length=ps.length+1:=by rw[Qn,Qv]
  rw[lps]at g';have es':=g'.sb.es;have ap:=zao (t:=prT (t,ev)) pc4 (zbU (by rw[Qh];omega));rw[show ps.map prT++[prT (t,ev)]=(ps++[(t,ev)]).map prT from by rw[Qq];rfl,show prT (t,ev) = .tup [.int t,evT ev]from rfl]at ap;have pc5:(M'.set a (.lst ((ps++[(t,ev)]).map prT)))[a]? = some (Cell.lst ((ps++[(t,ev)]).map prT)):=get_set pc4;have dc5:=(Fr.set M' a (.lst ((ps++[(t,ev)]).map prT))).get dc4 (by simp;omega);have f5:Fr [a] M (M'.set a (.lst ((ps++[(t,ev)]).map prT))):=fM.mono.trans (Fr.set _ _ _);have qs:=zol (t:=t) wn ti.tv hc;have nx:=fun M'' D'=>ti.next (M':=M'') (D':=D') wn hl hc tv'
  have rn:=zpY (J:=J) (I:=I) (kN:=kN) wn (.inl rfl) tv'.v (by rw[Qh];omega) (M'.set a (.lst ((ps++[(t,ev)]).map prT)));nofun;erw[yT pc4,ap];left;generalize M'.set a (.lst ((ps++[(t,ev)]).map prT))=M5 at *;generalize hps:ps++[(t,ev)]=ps' at *;nofun;simp_arith;left;nofun;simp_arith;rw[zhM ?hs pc5 ⋯]
  case hs=>rfl
  rw[zc7,rn,zc7];unfold zei;erw[zeC];left;simp_arith;refine Ok.bind (zo1 qs ⋯ dc5 (by have:=ti.dl;omega) t) ?_;rintro u6 M6 ⟨D',dc6,f6,l6,kp⟩;refine Ok.ret ⟨_,rfl,t,ev,D',some (.ref M.length),some (evT ev),some (.lst ((yo n (ps.map (·.2))).es.map erT)),by rw[hps],?_,?_,tt⟩
  ·rw[hps];exact nx M6 D' (f6.get pc5 (by simp;omega)) dc6 l6 kp
  ·exact(f5.sub (S':=[a,d]) (by simp)).tr f6 (by simp)
theorem zlA(wn:WN n)(ww:WW n W)(hl:cs.length<=60)(M:Mem):Ok (zdF J I kN [yf n,wtT W,.lst (cs.map .int)] M) fun t M'=>∃(ps:List (Int × Evt)) (D:List (Key × FT.T)),t = .tup [.ref M.length,.lst ((yo n (ps.map (·.2))).es.map erT),.ref (M.length+1)]/\TI n W M.length (M.length+1) M' ps D/\ps.length=cs.length/\Fr [] M M'/\(∀p ∈ ps,p.1<=(ps.getLastD (0,.fresh)).1):=by
 refine qz rfl ?_;unfold zh6;rw[show startT 11 [yf n,wtT W,.lst (cs.map .int)]=[some (yf n),some (wtT W),some (.lst (cs.map .int)),none,none,none,none,none,none,none,none]from rfl];right;simp_arith;left;right;simp_arith;left;right;simp_arith;left;right;simp_arith;left;right;simp_arith;have ti0:TI n W M.length (M.length+1) (M++[.lst []]++[.dic []]) [] []:=⟨by rw[Q6 (by simp)];exact yS,by simp,⟨True.intro,fun k p i h=>by simp at h⟩,Nat.zero_le _,fun i e j h=>by simp[yo,Run.new]at h⟩;refine Ok.bind (Ok.for (r:=FT.T.int) (xs:=cs) (fun k σ M'=>∃(ps:List (Int × Evt)) (D:List (Key × FT.T)) (tick:Int) (o7 o8 o9 o10:Option FT.T),σ=[some (yf n),some (wtT W),some (.lst (cs.map .int)),some (.ref M.length),some (.lst ((yo n (ps.map (·.2))).es.map erT)),some (.ref (M.length+1)),some (.int tick),o7,o8,o9,o10]/\TI n W M.length (M.length+1) M' ps D/\ps.length=k/\Fr [] M M'/\(∀p ∈ ps,p.1<=tick)/\(ps.getLastD (0,.fresh)).1=tick) ⟨[],[],0,none,none,none,none,by rw[Qn];rfl,ti0,rfl,?_,by simp,rfl⟩ ?_) ?_
 ·exact(Fr.app _ _).trans (Fr.app _ _)
 ·rintro k c σ M1 hk ⟨ps,D,tick,o7,o8,o9,o10,rfl,ti,hp,f,hle,hla⟩;have hkl:=(Qy.mp hk).1;refine(zoe (c:=c) wn ww ti ⋯ ⋯ o8 o9 o10).mono ?_;rintro fl M2 ⟨σ,rfl,t,ev,D',o8,o9,o10,rfl,ti',f',tt⟩;refine⟨_,rfl,ps++[(t,ev)],D',t,_,_,_,_,rfl,ti',by simp;omega,f.tr f' (by simp),fun p hp=>?_,by simp⟩;rcases mem_append.mp hp with hp | hp
  ·have:=hle p hp;omega
  ·rw[QG.mp hp];exact Int.le_refl _
 ·rintro fl M1 ⟨σ,rfl,ps,D,tick,o7,o8,o9,o10,rfl,ti,hp,f,hle,hla⟩;left;simp_arith;exact Ok.ret ⟨ps,D,rfl,ti,hp,f,fun p hp=>by rw[hla];exact hle p hp⟩
end
theorem zli{G:Gd}{bd:FT.T->FT.Ev->Mem->Out FT.Ev}{cond:FT.Ev->Mem->Out Bool}{el:FT.Ev->Mem->Out FT.T}{M:Mem}{α:Type}{r:α->FT.T}(hG:zdn G M)(I:FT.Ev->Prop)(c:α->Bool)(f:α->FT.T):∀{xs:List α} {σ:FT.Ev} {acc:List FT.T},I σ->acc.length+xs.length<=100000->
  (∀x σ,x ∈ xs->I σ->∃σ1,bd (r x) σ M = .ok σ1 M/\I σ1/\cond σ1 M = .ok (c x) M/\el σ1 M = .ok (f x) M)->zJ G bd cond el (xs.map r) σ M acc = .ok (acc++(xs.filter c).map f) M
 |[],σ,acc,_,_,_=>by simp[zJ,zdo hG]|x::xs,σ,acc,h,hl,t=>by
  obtain⟨σ1,e1,h1,e2,e3⟩:=t x σ (.head _) h;rw[Qp]at hl;rw[QF];unfold zJ;rw[zdo hG,e1];show((cond σ1 M).bind _)=_;rw[e2,List.filter_cons];cases q:c x with
  |true=>have ih:=zli hG I c f (xs:=xs) (σ:=σ1) (acc:=acc++[f x]) h1 (by rw[Qn,Qp,length_nil];omega) (fun y σ hy=>t y σ (.tail _ hy));show((el σ1 M).bind _)=_;rw[e3];show(if acc.length<sizeLine then zJ G bd cond el (xs.map r) σ1 M (acc++[f x])else .bad)=_;rw[Qz (by rw[sizeLine_eq];omega),ih];simp
  |false=>have ih:=zli hG I c f (xs:=xs) (σ:=σ1) (acc:=acc) h1 ⋯ (fun y σ hy=>t y σ (.tail _ hy));show zJ G bd cond el (xs.map r) σ1 M acc=_;rw[ih];simp
variable {xs:List FT.T}
theorem zl8{f:FT.Ev->Mem->Out FT.T}{a:Nat}(e:f σ M = .ok (.ref a) M)(h:M[a]? = some (.lst xs)):zaX f σ M = .ok (xs,[(a,xs)]) M:=by
 unfold zaX;rw[e];show(match zdl (.ref a) M with | some g=>Out.ok g M | none=>.bad)=_;have:zdl (.ref a) M=some (xs,[(a,xs)]):=by unfold zdl;simp only[h]
 rw[this]
variable {kD kH kT:Addr}
section
noncomputable def rfT(k:Nat):FT.T:=.tup [nT k,.bl true,.bl true,.bl false]
theorem zsc(k:Nat):FT.T.lt 0 (rfT k):=.tup fun u hu=>by
 simp only[QB,not_mem_nil,or_false]at hu;rcases hu with rfl | rfl | rfl | rfl
 ·exact .int _
 ·exact .bl _
 ·exact .bl _
 ·exact .bl _
theorem zmv(nd:[kH,kT,kD,kN].Nodup){k:Nat}(hx:∀M,OkX (zH J I kN [yf n,wtT W,.lst xs] M) (fun _ _=>False) (Rfs kN k M))(way:Int)(M:Mem):zb8 J I kH kT kD kN [yf n,wtT W,.lst xs,.int way] M = .ok (rfT k) M:=by
 have nn:kN ≠ kH/\kN ≠ kT/\kN ≠ kD:=by simp only[nodup_cons,QB,not_mem_nil,or_false,not_or]at nd;exact⟨fun z=>nd.1.2.2 z.symm,fun z=>nd.2.1.2 z.symm,fun z=>nd.2.2.1 z.symm⟩
 have key:Ok (zeI J I kH kT kD kN [yf n,wtT W,.lst xs,.int way] M) fun t M'=>t=rfT k/\Kp M.length M M':=by
  refine qz rfl ?_;unfold zgW;rw[show startT 6 [yf n,wtT W,.lst xs,.int way]=[some (yf n),some (wtT W),some (.lst xs),some (.int way),none,none]from rfl];right;simp_arith;left;right;refine Ok.bind (P:=fun fl M'=>fl = .nx [some (yf n),some (wtT W),some (.lst xs),some (.int way),some (rfT k),none]/\Kp M.length M M') (Ok.tryN ?_) ?_
  ·have li:∀M,zfz [.lst xs] M = .ok xs M:=fun _=>rfl;have hnd:∀C fs M',Rfs kN k M C fs M'->[kN].contains C=true/\Ok ((((ym 4 (zE (zb (eUn (xat [kN]) (O 5)) (zb (eUn (isX (zcI [kH,kT,kD,kN])) (O 5)) (zb (eUn (isX (zcI [kH,kT,kD,kN])) (O 5)) (zb (eUn (isX (zbp (zat [kH,kT,kD,kN] kD) (zbp (zat [kH,kT,kD,kN] kH) (zat [kH,kT,kD,kN] kT)))) (O 5)) zd)))))) ([some (yf n),some (wtT W),some (.lst xs),some (.int way),some .non,none].set 5 (some (.exc C fs))) M')).bind (clr 5)) fun fl M'=>fl = .nx [some (yf n),some (wtT W),some (.lst xs),some (.int way),some (rfT k),none]/\Kp M.length M M':=by
    rintro C fs M' ⟨rfl,rfl,kp⟩;refine⟨by simp,?_⟩;have x1:xat [C] (.exc C [(("at":Str),nT k)]) M' = .ok (nT k) M':=by show(if[C].contains C=true then _ else _)=_;rw[Qz (by simp)];rfl
    have x2:isX (zcI [kH,kT,kD,C]) (.exc C [(("at":Str),nT k)]) M' = .ok (.bl true) M':=by unfold isX zcI;simp
    have x3:isX (zbp (zat [kH,kT,kD,C] kD) (zbp (zat [kH,kT,kD,C] kH) (zat [kH,kT,kD,C] kT))) (.exc C [(("at":Str),nT k)]) M' = .ok (.bl false) M':=by
     have e1:zat [kH,kT,kD,C] kD C=some false:=by unfold zat;simp[nn.2.2]
     have e2:zat [kH,kT,kD,C] kH C=some false:=by unfold zat;simp[nn.1]
     have e3:zat [kH,kT,kD,C] kT C=some false:=by unfold zat;simp[nn.2.1]
     unfold isX zbp;simp[e1,e2,e3]
    erw[x1,x2,x3];exact Ok.ret ⟨rfl,kp⟩
   refine OkX.mono (P:=fun _ _=>False) (D:=Rfs kN k M) ?_ (fun _ _ h=>h.elim) hnd
   by_cases hw:(way==0)=true
   ·erw[hw,li];exact OkX.bind (P:=fun _ _=>False) (zob (hx M)) (fun _ _ h=>h.elim)
   ·erw[Bool.not_eq_true _ ▸ hw,li];exact OkX.bind (P:=fun _ _=>False) (zlD (hx M)) (fun _ _ h=>h.elim)
  ·rintro fl M1 ⟨rfl,kp⟩;rw[hX];simp_arith;exact Ok.ret ⟨rfl,kp⟩
 obtain⟨u,M',e,rfl,k'⟩:=key;unfold zb8 zbL;rw[e];dsimp only;rw[Qz ⟨zfr k',zsc k⟩]
theorem zgJ(nd:[kH,kT,kD,kN].Nodup){k:Nat}(hx:∀M,OkX (zH J I kN [yf n,wtT W,.lst xs] M) (fun _ _=>False) (Rfs kN k M))(M:Mem):zbw J I kH kT kD kN [yf n,wtT W,.lst xs,nT k] M = .ok (.bl true) M:=by
 have key:Ok (zdW J I kH kT kD kN [yf n,wtT W,.lst xs,nT k] M) fun t M'=>t = .bl true/\M'=M:=by
  refine qz rfl ?_;unfold zfZ;have c:yA (yj 0) qK (ze (zb8 J I kH kT kD kN) (zb (O 1) (zb (O 2) (zb (O 3) (zb (O 0) zd))))) ((rgI 2).map .int) [none,some (yf n),some (wtT W),some (.lst xs)] M [] = .ok ((rgI 2).map fun _=>rfT k) M:=
   Ok.mapc (r:=FT.T.int) (fun σ=>∃o,σ=[o,some (yf n),some (wtT W),some (.lst xs)]) _ ⟨_,rfl⟩ (by rw[zc0];decide) (by rintro x σ _ ⟨o,rfl⟩;refine⟨[some (.int x),some (yf n),some (wtT W),some (.lst xs)],rfl,⟨_,rfl⟩,?_⟩;erw[zmv nd hx])
  have rp:∀M,rpL [.tup [nT k,.bl true,.bl true,.bl false]] (.int 2) M = .ok [rfT k,rfT k] M:=fun M=>by unfold rpL;simp only[];rw[Qz (by refine⟨by decide,Qj (show 1*2<=100 by decide) ∅⟩)];rfl
  have eq:eqA (.lst ((rgI 2).map fun _=>rfT k)) (.lst [rfT k,rfT k]) M = .ok (.bl true) M:=by show Out.ok (FT.T.bl _) M=_;simp[eqS]
  erw[zaR (show -(2 ^ 62)<=(2:Int)/\(2:Int)<2 ^ 62 by decide),c,zlc,rp,eq];exact Ok.ret ⟨rfl,rfl⟩
 obtain⟨u,M',e,rfl,rfl⟩:=key;unfold zbw zbL;rw[e];dsimp only;rw[Qz ⟨take_length,.bl _⟩]
noncomputable def wrs(k:Int):List FT.T:=[.tup [.str "lost",.int k],.tup [.str "again",.int k],.tup [.str "up",.int k],.tup [.str "ends",.int k,.str "well"],.tup [.str "ends",.int k,.str "none"]]
theorem ziI{k:Int}(h:t ∈ wrs k):∃s:Str,t = .tup [.str s,.int k]\/∃w:Str,t = .tup [.str s,.int k,.str w]:=by
 unfold wrs at h;simp only[QB,not_mem_nil,or_false]at h;rcases h with rfl | rfl | rfl | rfl | rfl
 ·exact⟨_,.inl rfl⟩
 ·exact⟨_,.inl rfl⟩
 ·exact⟨_,.inl rfl⟩
 ·exact⟨_,.inr ⟨_,rfl⟩⟩
 ·exact⟨_,.inr ⟨_,rfl⟩⟩
open Classical in
theorem zmF(hB:R.es.length<=10000){a:Nat}(po:PO a M):Ok (zdD J I [.ref a,.lst ((zav n R).map evT),nT R.es.length] M) fun t M'=>Wrg t/\Nin n R t/\PO a M'/\Fr [a] M M':=by
 refine qz rfl ?_;unfold zh4;have ha:a<M.length:=by obtain⟨p,e⟩:=po;exact zK e
 rw[show startT 5 [.ref a,.lst ((zav n R).map evT),nT R.es.length]=[some (.ref a),some (.lst ((zav n R).map evT)),some (nT R.es.length),none,none]from rfl];right;simp_arith;left;right;simp_arith;refine Ok.bind (zD (po.fr (Fr.app _ [.lst []]) (by simp)) ⋯ (zdH ⋯ ⋯)) ?_;rintro t M1 ⟨d,rfl,d1,d2,p1,f1⟩
 try simp_arith
 have f1':Fr [a] M M1:=(Fr.app M [.lst []]).mono.trans f1;have g1:M1[M.length]? = some (.lst []):=f1.get yS (by simp;omega);rw[show[FT.T.int d,.int 10000000000000000000000000000000000000000,.int (-1)]=[d,10000000000000000000000000000000000000000,-1].map .int from rfl];refine Ok.bind (Ok.for (r:=FT.T.int) (fun j σ M'=>∃o4,σ=[some (.ref a),some (.lst ((zav n R).map evT)),some (nT R.es.length),some (.ref M.length),o4]/\M'[M.length]? = some (.lst ((([d,10000000000000000000000000000000000000000,-1]:List Int).take j).flatMap wrs))/\PO a M'/\Fr [a] M M') ⟨none,rfl,g1,p1,f1'⟩ ?_) ?_
 ·rintro j k σ M2 hj ⟨o4,rfl,g2,p2,f2⟩;have hjl:=(Qy.mp hj).1;have ll:(((([d,10000000000000000000000000000000000000000,-1]:List Int).take j).flatMap wrs)).length<=1000:=by
   rw[List.length_flatMap];have:∀l:List Int,((l.map fun x=>(wrs x).length).sum)=5*l.length:=fun l=>by induction l with|nil=>rfl|cons x l ih=>rw[QF,List.sum_cons,ih,Qp];show 5+_=_;omega
   rw[this,Qr];have:([d,10000000000000000000000000000000000000000,-1]:List Int).length=3:=rfl;omega
  have ex:=zhK (ys:=wrs k) g2 (by show _+5<1000000;omega);rw[show wrs k=[.tup [.str "lost",.int k],.tup [.str "again",.int k],.tup [.str "up",.int k],.tup [.str "ends",.int k,.str "well"],.tup [.str "ends",.int k,.str "none"]]from rfl]at ex;unfold zhe;erw[zbC,zfd g2,ex];refine Ok.ret ⟨_,rfl,_,rfl,?_,p2.fr (Fr.set _ _ _) (by simp;omega),f2.tr (Fr.set _ _ _) (by simp)⟩;rw[get_set g2,List.take_add_one,hj,List.flatMap_append];simp[wrs]
 ·rintro fl M2 ⟨σ,rfl,o4,rfl,g2,p2,f2⟩;rw[take_length]at g2;left;obtain⟨xs,hxs⟩:∃xs,xs=([d,10000000000000000000000000000000000000000,-1]:List Int).flatMap wrs:=⟨_,rfl⟩;rw[←hxs]at g2;have xw:∀t ∈ xs,∃k,t ∈ wrs k:=fun t ht=>by rw[hxs]at ht;obtain⟨k,_,hk⟩:=mem_flatMap.mp ht;exact⟨k,hk⟩
  have xr:∀t ∈ xs,Wrg t:=fun t ht=>by obtain⟨k,hk⟩:=xw t ht;obtain⟨s,h⟩:=ziI hk;exact⟨s,k,h⟩
  have xl:xs.length=15:=by rw[hxs];rfl
  have cp:=zli (G:=[(M.length,xs)]) (bd:=yj 0) (cond:=yw (eOp zgk (O 0) (O 1))) (el:=O 0) (M:=M2) (r:=id) (zeE g2) (fun σ=>∃o,σ=[o,some (.lst ((zav n R).map evT))]) (fun t=>decide (Nin n R t)) id (xs:=xs) (σ:=[none,some (.lst ((zav n R).map evT))]) (acc:=[]) ⟨_,rfl⟩ (by rw[xl];decide) (by
   rintro t σ ht ⟨o,rfl⟩;refine⟨[some t,some (.lst ((zav n R).map evT))],rfl,⟨_,rfl⟩,?_,rfl⟩;obtain⟨bs,b1,b2⟩:=zkJ (xr t ht) M2 (zav n R);have nn:zgk t (.lst ((zav n R).map evT)) M2 = .ok (.bl (!bs.any id)) M2:=by unfold zgk zX qC;simp only[b1]
   have dd:(!bs.any id)=decide (Nin n R t):=by
    by_cases q:bs.any id=false
    ·rw[q];show true=_;exact(Qw (show Nin n R t from b2 q)).symm
    ·rw[Bool.not_eq_false]at q;rw[q];refine(Qx fun z=>?_).symm;obtain⟨bs',b3,b4⟩:=zhu (xr t ht) M2 z;rw[b1]at b3;cases b3;rw[q]at b4;cases b4
   erw[nn,dd])
  rw[map_id,map_id,nil_append]at cp;have it:=zl8 (f:=O 3) (σ:=[some (.ref a),some (.lst ((zav n R).map evT)),some (nT R.es.length),some (.ref M.length),o4]) (M:=M2) (a:=M.length) rfl g2;have ln:10<=(xs.filter fun t=>decide (Nin n R t)).length:=by
   rw[hxs,show([d,10000000000000000000000000000000000000000,-1]:List Int).flatMap wrs=wrs d++(wrs 10000000000000000000000000000000000000000++wrs (-1)) by simp,List.filter_append,Qn];have:((wrs 10000000000000000000000000000000000000000++wrs (-1)).filter fun t=>decide (Nin n R t))=wrs 10000000000000000000000000000000000000000++wrs (-1):=List.filter_eq_self.mpr fun t ht=>by
    refine Qw ?_;rcases mem_append.mp ht with ht | ht
    ·obtain⟨s,h⟩:=ziI ht;exact zkj h (.inr ⋯)
    ·obtain⟨s,h⟩:=ziI ht;exact zkj h (.inl ∅)
   rw[this];show 10<=_+10;omega
  simp only[zB,eOp,eFz,yP,zce];erw[it,cp];refine Ok.bind (zD p2 ∅ ∅) ?_;rintro t M3 ⟨j,rfl,j1,j2,p3,f3⟩;obtain⟨i,rfl⟩:∃i:Nat,j=i:=⟨j.toNat,⋯⟩;have hi:i<(xs.filter fun t=>decide (Nin n R t)).length:=by omega
  have at_:atI (xs.filter fun t=>decide (Nin n R t)) (i:Int)=some ((xs.filter fun t=>decide (Nin n R t))[i]):=by rw[FT.qX];exact Q0 hi
  erw[at_];have hm:=mem_filter.mp (getElem_mem hi);exact Ok.ret ⟨xr _ hm.1,of_decide_eq_true hm.2,p3,f2.trans f3⟩
end
section
theorem zrw{st:List (Int × Int)}(h:WS1 st){k:Nat}(hk:k<st.length):zdr st i k<=10 ^ 30:=by have hp:st[k]? = some st[k]:=Q0 hk;have b:=h.2 _ (getElem_mem hk);have pb:=zgM h (k:=k) ⋯;unfold zdr;rw[Q7,hp,Option.getD_some];have m1:=Int.emod_lt_of_pos ((i:Int) / prd (st.take k)) (show 0<st[k].2 by omega);have m0:=Int.emod_nonneg ((i:Int) / prd (st.take k)) (show st[k].2 ≠ 0 by omega);have:=Int.mul_le_mul (show prd (st.take k)<=10 ^ 20 by simp only[Int.reducePow]at *;omega) (show(i:Int) / prd (st.take k) % st[k].2<=1000 by omega) m0 ∅;simp only[Int.reducePow]at *;omega
theorem zfy{a:Nat}{ys:List FT.T}(h:M[a]? = some (.lst xs))(hl:xs.length+ys.length<=1000):yD (.ref a) (.lst ys) M = .ok (.lst (xs++ys)) M:=by show(match qC (.ref a) M,some ys with | some xs,some ys=>if xs.length+ys.length<=sizeLine then Out.ok (FT.T.lst (xs++ys)) M else .bad | _,_=>.bad)=_;rw[zhZ h];exact Qz (by rw[sizeLine_eq];omega)
theorem zng(nd:[kH,kT,kD,kN].Nodup)(wn:WN n)(ww:WW n W){a o:Nat}(ti:TI n W a d M ps D)(hl:ps.length<=60)(po:PO o M)(hoa:o ≠ a)(hod:o ≠ d)(hev:ev ∈ zav n (yo n (ps.map (·.2)))){la:Int}(hla:∀p ∈ ps,p.1<=la){zs:List FT.T}(hz:zs.length<=10)(s0 s1 s4 s11 s13 o15 o16:Option FT.T) :
  Ok (zhd J I kH kT kD kN [s0,s1,some (yf n),some (wtT W),s4,some (nT ps.length),some (.ref o),some (.ref a),some (.lst ((yo n (ps.map (·.2))).es.map erT)),some (.ref d),some (.int la),s11,some (.lst zs),s13,some (evT ev),o15,o16] M) fun fl M'=>∃o15 o16,fl = .nx [s0,s1,some (yf n),some (wtT W),s4,some (nT ps.length),some (.ref o),some (.ref a),some (.lst ((yo n (ps.map (·.2))).es.map erT)),some (.ref d),some (.int la),s11,some (.lst zs),s13,some (evT ev),o15,o16]/\PO o M'/\Fr [o] M M':=by
 have g:=zby wn ti.tv;have hc:=zko hev;unfold zhd;obtain⟨s,ts,hd',ha',_⟩:=zfF ev;cases q:ev.isA with
 |false=>rw[q]at ha';rw[hd'];erw[zg3,ha'];exact Ok.ret ⟨_,_,rfl,po,Fr.refl _ _⟩
 |true=>
  cases ev with
  |again i=>
   obtain⟨e,j,he,hs,ht,hj,hlt⟩:=zgw wn g hc;have de:=fun (M':Mem) (dc:M'[d]? = some (.dic D))=>zmo (J:=J) (I:=I) ww g.ri he ht dc (ti.dk i e j he hs hj);have ea:∀M,eqA (.str "again") (.str "again") M = .ok (.bl true) M:=fun _=>rfl;have cm:=zg9 wn ti.tv;obtain⟨row,r1,r2⟩:=ziu ww g.ri he hs;have ws:=ww.ok _ (Qa r1) _ (Qa r2);have hne:=ziv ww g.ri he ht;have hkk:kOf W e<(yL W e).length:=by unfold kOf;have:=Nat.min_le_right e.ph.at2 (yL W e).length;omega
   have bd:=zrw ws (i:=i) hkk;have hjl:j<ps.length:=by omega
   have tj:(ps.map (·.1)).getD j 0<=la:=by rw[Q7,Qb,Q0 hjl];exact hla _ (getElem_mem hjl)
   have sp:zaB W (ps.map (·.1)) ((yo n (ps.map (·.2))).er i) i=(ps.map (·.1)).getD j 0+zdr (yL W e) i (kOf W e):=by rw[zaI he];unfold zaB;rw[hj,Option.getD_some]
   obtain⟨due,hdue⟩:∃due,due=(ps.map (·.1)).getD j 0+zdr (yL W e) i (kOf W e):=⟨_,rfl⟩;have de1:=de M ti.dc;rw[←hdue]at de1 sp;have tv':TOk n W (ps++[(if la > due then la else due,.again i)]):=ti.tv.snoc wn hc (fun i' z=>by cases z;rw[sp];split<;>omega);have tm:=fun (M':Mem)=>zmN (J:=J) (I:=I) (kN:=kN) wn ww tv' (by simp;omega) M';have pl:(ps.map prT).length=ps.length:=Qh _;have ξ:∀M',M'[a]? = some (.lst (ps.map prT))->yD (.ref a) (.lst [.tup [.int (if la > due then la else due),.tup [.str "again",nT i]]]) M' = .ok (.lst ((ps++[(if la > due then la else due,Evt.again i)]).map prT)) M':=fun M' h=>by rw[zfy h (by rw[pl];simp;omega),Qq];rfl
   rw[show evT (.again i) = .tup [.str "again",nT i]from rfl]
   by_cases hd:la<due
   ·erw[ea,de1,Qw hd];refine Ok.bind (zD po (show 0<due-la by omega) (zdH ⋯ (Int.le_trans (show due-la<=10 ^ 30 by omega) ∅))) ?_;rintro t M1 ⟨x,rfl,x1,x2,p1,f1⟩;have pc1:=f1.get ti.pc (by simp;omega);have sr:=fun M=>zmP (J:=J) (I:=I) (kN:=kN) wn ww ti.tv ⋯ hc (tk:=due-1-x) (by rw[sp];omega) zs M;have rf:=zgJ (J:=J) (I:=I) nd sr M1;have ad1:=zfy (ys:=[.tup [.int (due-1-x),.tup [.str "again",nT i]]]) pc1 (by rw[pl];simp;omega);have ad2:yD (.lst (ps.map prT++[.tup [.int (due-1-x),.tup [.str "again",nT i]]])) (.lst zs) M1 = .ok (.lst (ps.map prT ++ .tup [.int (due-1-x),.tup [.str "again",nT i]]::zs)) M1:=by rw[zfN (by rw[sizeLine_eq,Qn,pl];simp;omega),append_assoc];rfl
    erw[ad1,ad2,rf,ξ M1 pc1,tm];exact Ok.ret ⟨_,_,rfl,p1,f1⟩
   ·erw[ea,de1,Qx hd,ξ M ti.pc,tm];exact Ok.ret ⟨_,_,rfl,po,Fr.refl _ _⟩
  |_=>cases q
end
theorem zsB:∃F:Int->List Int,∀v,zbv [FT.T.int 1,.int 2,.int 3,.int 4,.int 5,.int 6,.int 7,.int 8,.int 9,.int 10,.int 11,.int 12] none (some v)=(F v).map .int/\(F v).length<=12:=by
 refine⟨fun v=>(([1,2,3,4,5,6,7,8,9,10,11,12]:List Int).drop (HT.sIx 12 0 none)).take (HT.sIx 12 12 (some v)-HT.sIx 12 0 none),fun v=>⟨?_,?_⟩⟩
 ·rw[map_take,map_drop];rfl
 ·rw[Qr,length_drop];exact Qj (Nat.min_le_right _ _) (Nat.sub_le _ _)
theorem zry(ns:List Int):∃cs:List Int,zbv (ns.map FT.T.int) (some 1) (some 25)=cs.map .int/\cs.length<=24:=by
 refine⟨(ns.drop (min 1 ns.length)).take (min 25 ns.length-min 1 ns.length),?_,?_⟩
 ·unfold zbv;rw[show(1:Int)=((1:Nat):Int)from rfl,show(25:Int)=((25:Nat):Int)from rfl,HT.zhp,HT.zhp,Qh,map_take,map_drop]
 ·rw[Qr];omega
section
theorem zoY(ps:List (Int × Evt)):atI ((ps++[(0,Evt.fresh)]).map prT) (if((ps.length:Int)-1) > 0 then(ps.length:Int)-1 else 0)=some (prT (ps.getLastD (0,.fresh))):=by
 cases h:ps with
 |nil=>rfl|cons p r=>
  rw[show(if(((p::r).length:Int)-1) > 0 then((p::r).length:Int)-1 else 0)=((r.length:Nat):Int) by rw[Qp];split<;>omega]
  rw[FT.qX,Qb,Q6 (by simp)];have:(p::r)[r.length]? = some ((p::r).getLastD (0,.fresh)):=by rw[List.getLastD_eq_getLast?,List.getLast?_eq_getElem?];simp
  rw[this];rfl
theorem zoU(nd:[kH,kT,kD,kN].Nodup)(wn:WN n)(ww:WW n W)(hcs:cs.length<=60){k:Nat}(hk:k<cs.length)(s0 s1 o6 o7 o8 o9 o10 o11 o12 o13 o14 o15 o16:Option FT.T)(M:Mem) :
  Ok (zjA J I kH kT kD kN [s0,s1,some (yf n),some (wtT W),some (.lst (cs.map .int)),some (nT k),o6,o7,o8,o9,o10,o11,o12,o13,o14,o15,o16] M) fun fl M'=>∃o6 o7 o8 o9 o10 o11 o12 o13 o14 o15 o16,fl = .nx [s0,s1,some (yf n),some (wtT W),some (.lst (cs.map .int)),some (nT k),o6,o7,o8,o9,o10,o11,o12,o13,o14,o15,o16]:=by
 have ck:atI (cs.map FT.T.int) (k:Int)=some (.int cs[k]):=by rw[FT.qX,Qb,Q0 hk];rfl
 have cu:zbv (cs.map FT.T.int) none (some (k:Int))=(cs.take k).map .int:=by rw[zfl,map_take]
 unfold zjA;nofun;erw[ck,zfb];left;obtain⟨o,ho⟩:∃o,o=M.length:=⟨_,rfl⟩;obtain⟨M1,hM1⟩:∃M1,M1=M++[(Po.new cs[k]).cell]:=⟨_,rfl⟩;have po1:PO o M1:=by rw[hM1,ho];exact PO.app
 rw[←ho,←hM1];have ol:o<M1.length:=by obtain⟨_,e⟩:=po1;exact zK e
 nofun;erw[qC,cu];refine Ok.bind (zlA (kN:=kN) wn ww (cs:=cs.take k) (by rw[Qr];omega) M1) ?_;rintro t M2 ⟨ps,D,rfl,ti,pl,f2,hla⟩;have plk:ps.length=k:=by rw[pl,Qr];omega
 have po2:=po1.fr f2 (by simp);have oa:o ≠ M1.length:=by omega
 have od:o ≠ M1.length+1:=by omega
 generalize M1.length=a at *;generalize a+1=d at *;simp_arith;left;have g:=zby wn ti.tv;have gl:=g.sb.es;have gB:(yo n (ps.map (·.2))).es.length<=10000:=by omega
 obtain⟨la,hl2⟩:∃la,la=(ps.getLastD (0,.fresh)).1:=⟨_,rfl⟩;rw[←hl2]at hla;have ad0:=zfy (ys:=[.tup [.int 0,.tup [.str "fresh"]]]) ti.pc (by rw[Qh];simp;omega);rw[show ps.map prT++[.tup [.int 0,.tup [.str "fresh"]]]=(ps++[(0,Evt.fresh)]).map prT by rw[Qq];rfl]at ad0;have la1:=zoY ps;rw[plk,show prT (ps.getLastD (0,.fresh)) = .tup [.int la,evT (ps.getLastD (0,.fresh)).2] by rw[hl2];rfl]at la1;nofun;erw[ad0,zkp,la1];left;have my:=zlX (J:=J) (I:=I) (kN:=kN) wn (.inl rfl) ti.tv.v (by rw[Qh];omega) M2;nofun;simp_arith;rw[zhM ?hs ti.pc ⋯]
 case hs=>rfl
 rw[zc7,my,zc7];left;nofun;simp_arith;refine Ok.bind (zD po2 ∅ ∅) ?_;rintro t M3 ⟨b,rfl,b1,b2,po3,f3⟩;obtain⟨zs,hzs,hzl⟩:∃zs:List FT.T,zbv [.tup [.int 1000000000,.tup [.str "fresh"]],.tup [.int 1000000000,.tup [.str "up",.int 1000000000]]] none (some b)=zs/\zs.length<=10:=⟨_,rfl,by unfold zbv;rw[Qr,length_drop];exact Qj (Nat.min_le_right _ _) (Qj (Nat.sub_le _ _) ∅)⟩
 erw[qC,hzs];left;have ti3:TI n W a d M3 ps D:=⟨f3.get ti.pc (by simp;omega),f3.get ti.dc (by simp;omega),ti.tv,ti.dl,ti.dk⟩;nofun;have le1:∀M,yB (.lst ((yo n (ps.map (·.2))).es.map erT)) M = .ok (nT (yo n (ps.map (·.2))).es.length) M:=fun M=>by rw[zni,Qh]
 erw[le1];have w:=zmF (J:=J) (I:=I) (n:=n) (R:=yo n (ps.map (·.2))) gB po3;refine Ok.bind w ?_;rintro t M4 ⟨wr,ni,po4,f4⟩;left;have ti4:TI n W a d M4 ps D:=⟨f4.get ti3.pc (by simp;omega),f4.get ti3.dc (by simp;omega),ti.tv,ti.dl,ti.dk⟩;have br:=fun M=>zpB (J:=J) (I:=I) (kN:=kN) wn ww ti.tv ⋯ wr ni la zs M;have rf:=zgJ (J:=J) (I:=I) nd br M4;have ad1:=zfy (ys:=[.tup [.int la,t]]) ti4.pc (by rw[Qh];simp;omega);have ad2:yD (.lst (ps.map prT++[.tup [.int la,t]])) (.lst zs) M4 = .ok (.lst (ps.map prT ++ .tup [.int la,t]::zs)) M4:=by rw[zfN (by rw[sizeLine_eq,Qn,Qh];simp;omega),append_assoc];rfl
 rw[plk]at rf;nofun;erw[ad1,ad2,rf];left;simp_arith;generalize hml:zav n (yo n (ps.map (·.2)))=ml;generalize hes:FT.T.lst ((yo n (ps.map (·.2))).es.map erT)=es;have lp:=Ok.for (bd:=yj 14) (body:=zhd J I kH kT kD kN) (r:=evT) (xs:=ml) (σ:=[s0,s1,some (yf n),some (wtT W),some (.lst (cs.map .int)),some (nT k),some (.ref o),some (.ref a),some es,some (.ref d),some (.int la),some (.lst (ml.map evT)),some (.lst zs),some (.tup [.int la,t]),o14,o15,o16]) (M:=M4) (fun j σ M'=>∃o14 o15 o16,σ=[s0,s1,some (yf n),some (wtT W),some (.lst (cs.map .int)),some (nT k),some (.ref o),some (.ref a),some es,some (.ref d),some (.int la),some (.lst (ml.map evT)),some (.lst zs),some (.tup [.int la,t]),o14,o15,o16]/\TI n W a d M' ps D/\PO o M') ⟨o14,o15,o16,rfl,ti4,po4⟩ (by rintro j ev σ M5 hj ⟨o14,o15,o16,rfl,ti5,po5⟩;have tu:=zng (J:=J) (I:=I) nd wn ww ti5 ⋯ po5 oa od (ev:=ev) (by rw[hml];exact Qa hj) hla hzl s0 s1 (some (.lst (cs.map .int))) (some (.lst (ml.map evT))) (some (.tup [.int la,t])) o15 o16;rw[plk,hes]at tu;refine Ok.mono tu ?_;rintro fl M6 ⟨o15,o16,rfl,po6,f6⟩;exact⟨_,rfl,_,_,_,rfl,⟨f6.get ti5.pc (by simp;omega),f6.get ti5.dc (by simp;omega),ti.tv,ti.dl,ti.dk⟩,po6⟩)
 refine Ok.mono lp ?_;rintro fl M5 ⟨σ,rfl,o14,o15,o16,rfl,_,_⟩;exact⟨_,_,_,_,_,_,_,_,_,_,_,rfl⟩
end
theorem law_true(J I kH kT kD kN:Addr)(nd:[kH,kT,kD,kN].Nodup)(ns:List Int)(hn:ns.length<=63):∃M,zfC J I kH kT kD kN [.lst (ns.map .int)] [] = .ok (.bl true) M:=by
 have:Ok (zfC J I kH kT kD kN [.lst (ns.map .int)] []) fun t _=>t = .bl true:=by
  refine qz rfl ?_;unfold znY;rw[show startT 17 [.lst (ns.map .int)]=[some (.lst (ns.map .int)),none,none,none,none,none,none,none,none,none,none,none,none,none,none,none,none]from rfl];obtain⟨c,hc⟩:=zpw (J:=J) (I:=I) ns 0 [];rw[show((0:Nat):Int)=0 from rfl]at hc;right;erw[hc,zfb];left;right;simp_arith;refine Ok.bind (zqz (PO.app (M:=[]) (c:=c))) ?_;rintro t M1 ⟨n,rfl,wn,nx,p1,f1⟩;left;right;simp_arith;refine Ok.bind (zmK wn nx p1) ?_;rintro t M2 ⟨W,rfl,ww,p2,f2⟩;left;obtain⟨cs1,hc1,hl1⟩:=zry ns;obtain⟨F,hF⟩:=zsB;have hF1:=fun v=>(hF v).1;obtain⟨C1,hC1,lC1⟩:∃C1:List Int,(∀M,yD (.lst [.int 0]) (.lst (cs1.map .int)) M = .ok (.lst (C1.map .int)) M)/\C1.length<=31:=⟨0::cs1,fun M=>zfN (by rw[sizeLine_eq,Qh,Qv];omega),by rw[Qp];omega⟩;obtain⟨G,hG,lG⟩:∃G:Int->List Int,(∀v M,yD (.lst (C1.map .int)) (.lst ((F v).map .int)) M = .ok (.lst ((G v).map .int)) M)/\∀v,(G v).length<=60:=⟨fun v=>C1++F v,fun v M=>by have:=(hF v).2;rw[zfN (by rw[sizeLine_eq,Qh,Qh];omega),Qq],fun v=>by rw[Qn];have:=(hF v).2;omega⟩
  right;erw[qC,hc1,hC1];generalize (if 12-((ns.map FT.T.int).length:Int) > 0 then 12-((ns.map FT.T.int).length:Int)else 0)=V;erw[hF1,hG];left;have hcs:=lG V;generalize G V=cs at *;right;erw[Qh,zaR (show -(2 ^ 62)<=(cs.length:Int)/\(cs.length:Int)<2 ^ 62 by omega),Int.toNat_natCast];refine Ok.bind (Ok.for (r:=FT.T.int) (xs:=rgI cs.length) (fun k σ M'=>∃o1 o5 o6 o7 o8 o9 o10 o11 o12 o13 o14 o15 o16,σ=[some (.lst (ns.map .int)),o1,some (yf n),some (wtT W),some (.lst (cs.map .int)),o5,o6,o7,o8,o9,o10,o11,o12,o13,o14,o15,o16]) ⟨_,_,_,_,_,_,_,_,_,_,_,_,_,rfl⟩ ?_) ?_
  ·rintro k x σ M3 hx ⟨o1,o5,o6,o7,o8,o9,o10,o11,o12,o13,o14,o15,o16,rfl⟩;obtain⟨hk,rfl⟩:=zfs hx;have mo:=zoU (J:=J) (I:=I) nd wn ww hcs hk (some (.lst (ns.map .int))) o1 o6 o7 o8 o9 o10 o11 o12 o13 o14 o15 o16 M3;refine mo.mono ?_;rintro fl M4 ⟨o6,o7,o8,o9,o10,o11,o12,o13,o14,o15,o16,rfl⟩;exact⟨_,rfl,_,_,_,_,_,_,_,_,_,_,_,_,_,rfl⟩
  ·rintro fl M3 ⟨σ,rfl,o1,o5,o6,o7,o8,o9,o10,o11,o12,o13,o14,o15,o16,rfl⟩;left;simp_arith;exact Ok.ret rfl
 obtain⟨t,M,e,rfl⟩:=this;exact⟨M,e⟩
end My
theorem My.e1{α:Type}{P:List α->Prop}(h:∀a,P [a]):∀us:List α,us.length=1->P us
 |[a],_=>h a
theorem My.e2{α:Type}{P:List α->Prop}(h:∀a b,P [a,b]):∀us:List α,us.length=2->P us
 |[a,b],_=>h a b
theorem My.e3{α:Type}{P:List α->Prop}(h:∀a b c,P [a,b,c]):∀us:List α,us.length=3->P us
 |[a,b,c],_=>h a b c
theorem My.e4{α:Type}{P:List α->Prop}(h:∀a b c d,P [a,b,c,d]):∀us:List α,us.length=4->P us
 |[a,b,c,d],_=>h a b c d
local macro_rules | `(tactic| rfl') => do
 let K:=Lean.mkIdent `KX
 let G:=Lean.mkIdent `G
 `(tactic| (dsimp only [L2.KOf];refine' L2.yx $K $G ?a ?l ?c ?k ?b;(case a=>k_is);(case l=>k_is);(case c=>k_is);(case k=>k_is)))
local macro_rules | `(tactic| eq_refl) => `(tactic| (dsimp only [L2.KOf];refine' FT.zbJ ?a ?n;(case a=>k_is);(case n=>k_is)))
open PySem PySem.W PyProof.Rows
set_option maxRecDepth 100000 in
set_option maxHeartbeats 0 in
theorem PySem.Challenge.cw_tryweir_k61_too_soon_refused_holds : PySem.Challenge.rw_tryweir_k61_too_soon_refused.Holds := by
 refine My.hdD.2 ?_;dsimp only[My.hdD]
 k_fill
 refine L2.zmJ (l:=PySem.Challenge.rw_tryweir_k61_too_soon_refused) (n:=63) (k:=35) (x:="script") (CX:=L2.CX0) (sp:=fun K=>FT.spT K (My.zg2 (FT.qi K "Errand") (FT.qi K "Run") (FT.qi K "NoHouse") (FT.qi K "TooMany") (FT.qi K "NoDeed") (FT.qi K "NoEvent"))) rfl ∅ rfl ⟨rfl,by decide,by decide⟩ (fun w h Y=>PySem.W.kIn_of Y) ?F ?S ?C
 case F=>
  intro w mg fa h KX G hmg;have u2:L2.Df (L2.KOf KX) mg "_law_left" My.zga ["cell"]:=by rfl';exact fun _ _ _ _ _ _=>My.e1 fun _=>rfl
  have u6:L2.Df (L2.KOf KX) mg "_law_next" My.zf9 ["pool","base"]:=by rfl';exact fun _ _ _ _ _ _=>My.e2 fun _ _=>rfl
  have ve:L2.Df (L2.KOf KX) mg "_law_net" My.zhl ["pool","most"]:=by rfl';exact fun _ _ _ _ _ _=>My.e2 fun _ _=>rfl
  have u1:L2.Df (L2.KOf KX) mg "_law_waits" My.ze0 ["pool","net"]:=by rfl';exact fun _ _ _ _ _ _=>My.e2 fun _ _=>rfl
  have u4:L2.Df (L2.KOf KX) mg "_law_cell" My.zgc ["script","k"]:=by rfl';exact fun _ _ _ _ _ _=>My.e2 fun _ _=>rfl
  have uU:L2.Df (L2.KOf KX) mg "_law_drawn" My.ze2 ["own","some"]:=by rfl';exact fun _ _ _ _ _ _=>My.e2 fun _ _=>rfl
  have u3:L2.Df (L2.KOf KX) mg "_law_kept" My.zgb ["ahead","errands","stood","tick"]:=by rfl';exact fun _ _ _ _ _ _=>My.e4 fun _ _ _ _=>rfl
  have vp:FT.Di (L2.KOf KX) mg "Run" "Run.__init__" (FT.qi (L2.KOf KX) "Run") My.zeu ["self","net"]:=by
   dsimp only[L2.KOf]
   refine' FT.zn0 KX G ?a8 ?e8 ?i8 ?l8 ?c8 ?k8 ?m8 ?q8 ?b8
   (case a8=>k_is);(case e8=>k_is);(case i8=>k_is);(case l8=>k_is);(case c8=>k_is);(case k8=>k_is);(case m8=>k_is);(case q8=>k_is)
   exact fun _ _ _ _ _ _=>My.e2 fun _ _=>rfl
  have vb:L2.Cls (L2.KOf KX) (FT.qi (L2.KOf KX) "Run"):=by
   dsimp only[L2.KOf]
   refine' FT.zms ?a9 ?p9 ?h9 ?o9 ?s9
   (case a9=>k_is);(case p9=>k_is);(case h9=>k_is);(case o9=>k_is);(case s9=>k_is)
  have uu:L2.NoAttr (L2.KOf KX) (FT.qi (L2.KOf KX) "Run") "came":=by eq_refl
  have uk:L2.NoAttr (L2.KOf KX) (FT.qi (L2.KOf KX) "Run") "errands":=by eq_refl
  have uH:L2.NoAttr (L2.KOf KX) (FT.qi (L2.KOf KX) "Run") "net":=by eq_refl
  have ue:L2.NoAttr (L2.KOf KX) (FT.qi (L2.KOf KX) "Run") "payments":=by eq_refl
  have ux:L2.NoAttr (L2.KOf KX) (FT.qi (L2.KOf KX) "Run") "puts":=by eq_refl
  have uq:L2.NoAttr (L2.KOf KX) (FT.qi (L2.KOf KX) "Run") "taken":=by eq_refl
  have uZ:L2.Df (L2.KOf KX) mg "asks_of" My.ze3 ["run","number"]:=by rfl';exact fun _ _ _ _ _ _=>My.e2 fun _ _=>rfl
  have um:L2.Df (L2.KOf KX) mg "may_be_lost" My.zcK ["run","number"]:=by rfl';exact fun _ _ _ _ _ _=>My.e2 fun _ _=>rfl
  have uc:L2.Df (L2.KOf KX) mg "has_tries_left" My.zbQ ["run","number"]:=by rfl';exact fun _ _ _ _ _ _=>My.e2 fun _ _=>rfl
  have ub:L2.Df (L2.KOf KX) mg "events_by_tries" My.zbr ["run","number"]:=by rfl';exact fun _ _ _ _ _ _=>My.e2 fun _ _=>rfl
  have uw:L2.Df (L2.KOf KX) mg "number_of" My.zdO ["named","name"]:=by rfl';exact fun _ _ _ _ _ _=>My.e2 fun _ _=>rfl
  have uL:L2.Df (L2.KOf KX) mg "purse_of" My.zem ["run","ask"]:=by rfl';exact fun _ _ _ _ _ _=>My.e2 fun _ _=>rfl
  have us:L2.Df (L2.KOf KX) mg "coins_made" My.zdf ["run","purse"]:=by rfl';exact fun _ _ _ _ _ _=>My.e2 fun _ _=>rfl
  have un:L2.Df (L2.KOf KX) mg "purse_told" My.zde ["run","purse"]:=by rfl';exact fun _ _ _ _ _ _=>My.e2 fun _ _=>rfl
  have uP:L2.Df (L2.KOf KX) mg "has_coin" My.zer ["run","number"]:=by rfl';exact fun _ _ _ _ _ _=>My.e2 fun _ _=>rfl
  have uA:L2.Df (L2.KOf KX) mg "events_at" My.zdR ["run","number"]:=by rfl';exact fun _ _ _ _ _ _=>My.e2 fun _ _=>rfl
  have uN:L2.Df (L2.KOf KX) mg "is_whole" My.zeq ["thing"]:=by rfl';exact fun _ _ _ _ _ _=>My.e1 fun _=>rfl
  have uB:L2.Df (L2.KOf KX) mg "is_within" My.zdQ ["thing","low","high"]:=by rfl';exact fun _ _ _ _ _ _=>My.e3 fun _ _ _=>rfl
  have uI:L2.Df (L2.KOf KX) mg "can_come" My.zes ["run","event"]:=by rfl';exact fun _ _ _ _ _ _=>My.e2 fun _ _=>rfl
  have ul:L2.Df (L2.KOf KX) mg "check_event" My.zcL ["run","event"]:=by rfl';exact fun _ _ _ _ _ _=>My.e2 fun _ _=>rfl
  have uJ:L2.Df (L2.KOf KX) mg "asked_by" My.zet ["net","ask"]:=by rfl';exact fun _ _ _ _ _ _=>My.e2 fun _ _=>rfl
  have u7:FT.Di (L2.KOf KX) mg "Errand" "Errand.__init__" (FT.qi (L2.KOf KX) "Errand") My.zcM ["self","house","caller"]:=by
   dsimp only[L2.KOf]
   refine' FT.zn0 KX G ?a31 ?e31 ?i31 ?l31 ?c31 ?k31 ?m31 ?q31 ?b31
   (case a31=>k_is);(case e31=>k_is);(case i31=>k_is);(case l31=>k_is);(case c31=>k_is);(case k31=>k_is);(case m31=>k_is);(case q31=>k_is)
   exact fun _ _ _ _ _ _=>My.e3 fun _ _ _=>rfl
  have uR:L2.Cls (L2.KOf KX) (FT.qi (L2.KOf KX) "Errand"):=by
   dsimp only[L2.KOf]
   refine' FT.zms ?a32 ?p32 ?h32 ?o32 ?s32
   (case a32=>k_is);(case p32=>k_is);(case h32=>k_is);(case o32=>k_is);(case s32=>k_is)
  have uh:L2.NoAttr (L2.KOf KX) (FT.qi (L2.KOf KX) "Errand") "asked":=by eq_refl
  have ud:L2.NoAttr (L2.KOf KX) (FT.qi (L2.KOf KX) "Errand") "caller":=by eq_refl
  have ui:L2.NoAttr (L2.KOf KX) (FT.qi (L2.KOf KX) "Errand") "house":=by eq_refl
  have ua:L2.NoAttr (L2.KOf KX) (FT.qi (L2.KOf KX) "Errand") "is_lost":=by eq_refl
  have uf:L2.NoAttr (L2.KOf KX) (FT.qi (L2.KOf KX) "Errand") "state":=by eq_refl
  have ug:L2.NoAttr (L2.KOf KX) (FT.qi (L2.KOf KX) "Errand") "stood":=by eq_refl
  have uv:L2.Df (L2.KOf KX) mg "begin_try" My.zcv ["run","number","at","tried"]:=by rfl';exact fun _ _ _ _ _ _=>My.e4 fun _ _ _ _=>rfl
  have uj:L2.Df (L2.KOf KX) mg "begin_errand" My.zbi ["run","house","caller"]:=by rfl';exact fun _ _ _ _ _ _=>My.e3 fun _ _ _=>rfl
  have ut:L2.Df (L2.KOf KX) mg "end_errand" My.zb6 ["run","number","word"]:=by rfl';exact fun _ _ _ _ _ _=>My.e3 fun _ _ _=>rfl
  have vl:L2.Df (L2.KOf KX) mg "hear" My.zgF ["run","caller","word"]:=by rfl';exact fun _ _ _ _ _ _=>My.e3 fun _ _ _=>rfl
  have vj:L2.Df (L2.KOf KX) mg "lose" My.ziX ["run","number"]:=by rfl';exact fun _ _ _ _ _ _=>My.e2 fun _ _=>rfl
  have uG:L2.Df (L2.KOf KX) mg "take_coin" My.zdM ["run","purse"]:=by rfl';exact fun _ _ _ _ _ _=>My.e2 fun _ _=>rfl
  have uy:L2.Df (L2.KOf KX) mg "try_again" My.zdK ["run","number"]:=by rfl';exact fun _ _ _ _ _ _=>My.e2 fun _ _=>rfl
  have u9:L2.Df (L2.KOf KX) mg "go_up" My.zhn ["run","number"]:=by rfl';exact fun _ _ _ _ _ _=>My.e2 fun _ _=>rfl
  have uK:L2.Df (L2.KOf KX) mg "let_come" My.zeo ["run","event"]:=by rfl';exact fun _ _ _ _ _ _=>My.e2 fun _ _=>rfl
  have u5:L2.Df (L2.KOf KX) mg "run_of" My.zf8 ["net","events"]:=by rfl';exact fun _ _ _ _ _ _=>My.e2 fun _ _=>rfl
  have uQ:L2.Df (L2.KOf KX) mg "may_come" My.zen ["net","events"]:=by rfl';exact fun _ _ _ _ _ _=>My.e2 fun _ _=>rfl
  have uV:L2.Df (L2.KOf KX) mg "told_of" My.zeX ["run"]:=by rfl';exact fun _ _ _ _ _ _=>My.e1 fun _=>rfl
  have vo:L2.Df (L2.KOf KX) mg "ran" My.zkZ ["net","events"]:=by rfl';exact fun _ _ _ _ _ _=>My.e2 fun _ _=>rfl
  have vd:L2.Df (L2.KOf KX) mg "_law_due" My.zhm ["waits","errands","stood","n"]:=by rfl';exact fun _ _ _ _ _ _=>My.e4 fun _ _ _ _=>rfl
  have u0:L2.Df (L2.KOf KX) mg "_law_timed" My.ze1 ["net","waits","cells"]:=by rfl';exact fun _ _ _ _ _ _=>My.e3 fun _ _ _=>rfl
  have uW:L2.Df (L2.KOf KX) mg "_law_wrong" My.zeZ ["own","some","many"]:=by rfl';exact fun _ _ _ _ _ _=>My.e3 fun _ _ _=>rfl
  have uE:L2.Df (L2.KOf KX) mg "spread_of" My.zdN ["strewing","j"]:=by rfl';exact fun _ _ _ _ _ _=>My.e2 fun _ _=>rfl
  have uz:L2.Df (L2.KOf KX) mg "waits_for" My.zdJ ["strewing","errand","j"]:=by rfl';exact fun _ _ _ _ _ _=>My.e3 fun _ _ _=>rfl
  have ur:L2.Df (L2.KOf KX) mg "soonest_of" My.zdd ["run","waits","pairs","number"]:=by rfl';exact fun _ _ _ _ _ _=>My.e4 fun _ _ _ _=>rfl
  have uF:L2.Df (L2.KOf KX) mg "timed_run" My.zdL ["net","waits","pairs"]:=by rfl';exact fun _ _ _ _ _ _=>My.e3 fun _ _ _=>rfl
  have vc:L2.Df (L2.KOf KX) mg "timed" My.zhk ["net","waits","pairs"]:=by rfl';exact fun _ _ _ _ _ _=>My.e3 fun _ _ _=>rfl
  have uT:L2.Df (L2.KOf KX) mg "soonest" My.zeY ["net","waits","pairs"]:=by rfl';exact fun _ _ _ _ _ _=>My.e3 fun _ _ _=>rfl
  have uM:L2.Df (L2.KOf KX) mg "_law_caught" My.zep ["net","waits","pairs","way"]:=by rfl';exact fun _ _ _ _ _ _=>My.e4 fun _ _ _ _=>rfl
  have uD:L2.Df (L2.KOf KX) mg "_law_refused" My.zdP ["net","waits","pairs","at"]:=by rfl';exact fun _ _ _ _ _ _=>My.e4 fun _ _ _ _=>rfl
  have vm:mg "max" = none:=by refine' QH KX G ?z63;k_is
  have vh:mg "range" = none:=by refine' QH KX G ?z64;k_is
  have vq:mg "len" = none:=by refine' QH KX G ?z65;k_is
  have vg:mg "tuple" = none:=by refine' QH KX G ?z66;k_is
  have uC:mg "enumerate" = none:=by refine' QH KX G ?z67;k_is
  have vr:mg "int" = none:=by refine' QH KX G ?z68;k_is
  have uo:mg "isinstance" = none:=by refine' QH KX G ?z69;k_is
  have vi:mg "bool" = none:=by refine' QH KX G ?z70;k_is
  have vs:mg "min" = none:=by refine' QH KX G ?z71;k_is
  have vk:mg "list" = none:=by refine' QH KX G ?z72;k_is
  have va:∃a,mg "FRESH" = some (.ref a)/\FT.KTu (L2.KOf KX) a [.str "fresh"]:=by
   dsimp only[L2.KOf]
   refine' ⟨_,PySem.W.mg_of KX G ?z73,FT.zqJ ?y73⟩
   (case z73=>k_is);(case y73=>k_is)
  have L:=by
   refine' L2.zqH (st:=My.zk0) KX G ?la ?ll ?lc ?lk ?lb
   (case la=>k_is);(case ll=>k_is);(case lc=>k_is);(case lk=>k_is)
   exact fun _ _ _ _ _ _ s u=>.of_eq rfl
  obtain⟨f,fd,F,g,hb⟩:=L;have e:=hmg.symm.trans g;cases e;have T:My.Txt (L2.KOf KX) mg (FT.qi (L2.KOf KX) "Errand") (FT.qi (L2.KOf KX) "Run"):=⟨uR,vb,uh,ud,ui,ua,uf,ug,uu,uk,uH,ue,ux,uq,vm,vh,vq,vg,uC,vr,uo,vi,vs,vk,va⟩;refine⟨fd,hb,fun base _ _=>?_⟩;have uS:L2.ExcAt (L2.KOf KX) mg "NoHouse" (FT.qi (L2.KOf KX) "NoHouse"):=by
   dsimp only[L2.KOf]
   refine' FT.zlu KX G ?a74 ?l74 ?ln74 ?sk74 ?q74 ?lw74 ?lwn74 ?sl74 ?ni74
   (case a74=>k_is);(case l74=>k_is);(case ln74=>k_is);(case sk74=>exact rfl);(case q74=>k_is);(case lw74=>k_is);(case lwn74=>k_is);(case sl74=>exact rfl);(case ni74=>k_is)
  have uY:L2.ExcAt (L2.KOf KX) mg "TooMany" (FT.qi (L2.KOf KX) "TooMany"):=by
   dsimp only[L2.KOf]
   refine' FT.zlu KX G ?a75 ?l75 ?ln75 ?sk75 ?q75 ?lw75 ?lwn75 ?sl75 ?ni75
   (case a75=>k_is);(case l75=>k_is);(case ln75=>k_is);(case sk75=>exact rfl);(case q75=>k_is);(case lw75=>k_is);(case lwn75=>k_is);(case sl75=>exact rfl);(case ni75=>k_is)
  have u8:FT.XcF My.pg w (L2.KOf KX) mg base "NoDeed" (FT.qi (L2.KOf KX) "NoDeed"):=by
   dsimp only[L2.KOf]
   refine' FT.znO (st:=My.zio) KX G ?a76 ?l76 ?ln76 ?sk76 ?q76 ?no76 ?lw76 ?lwn76 ?sl76 ?ni76 ?lf76 ?cc76 ?kk76 (by ac_rfl) rfl rfl rfl ?bd76
   (case a76=>k_is);(case l76=>k_is);(case ln76=>k_is);(case sk76=>exact rfl);(case q76=>k_is);(case no76=>(refine FT.yF ?_ ?_;k_is);(refine FT.yF ?_ ?_;k_is);(refine FT.yF ?_ ?_;k_is);(refine FT.yF ?_ ?_;k_is);exact FT.zez);(case lw76=>k_is);(case lwn76=>k_is);(case sl76=>exact rfl);(case ni76=>(refine FT.yF ?_ ?_;k_is);(refine FT.yF ?_ ?_;k_is);(refine FT.yF ?_ ?_;k_is);(refine FT.yF ?_ ?_;k_is);(refine FT.yF ?_ ?_;k_is);exact FT.zez);(case lf76=>k_is);(case cc76=>k_is);(case kk76=>k_is)
   exact fun _ _ _ _ _ _=>My.e2 fun _ _=>rfl
  have uX:FT.XcF My.pg w (L2.KOf KX) mg base "NoEvent" (FT.qi (L2.KOf KX) "NoEvent"):=by
   dsimp only[L2.KOf]
   refine' FT.znO (st:=My.zho) KX G ?a77 ?l77 ?ln77 ?sk77 ?q77 ?no77 ?lw77 ?lwn77 ?sl77 ?ni77 ?lf77 ?cc77 ?kk77 (by ac_rfl) rfl rfl rfl ?bd77
   (case a77=>k_is);(case l77=>k_is);(case ln77=>k_is);(case sk77=>exact rfl);(case q77=>k_is);(case no77=>(refine FT.yF ?_ ?_;k_is);(refine FT.yF ?_ ?_;k_is);(refine FT.yF ?_ ?_;k_is);(refine FT.yF ?_ ?_;k_is);exact FT.zez);(case lw77=>k_is);(case lwn77=>k_is);(case sl77=>exact rfl);(case ni77=>(refine FT.yF ?_ ?_;k_is);(refine FT.yF ?_ ?_;k_is);(refine FT.yF ?_ ?_;k_is);(refine FT.yF ?_ ?_;k_is);(refine FT.yF ?_ ?_;k_is);exact FT.zez);(case lf77=>k_is);(case cc77=>k_is);(case kk77=>k_is)
   exact fun _ _ _ _ _ _=>My.e2 fun _ _=>rfl
  have xm_NoHouse:FT.XmAt (L2.KOf KX) (FT.qi (L2.KOf KX) "NoHouse") (FT.qi (L2.KOf KX) "WeirError"):=by
   dsimp only[L2.KOf]
   refine' FT.zir ?a78 ?b78 ?l78 ?ga78 ?gt78 ?c78 ?n78 ?t78
   (case a78=>k_is);(case b78=>k_is);(case l78=>k_is);(case ga78=>k_is);(case gt78=>k_is);(case c78=>k_is);(case n78=>first | k_is | rfl | decide +kernel);(case t78=>first | k_is | rfl | decide +kernel)
  have xm_TooMany:FT.XmAt (L2.KOf KX) (FT.qi (L2.KOf KX) "TooMany") (FT.qi (L2.KOf KX) "WeirError"):=by
   dsimp only[L2.KOf]
   refine' FT.zir ?a79 ?b79 ?l79 ?ga79 ?gt79 ?c79 ?n79 ?t79
   (case a79=>k_is);(case b79=>k_is);(case l79=>k_is);(case ga79=>k_is);(case gt79=>k_is);(case c79=>k_is);(case n79=>first | k_is | rfl | decide +kernel);(case t79=>first | k_is | rfl | decide +kernel)
  have xm_NoDeed:FT.XmAt (L2.KOf KX) (FT.qi (L2.KOf KX) "NoDeed") (FT.qi (L2.KOf KX) "WeirError"):=by
   dsimp only[L2.KOf]
   refine' FT.zir ?a80 ?b80 ?l80 ?ga80 ?gt80 ?c80 ?n80 ?t80
   (case a80=>k_is);(case b80=>k_is);(case l80=>k_is);(case ga80=>k_is);(case gt80=>k_is);(case c80=>k_is);(case n80=>first | k_is | rfl | decide +kernel);(case t80=>first | k_is | rfl | decide +kernel)
  have xm_NoEvent:FT.XmAt (L2.KOf KX) (FT.qi (L2.KOf KX) "NoEvent") (FT.qi (L2.KOf KX) "WeirError"):=by
   dsimp only[L2.KOf]
   refine' FT.zir ?a81 ?b81 ?l81 ?ga81 ?gt81 ?c81 ?n81 ?t81
   (case a81=>k_is);(case b81=>k_is);(case l81=>k_is);(case ga81=>k_is);(case gt81=>k_is);(case c81=>k_is);(case n81=>first | k_is | rfl | decide +kernel);(case t81=>first | k_is | rfl | decide +kernel)
  have up:mg "WeirError" = some (.ref (FT.qi (L2.KOf KX) "WeirError"))/\(PySem.W.clsIn (L2.KOf KX) (FT.qi (L2.KOf KX) "WeirError")).isSome=true/\PySem.W.typeIn (L2.KOf KX) (.ref (FT.qi (L2.KOf KX) "WeirError"))=some (.type "type"):=by
   dsimp only[L2.KOf]
   refine' FT.zrH KX G ?b82 ?l82
   (case b82=>k_is);(case l82=>k_is)
  have ec_NoHouse:=by
   refine' FT.y4 (K:=L2.KOf KX) (x:="NoHouse") ?a83
   (case a83=>dsimp only[L2.KOf];k_is)
  have ec_TooMany:=by
   refine' FT.y4 (K:=L2.KOf KX) (x:="TooMany") ?a84
   (case a84=>dsimp only[L2.KOf];k_is)
  have ec_NoDeed:=by
   refine' FT.y4 (K:=L2.KOf KX) (x:="NoDeed") ?a85
   (case a85=>dsimp only[L2.KOf];k_is)
  have ec_NoEvent:=by
   refine' FT.y4 (K:=L2.KOf KX) (x:="NoEvent") ?a86
   (case a86=>dsimp only[L2.KOf];k_is)
  have ec_WeirError:=by
   refine' FT.y4 (K:=L2.KOf KX) (x:="WeirError") ?a87
   (case a87=>dsimp only[L2.KOf];k_is)
  have nd:([(FT.qi (L2.KOf KX) "NoHouse"),(FT.qi (L2.KOf KX) "TooMany"),(FT.qi (L2.KOf KX) "NoDeed"),(FT.qi (L2.KOf KX) "NoEvent")]:List PySem.Addr).Nodup:=by rw[ec_NoHouse,ec_TooMany,ec_NoDeed,ec_NoEvent];decide
  have xs:∀C ∈ ([(FT.qi (L2.KOf KX) "NoHouse"),(FT.qi (L2.KOf KX) "TooMany"),(FT.qi (L2.KOf KX) "NoDeed"),(FT.qi (L2.KOf KX) "NoEvent")]:List PySem.Addr),FT.XmAt (L2.KOf KX) C (FT.qi (L2.KOf KX) "WeirError"):=FT.zf xm_NoHouse (FT.zf xm_TooMany (FT.zf xm_NoDeed (FT.zf xm_NoEvent (FT.zg))));have i_NoDeed:FT.IsAt (L2.KOf KX) mg "NoDeed" _:=FT.zfe (FT.zpH u8) xs (by simp only[QB,true_or,or_true]) (by rw[ec_NoDeed,ec_WeirError];decide);have i_NoHouse:FT.IsAt (L2.KOf KX) mg "NoHouse" _:=FT.zfe (FT.zjl uS) xs (by simp only[QB,true_or,or_true]) (by rw[ec_NoHouse,ec_WeirError];decide);have i_TooMany:FT.IsAt (L2.KOf KX) mg "TooMany" _:=FT.zfe (FT.zjl uY) xs (by simp only[QB,true_or,or_true]) (by rw[ec_TooMany,ec_WeirError];decide);have i_ValueError:FT.IsAt (L2.KOf KX) mg "ValueError" _:=FT.zo3 (by refine' QH KX G ?zv;k_is) xs;have i_WeirError:FT.IsAt (L2.KOf KX) mg "WeirError" _:=FT.zo4 up.1 xs up.2.1 up.2.2;have zaK:=My.zaK (P:=My.pg) (w:=w) (base:=base) u2 T;have zn:=My.zn (P:=My.pg) (w:=w) (base:=base) u6 T;have zee:=My.zee ve T zn;have zcF:=My.zcF u1 T zn;have zdv:=My.zdv (P:=My.pg) (w:=w) (base:=base) u4 T;have zcH:=My.zcH uU T zn;have zdu:=My.zdu (P:=My.pg) (w:=w) (base:=base) u3 T;have zdz:=My.zdz (P:=My.pg) (w:=w) (base:=base) vp T;have zq:=My.zq (P:=My.pg) (w:=w) (base:=base) uZ T;have zaP:=My.zaP um T zq;have yK:=My.yK uc T zq;have qL:=My.qL ub T zaP yK;replace qL:=FT.CalT.refine qL (FT.zkA _) (FT.zkB _);have yZ:=My.yZ (P:=My.pg) (w:=w) (base:=base) uw T;have qI:=My.qI uL T yZ;have zbc:=My.zbc (P:=My.pg) (w:=w) (base:=base) us T;have yW:=My.yW un T zbc;have zcg:=My.zcg uP T qI zq yW;have z3:=My.z3 uA T qL zcg;have zcf:=My.zcf (P:=My.pg) (w:=w) (base:=base) uN T;have zbH:=My.zbH uB T zcf;have zch:=My.zch uI T z3 zbH;have zQ:=My.zQ ul T uX zch;have zag:=My.zag uJ T yZ;have za4:=My.za4 (P:=My.pg) (w:=w) (base:=base) u7 T;have yI:=My.yI uv uj T qI zq zag za4 12;have yH:=yI.1;have qS:=yI.2;have qV:=My.qV ut vl T zq yH 12;have yN:=qV.1;have zdw:=qV.2;have zfm:=My.zfm vj T zdw;have zbF:=My.zbF (P:=My.pg) (w:=w) (base:=base) uG T;have zbE:=My.zbE uy T qI yH zbF zq;have zef:=My.zef u9 T yN zq;have zaf:=My.zaf uK T qS yN zfm zbE zef;have zbb:=My.zbb u5 T zdz zQ zaf;have zae:=My.zae uQ T zbb z3;have uO:=FT.CalX.refine zae (FT.zkA _) (FT.zkB _);have zay:=My.zay uV T yW;have zfL:=My.zfL vo T zay zbb;have vn:=FT.CalX.refine zfL (FT.zeM _) (FT.zeN _);have zb1:=My.zb1 (P:=My.pg) (w:=w) (base:=base) vd T;have zcG:=My.zcG u0 T zaK zcH zdu uO vn zn zb1;have zcE:=My.zcE uW T zn;have zbG:=My.zbG (P:=My.pg) (w:=w) (base:=base) uE T;have zbD:=My.zbD uz T zbG;have zW:=My.zW ur T zbD;have zZ:=My.zZ uF T uX zdz zQ zaf zW;have zb0:=My.zb0 vc T zay zZ;have vf:=FT.CalX.refine zb0 (FT.zeM _) (FT.zeN _);have zcD:=My.zcD uT T zZ yK zW;have zaL:=My.zaL uM T uX i_ValueError i_WeirError i_NoDeed i_NoHouse i_TooMany zb0 zcD;replace zaL:=FT.CalT.refine zaL (FT.zeM _) (FT.zeN _);have qZ:=My.qZ uD T zaL;replace qZ:=FT.CalT.refine qZ (FT.zeM _) (FT.zeN _);rw[show My.zg2 (FT.qi (L2.KOf KX) "Errand") (FT.qi (L2.KOf KX) "Run") (FT.qi (L2.KOf KX) "NoHouse") (FT.qi (L2.KOf KX) "TooMany") (FT.qi (L2.KOf KX) "NoDeed") (FT.qi (L2.KOf KX) "NoEvent")=My.zfC (FT.qi (L2.KOf KX) "Errand") (FT.qi (L2.KOf KX) "Run") (FT.qi (L2.KOf KX) "NoHouse") (FT.qi (L2.KOf KX) "TooMany") (FT.qi (L2.KOf KX) "NoDeed") (FT.qi (L2.KOf KX) "NoEvent")from Qz nd];exact My.zqy F T zaK zee zcF zdv zcG uO zcE qZ zn zb1 vf
 case S=>
  intro K H a ns hl _ hS
  by_cases nd:([FT.qi K "NoHouse",FT.qi K "TooMany",FT.qi K "NoDeed",FT.qi K "NoEvent"]:List PySem.Addr).Nodup
  ·rw[show My.zg2 (FT.qi K "Errand") (FT.qi K "Run") (FT.qi K "NoHouse") (FT.qi K "TooMany") (FT.qi K "NoDeed") (FT.qi K "NoEvent")=My.zfC (FT.qi K "Errand") (FT.qi K "Run") (FT.qi K "NoHouse") (FT.qi K "TooMany") (FT.qi K "NoDeed") (FT.qi K "NoEvent")from Qz nd];obtain⟨M,h⟩:=My.law_true (FT.qi K "Errand") (FT.qi K "Run") (FT.qi K "NoHouse") (FT.qi K "TooMany") (FT.qi K "NoDeed") (FT.qi K "NoEvent") nd ns hl;exact FT.zks hS h
  ·rw[show My.zg2 (FT.qi K "Errand") (FT.qi K "Run") (FT.qi K "NoHouse") (FT.qi K "TooMany") (FT.qi K "NoDeed") (FT.qi K "NoEvent")=(fun _ M=>.ok (.bl true) M)from QA nd];exact FT.zks hS rfl
 case C=>exact fun _ _ _ _ z=>z
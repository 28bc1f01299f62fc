import PyProof.Rows.All
import Wide.All
import OpenK.AllK
import Wide.FinOn
import Lean
import PyProof.EqAt
import PyProof.EqKinds
import PyProof.TupleCall
import PyProof.NeKinds
import PyProof.SumAny
import KE.KDictList
import KE.KDictOf
import PyProof.AttrMissHeap
import PyProof.Conv_int_bool
import PyProof.TupleOfStr
import PyProof.CollectIter
import PyProof.ListRange
import PyProof.DictWalks
import PyProof.ConsumeS
import PyProof.WalkInts
import PyProof.Draws
import PyProof.EnumFor
import PyProof.EnumStmt
import KE.KDictLaws
import KE.KRevIter
import KE.KDictSum
import PyProof.SeqRoads2
import PyProof.EqAt
import PyProof.EnumMake
import PyProof.ZipIter
import PyProof.InstStore
import PyProof.InstStoreFacts
import PyProof.ExcInit
import PyProof.ExcClass2
import PyProof.NsDelKeeps
import PyProof.ExcArgsOwn
import PyProof.Rows.SetFrom
import PyProof.SetRoads
import PySem.Challenge.RW_tryweir_k08_whole_rows_walked
set_option Elab.async false
set_option linter.all false
set_option maxRecDepth 100000
namespace L2
open PySem PySem.Spec PyProof.Rows
noncomputable abbrev Key:=Sum Int Str
noncomputable def zbo:Key->Value->Bool
  | .inl k,v=>Value.isInt k v
  | .inr x,v=>Value.isStrOf x v
noncomputable def zmb (w:World):Key->Int
  | .inl k=>hashInt k
  | .inr x=>hashStr w x
theorem yr:∀ {k:Key} {v:Value},zbo k v = true->(∃ i t,k = Sum.inl i/\v = Value.int i t)\/(∃ x t,k = Sum.inr x/\v = Value.str x t)
  | .inl i,v,h=>by
    obtain ⟨t,e⟩:=Value.isInt_shape (k:=i) (v:=v) h
    exact .inl ⟨i,t,rfl,e⟩
  | .inr x,v,h=>by
    obtain ⟨t,e⟩:=Value.isStrOf_shape (x:=x) (v:=v) h
    exact .inr ⟨x,t,rfl,e⟩
theorem zij (i:Int) (t:Tok):zbo (.inl i) (.int i t) = true:=by simp [zbo,Value.isInt]
theorem zii (x:Str) (t:Tok):zbo (.inr x) (.str x t) = true:=by simp [zbo,Value.isStrOf]
theorem zma (a b:Int):decide ((Sum.inl a:Key) = Sum.inl b) = (a == b):=by
  by_cases e:a = b
  · subst e;simp
  · have h:¬ (Sum.inl a:Key) = Sum.inl b:=fun q=>e (Sum.inl.inj q)
    rw [decide_eq_false h]
    exact (beq_eq_false_iff_ne.mpr e).symm
theorem zl7 (a b:Str):decide ((Sum.inr a:Key) = Sum.inr b) = decide (a = b):=by
  by_cases e:a = b
  · subst e;simp
  · have h:¬ (Sum.inr a:Key) = Sum.inr b:=fun q=>e (Sum.inr.inj q)
    rw [decide_eq_false h,decide_eq_false e]
theorem zl9 (a:Int) (b:Str):decide ((Sum.inl a:Key) = Sum.inr b) = false:=decide_eq_false (fun q=>nomatch q)
theorem zl8 (a:Str) (b:Int):decide ((Sum.inr a:Key) = Sum.inl b) = false:=decide_eq_false (fun q=>nomatch q)
noncomputable def yo (prog:Program) (w:World):PySem.KeyKind prog w Key where
  is:=zbo
  hash:=zmb w
  inj:=fun v a b ha hb=>by
    rcases yr ha with ⟨i,t,rfl,rfl⟩ | ⟨x,t,rfl,rfl⟩
    · rcases yr hb with ⟨j,u,rfl,e⟩ | ⟨y,u,rfl,e⟩
      · injection e with e1 _;rw [e1]
      · exact nomatch e
    · rcases yr hb with ⟨j,u,rfl,e⟩ | ⟨y,u,rfl,e⟩
      · exact nomatch e
      · injection e with e1 _;rw [e1]
  byValue:=fun k v h=>by
    rcases yr h with ⟨i,t,rfl,rfl⟩ | ⟨x,t,rfl,rfl⟩ <;> rfl
  pyHash:=fun hv h=>by
    rcases yr hv with ⟨i,t,rfl,rfl⟩ | ⟨x,t,rfl,rfl⟩
    · exact wpAny_pyHash_int h
    · exact wpAny_pyHash_str h
  eqBool:=fun hu hv h=>by
    rcases yr hu with ⟨i,t,rfl,rfl⟩ | ⟨x,t,rfl,rfl⟩
    · rcases yr hv with ⟨j,u,rfl,rfl⟩ | ⟨y,u,rfl,rfl⟩
      · rw [zma] at h;exact wpAny_eqBool_int h
      · rw [zl9] at h;exact SeqAt.EqAt.int_str i t y u _ _ _ _ h
    · rcases yr hv with ⟨j,u,rfl,rfl⟩ | ⟨y,u,rfl,rfl⟩
      · rw [zl8] at h;exact SeqAt.EqAt.str_int x t j u _ _ _ _ h
      · rw [zl7] at h;exact wpAny_eqBool_str h
  «strs»:=fun k x t v h=>by
    rcases yr h with ⟨i,u,rfl,e⟩ | ⟨y,u,rfl,e⟩
    · exact nomatch e
    · injection e with e1 _
      subst e1
      cases v <;> rfl
theorem zgc (prog:Program) (w:World) (i:Int) (t:Tok):(yo prog w).is (.inl i) (.int i t) = true:=zij i t
theorem zgb (prog:Program) (w:World) (x:Str) (t:Tok):(yo prog w).is (.inr x) (.str x t) = true:=zii x t
end L2
namespace L2
open PySem PySem.Spec PyProof.Rows
inductive V where
  | non | bl (b:Bool) | int (i:Int) | str (x:Str) | byt (b:Array UInt8) | flt (b:UInt64) | ref (a:Addr) | ty (n:String)
  deriving DecidableEq
noncomputable def RelV:V->Value->Prop
  | .non,u=>u = Value.none
  | .bl b,u=>u = Value.bool b
  | .int i,u=>∃ t,u = Value.int i t
  | .str x,u=>∃ t,u = Value.str x t
  | .byt b,u=>∃ t,u = Value.bytes b t
  | .flt b,u=>∃ t,u = Value.float b t
  | .ref a,u=>u = Value.ref a
  | .ty n,u=>u = Value.type n
noncomputable abbrev Vals:List V->List Value->Prop:=Paired RelV
theorem Vals.length {xs:List V} {us:List Value} (r:Vals xs us):xs.length = us.length:=Paired.length r
theorem Vals.get:∀ {xs:List V} {us:List Value} {i:Nat} {x:V},Vals xs us->xs[i]? = some x->∃ u,us[i]? = some u/\RelV x u
  | _,_,_,_,.nil,e=>by simp at e
  | _,_,0,_,.cons r _,e=>by simp at e;subst e;exact ⟨_,rfl,r⟩
  | _,_,i + 1,x,.cons _ t,e=>by
    obtain ⟨u,h1,h2⟩:=Vals.get (i:=i) (x:=x) t (by simpa using e)
    exact ⟨u,by simpa using h1,h2⟩
theorem Vals.set {x:V} {u:Value} (r:RelV x u):∀ {xs:List V} {us:List Value} (i:Nat),Vals xs us->Vals (xs.set i x) (us.set i u)
  | _,_,_,.nil=>.nil
  | _,_,0,.cons _ t=>.cons r t
  | _,_,i + 1,.cons q t=>.cons q (Vals.set r i t)
theorem Vals.append:∀ {xs ys:List V} {us ws:List Value},Vals xs us->Vals ys ws->Vals (xs ++ ys) (us ++ ws)
  | _,_,_,_,.nil,s=>s
  | _,_,_,_,.cons r t,s=>.cons r (Vals.append t s)
theorem Vals.take:∀ {xs:List V} {us:List Value} (n:Nat),Vals xs us->Vals (xs.take n) (us.take n)
  | _,_,0,_=>.nil
  | _,_,_ + 1,.nil=>.nil
  | _,_,n + 1,.cons r t=>.cons r (Vals.take n t)
theorem Vals.drop:∀ {xs:List V} {us:List Value} (n:Nat),Vals xs us->Vals (xs.drop n) (us.drop n)
  | _,_,0,r=>r
  | _,_,_ + 1,.nil=>.nil
  | _,_,n + 1,.cons _ t=>Vals.drop n t
theorem Vals.none_of:∀ {xs:List V} {us:List Value} {i:Nat},Vals xs us->xs[i]? = none->us[i]? = none:=fun {xs us i} r e=>by
  have h1:=r.length
  have h2:xs.length<=i:=List.getElem?_eq_none_iff.mp e
  exact List.getElem?_eq_none_iff.mpr (by omega)
noncomputable def RelO:Option V->Option Value->Prop
  | some v,some u=>RelV v u
  | none,none=>True
  | _,_=>False
noncomputable def KV {κ:Type}:List (κ × V)->List (κ × Value)->Prop:=Paired fun (p:κ × V) (q:κ × Value)=>p.1 = q.1/\RelV p.2 q.2
noncomputable def kV:Key->V
  | .inl i=>.int i
  | .inr x=>.str x
inductive HO where
  | lst (xs:List V)
  | tup (xs:List V)
  | dK (kvs:List (Key × V)) | dT (kvs:List (List Key × V))
  | set (S:Int->Bool) (n:Nat)
  | ins (C dx:Addr) (fs:List (Str × V))
  | own (x:Addr)
  | xd (fs:List (Str × V))
  | met (f x:Addr)
  | rng (lo hi:Int)
  | frz (o:Obj) (u:HO)
  | tbl (ps:Array Value)
  | ext (φ:Heap->Prop)
noncomputable abbrev Hp:=Addr->Option HO
noncomputable def upd (H:Hp) (a:Addr) (o:HO):Hp:=fun b=>if b = a then some o else H b
theorem qf {H:Hp} {a:Addr} {o:HO}:upd H a o a = some o:=by unfold upd;rw [if_pos rfl]
theorem qd {H:Hp} {a b:Addr} {o:HO} (h:b ≠ a):upd H a o b = H b:=by unfold upd;rw [if_neg h]
theorem zj1 {H:Hp} {a:Addr} {o u:HO}:upd (upd H a o) a u = upd H a u:=by
  funext b;unfold upd;split <;> rfl
theorem zde {H:Hp} {a b:Addr} {o u:HO} (h:H a = some o) (h':H b = some u) (d:o ≠ u):a ≠ b:=by
  intro e;subst e;rw [h] at h';exact d (Option.some.inj h')
theorem zk {H:Hp} {a b:Addr} {o:HO} (h:H a = some o) (h':H b = none):a ≠ b:=by
  intro e;subst e;rw [h] at h';cases h'
noncomputable def NoDict (h:Heap) (a:Addr):Prop:=∀ o,h.get? a = some o->o.dict = none
theorem NoDict.new {h:Heap} {its:Array Value} {n:Nat}:NoDict (h.push { cls:=.type "tuple",data:=.seq its n }) h.objs.size:=fun o e=>by
  rw [Heap.get?_push_size _ rfl] at e;cases e;rfl
section
variable (P:Program) (w:World)
noncomputable def ObjOk (H:Hp) (h:Heap) (a:Addr):HO->Prop
  | .lst xs=>xs.length<=sizeLine/\∃ (its:List Value) (n:Nat),Vals xs its/\h.get? a = some { cls:=.type "list",data:=.seq its.toArray n }
  | .tup xs=>xs.length<=sizeLine/\∃ its:List Value,Vals xs its/\IsTup h a its.toArray/\NoDict h a
  | .dK kvs=>kvs.length<=sizeLine/\(a == sysModules) = false/\∃ vs,KV kvs vs/\h.DictOf (yo P w) a vs
  | .dT kvs=>kvs.length<=sizeLine/\(a == sysModules) = false/\∃ xs:List (List Key × Addr × Value),
      Paired (fun (p:List Key × V) (q:List Key × Addr × Value)=>p.1 = q.1/\H q.2.1 = some (.tup (p.1.map kV))/\RelV p.2 q.2.2) kvs xs /\
      ∃ o es ep,h.get? a = some o/\o.ExactDict/\o.data = .dict es ep/\es.toList = xs.map (entryOfKey (tupleKind (yo P w)))/\(xs.map (·.1)).Nodup
  | .set S n=>h.SetOf (intKind P w) a S n
  | .ins C dx fs=>H dx = some (.own a)/\fs.length<=1000/\dx ≠ a/\h.get? a = some (PySem.W.instObj C dx) /\
      ∃ mA,h.Ns1 dx mA/\(∀ f,RelO (fs.lookup f) (mA f))/\PySem.Within mA (fs.map (·.1))
  | .own _=>∃ o,h.get? a = some o
  | .xd fs=>∃ mA,h.Ns1 a mA/\∀ f,RelO (fs.lookup f) (mA f)
  | .rng lo hi=>∃ t u v,h.get? a = some { cls:=.type "range",data:=.fields #[.int lo t,.int hi u,.int 1 v] }
  | .frz o u=>h.get? a = some o/\ObjOk H h a u
  | .tbl ps=>h.get? a = some { cls:=.none,data:=.fields ps }
  | .met f x=>h.get? a = some (PySem.W.methodObj (.ref f) (.ref x))
  | .ext φ=>φ h/\(∃ o,h.get? a = some o)/\∀ h1 h2:Heap,φ h1->(∀ o,h1.get? a = some o->h2.get? a = some o)->φ h2
noncomputable def HOk (H:Hp) (h:Heap):Prop:=∀ a o,H a = some o->ObjOk P w H h a o
end
section
variable {P:Program} {w:World} {H H':Hp} {h h':Heap} {a:Addr} {o:HO}
theorem ObjOk.lt (x:ObjOk P w H h a o):a < h.objs.size:=by
  cases o with
  | lst xs=>obtain ⟨_,_,_,_,e⟩:=x;exact Heap.lt_size e
  | tup xs=>obtain ⟨_,_,_,p,_⟩:=x;exact p.lt
  | dK kvs=>obtain ⟨_,_,_,_,o,_,_,e,_⟩:=x;exact Heap.lt_size e
  | dT kvs=>obtain ⟨_,_,_,_,o,_,_,e,_⟩:=x;exact Heap.lt_size e
  | set S n=>obtain ⟨o,_,_,_,e,_⟩:=x;exact Heap.lt_size e
  | ins C dx fs=>obtain ⟨_,_,_,e,_⟩:=x;exact Heap.lt_size e
  | own y=>obtain ⟨_,e⟩:=x;exact Heap.lt_size e
  | xd fs=>obtain ⟨_,⟨_,_,_,e,_⟩,_⟩:=x;exact Heap.lt_size e
  | rng lo hi=>obtain ⟨_,_,_,e⟩:=x;exact Heap.lt_size e
  | frz ob u=>obtain ⟨e,_⟩:=x;exact Heap.lt_size e
  | tbl ps=>exact Heap.lt_size (show h.get? a = some _ from x)
  | met f y=>exact Heap.lt_size (show h.get? a = some _ from x)
  | ext φ=>obtain ⟨_,⟨_,e⟩,_⟩:=x;exact Heap.lt_size e
theorem Paired.mapP {α β:Type} {F G:α->β->Prop}:∀ {l₁:List α} {l₂:List β},Paired F l₁ l₂->(∀ a b,F a b->G a b)->Paired G l₁ l₂
  | _,_,.nil,_=>.nil
  | _,_,.cons r t,f=>.cons (f _ _ r) (Paired.mapP t f)
theorem ObjOk.stay (x:ObjOk P w H h a o) (k:∀ b u,(b = a\/H b = some (.own a))->h.get? b = some u->h'.get? b = some u)
    (ho:∀ b,H b = some (.own a)->H' b = some (.own a)) (ht:∀ b xs,H b = some (.tup xs)->H' b = some (.tup xs)):ObjOk P w H' h' a o:=by
  induction o with
  | lst xs=>obtain ⟨z,its,n,r,e⟩:=x;exact ⟨z,its,n,r,k _ _ (.inl rfl) e⟩
  | tup xs=>obtain ⟨z,its,r,⟨ob,e,c⟩,nd⟩:=x;exact ⟨z,its,r,⟨ob,k _ _ (.inl rfl) e,c⟩,fun o q=>nd o (by rw [k _ _ (.inl rfl) e] at q;rw [e];exact q)⟩
  | dK kvs=>obtain ⟨z,y,vs,r,ob,es,ep,e,c⟩:=x;exact ⟨z,y,vs,r,ob,es,ep,k _ _ (.inl rfl) e,c⟩
  | dT kvs=>
    obtain ⟨z,y,xs,r,ob,es,ep,e,c⟩:=x
    exact ⟨z,y,xs,Paired.mapP r fun p q z=>⟨z.1,ht _ _ z.2.1,z.2.2⟩,ob,es,ep,k _ _ (.inl rfl) e,c⟩
  | set S n=>obtain ⟨ob,es,ep,t,e,c⟩:=x;exact ⟨ob,es,ep,t,k _ _ (.inl rfl) e,c⟩
  | ins C dx fs=>
    obtain ⟨d,z,ne,e,mA,⟨od,es,ep,e2,c⟩,r⟩:=x
    exact ⟨ho _ d,z,ne,k _ _ (.inl rfl) e,mA,⟨od,es,ep,k _ _ (.inr d) e2,c⟩,r⟩
  | own y=>obtain ⟨ob,e⟩:=x;exact ⟨ob,k _ _ (.inl rfl) e⟩
  | xd fs=>obtain ⟨mA,⟨od,es,ep,e,c⟩,r⟩:=x;exact ⟨mA,⟨od,es,ep,k _ _ (.inl rfl) e,c⟩,r⟩
  | rng lo hi=>obtain ⟨t,u,v,e⟩:=x;exact ⟨t,u,v,k _ _ (.inl rfl) e⟩
  | frz ob u ih=>obtain ⟨e,q⟩:=x;exact ⟨k _ _ (.inl rfl) e,ih q⟩
  | tbl ps=>
    have e:h.get? a = some { cls:=.none,data:=.fields ps }:=x
    show h'.get? a = some { cls:=.none,data:=.fields ps }
    exact k a _ (.inl rfl) e
  | met f y=>
    have e:h.get? a = some (PySem.W.methodObj (.ref f) (.ref y)):=x
    show h'.get? a = some (PySem.W.methodObj (.ref f) (.ref y))
    exact k a _ (.inl rfl) e
  | ext φ=>obtain ⟨p,⟨o,e⟩,st⟩:=x;exact ⟨st _ _ p fun o q=>k _ _ (.inl rfl) q,⟨o,k _ _ (.inl rfl) e⟩,st⟩
theorem HOk.lt (x:HOk P w H h) (e:H a = some o):a < h.objs.size:=(x a o e).lt
theorem HOk.fresh (x:HOk P w H h) (e:h.objs.size<=a):H a = none:=by
  cases q:H a with
  | none=>rfl
  | some u=>exact absurd (Nat.lt_of_lt_of_le (x.lt q) e) (Nat.lt_irrefl _)
theorem HOk.kept (x:HOk P w H h) (k:∀ b u,h.get? b = some u->h'.get? b = some u):HOk P w H h':=fun a o e=>
  (x a o e).stay (fun b u _ q=>k b u q) (fun _ q=>q) fun _ _ q=>q
theorem HOk.laid (x:HOk P w H h) (k:∀ b u,h.get? b = some u->h'.get? b = some u) (hp:h.objs.size<=a) (new:ObjOk P w (upd H a o) h' a o):HOk P w (upd H a o) h':=fun b u e=>by
  have hn:=x.fresh hp
  by_cases hb:b = a
  · subst hb;rw [qf] at e;cases e;exact new
  · rw [qd hb] at e
    exact (x b u e).stay (fun c v _ q=>k c v q) (fun c q=>by rw [qd (zk q hn)];exact q) fun c xs q=>by rw [qd (zk q hn)];exact q
end
noncomputable def Rd (H:Hp) (a:Addr) (u:HO):Prop:=H a = some u\/∃ o,H a = some (.frz o u)
theorem Rd.ok {P:Program} {w:World} {H:Hp} {h:Heap} {a:Addr} {u:HO} (r:Rd H a u) (x:HOk P w H h):ObjOk P w H h a u:=by
  rcases r with r | ⟨o,r⟩
  · exact x a u r
  · obtain ⟨_,q⟩:=x a _ r
    exact q
noncomputable def Mut:Option HO->Prop
  | some (.lst _)=>True
  | some (.dK _)=>True
  | some (.dT _)=>True
  | some (.set _ _)=>True
  | some (.ins _ _ _)=>True
  | some (.ext _)=>True
  | _=>False
section
variable {P:Program} {w:World} {H:Hp} {h h':Heap} {x e:Addr} {o':HO}
theorem HOk.write (ok:HOk P w H h) (mu:Mut (H x)) (he:e = x\/H e = some (.own x)) (k:∀ b u,b ≠ e->h.get? b = some u->h'.get? b = some u) (heo:∃ u,h'.get? e = some u)
    (new:ObjOk P w (upd H x o') h' x o'):HOk P w (upd H x o') h':=fun b u q=>by
  have nown:∀ c y,H c = some (.own y)->c ≠ x:=fun c y r z=>by subst z;rw [r] at mu;exact mu
  have ntup:∀ c xs,H c = some (.tup xs)->c ≠ x:=fun c xs r z=>by subst z;rw [r] at mu;exact mu
  by_cases hb:b = x
  · subst hb;rw [qf] at q;cases q;exact new
  · rw [qd hb] at q
    by_cases hbe:b = e
    · have q':H b = some (.own x):=by
        rcases he with z | z
        · exact absurd (hbe.trans z) hb
        · rw [hbe];exact z
      rw [q] at q';cases q'
      obtain ⟨v,hv⟩:=heo
      exact ⟨v,by rw [hbe];exact hv⟩
    · refine (ok b u q).stay (fun c v hc r=>k c v ?_ r) (fun c r=>by rw [qd (nown c b r)];exact r) fun c xs r=>by rw [qd (ntup c xs r)];exact r
      rcases hc with rfl | hc
      · exact hbe
      · rintro rfl
        rcases he with z | z
        · exact nown c b hc z
        · rw [hc] at z;cases z;exact hb rfl
end
structure Un (fs ex:List Addr) (H H':Hp) (h h':Heap):Prop where
  keep:∀ b o,h.get? b = some o->H b = none->b ∉ fs->b ∉ ex->h'.get? b = some o
  slot:∀ b o,h.get? b = some o->H b = none->b ∈ fs->b ∉ ex->∃ sl,h'.get? b = some { o with slots:=sl }
  free:∀ b o,h.get? b = some o->H b = none->b ∉ ex->H' b = none
  there:∀ b o,h.get? b = some o->b ∉ ex->∃ o',h'.get? b = some o'
  tups:∀ b xs,H b = some (.tup xs)->H' b = some (.tup xs)
  frzs:∀ b o u,H b = some (.frz o u)->H' b = some (.frz o u)
  tbls:∀ b ps,H b = some (.tbl ps)->∃ more,H' b = some (.tbl (ps ++ more))
section
variable {fs fs' ex ex':List Addr} {H H1 H2:Hp} {h h1 h2 h':Heap} {a x e:Addr} {o:HO}
theorem Un.any (u:Un fs ex H H1 h h1) {b:Addr} {ob:Obj} (q:h.get? b = some ob) (n:H b = none) (hx:b ∉ ex):∃ sl,h1.get? b = some { ob with slots:=sl }:=by
  by_cases hb:b ∈ fs
  · exact u.slot b ob q n hb hx
  · exact ⟨ob.slots,u.keep b ob q n hb hx⟩
theorem Un.kept (k:∀ b u,h.get? b = some u->h'.get? b = some u):Un fs ex H H h h':=
  ⟨fun b ob q _ _ _=>k b ob q,fun b ob q _ _ _=>⟨ob.slots,k b ob q⟩,fun _ _ _ n _=>n,fun b ob q _=>⟨ob,k b ob q⟩,fun _ _ q=>q,fun _ _ _ q=>q,fun _ ps q=>⟨#[],by rw [q];simp⟩⟩
theorem Un.refl:Un fs ex H H h h:=Un.kept fun _ _ q=>q
theorem Un.laid (k:∀ b u,h.get? b = some u->h'.get? b = some u) (hp:h.objs.size<=a) (hn:H a = none):Un fs ex H (upd H a o) h h' where
  keep:=fun b u q _ _ _=>k b u q
  slot:=fun b u q _ _ _=>⟨u.slots,k b u q⟩
  free:=fun b u q n _=>by rw [qd (Nat.ne_of_lt (Nat.lt_of_lt_of_le (Heap.lt_size q) hp))];exact n
  there:=fun b u q _=>⟨u,k b u q⟩
  tups:=fun b xs q=>by rw [qd (zk q hn)];exact q
  frzs:=fun b u xs q=>by rw [qd (zk q hn)];exact q
  tbls:=fun b ps q=>⟨#[],by rw [qd (zk q hn),q];simp⟩
theorem Un.write (mu:Mut (H x)) (he:e = x\/H e = some (.own x)) (k:∀ b u,b ≠ e->h.get? b = some u->h'.get? b = some u) (heo:∃ u,h'.get? e = some u):Un fs ex H (upd H x o) h h':=by
  have hx:∀ b,H b = none->b ≠ x:=fun b n z=>by subst z;rw [n] at mu;exact mu
  have hb:∀ b,H b = none->b ≠ e:=fun b n z=>by
    subst z
    rcases he with r | r
    · exact hx b n r
    · rw [n] at r;cases r
  have hm:∀ b u,H b = some u->¬ Mut (some u)->b ≠ x:=fun b u q nm z=>by subst z;rw [q] at mu;exact nm mu
  refine ⟨fun b u q n _ _=>k b u (hb b n) q,fun b u q n _ _=>⟨u.slots,k b u (hb b n) q⟩,fun b u q n _=>by rw [qd (hx b n)];exact n,fun b u q _=>?_,
    fun b xs q=>by rw [qd (hm b _ q fun z=>z)];exact q,fun b u xs q=>by rw [qd (hm b _ q fun z=>z)];exact q,fun b ps q=>⟨#[],by rw [qd (hm b _ q fun z=>z),q];simp⟩⟩
  by_cases hbe:b = e
  · subst hbe;exact heo
  · exact ⟨u,k b u hbe q⟩
end
noncomputable def trk (h:Heap) (H:Hp):List Addr:=(List.range h.objs.size).filter fun a=>(H a).isSome
noncomputable def zbr (h:Heap) (H:Hp):Heap:=PySem.W.hideAll h (trk h H)
theorem zil (h:Heap) (H:Hp):(zbr h H).objs.size = h.objs.size:=PySem.W.hideAll_size _ _
theorem zjr {h:Heap} {H:Hp} {b:Addr} {o:Obj} (e:h.get? b = some o) (n:H b = none):(zbr h H).get? b = some o:=
  PySem.W.hideAll_get _ e fun hm=>by
    have q:(H b).isSome = true:=(List.mem_filter.mp hm).2
    rw [n] at q;simp at q
theorem zkw {h:Heap} {H:Hp} {b:Addr} {o:Obj} (e:(zbr h H).get? b = some o):h.get? b = some o/\H b = none:=by
  have e':h.get? b = some o:=PySem.W.of_hideAll (trk h H) e
  refine ⟨e',?_⟩
  cases q:H b with
  | none=>rfl
  | some x=>
    have hm:b ∈ trk h H:=List.mem_filter.mpr ⟨List.mem_range.mpr (Heap.lt_size e'),by simp [q]⟩
    have z:(zbr h H).get? b = none:=PySem.W.hideAll_none (trk h H) hm
    rw [z] at e;cases e
noncomputable def zlg (g h:Heap) (L:Addr):List (Addr × Obj):=(List.range h.objs.size).filterMap fun a=>if a = L\/(g.get? a).isSome = true then none else (h.get? a).map fun o=>(a,o)
noncomputable def rest (g h:Heap) (L d:Addr):List (Addr × Obj):=(zlg g h L).filter fun p=>decide (p.1 ≠ d)
end L2
namespace L2
open PySem PySem.Spec PyProof.Rows
structure Mod (K:PySem.W.Frag) (mg:Str->Option Value) (base:Heap):Prop where
  kin:K.In base
  glob:base.Ns mainGlobals mg
  blt:∃ mb,base.Ns builtinsNs mb/\∀ x:Str,x ≠ "__name__"->mb x = bootBuiltins x
  nolimit:base.NoLimit
structure Cx where
  prog:Program
  w:World
  K:PySem.W.Frag
  mg:Str->Option Value
  base:Heap
  A:Around
  N:List Str
  s₀:Shared
  H₀:Hp
  env:Env
  outer:List Env
  stack:List Env
  ex:List Addr
  fn:Str->Bool
  calm:Bool
  pn:List (Addr × Obj)
  xe:Value->Shared->Prop
noncomputable def frs (l:List Env):List Addr:=l.filterMap (·.frame)
noncomputable abbrev Cx.fs (X:Cx):List Addr:=frs X.outer
noncomputable def Vis (sc:Scope) (x:Str):Prop:=sc.names.lookup x = some .local\/sc.names.lookup x = some .cell\/sc.names.lookup x = some .free
noncomputable def Loc (sc:Scope) (x:Str):Prop:=sc.names.lookup x = some .local\/sc.names.lookup x = some .cell
noncomputable def Look (env:Env) (h:Heap) (m:Str->Option Value) (x:Str) (u:Value):Prop:=
  (env.kindOf x = some .local/\m x = some u)\/((env.kindOf x = some .cell\/env.kindOf x = some .free)/\∃ c,env.cells.lookup x = some c/\h.IsCell c (some u))
structure Cx.Ok (X:Cx):Prop where
  mod:Mod X.K X.mg X.base
  kind:X.env.scope.kind = .function
  glob:X.env.globals = mainGlobals
  blt:X.env.builtins = builtinsNs
  above:X.s₀.heap.objs.size<=X.env.locals
  inj:∀ x y c,X.env.cells.lookup x = some c->X.env.cells.lookup y = some c->x = y
  has:∀ x,(X.env.kindOf x = some .cell\/X.env.kindOf x = some .free)->∃ c,X.env.cells.lookup x = some c
  cab:∀ x c,X.fn x = true->X.env.cells.lookup x = some c->X.s₀.heap.objs.size<=c
  hd:X.calm = true->X.A.handled = none
  frames:X.A.frames = some X.stack
  stk:X.stack = X.outer\/(X.stack = X.env :: X.outer/\X.env.frame = some X.env.locals)
  exf:∀ b ∈ X.ex,b ≠ X.env.locals/\∀ x c,X.env.cells.lookup x = some c->c ≠ b
  bs:∀ b o,X.base.get? b = some o->X.s₀.heap.get? b = some o/\X.H₀ b = none
  bsz:X.base.objs.size<=X.s₀.heap.objs.size
  noex:∀ b o,X.base.get? b = some o->b ∉ X.ex
  exfs:∀ b ∈ X.ex,b ∉ X.fs
  funs:X.s₀.heap.FunFrames X.base X.outer
  frf:∀ b ∈ X.fs,X.H₀ b = none
structure Inv (X:Cx) (pins:List (Addr × Obj)) (σ:List (Option V)) (H:Hp) (s:Shared):Prop where
  ok:X.Ok
  os:s.os = X.s₀.os
  bare:AllBare s.gens
  base:Un X.fs X.ex X.H₀ H X.s₀.heap s.heap
  loc:∃ m,s.heap.Ns X.env.locals m/\∀ (i:Nat) (x:Str) (v:V),X.N[i]? = some x->σ[i]? = some (some v)->Vis X.env.scope x->∃ u,RelV v u/\Look X.env s.heap m x u
  cell:∀ x c,X.env.cells.lookup x = some c->∃ v,s.heap.IsCell c v
  free:H X.env.locals = none
  freeC:∀ x c,X.env.cells.lookup x = some c->H c = none
  pin:∀ p ∈ X.pn ++ pins,s.heap.get? p.1 = some p.2/\H p.1 = none/\p.1 ≠ X.env.locals/\p.1 ∉ X.fs/\∀ v,p.2.data ≠ .cell v
  hok:HOk X.prog X.w H s.heap
  len:σ.length = X.N.length
section
variable {X:Cx} {pins:List (Addr × Obj)} {σ:List (Option V)} {H H':Hp} {s:Shared} {h':Heap}
theorem Cx.Ok.nofr (ok:X.Ok) {b:Addr} {o:Obj} (e:X.base.get? b = some o):b ∉ X.fs:=fun hb=>by
  have:=(ok.funs.mem hb).1
  rw [e] at this;cases this
theorem Inv.bs (I:Inv X pins σ H s):∀ b o,X.base.get? b = some o->s.heap.get? b = some o/\H b = none:=fun b o e=>
  ⟨I.base.keep b o (I.ok.bs b o e).1 (I.ok.bs b o e).2 (I.ok.nofr e) (I.ok.noex b o e),I.base.free b o (I.ok.bs b o e).1 (I.ok.bs b o e).2 (I.ok.noex b o e)⟩
theorem Inv.bk (I:Inv X pins σ H s):∀ b o,X.base.get? b = some o->s.heap.get? b = some o:=fun b o e=>(I.bs b o e).1
theorem Inv.mod (I:Inv X pins σ H s):Mod X.K X.mg X.base:=I.ok.mod
theorem Inv.kIn (I:Inv X pins σ H s):X.K.In s.heap:=I.ok.mod.kin.keeps I.bk
theorem Inv.fr (I:Inv X pins σ H s):∃ m,Fr X.base X.env.locals s.heap m:=
  let ⟨m,hn,_⟩:=I.loc
  ⟨m,hn,I.bk,Nat.le_trans I.ok.bsz I.ok.above⟩
theorem Inv.lt (I:Inv X pins σ H s):X.env.locals < s.heap.objs.size:=let ⟨_,hn,_⟩:=I.loc;hn.lt
theorem Inv.sz (I:Inv X pins σ H s):X.s₀.heap.objs.size<=s.heap.objs.size:=Nat.le_trans I.ok.above (Nat.le_of_lt I.lt)
theorem Inv.nofs (I:Inv X pins σ H s) {a:Addr} (h:s.heap.objs.size<=a):a ∉ X.fs:=fun hb=>by
  obtain ⟨_,o,ho,_⟩:=I.ok.funs.mem hb
  exact absurd (Nat.lt_of_lt_of_le (Heap.lt_size ho) (Nat.le_trans I.sz h)) (Nat.lt_irrefl _)
theorem Inv.cne (I:Inv X pins σ H s):∀ x c,X.env.cells.lookup x = some c->c ≠ X.env.locals:=fun x c e z=>by
  obtain ⟨v,o,ho,hd⟩:=I.cell x c e
  obtain ⟨m,⟨o',es,ep,ho',hd',_⟩,_⟩:=I.loc
  rw [z,ho'] at ho;cases ho;rw [hd'] at hd;cases hd
theorem Inv.funs (I:Inv X pins σ H s):s.heap.FunFrames X.base X.outer:=by
  have all:∀ (l:List Env),(∀ b ∈ frs l,b ∈ X.fs)->X.s₀.heap.FunFrames X.base l->s.heap.FunFrames X.base l:=by
    intro l
    induction l with
    | nil=>intro _ _;trivial
    | cons env r ih=>
      intro hs hl
      obtain ⟨hk,⟨L,o,hf,hn,ho,hd⟩,hr⟩:=hl
      have hL:L ∈ X.fs:=hs L (by unfold frs;rw [List.filterMap_cons,hf];exact List.mem_cons_self)
      obtain ⟨sl,e⟩:=I.base.slot L o ho (I.ok.frf L hL) hL fun z=>I.ok.exfs L z hL
      exact ⟨hk,⟨L,_,hf,hn,e,hd⟩,ih (fun b hb=>hs b (by unfold frs;rw [List.filterMap_cons,hf];exact List.mem_cons_of_mem _ hb)) hr⟩
  exact all X.outer (fun _ hb=>hb) I.ok.funs
theorem Inv.stack (I:Inv X pins σ H s):s.heap.FunFrames X.base X.stack:=by
  rcases I.ok.stk with e | ⟨e,hf⟩
  · rw [e];exact I.funs
  · rw [e]
    obtain ⟨m,hn,_⟩:=I.loc
    refine .cons (by rw [I.ok.kind];decide) hf hn ?_ I.funs
    exact Heap.get?_none_of_le (Nat.le_trans I.ok.bsz I.ok.above)
theorem Inv.stkSub (I:Inv X pins σ H s):∀ b ∈ frs X.stack,b ∈ X.env.locals :: X.fs:=fun b hb=>by
  rcases I.ok.stk with e | ⟨e,hf⟩
  · rw [e] at hb;exact List.mem_cons_of_mem _ hb
  · rw [e] at hb
    unfold frs at hb
    rw [List.filterMap_cons,hf] at hb
    exact hb
theorem Inv.stkFree (I:Inv X pins σ H s):∀ b ∈ frs X.stack,H b = none:=fun b hb=>by
  rcases List.mem_cons.mp (I.stkSub b hb) with e | hb
  · rw [e];exact I.free
  · obtain ⟨_,o,ho,_⟩:=I.ok.funs.mem hb
    exact I.base.free b o ho (I.ok.frf b hb) fun z=>I.ok.exfs b z hb
theorem Inv.step {g':Array GenState} {t':Nat} {d':Drawn} {ch:List Addr} (I:Inv X pins σ H s)
    (hch:∀ b ∈ ch,(b ∈ X.ex\/X.s₀.heap.objs.size<=b)/\b ≠ X.env.locals/\(∀ x c,X.env.cells.lookup x = some c->c ≠ b)/\∀ p ∈ X.pn ++ pins,p.1 ≠ b)
    (keep:∀ b o,b ≠ X.env.locals->b ∉ X.fs->b ∉ ch->s.heap.get? b = some o->H b = none->h'.get? b = some o)
    (slot:∀ b o,b ≠ X.env.locals->b ∈ X.fs->b ∉ ch->s.heap.get? b = some o->H b = none->∃ sl,h'.get? b = some { o with slots:=sl }) (free:∀ b o,b ∉ ch->s.heap.get? b = some o->H b = none->H' b = none)
    (there:∀ b o,b ∉ ch->s.heap.get? b = some o->∃ o',h'.get? b = some o')
    (tups:∀ b xs,H b = some (.tup xs)->H' b = some (.tup xs)) (frzs:∀ b o u,H b = some (.frz o u)->H' b = some (.frz o u)) (tbls:∀ b ps,H b = some (.tbl ps)->∃ more,H' b = some (.tbl (ps ++ more)))
    (ns:∀ m,s.heap.Ns X.env.locals m->h'.Ns X.env.locals m) (hok:HOk X.prog X.w H' h') (hg:AllBare g') :
    Inv X pins σ H' { s with heap:=h',gens:=g',drawn:=d',toks:=t' }:=by
  have neL:∀ b o,X.s₀.heap.get? b = some o->b ≠ X.env.locals:=fun b o e=>Nat.ne_of_lt (Nat.lt_of_lt_of_le (Heap.lt_size e) I.ok.above)
  have neC:∀ b o,X.s₀.heap.get? b = some o->b ∉ X.ex->b ∉ ch:=fun b o e hx hb=>by
    rcases (hch b hb).1 with z | z
    · exact hx z
    · exact absurd (Nat.lt_of_lt_of_le (Heap.lt_size e) z) (Nat.lt_irrefl _)
  have cellK:∀ x c,X.env.cells.lookup x = some c->∀ v,s.heap.IsCell c v->h'.IsCell c v:=fun x c e v h9=>by
    obtain ⟨o,ho,hd⟩:=h9
    have nch:c ∉ ch:=fun z=>(hch c z).2.2.1 x c e rfl
    by_cases hc:c ∈ X.fs
    · obtain ⟨sl,q⟩:=slot c o (I.cne x c e) hc nch ho (I.freeC x c e)
      exact ⟨_,q,hd⟩
    · exact ⟨o,keep c o (I.cne x c e) hc nch ho (I.freeC x c e),hd⟩
  refine ⟨I.ok,I.os,hg,⟨fun b o e n hb hx=>?_,fun b o e n hb hx=>?_,fun b o e n hx=>?_,fun b o e hx=>?_,fun b xs e=>tups b xs (I.base.tups b xs e),fun b o xs e=>frzs b o xs (I.base.frzs b o xs e),fun b ps e=>?_⟩,?_,fun x c e=>?_,?_,fun x c e=>?_,fun p hp=>?_,hok,I.len⟩
  · exact keep b o (neL b o e) hb (neC b o e hx) (I.base.keep b o e n hb hx) (I.base.free b o e n hx)
  · obtain ⟨sl,e1⟩:=I.base.slot b o e n hb hx
    obtain ⟨sl',e2⟩:=slot b _ (neL b o e) hb (neC b o e hx) e1 (I.base.free b o e n hx)
    exact ⟨sl',e2⟩
  · obtain ⟨o',e1⟩:=I.base.there b o e hx
    exact free b o' (neC b o e hx) e1 (I.base.free b o e n hx)
  · obtain ⟨o',e1⟩:=I.base.there b o e hx
    exact there b o' (neC b o e hx) e1
  · obtain ⟨m1,e1⟩:=I.base.tbls b ps e
    obtain ⟨m2,e2⟩:=tbls b _ e1
    exact ⟨m1 ++ m2,by rw [e2,Array.append_assoc]⟩
  · obtain ⟨m,hn,hl⟩:=I.loc
    refine ⟨m,ns m hn,fun i x v e1 e2 e3=>?_⟩
    obtain ⟨u,r,l⟩:=hl i x v e1 e2 e3
    refine ⟨u,r,?_⟩
    rcases l with l | ⟨k,c,e,z⟩
    · exact .inl l
    · exact .inr ⟨k,c,e,cellK x c e _ z⟩
  · obtain ⟨v,z⟩:=I.cell x c e
    exact ⟨v,cellK x c e v z⟩
  · obtain ⟨m,⟨o,_,_,ho,_⟩,_⟩:=I.loc
    exact free _ o (fun z=>(hch _ z).2.1 rfl) ho I.free
  · obtain ⟨v,o,ho,hd⟩:=I.cell x c e
    exact free c o (fun z=>(hch c z).2.2.1 x c e rfl) ho (I.freeC x c e)
  · obtain ⟨e,n,ne,nf,d⟩:=I.pin p hp
    have nch:p.1 ∉ ch:=fun z=>(hch p.1 z).2.2.2 p hp rfl
    exact ⟨keep p.1 p.2 ne nf nch e n,free p.1 p.2 nch e n,ne,nf,d⟩
theorem Inv.un {t':Nat} (I:Inv X pins σ H s) (u:Un X.fs [] H H' s.heap h') (hok:HOk X.prog X.w H' h'):Inv X pins σ H' { s with heap:=h',toks:=t' }:=by
  obtain ⟨m,⟨o,es,ep,ho,r⟩,_⟩:=id I.loc
  obtain ⟨sl,hL⟩:=u.any ho I.free (by simp)
  exact I.step (g':=s.gens) (d':=s.drawn) (ch:=[]) (fun _ z=>nomatch z) (fun b o _ hb _ e n=>u.keep b o e n hb (by simp)) (fun b o _ hb _ e n=>u.slot b o e n hb (by simp)) (fun b o _ e n=>u.free b o e n (by simp)) (fun b o _ e=>u.there b o e (by simp)) u.tups u.frzs u.tbls (fun m' hm=>by
    obtain ⟨o',es',ep',ho',r'⟩:=hm
    rw [ho] at ho';cases ho'
    exact ⟨_,es',ep',hL,r'⟩) hok I.bare
theorem Inv.call {g':Array GenState} {t':Nat} {d':Drawn} {ch:List Addr} (I:Inv X pins σ H s) (u:Un (frs X.stack) ch H H' s.heap h') (hok:HOk X.prog X.w H' h') (hg:AllBare g')
    (hch:∀ b ∈ ch,(b ∈ X.ex\/X.s₀.heap.objs.size<=b)/\b ≠ X.env.locals/\(∀ x c,X.env.cells.lookup x = some c->c ≠ b)/\∀ p ∈ X.pn ++ pins,p.1 ≠ b) :
    Inv X pins σ H' { s with heap:=h',gens:=g',drawn:=d',toks:=t' }:=by
  obtain ⟨m,⟨o,es,ep,ho,r⟩,_⟩:=id I.loc
  obtain ⟨sl,hL⟩:=u.any ho I.free fun z=>(hch _ z).2.1 rfl
  exact I.step (ch:=ch) hch (fun b o hL hb hc e n=>u.keep b o e n (fun z=>(List.mem_cons.mp (I.stkSub b z)).elim hL hb) hc) (fun b o _ _ hc e n=>u.any e n hc) (fun b o hc e n=>u.free b o e n hc) (fun b o hc e=>u.there b o e hc) u.tups u.frzs u.tbls (fun m' hm=>by
    obtain ⟨o',es',ep',ho',r'⟩:=hm
    rw [ho] at ho';cases ho'
    exact ⟨_,es',ep',hL,r'⟩) hok hg
theorem Inv.turned {t':Nat} {it:Addr} (I:Inv X pins σ H s) (k:∀ b o,b ≠ it->s.heap.get? b = some o->h'.get? b = some o) (hn:H it = none) (hL:it ≠ X.env.locals)
    (h1:it ∈ X.ex\/X.s₀.heap.objs.size<=it) (h2:∀ x c,X.env.cells.lookup x = some c->c ≠ it) (h3:∀ p ∈ X.pn ++ pins,p.1 ≠ it):Inv X pins σ H { s with heap:=h',toks:=t' }:=by
  have nit:∀ b u,H b = some u->b ≠ it:=fun b u e z=>by rw [z,hn] at e;cases e
  refine I.step (g':=s.gens) (d':=s.drawn) (ch:=[it]) (fun b hb=>?_) (fun b o _ _ hc e _=>k b o (fun z=>hc (by simp [z])) e) (fun b o _ _ hc e _=>⟨o.slots,k b o (fun z=>hc (by simp [z])) e⟩) (fun _ _ _ _ n=>n)
    (fun b o hc e=>⟨o,k b o (fun z=>hc (by simp [z])) e⟩) (fun _ _ e=>e) (fun _ _ _ e=>e) (fun b ps e=>⟨#[],by rw [e];simp⟩) (fun m hm=>?_) (fun b u e=>?_) I.bare
  · have e:b = it:=by simpa using hb
    subst e
    exact ⟨h1,hL,h2,h3⟩
  · obtain ⟨o,es,ep,ho,r⟩:=hm
    exact ⟨o,es,ep,k _ o (Ne.symm hL) ho,r⟩
  · refine (I.hok b u e).stay (fun c v hc q=>k c v ?_ q) (fun _ q=>q) fun _ _ q=>q
    rcases hc with z | z
    · rw [z];exact nit b u e
    · exact nit c _ z
theorem Inv.tok (I:Inv X pins σ H s) (t:Nat):Inv X pins σ H { s with toks:=t }:=I.un (h':=s.heap) (t':=t) Un.refl I.hok
theorem Inv.kept {t':Nat} (I:Inv X pins σ H s) (k:∀ b u,s.heap.get? b = some u->h'.get? b = some u):Inv X pins σ H { s with heap:=h',toks:=t' }:=I.un (Un.kept k) (I.hok.kept k)
theorem Inv.laid {a:Addr} {o:HO} {t':Nat} (I:Inv X pins σ H s) (k:∀ b u,s.heap.get? b = some u->h'.get? b = some u) (hp:s.heap.objs.size<=a) (new:ObjOk X.prog X.w (upd H a o) h' a o) :
    Inv X pins σ (upd H a o) { s with heap:=h',toks:=t' }:=I.un (Un.laid k hp (I.hok.fresh hp)) (I.hok.laid k hp new)
theorem Inv.write {x e:Addr} {o:HO} {t':Nat} (I:Inv X pins σ H s) (mu:Mut (H x)) (he:e = x\/H e = some (.own x)) (k:∀ b u,b ≠ e->s.heap.get? b = some u->h'.get? b = some u) (heo:∃ u,h'.get? e = some u)
    (new:ObjOk X.prog X.w (upd H x o) h' x o):Inv X pins σ (upd H x o) { s with heap:=h',toks:=t' }:=I.un (Un.write mu he k heo) (I.hok.write mu he k heo new)
theorem Inv.pins_of {pins':List (Addr × Obj)} (I:Inv X pins σ H s) (h:∀ p ∈ pins',s.heap.get? p.1 = some p.2/\H p.1 = none/\p.1 ≠ X.env.locals/\p.1 ∉ X.fs/\∀ v,p.2.data ≠ .cell v):Inv X pins' σ H s:=
  ⟨I.ok,I.os,I.bare,I.base,I.loc,I.cell,I.free,I.freeC,fun p hp=>(List.mem_append.mp hp).elim (fun z=>I.pin p (List.mem_append_left _ z)) (h p),I.hok,I.len⟩
theorem zcO {N:List Str} (hN:N.Nodup) {i j:Nat} {x:Str} (a:N[i]? = some x) (b:N[j]? = some x):i = j:=by
  obtain ⟨h1,e1⟩:=List.getElem?_eq_some_iff.mp a
  obtain ⟨h2,e2⟩:=List.getElem?_eq_some_iff.mp b
  exact (List.getElem_inj hN).mp (e1.trans e2.symm)
theorem zhX {M:Model} {A:Around} {E:Value->Shared->Prop} {i:Nat} {x:Str} {v:V} {u:Value} {Q:Unit->Shared->Prop} (I:Inv X pins σ H s) (hN:X.N.Nodup) (hi:X.N[i]? = some x) (hx:Loc X.env.scope x) (r:RelV v u)
    (h:∀ s',Inv X pins (σ.set i (some v)) H s'->(∃ a,Heap.SameBut a s.heap s'.heap/\(a = X.env.locals\/X.env.cells.lookup x = some a))->Q () s') (hf:X.fn x = true\/X.env.scope.names.lookup x = some .local:=by first | exact .inl rfl | exact .inr rfl | assumption):wpAny M A (storeName X.env x u) Q E s:=by
  obtain ⟨m,hn,hl⟩:=id I.loc
  have hcls:(X.env.scope.kind == .class || (X.env.scope.kind == .module && X.env.locals != X.env.globals)) = false:=by rw [I.ok.kind];rfl
  have hiσ:i < σ.length:=by rw [I.len];exact (List.getElem?_eq_some_iff.mp hi).1
  have cne:=I.cne
  have tracked:∀ {a:Addr} {h':Heap},(∃ o,s.heap.get? a = some o/\H a = none)->Heap.SameBut a s.heap h'->HOk X.prog X.w H h':=fun {a h'} ha hs b ob e=>by
    obtain ⟨_,_,hfree⟩:=ha
    refine (I.hok b ob e).stay (fun c w' hc q=>(hs.2 c ?_).trans q) (fun _ q=>q) fun _ _ q=>q
    rintro rfl
    rcases hc with rfl | hc
    · rw [hfree] at e;cases e
    · rw [hfree] at hc;cases hc
  rcases hx with hk | hk
  · refine wpAny_storeName_local hk hn (fun h' hn' hs=>?_) hcls
    obtain ⟨oL,_,_,hoL,_⟩:=id hn
    refine h _ ⟨I.ok,I.os,I.bare,⟨fun b o e n hb hx=>?_,fun b o e n hb hx=>?_,I.base.free,fun b o e hx=>?_,I.base.tups,I.base.frzs,I.base.tbls⟩,⟨_,hn',fun j y v' e1 e2 e3=>?_⟩,fun y c e=>?_,I.free,I.freeC,fun p hp=>?_,tracked ⟨oL,hoL,I.free⟩ hs,by simpa using I.len⟩ ⟨_,hs,.inl rfl⟩
    · exact (hs.2 b (Nat.ne_of_lt (Nat.lt_of_lt_of_le (Heap.lt_size e) I.ok.above))).trans (I.base.keep b o e n hb hx)
    · obtain ⟨sl,e1⟩:=I.base.slot b o e n hb hx
      exact ⟨sl,(hs.2 b (Nat.ne_of_lt (Nat.lt_of_lt_of_le (Heap.lt_size e) I.ok.above))).trans e1⟩
    · obtain ⟨o',e1⟩:=I.base.there b o e hx
      exact ⟨o',(hs.2 b (Nat.ne_of_lt (Nat.lt_of_lt_of_le (Heap.lt_size e) I.ok.above))).trans e1⟩
    · by_cases hj:j = i
      · subst hj
        rw [hi] at e1;cases e1
        rw [List.getElem?_set_self hiσ] at e2
        cases e2
        exact ⟨u,r,.inl ⟨hk,by simp⟩⟩
      · rw [List.getElem?_set_ne (Ne.symm hj)] at e2
        obtain ⟨u',r',q⟩:=hl j y v' e1 e2 e3
        refine ⟨u',r',?_⟩
        rcases q with ⟨k,e⟩ | ⟨k,c,e,z⟩
        · refine .inl ⟨k,?_⟩
          have:y ≠ x:=fun e=>hj (zcO hN e1 (e ▸ hi))
          simp [this,e]
        · exact .inr ⟨k,c,e,z.sameBut hs (cne y c e)⟩
    · obtain ⟨w',z⟩:=I.cell y c e
      exact ⟨w',z.sameBut hs (cne y c e)⟩
    · obtain ⟨e,n,ne,nf,d⟩:=I.pin p hp
      exact ⟨(hs.2 p.1 ne).trans e,n,ne,nf,d⟩
  · have hfn:X.fn x = true:=by
      rcases hf with z | z
      · exact z
      · rw [z] at hk;cases hk
    obtain ⟨c,hc⟩:=I.ok.has x (.inl hk)
    obtain ⟨w',z⟩:=I.cell x c hc
    refine wpAny_storeName_cell I.ok.kind hk hc z (fun h' hc' hs=>?_)
    obtain ⟨oc,hoc,hocd⟩:=id z
    refine h { s with heap:=h' } ⟨I.ok,I.os,I.bare,⟨fun b o e n hb hx=>?_,fun b o e n hb hx=>?_,I.base.free,fun b o e hx=>?_,I.base.tups,I.base.frzs,I.base.tbls⟩,⟨m,hn.sameBut hs (Ne.symm (cne x c hc)),fun j y v' e1 e2 e3=>?_⟩,fun y c' e=>?_,I.free,I.freeC,fun p hp=>?_,tracked ⟨oc,hoc,I.freeC x c hc⟩ hs,by simpa using I.len⟩ ⟨c,hs,.inr hc⟩
    · exact (hs.2 b (Nat.ne_of_lt (Nat.lt_of_lt_of_le (Heap.lt_size e) (I.ok.cab x c hfn hc)))).trans (I.base.keep b o e n hb hx)
    · obtain ⟨sl,e1⟩:=I.base.slot b o e n hb hx
      exact ⟨sl,(hs.2 b (Nat.ne_of_lt (Nat.lt_of_lt_of_le (Heap.lt_size e) (I.ok.cab x c hfn hc)))).trans e1⟩
    · obtain ⟨o',e1⟩:=I.base.there b o e hx
      exact ⟨o',(hs.2 b (Nat.ne_of_lt (Nat.lt_of_lt_of_le (Heap.lt_size e) (I.ok.cab x c hfn hc)))).trans e1⟩
    · by_cases hj:j = i
      · subst hj
        rw [hi] at e1;cases e1
        rw [List.getElem?_set_self hiσ] at e2
        cases e2
        exact ⟨u,r,.inr ⟨.inl hk,c,hc,hc'⟩⟩
      · rw [List.getElem?_set_ne (Ne.symm hj)] at e2
        obtain ⟨u',r',q⟩:=hl j y v' e1 e2 e3
        refine ⟨u',r',?_⟩
        rcases q with q | ⟨k,c',e,z'⟩
        · exact .inl q
        · refine .inr ⟨k,c',e,z'.sameBut hs ?_⟩
          rintro rfl
          exact hj (zcO hN e1 (I.ok.inj _ _ _ e hc ▸ hi))
    · by_cases hcc:c' = c
      · subst hcc;exact ⟨_,hc'⟩
      · obtain ⟨w2,z2⟩:=I.cell y c' e
        exact ⟨w2,z2.sameBut hs hcc⟩
    · obtain ⟨e,n,ne,nf,d⟩:=I.pin p hp
      refine ⟨(hs.2 p.1 ?_).trans e,n,ne,nf,d⟩
      intro q
      rw [q,hoc] at e
      have q':oc = p.2:=Option.some.inj e
      exact d w' (by rw [← q'];exact hocd)
theorem zan {M:Model} {A:Around} {E:Value->Shared->Prop} {i:Nat} {x:Str} {v:V} {u:Value} {Q:Unit->Shared->Prop} (I:Inv X pins σ H s) (hN:X.N.Nodup) (hi:X.N[i]? = some x) (hx:Loc X.env.scope x) (r:RelV v u)
    (h:∀ s',Inv X pins (σ.set i (some v)) H s'->Q () s') (hf:X.fn x = true\/X.env.scope.names.lookup x = some .local:=by first | exact .inl rfl | exact .inr rfl | assumption):wpAny M A (storeName X.env x u) Q E s:=
  zhX I hN hi hx r (fun s' I' _=>h s' I') hf
theorem Inv.call' {s':Shared} {ch:List Addr} (I:Inv X pins σ H s) (ho:s'.os = s.os) (u:Un (frs X.stack) ch H H' s.heap s'.heap) (hok:HOk X.prog X.w H' s'.heap) (hg:AllBare s'.gens)
    (hch:∀ b ∈ ch,(b ∈ X.ex\/X.s₀.heap.objs.size<=b)/\b ≠ X.env.locals/\(∀ x c,X.env.cells.lookup x = some c->c ≠ b)/\∀ p ∈ X.pn ++ pins,p.1 ≠ b):Inv X pins σ H' s':=by
  obtain ⟨h',g',d',t',o'⟩:=s'
  have e:o' = s.os:=ho
  subst e
  exact I.call (g':=g') (t':=t') (d':=d') u hok hg hch
end
noncomputable abbrev XK:=Value->Option Addr->Hp->Prop
noncomputable abbrev St:=List (Option V)
noncomputable abbrev VK:=V->Hp->Prop
noncomputable abbrev TE:=St->Hp->VK->Prop
noncomputable abbrev TT:=St->Hp->(Bool->Hp->Prop)->Prop
noncomputable abbrev TA:=St->Hp->(List V->Hp->Prop)->Prop
structure Ends where
  nx:St->Hp->Prop
  rt:VK
  bk:St->Hp->Prop:=fun _ _=>False
  ct:St->Hp->Prop:=fun _ _=>False
noncomputable abbrev TS:=Ends->St->Hp->Prop
noncomputable def EP (X:Cx) (pins:List (Addr × Obj)) (σ:St) (Q:VK) (u:Value) (s':Shared):Prop:=∃ v H',Inv X pins σ H' s'/\RelV v u/\Q v H'
noncomputable def TP (X:Cx) (pins:List (Addr × Obj)) (σ:St) (Q:Bool->Hp->Prop) (b:Bool) (s':Shared):Prop:=∃ H',Inv X pins σ H' s'/\Q b H'
noncomputable def AP (X:Cx) (pins:List (Addr × Obj)) (σ:St) (Q:List V->Hp->Prop) (us:List Value) (s':Shared):Prop:=∃ vs H',Inv X pins σ H' s'/\Vals vs us/\Q vs H'
noncomputable def SP (X:Cx) (pins:List (Addr × Obj)) (D:Ends) (f:Flow) (s':Shared):Prop:=
  match f with
  | .next=>∃ σ' H',Inv X pins σ' H' s'/\D.nx σ' H'
  | .brk=>∃ σ' H',Inv X pins σ' H' s'/\D.bk σ' H'
  | .cont=>∃ σ' H',Inv X pins σ' H' s'/\D.ct σ' H'
  | .ret u=>∃ v σ' H',Inv X pins σ' H' s'/\RelV v u/\D.rt v H'
noncomputable def PE (X:Cx) (e:Expr) (t:TE):Prop:=
  ∀ (pins:List (Addr × Obj)) (s:Shared) (σ:St) (H:Hp) (Q:VK),Inv X pins σ H s->t σ H Q->wpAny (model X.prog X.w) X.A (eval e X.env) (EP X pins σ Q) X.xe s
noncomputable def PT (X:Cx) (e:Expr) (t:TT):Prop:=
  ∀ (pins:List (Addr × Obj)) (s:Shared) (σ:St) (H:Hp) (Q:Bool->Hp->Prop),Inv X pins σ H s->t σ H Q->wpAny (model X.prog X.w) X.A (isTrue e X.env (eval e X.env)) (TP X pins σ Q) X.xe s
noncomputable def PW (X:Cx) (e:Expr) (t:TT):Prop:=
  ∀ (whole:Sem Value) (pins:List (Addr × Obj)) (s:Shared) (σ:St) (H:Hp) (Q:Bool->Hp->Prop),Inv X pins σ H s->t σ H Q->wpAny (model X.prog X.w) X.A (isTrue e X.env whole) (TP X pins σ Q) X.xe s
theorem PW.pt {X:Cx} {e:Expr} {t:TT} (h:PW X e t):PT X e t:=h _
noncomputable def PA (X:Cx) (es:List Expr) (t:TA):Prop:=
  ∀ (pos:Pos) (pins:List (Addr × Obj)) (s:Shared) (σ:St) (H:Hp) (Q:List V->Hp->Prop),Inv X pins σ H s->t σ H Q->wpAny (model X.prog X.w) X.A (spliced (backTo pos (starEach es X.env))) (AP X pins σ Q) X.xe s
noncomputable def PS (X:Cx) (st:Stmt) (t:TS):Prop:=
  ∀ (pins:List (Addr × Obj)) (s:Shared) (σ:St) (H:Hp) (D:Ends),Inv X pins σ H s->t D σ H->wpAny (model X.prog X.w) X.A (exec st X.env) (SP X pins D) X.xe s
noncomputable def PSs (X:Cx) (st:List Stmt) (t:TS):Prop:=
  ∀ (pins:List (Addr × Obj)) (s:Shared) (σ:St) (H:Hp) (D:Ends),Inv X pins σ H s->t D σ H->wpAny (model X.prog X.w) X.A (execs st X.env) (SP X pins D) X.xe s
theorem thn {α:Type} {t:Sem α} {Q Q':α->Shared->Prop} {M:Model} {A:Around} {E:Value->Shared->Prop} {s:Shared} (h:wpAny M A t Q E s) (hQ:∀ a s,Q a s->Q' a s):wpAny M A t Q' E s:=wpAny_mono h hQ fun _ _ x=>x
end L2
namespace L2
open PySem PySem.Spec PyProof.Rows
section
variable {X:Cx}
theorem bin {a b:Expr} {ta tb:TE} (ha:PE X a ta) (hb:PE X b tb) {pins:List (Addr × Obj)} {s:Shared} {σ:St} {H:Hp} {R:V->V->Hp->Prop} (I:Inv X pins σ H s) (h:ta σ H fun x H1=>tb σ H1 fun y H2=>R x y H2)
    {α:Type} {Q:α->Shared->Prop} {f:Value->Value->Sem α}
    (hf:∀ v u s2 x y H2,Inv X pins σ H2 s2->RelV x v->RelV y u->R x y H2->wpAny (model X.prog X.w) X.A (f v u) Q X.xe s2) :
    wpAny (model X.prog X.w) X.A (eval a X.env) (fun v s₁=>wpAny (model X.prog X.w) X.A (eval b X.env) (fun u s₂=>wpAny (model X.prog X.w) X.A (f v u) Q X.xe s₂) X.xe s₁) X.xe s:=by
  refine thn (ha pins s σ H _ I h) fun v s1 ⟨x,H1,I1,r1,q1⟩=>?_
  refine thn (hb pins s1 σ H1 _ I1 q1) fun u s2 ⟨y,H2,I2,r2,q2⟩=>?_
  exact hf v u s2 x y H2 I2 r1 r2 q2
noncomputable def zbF (i:Nat):TE:=fun σ H Q=>∃ v,σ[i]? = some (some v)/\Q v H
noncomputable def tC (v:V):TE:=fun _ H Q=>Q v H
theorem zfh {i:Nat} {x:Str} {pos:Pos} (hN:X.N[i]? = some x) (hv:Vis X.env.scope x) (hd:(x == ("__debug__":Str)) = false:=by decide) (hcd:(x == ("__classdict__":Str)) = false:=by decide):PE X (.Name x pos) (zbF i):=by
  intro pins s σ H Q I h
  obtain ⟨v,e,h⟩:=h
  obtain ⟨m,hn,hl⟩:=I.loc
  obtain ⟨u,r,l⟩:=hl i x v hN e hv
  have fin:EP X pins σ Q u s:=⟨v,H,I,r,h⟩
  rcases l with ⟨hk,hm⟩ | ⟨hk,c,hc,hcell⟩
  · exact wpAny_Name (wpAny_loadName_local I.ok.kind hk hn hm fin) hd
  · rcases hk with hk | hk
    · exact wpAny_Name (wpAny_loadName_cell I.ok.kind hk hc hcell fin) hd
    · exact wpAny_Name (wpAny_loadName_free I.ok.kind hk hc hcell fin hcd) hd
theorem zlK {i j pos}:PE X (.Constant (.int i) j pos) (tC (.int i)):=fun _ _ _ H _ I h=>wpAny_Constant_int ⟨.int i,H,I.tok _,⟨_,rfl⟩,h⟩
theorem znc {b j pos}:PE X (.Constant (.bool b) j pos) (tC (.bl b)):=fun _ _ _ H _ I h=>Constant_bool ⟨.bl b,H,I,rfl,h⟩
theorem zlI {j pos}:PE X (.Constant .none j pos) (tC .non):=fun _ _ _ H _ I h=>Constant_none ⟨.non,H,I,rfl,h⟩
noncomputable def Gl (X:Cx) (x:Str):Prop:=X.env.kindOf x = some .globalImplicit
theorem zci {E:Value->Shared->Prop} {pins:List (Addr × Obj)} {s:Shared} {σ:St} {H:Hp} {x:Str} {u:Value} {pos:Pos} {Q:Value->Shared->Prop} (I:Inv X pins σ H s) (hg:Gl X x) (hm:X.mg x = some u) (h:Q u s)
    (hd:(x == ("__debug__":Str)) = false:=by decide):wpAny (model X.prog X.w) X.A (eval (.Name x pos) X.env) Q E s:=
  Calls.Name_function_global I.ok.kind hg (Calls.loadGlobal_global (by rw [I.ok.glob];exact I.mod.glob.keeps I.bk) hm h) hd
theorem za9 {E:Value->Shared->Prop} {pins:List (Addr × Obj)} {s:Shared} {σ:St} {H:Hp} {x:Str} {u:Value} {pos:Pos} {Q:Value->Shared->Prop} (I:Inv X pins σ H s) (hg:Gl X x) (hm:X.mg x = none) (hv:bootBuiltins x = some u) (h:Q u s)
    (hn:x ≠ "__name__":=by decide) (hd:(x == ("__debug__":Str)) = false:=by decide):wpAny (model X.prog X.w) X.A (eval (.Name x pos) X.env) Q E s:=by
  obtain ⟨mb,h1,h2⟩:=I.mod.blt
  exact Calls.Name_function_global I.ok.kind hg (Calls.loadGlobal_builtin (by rw [I.ok.glob];exact I.mod.glob.keeps I.bk) hm (by rw [I.ok.blt];exact h1.keeps I.bk) ((h2 x hn).trans hv) h) hd
theorem zko {x:Str} {v:V} {u:Value} {pos:Pos} (hg:Gl X x) (hm:X.mg x = none) (hv:bootBuiltins x = some u) (r:RelV v u) (hn:x ≠ "__name__":=by decide) (hd:(x == ("__debug__":Str)) = false:=by decide):PE X (.Name x pos) (tC v):=
  fun _ _ _ H _ I h=>za9 I hg hm hv ⟨v,H,I,r,h⟩ hn hd
variable {a b:Expr} {ta tb:TE} {pos:Pos}
noncomputable def PC (X:Cx) (op:CmpOp) (a b:Expr) (t:TE):Prop:=
  ∀ (pins:List (Addr × Obj)) (s:Shared) (σ:St) (H:Hp) (Q:VK),Inv X pins σ H s->t σ H Q->
    wpAny (model X.prog X.w) X.A (eval a X.env) (fun v s₁=>wpAny (model X.prog X.w) X.A (eval b X.env) (fun u s₂=>wpAny (model X.prog X.w) X.A (compareOp op v u) (EP X pins σ Q) X.xe s₂) X.xe s₁) X.xe s
theorem zjg (b:Expr) {op:CmpOp} (h:op ≠ .In) (h2:op ≠ .NotIn):behindInMarks op b = false:=by
  have e1:(op == CmpOp.In) = false:=by cases op <;> first | rfl | exact absurd rfl h
  have e2:(op == CmpOp.NotIn) = false:=by cases op <;> first | rfl | exact absurd rfl h2
  cases b <;> simp [behindInMarks,e1,e2]
noncomputable def tB (t:TE):TT:=fun σ H Q=>t σ H fun x H1=>∃ c,x = .bl c/\Q c H1
theorem zou {op:CmpOp} {t:TE} (h:PC X op a b t) (h1:behindInMarks op b = false:=by first | exact zjg _ (by decide) (by decide) | rfl):PT X (.Compare a [op] [b] pos) (tB t):=by
  intro pins s σ H Q I hw
  refine wpAny_isTrue_Compare1 (thn (h pins s σ H _ I hw) fun v s1 h1=>thn h1 fun u s2 h2=>thn h2 fun c s3 ⟨x,H1,I1,r1,q1⟩=>?_) h1
  obtain ⟨d,rfl,q⟩:=q1
  cases r1
  exact wpAny_truthy_bool ⟨H1,I1,q⟩
theorem zlx {e:Expr} {t:TE} (h:PE X e t) (he:∀ whole,isTrue e X.env whole = (do let v ← whole;standAt e.pos;holding [v] (truthy v)):=by intro _;rfl):PT X e (tB t):=by
  intro pins s σ H Q I hw
  refine isTrue_plain (thn (h pins s σ H _ I hw) fun v s1 ⟨x,H1,I1,r1,q1⟩=>?_) (he _)
  obtain ⟨d,rfl,q⟩:=q1
  cases r1
  exact wpAny_truthy_bool ⟨H1,I1,q⟩
variable {tA tB':TT} {rest:List Expr}
noncomputable def tOr (t u:TT):TT:=fun σ H Q=>t σ H fun c H1=>if c = true then Q true H1 else u σ H1 Q
noncomputable def znG (t:TT):TT:=fun σ H Q=>t σ H fun c H1=>Q (!c) H1
theorem zlw (ha:PT X a tA):PW X (.BoolOp .Or [a] pos) tA:=by
  intro wh pins s σ H Q I h
  refine isTrue_or (thn (ha pins s σ H Q I h) fun c s1 e=>?_)
  cases c with
  | false=>exact isTrue_or_nil e
  | true=>exact e
theorem zm9 (ha:PT X a tA) (hb:PW X (.BoolOp .Or (b :: rest) pos) tB'):PW X (.BoolOp .Or (a :: b :: rest) pos) (tOr tA tB'):=by
  intro wh pins s σ H Q I h
  refine isTrue_or (thn (ha pins s σ H _ I h) fun c s1 ⟨H1,I1,q1⟩=>?_)
  cases c with
  | true=>exact ⟨H1,I1,q1⟩
  | false=>exact hb wh pins s1 σ H1 Q I1 q1
theorem zly (ha:PT X a tA):PT X (.UnaryOp .Not a pos) (znG tA):=by
  intro pins s σ H Q I h
  exact isTrue_not (ha pins s σ H (fun c H1=>Q (!c) H1) I h)
noncomputable def zm2 (ta tb:TE):TE:=fun σ H Q=>ta σ H fun x H1=>∃ c,x = .bl c/\if c = true then tb σ H1 Q else Q (.bl false) H1
theorem zlH {op} {t:TE} (h:PE X a t):PE X (.BoolOp op [a] pos) t:=fun pins s σ H Q I hw=>BoolOp_one (h pins s σ H Q I hw)
theorem zlM (ha:PE X a ta) (hb:PE X (.BoolOp .And (b :: rest) pos) tb):PE X (.BoolOp .And (a :: b :: rest) pos) (zm2 ta tb):=by
  intro pins s σ H Q I h
  refine BoolOp_and (thn (ha pins s σ H _ I h) fun v s1 ⟨x,H1,I1,r1,q1⟩=>?_)
  obtain ⟨c,rfl,q1⟩:=q1
  cases r1
  refine wpAny_truthy_bool ?_
  cases c with
  | true=>exact hb pins s1 σ H1 Q I1 q1
  | false=>exact ⟨.bl false,H1,I1,rfl,q1⟩
end
end L2
namespace L2
open PySem PySem.Spec PyProof.Rows
noncomputable def SqL (K:PySem.W.Frag) (H:Hp) (a:Addr) (xs:List V):Prop:=
  Rd H a (.lst xs) \/
    ∃ (o:Obj) (its:Array Value) (n:Nat),K.lookup a = some o/\o.cls = .type "list"/\o.dict = none/\o.data = .seq its n/\its.size<=sizeLine/\Vals xs its.toList
noncomputable def SqT (K:PySem.W.Frag) (H:Hp) (a:Addr) (xs:List V):Prop:=
  Rd H a (.tup xs) \/
    ∃ (o:Obj) (its:Array Value) (n:Nat),K.lookup a = some o/\o.cls = .type "tuple"/\o.dict = none/\o.data = .seq its n/\its.size<=sizeLine/\Vals xs its.toList
noncomputable def zof:Value->Option V
  | .none=>some .non
  | .bool b=>some (.bl b)
  | .int i _=>some (.int i)
  | .str x _=>some (.str x)
  | .bytes b _=>some (.byt b)
  | .float b _=>some (.flt b)
  | .ref a=>some (.ref a)
  | .type n=>some (.ty n)
  | _=>none
theorem RelV.abs {x:V} {u:Value} (r:RelV x u):zof u = some x:=by
  cases x with
  | non=>cases r;rfl
  | bl _=>cases r;rfl
  | int _=>obtain ⟨t,rfl⟩:=r;rfl
  | str _=>obtain ⟨t,rfl⟩:=r;rfl
  | byt _=>obtain ⟨t,rfl⟩:=r;rfl
  | flt _=>obtain ⟨t,rfl⟩:=r;rfl
  | ref _=>cases r;rfl
  | ty _=>cases r;rfl
theorem RelV.inj {x y:V} {u:Value} (r:RelV x u) (q:RelV y u):x = y:=Option.some.inj (r.abs.symm.trans q.abs)
theorem Vals.inj:∀ {xs ys:List V} {us:List Value},Vals xs us->Vals ys us->xs = ys
  | _,_,_,.nil,.nil=>rfl
  | _,_,_,.cons r t,.cons r' t'=>by rw [r.inj r',Vals.inj t t']
section
variable {X:Cx} {pins:List (Addr × Obj)} {σ:St} {H:Hp} {s:Shared} {a:Addr} {xs ys:List V}
theorem Inv.list (I:Inv X pins σ H s) (h:SqL X.K H a xs):∃ its:List Value,Vals xs its/\PlainL s.heap a its.toArray/\xs.length<=sizeLine:=by
  rcases h with h | ⟨o,its,n,hk,hc,hd,hs,hz,r⟩
  · obtain ⟨z,its,n,r,e⟩:=h.ok I.hok
    exact ⟨its,r,⟨_,n,e,rfl,rfl,rfl⟩,z⟩
  · refine ⟨its.toList,r,⟨o,n,I.kIn a o hk,hc,hd,by simpa using hs⟩,?_⟩
    have e:=r.length
    simp only [Array.length_toList] at e
    omega
theorem Inv.tuple (I:Inv X pins σ H s) (h:SqT X.K H a xs):∃ its:List Value,Vals xs its/\IsTup s.heap a its.toArray/\xs.length<=sizeLine:=by
  rcases h with h | ⟨o,its,n,hk,hc,_,hs,hz,r⟩
  · obtain ⟨z,its,r,p,_⟩:=h.ok I.hok
    exact ⟨its,r,p,z⟩
  · refine ⟨its.toList,r,⟨o,I.kIn a o hk,hc,n,by simpa using hs⟩,?_⟩
    have e:=r.length
    simp only [Array.length_toList] at e
    omega
theorem Inv.tuple_nd (I:Inv X pins σ H s) (h:SqT X.K H a xs):NoDict s.heap a:=by
  rcases h with h | ⟨o,its,n,hk,hc,hd,hs,hz,r⟩
  · obtain ⟨z,its,r,p,q⟩:=h.ok I.hok
    exact q
  · intro u e
    rw [I.kIn a o hk] at e;cases e;exact hd
theorem Inv.list_inj (I:Inv X pins σ H s) (h:SqL X.K H a xs) (h':SqL X.K H a ys):xs = ys:=by
  obtain ⟨its,r,⟨o,n,e,_,_,d⟩,_⟩:=I.list h
  obtain ⟨its',r',⟨o',n',e',_,_,d'⟩,_⟩:=I.list h'
  rw [e] at e';cases e'
  rw [d] at d'
  injection d' with d1 _
  have:its = its':=by simpa using congrArg Array.toList d1
  subst this
  exact r.inj r'
theorem Inv.tuple_inj (I:Inv X pins σ H s) (h:SqT X.K H a xs) (h':SqT X.K H a ys):xs = ys:=by
  obtain ⟨its,r,⟨o,e,_,n,d⟩,_⟩:=I.tuple h
  obtain ⟨its',r',⟨o',e',_,n',d'⟩,_⟩:=I.tuple h'
  rw [e] at e';cases e'
  rw [d] at d'
  injection d' with d1 _
  have:its = its':=by simpa using congrArg Array.toList d1
  subst this
  exact r.inj r'
end
noncomputable abbrev Cx.wish (X:Cx) (E:Value->Shared->Prop):Cx:={ X with xe:=E }
noncomputable abbrev Cx.nox (X:Cx):Cx:=X.wish fun _ _=>False
theorem Cx.Ok.wish {X:Cx} (ok:X.Ok) (E:Value->Shared->Prop):(X.wish E).Ok:=
  ⟨ok.mod,ok.kind,ok.glob,ok.blt,ok.above,ok.inj,ok.has,ok.cab,ok.hd,ok.frames,ok.stk,ok.exf,ok.bs,ok.bsz,ok.noex,ok.exfs,ok.funs,ok.frf⟩
theorem Cx.Ok.unwish {X:Cx} {E:Value->Shared->Prop} (ok:(X.wish E).Ok):X.Ok:=
  ⟨ok.mod,ok.kind,ok.glob,ok.blt,ok.above,ok.inj,ok.has,ok.cab,ok.hd,ok.frames,ok.stk,ok.exf,ok.bs,ok.bsz,ok.noex,ok.exfs,ok.funs,ok.frf⟩
section
variable {X:Cx} {pins:List (Addr × Obj)} {σ:St} {H:Hp} {s:Shared} {E:Value->Shared->Prop}
theorem Inv.wish (I:Inv X pins σ H s) (E:Value->Shared->Prop):Inv (X.wish E) pins σ H s:=⟨I.ok.wish E,I.os,I.bare,I.base,I.loc,I.cell,I.free,I.freeC,I.pin,I.hok,I.len⟩
theorem Inv.unwish (I:Inv (X.wish E) pins σ H s):Inv X pins σ H s:=⟨I.ok.unwish,I.os,I.bare,I.base,I.loc,I.cell,I.free,I.freeC,I.pin,I.hok,I.len⟩
theorem SP.unwish {D:Ends} {f:Flow} {s':Shared} (h:SP (X.wish E) pins D f s'):SP X pins D f s':=by
  cases f with
  | next=>obtain ⟨σ',H',I,q⟩:=h;exact ⟨σ',H',I.unwish,q⟩
  | brk=>obtain ⟨σ',H',I,q⟩:=h;exact ⟨σ',H',I.unwish,q⟩
  | cont=>obtain ⟨σ',H',I,q⟩:=h;exact ⟨σ',H',I.unwish,q⟩
  | ret u=>obtain ⟨v,σ',H',I,r,q⟩:=h;exact ⟨v,σ',H',I.unwish,r,q⟩
theorem PE.nox {e:Expr} {t:TE} (h:PE X.nox e t):PE X e t:=fun pins s σ H Q I hw=>
  wpAny_mono (h pins s σ H Q (I.wish _) hw) (fun _ _ ⟨v,H',I',r,q⟩=>⟨v,H',I'.unwish,r,q⟩) fun _ _ z=>False.elim z
theorem PT.nox {e:Expr} {t:TT} (h:PT X.nox e t):PT X e t:=fun pins s σ H Q I hw=>
  wpAny_mono (h pins s σ H Q (I.wish _) hw) (fun _ _ ⟨H',I',q⟩=>⟨H',I'.unwish,q⟩) fun _ _ z=>False.elim z
theorem PSs.nox {st:List Stmt} {t:TS} (h:PSs X.nox st t):PSs X st t:=fun pins s σ H D I hw=>
  wpAny_mono (h pins s σ H D (I.wish _) hw) (fun _ _ q=>q.unwish) fun _ _ z=>False.elim z
end
section
variable {X:Cx} {st:Stmt} {rest:List Stmt} {t u:TS} {e:Expr} {te:TE} {pos:Pos}
noncomputable def zmY:TS:=fun D σ H=>D.nx σ H
noncomputable def znE (t u:TS):TS:=fun D σ H=>t { D with nx:=u D } σ H
theorem zkc:PSs X [] zmY:=fun _ _ σ H _ I h=>wpAny_execs_nil ⟨σ,H,I,h⟩
theorem zi7 (h1:PS X st t) (h2:PSs X rest u):PSs X (st :: rest) (znE t u):=by
  intro pins s σ H D I h
  refine wpAny_execs_cons (thn (h1 pins s σ H { D with nx:=u D } I h) fun f s1 q=>?_)
  cases f with
  | next=>
    obtain ⟨σ',H',I',q⟩:=q
    exact h2 pins s1 σ' H' D I' q
  | ret v=>exact q
  | brk=>exact q
  | cont=>exact q
theorem zgv (h1:PS X st t):PSs X [st] t:=by
  intro pins s σ H D I h
  refine wpAny_execs_cons (thn (h1 pins s σ H D I h) fun f s1 q=>?_)
  cases f with
  | next=>exact wpAny_execs_nil q
  | ret v=>exact q
  | brk=>exact q
  | cont=>exact q
noncomputable def zlk:TS:=fun D σ H=>D.bk σ H
theorem zi8:PS X (.Break pos) zlk:=fun _ _ σ H _ I h=>wpAny_Break ⟨σ,H,I,h⟩
theorem Inv.quiet {pins:List (Addr × Obj)} {σ:St} {H:Hp} {s:Shared} (I:Inv X pins σ H s):interactive X.env = false:=by simp [interactive,I.ok.kind]
noncomputable def zmZ (te:TE):TS:=fun D σ H=>te σ H fun _ H1=>D.nx σ H1
theorem zkf (he:PE X e te) (hs:swapsWith e none pos.line X.env = pure false:=by rfl):PS X (.Expr e pos) (zmZ te):=by
  intro pins s σ H D I h
  exact wpAny_Expr_any (thn (he pins s σ H _ I h) fun v s1 ⟨x,H1,I1,r1,q1⟩=>⟨σ,H1,I1,q1⟩) I.quiet hs
noncomputable def znF (te:TE):TS:=fun D σ H=>te σ H D.rt
theorem zlB (he:PE X e te):PS X (.Return (some e) pos) (znF te):=by
  intro pins s σ H D I h
  exact wpAny_Return_some (thn (he pins s σ H _ I h) fun v s1 ⟨x,H1,I1,r1,q1⟩=>⟨x,σ,H1,I1,r1,q1⟩)
noncomputable def znJ (c:TT) (t u:TS):TS:=fun D σ H=>c σ H fun b H1=>if b = true then t D σ H1 else u D σ H1
theorem zna {c:Expr} {a b:List Stmt} {tc:TT} (hc:PT X c tc) (ha:PSs X a t) (hb:PSs X b u):PS X (.If c a b pos) (znJ tc t u):=by
  intro pins s σ H D I h
  refine wpAny_If (thn (hc pins s σ H _ I h) fun d s1 ⟨H1,I1,q1⟩=>?_)
  cases d with
  | true=>exact ha pins s1 σ H1 D I1 q1
  | false=>exact hb pins s1 σ H1 D I1 q1
end
noncomputable abbrev TG:=V->St->Hp->(St->Hp->Prop)->Prop
noncomputable abbrev TGs:=List V->St->Hp->(St->Hp->Prop)->Prop
noncomputable def PG (X:Cx) (target:Expr) (t:TG):Prop:=
  ∀ (pins:List (Addr × Obj)) (s:Shared) (σ:St) (H:Hp) (v:V) (u:Value) (Q:St->Hp->Prop),Inv X pins σ H s->RelV v u->t v σ H Q->
    wpAny (model X.prog X.w) X.A (assign target X.env u) (fun _ s'=>∃ σ' H',Inv X pins σ' H' s'/\Q σ' H') X.xe s
noncomputable def PGs (X:Cx) (ts:List Expr) (t:TGs):Prop:=
  ∀ (pins:List (Addr × Obj)) (s:Shared) (σ:St) (H:Hp) (vs:List V) (us:List Value) (Q:St->Hp->Prop),Inv X pins σ H s->Vals vs us->t vs σ H Q->
    wpAny (model X.prog X.w) X.A (assignInOrder ((assignEach ts X.env).map (·.2)) us) (fun _ s'=>∃ σ' H',Inv X pins σ' H' s'/\Q σ' H') X.xe s
noncomputable abbrev zea:=V->V->V->Hp->(Hp->Prop)->Prop
noncomputable def zb9 (X:Cx) (t:zea):Prop:=
  ∀ (pins:List (Addr × Obj)) (s:Shared) (σ:St) (H:Hp) (o i v:V) (ov iv u:Value) (Q:Hp->Prop),Inv X pins σ H s->RelV o ov->RelV i iv->RelV v u->t o i v H Q->
    wpAny (model X.prog X.w) X.A (setItem ov iv u) (fun _ s'=>∃ H',Inv X pins σ H' s'/\Q H') X.xe s
noncomputable abbrev TIp:=V->V->Hp->VK->Prop
noncomputable def PIp (X:Cx) (op:Operator) (t:TIp):Prop:=
  ∀ (pins:List (Addr × Obj)) (s:Shared) (σ:St) (H:Hp) (x y:V) (v u:Value) (Q:VK),Inv X pins σ H s->RelV x v->RelV y u->t x y H Q->
    wpAny (model X.prog X.w) X.A (inplaceOp op v u) (EP X pins σ Q) X.xe s
section
variable {X:Cx} {pos:Pos}
noncomputable def zeQ (i:Nat):TG:=fun v σ H Q=>Q (σ.set i (some v)) H
theorem qh {i:Nat} {x:Str} (hN:X.N.Nodup) (hi:X.N[i]? = some x) (hx:Loc X.env.scope x) (hf:X.fn x = true\/X.env.scope.names.lookup x = some .local:=by first | exact .inl rfl | exact .inr rfl | assumption):PG X (.Name x pos) (zeQ i):=by
  intro pins s σ H v u Q I r h
  exact wpAny_assign_Name (zan I hN hi hx r (fun s' I'=>⟨_,H,I',h⟩) hf)
noncomputable def zn8:TGs:=fun vs σ H Q=>vs = []/\Q σ H
noncomputable def zhw (t:TG) (u:TGs):TGs:=fun vs σ H Q=>∃ v r,vs = v :: r/\t v σ H fun σ' H'=>u r σ' H' Q
theorem zkk:PGs X [] zn8:=by
  intro pins s σ H vs us Q I r h
  obtain ⟨e,h⟩:=h
  subst e
  cases r
  exact assignInOrder_nil ⟨σ,H,I,h⟩
theorem qm {e:Expr} {es:List Expr} {t:TG} {u:TGs} (h1:PG X e t) (h2:PGs X es u)
    (hs:(assignEach (e :: es) X.env).map (·.2) = assign e X.env :: (assignEach es X.env).map (·.2):=by rfl):PGs X (e :: es) (zhw t u):=by
  intro pins s σ H vs us Q I r h
  obtain ⟨v,vr,e1,h⟩:=h
  subst e1
  cases r with
  | cons r rr=>
    rw [hs]
    refine assignInOrder_cons (thn (h1 pins s σ H _ _ _ I r h) fun _ s1 ⟨σ1,H1,I1,q1⟩=>?_)
    exact h2 pins s1 σ1 H1 _ _ Q I1 rr q1
noncomputable def zjz (K:PySem.W.Frag) (n:Nat) (t:TGs):TG:=fun v σ H Q=>∃ a xs,v = .ref a/\SqT K H a xs/\xs.length = n/\t xs σ H Q
theorem yT {es:List Expr} {k:Nat} {t:TGs} {n:Nat} (hc:X.calm = true) (h:PGs X es t)
    (hn:(assignEach es X.env).length = n:=by rfl) (hst:(assignEach es X.env).findIdx? (·.1) = none:=by rfl):PG X (.Tuple es k pos) (zjz X.K n t):=by
  intro pins s σ H v u Q I r hw
  obtain ⟨a,xs,e1,hq,hl,hw⟩:=hw
  subst e1
  cases r
  obtain ⟨its,rv,ht,hz⟩:=I.tuple hq
  refine assign_Tuple_tuple (I.ok.hd hc) ht (by simp [hn,← hl,rv.length]) hst fun h' hx=>?_
  have I1:Inv X pins σ H { s with heap:=h' }:=I.kept (t':=s.toks) fun b o e=>hx b o (Nat.ne_of_lt (Heap.lt_size e)) e
  exact h pins _ σ H xs _ Q I1 (by simpa using rv) hw
noncomputable def zn7 (to ti:TE) (t:zea):TG:=fun v σ H Q=>to σ H fun o H1=>ti σ H1 fun i H2=>t o i v H2 fun H3=>Q σ H3
theorem zlE {o i:Expr} {to ti:TE} {t:zea} (ho:PE X o to) (hi:PE X i ti) (hs:zb9 X t)
    (ha:∀ v,assign (.Subscript o i pos) X.env v = (do
      let ov ← holding [v] (eval o X.env)
      let iv ← holding [v,ov] (eval i X.env)
      standAt pos
      holding [v,ov,iv] (setItem ov iv v)
      release [v,ov,iv] []):=by intro _;rfl):PG X (.Subscript o i pos) (zn7 to ti t):=by
  intro pins s σ H v u Q I r h
  rw [ha]
  refine wpAny_bind (wpAny_holding (thn (ho pins s σ H _ I h) fun ov s1 ⟨x,H1,I1,r1,q1⟩=>?_))
  refine wpAny_bind (wpAny_holding (thn (hi pins s1 σ H1 _ I1 q1) fun iv s2 ⟨y,H2,I2,r2,q2⟩=>?_))
  refine wpAny_bind (wpAny_standAt (wpAny_bind (wpAny_holding (thn (hs pins s2 σ H2 x y v ov iv u _ I2 r1 r2 r q2) fun _ s3 ⟨H3,I3,q3⟩=>?_))))
  exact wpAny_release ⟨σ,H3,I3,q3⟩
noncomputable def zll (te:TE) (g:TG):TS:=fun D σ H=>te σ H fun x H1=>g x σ H1 D.nx
theorem zlC {tg e:Expr} {te:TE} {g:TG} (he:PE X e te) (hg:PG X tg g) (hs:swapsWithSole [tg] e pos.line X.env = pure false:=by rfl) (hw:swappedStores [tg] e X.env = pure none:=by rfl)
    (h1:(assignEach [tg] X.env).map (·.2) = [assign tg X.env]:=by rfl):PS X (.Assign [tg] e pos) (zll te g):=by
  intro pins s σ H D I h
  refine wpAny_Assign_stores (thn (he pins s σ H _ I h) fun v s1 ⟨x,H1,I1,r1,q1⟩=>?_) hs hw
  rw [h1]
  exact thn (hg pins s1 σ H1 x v _ I1 r1 q1) fun _ s2 q=>q
theorem zlA {i:Nat} {x:Str} {e:Expr} {te:TE} {pos':Pos} (hN:X.N.Nodup) (hi:X.N[i]? = some x) (hx:Loc X.env.scope x) (he:PE X e te) (hs:swapsWith e (some (.Name x pos')) pos.line X.env = pure false:=by rfl) (hf:X.fn x = true\/X.env.scope.names.lookup x = some .local:=by first | exact .inl rfl | exact .inr rfl | assumption) :
    PS X (.Assign [.Name x pos'] e pos) (zll te (zeQ i)):=by
  intro pins s σ H D I h
  refine wpAny_Assign_Name (thn (he pins s σ H _ I h) fun v s1 ⟨y,H1,I1,r1,q1⟩=>?_) hs
  exact zan I1 hN hi hx r1 (fun s2 I2=>⟨_,H1,I2,q1⟩) hf
noncomputable def zm1 (to ti te:TE) (tget:V->V->Hp->VK->Prop) (tip:TIp) (tset:zea):TS:=fun D σ H=>to σ H fun o H1=>ti σ H1 fun i H2=>tget o i H2 fun x H3=>te σ H3 fun y H4=>tip x y H4 fun z H5=>tset o i z H5 fun H6=>D.nx σ H6
noncomputable def zf8 (X:Cx) (t:V->V->Hp->VK->Prop):Prop:=
  ∀ (pins:List (Addr × Obj)) (s:Shared) (σ:St) (H:Hp) (o i:V) (ov iv:Value) (Q:VK),Inv X pins σ H s->RelV o ov->RelV i iv->t o i H Q->
    wpAny (model X.prog X.w) X.A (getItem ov iv) (EP X pins σ Q) X.xe s
theorem zkg {o i e:Expr} {to ti te:TE} {tget:V->V->Hp->VK->Prop} {tip:TIp} {tset:zea} {op:Operator} {tpos:Pos} (ho:PE X o to) (hi:PE X i ti) (hg:zf8 X tget) (he:PE X e te) (hp:PIp X op tip) (hs:zb9 X tset)
    (ha:∀ ov iv new,augStore i ov iv new = (do holding [new,ov,iv] (setItem ov iv new);release [new,ov,iv] [];pure .next):=by intros;rfl):PS X (.AugAssign (.Subscript o i tpos) op e pos) (zm1 to ti te tget tip tset):=by
  intro pins s σ H D I h
  refine wpAny_AugAssign_SubscriptAny (thn (ho pins s σ H _ I h) fun ov s1 ⟨x1,H1,I1,r1,q1⟩=>?_) ha
  refine thn (hi pins s1 σ H1 _ I1 q1) fun iv s2 ⟨x2,H2,I2,r2,q2⟩=>?_
  refine thn (hg pins s2 σ H2 x1 x2 ov iv _ I2 r1 r2 q2) fun old s3 ⟨x3,H3,I3,r3,q3⟩=>?_
  refine thn (he pins s3 σ H3 _ I3 q3) fun v s4 ⟨x4,H4,I4,r4,q4⟩=>?_
  refine thn (hp pins s4 σ H4 x3 x4 old v _ I4 r3 r4 q4) fun new s5 ⟨x5,H5,I5,r5,q5⟩=>?_
  exact thn (hs pins s5 σ H5 x1 x2 x5 ov iv new _ I5 r1 r2 r5 q5) fun _ s6 ⟨H6,I6,q6⟩=>⟨σ,H6,I6,q6⟩
noncomputable def ipI (f:Int->Int->Int):TIp:=fun x y H Q=>∃ i j,x = .int i/\y = .int j/\Q (.int (f i j)) H
theorem zmg:PIp X .Add (ipI fun i j=>i + j):=by
  intro pins s σ H x y v u Q I r1 r2 h
  obtain ⟨i,j,e1,e2,q⟩:=h
  subst e1;subst e2
  obtain ⟨t,rfl⟩:=r1
  obtain ⟨t',rfl⟩:=r2
  exact iadd_int ⟨.int _,H,I.tok _,⟨_,rfl⟩,q⟩
theorem zmf:PIp X .Sub (ipI fun i j=>i - j):=by
  intro pins s σ H x y v u Q I r1 r2 h
  obtain ⟨i,j,e1,e2,q⟩:=h
  subst e1;subst e2
  obtain ⟨t,rfl⟩:=r1
  obtain ⟨t',rfl⟩:=r2
  exact isub_int ⟨.int _,H,I.tok _,⟨_,rfl⟩,q⟩
end
structure It where
  go:Nat->Hp->Prop
  yld:Nat->Hp->V->Hp->Prop
  stop:Nat->Hp->Prop
noncomputable def zbC (X:Cx) (pins:List (Addr × Obj)) (H:Hp) (b:Addr):Prop:=
  H b = none/\b ≠ X.env.locals/\b ∉ X.fs/\(b ∈ X.ex\/X.s₀.heap.objs.size<=b)/\(∀ x c,X.env.cells.lookup x = some c->c ≠ b)/\∀ p ∈ X.pn ++ pins,p.1 ≠ b
theorem Inv.fpOk {X:Cx} {pins:List (Addr × Obj)} {σ:St} {H H':Hp} {s:Shared} {b:Addr} (I:Inv X pins σ H s) (hb:s.heap.objs.size<=b) (hn:H' b = none):zbC X pins H' b:=by
  refine ⟨hn,Nat.ne_of_gt (Nat.lt_of_lt_of_le I.lt hb),I.nofs hb,.inr (Nat.le_trans I.sz hb),fun x c e z=>?_,fun p hp z=>?_⟩
  · obtain ⟨v,q⟩:=I.cell x c e
    exact absurd (Nat.lt_of_lt_of_le q.lt (by rw [z];exact hb)) (Nat.lt_irrefl _)
  · exact absurd (Nat.lt_of_lt_of_le (Heap.lt_size (I.pin p hp).1) (by rw [z];exact hb)) (Nat.lt_irrefl _)
structure Turn (P:Program) (w:World) (K:PySem.W.Frag) (tg:Expr) (J:It) (fp:List Addr) (it:Addr) (tn:Nat->Heap->Prop):Prop where
  mem:it ∈ fp
  obj:∀ i h,tn i h->∀ b ∈ fp,∃ o,h.get? b = some o/\∀ v,o.data ≠ .cell v
  keep:∀ i h h',tn i h->(∀ b ∈ fp,∀ o,h.get? b = some o->h'.get? b = some o)->tn i h'
  item:∀ (X:Cx),X.prog = P->X.w = w->X.K = K->X.calm = true->∀ (i:Nat) (pins:List (Addr × Obj)) (s:Shared) (σ:St) (H:Hp) (E:Value->Shared->Prop),Inv X pins σ H s->(∀ b ∈ fp,zbC X pins H b)->tn i s.heap->J.go i H->
    wpAny (model P w) X.A (pyNext (.ref it)) (fun r s1=>∃ u,r = some u /\
      wpAny (model P w) X.A (letOwnedTupleGo tg (.ref it) u) (fun _ s2=>∃ x H',Inv X pins σ H' s2/\RelV x u/\J.yld i H x H'/\tn (i + 1) s2.heap/\∀ b ∈ fp,H' b = none) E s1) E s
  done:∀ (X:Cx),X.prog = P->X.w = w->X.K = K->X.calm = true->∀ (i:Nat) (pins:List (Addr × Obj)) (s:Shared) (σ:St) (H:Hp) (E:Value->Shared->Prop),Inv X pins σ H s->(∀ b ∈ fp,zbC X pins H b)->tn i s.heap->J.stop i H->
    wpAny (model P w) X.A (pyNext (.ref it)) (fun r s1=>r = none/\Inv X pins σ H s1) E s
  self:∀ (A:Around) (i:Nat) (s:Shared) (Q:Value->Shared->Prop) (E:Value->Shared->Prop),tn i s.heap->Q (.ref it) s->wpAny (model P w) A (pyIter (.ref it)) Q E s
noncomputable abbrev TI:=St->Hp->(It->Hp->Prop)->Prop
noncomputable def PIE (X:Cx) (pins:List (Addr × Obj)) (σ:St) (tg:Expr) (R:It->Hp->Prop) (itv:Value) (s2:Shared):Prop:=
  ∃ (it:Addr) (fp:List Addr) (tn:Nat->Heap->Prop) (J:It) (H':Hp),itv = .ref it/\Inv X pins σ H' s2/\Turn X.prog X.w X.K tg J fp it tn/\tn 0 s2.heap/\(∀ b ∈ fp,zbC X pins H' b)/\R J H'
noncomputable def PI (X:Cx) (tg iter:Expr) (wi:TI):Prop:=
  ∀ (pins:List (Addr × Obj)) (s:Shared) (σ:St) (H:Hp) (R:It->Hp->Prop),Inv X pins σ H s->wi σ H R->
    wpAny (model X.prog X.w) X.A (eval iter X.env) (fun v s1=>wpAny (model X.prog X.w) X.A (pyIter v) (PIE X pins σ tg R) X.xe s1) X.xe s
theorem zht {M:Model} {A:Around} {E:Value->Shared->Prop} {s:Shared} {tg:Expr} {it:Addr} {u:Value} {o:Obj} {n:String} {vs:Array Value} {Q:Unit->Shared->Prop} (ho:s.heap.get? it = some o) (hc:o.cls = .type n) (hd:o.data = .fields vs)
    (hn:["enumerate","zip","dict_itemiterator","dict_reverseitemiterator","odict_iterator","itertools.zip_longest","itertools.pairwise"].contains n = false) (hQ:Q () s):wpAny M A (letOwnedTupleGo tg (.ref it) u) Q E s:=by
  unfold letOwnedTupleGo
  cases tg <;> first
    | exact wpAny_pure hQ
    | (cases u <;> first
        | exact wpAny_pure hQ
        | (refine wpAny_bind (wpAny_load ho ?_)
           rw [hc,hd]
           show wpAny M A (if (["enumerate","zip","dict_itemiterator","dict_reverseitemiterator","odict_iterator","itertools.zip_longest","itertools.pairwise"].contains n && vs[0]? == some (rawInt _)) = true then _ else _) Q E s
           rw [if_neg (by intro h;rw [hn,Bool.false_and] at h;cases h)]
           exact wpAny_pure hQ))
noncomputable def Itl (K:PySem.W.Frag) (a:Addr):It:=
  ⟨fun i H=>∃ xs x,SqL K H a xs/\xs[i]? = some x,fun i H x H'=>H' = H/\∀ xs,SqL K H a xs->xs[i]? = some x,fun i H=>∃ xs,SqL K H a xs/\xs.length<=i⟩
noncomputable def Itt (K:PySem.W.Frag) (a:Addr):It:=
  ⟨fun i H=>∃ xs x,SqT K H a xs/\xs[i]? = some x,fun i H x H'=>H' = H/\∀ xs,SqT K H a xs->xs[i]? = some x,fun i H=>∃ xs,SqT K H a xs/\xs.length<=i⟩
noncomputable def Itr (lo:Int) (n:Nat):It:=⟨fun i _=>i < n,fun i H x H'=>H' = H/\x = .int (lo + i),fun i _=>n<=i⟩
theorem zhW {P:Program} {w:World} {K:PySem.W.Frag} {tg:Expr} (a it:Addr):Turn P w K tg (Itl K a) [it] it (fun i h=>h.IsListIter it a i) where
  mem:=by simp
  obj:=fun i h st b hb=>by
    have e:b = it:=by simpa using hb
    subst e
    obtain ⟨o,e,c,d⟩:=st
    exact ⟨o,e,fun v z=>by rw [d] at z;cases z⟩
  keep:=fun i h h' st k=>st.at fun o e=>k it (by simp) o e
  item:=by
    intro X hP hw hK hc i pins s σ H E I hf st hg
    subst hP hw hK
    obtain ⟨xs,x,hq,hx⟩:=hg
    obtain ⟨its,rv,p,hz⟩:=I.list hq
    obtain ⟨u,hu,ru⟩:=rv.get hx
    obtain ⟨f0,f1,f2,f3,f4,f5⟩:=hf it (by simp)
    refine wpAny_pyNext_list_item st p.isList (x:=u) (by simpa using hu) fun h' st' sb=>?_
    have I1:Inv X pins σ H { s with heap:=h' }:=I.turned (t':=s.toks) (fun b o hb e=>(sb.2 b hb).trans e) f0 f1 f3 f4 f5
    obtain ⟨o,e,c,d⟩:=id st'
    exact ⟨u,rfl,zht (s:={ s with heap:=h' }) e c d (by decide) ⟨x,H,I1,ru,⟨rfl,fun ys hy=>by rw [I.list_inj hy hq];exact hx⟩,st',fun b hb=>(hf b hb).1⟩⟩
  done:=by
    intro X hP hw hK hc i pins s σ H E I hf st hg
    subst hP hw hK
    obtain ⟨xs,hq,hx⟩:=hg
    obtain ⟨its,rv,p,hz⟩:=I.list hq
    obtain ⟨f0,f1,f2,f3,f4,f5⟩:=hf it (by simp)
    have hl:=rv.length
    exact wpAny_pyNext_list_end (I.ok.hd hc) st p.isList (by simp;omega) fun h' eb=>⟨rfl,I.turned (t':=s.toks) (fun b o hb e=>eb b o hb e) f0 f1 f3 f4 f5⟩
  self:=fun _ _ _ _ _ st h=>wpAny_pyIter_listiter st h
theorem zg2 {P:Program} {w:World} {K:PySem.W.Frag} {tg:Expr} (a it:Addr):Turn P w K tg (Itt K a) [it] it (fun i h=>h.IsTupleIter it a i) where
  mem:=by simp
  obj:=fun i h st b hb=>by
    have e:b = it:=by simpa using hb
    subst e
    obtain ⟨o,e,c,d⟩:=st
    exact ⟨o,e,fun v z=>by rw [d] at z;cases z⟩
  keep:=fun i h h' st k=>st.at fun o e=>k it (by simp) o e
  item:=by
    intro X hP hw hK hc i pins s σ H E I hf st hg
    subst hP hw hK
    obtain ⟨xs,x,hq,hx⟩:=hg
    obtain ⟨its,rv,p,hz⟩:=I.tuple hq
    obtain ⟨u,hu,ru⟩:=rv.get hx
    obtain ⟨f0,f1,f2,f3,f4,f5⟩:=hf it (by simp)
    refine wpAny_pyNext_tuple_item st (show s.heap.IsTuple a its.toArray from p) (x:=u) (by simpa using hu) fun h' st' sb=>?_
    have I1:Inv X pins σ H { s with heap:=h' }:=I.turned (t':=s.toks) (fun b o hb e=>(sb.2 b hb).trans e) f0 f1 f3 f4 f5
    obtain ⟨o,e,c,d⟩:=id st'
    exact ⟨u,rfl,zht (s:={ s with heap:=h' }) e c d (by decide) ⟨x,H,I1,ru,⟨rfl,fun ys hy=>by rw [I.tuple_inj hy hq];exact hx⟩,st',fun b hb=>(hf b hb).1⟩⟩
  done:=by
    intro X hP hw hK hc i pins s σ H E I hf st hg
    subst hP hw hK
    obtain ⟨xs,hq,hx⟩:=hg
    obtain ⟨its,rv,p,hz⟩:=I.tuple hq
    obtain ⟨f0,f1,f2,f3,f4,f5⟩:=hf it (by simp)
    have hl:=rv.length
    exact wpAny_pyNext_tuple_end (I.ok.hd hc) st (show s.heap.IsTuple a its.toArray from p) (by simp;omega) fun h' eb=>⟨rfl,I.turned (t':=s.toks) (fun b o hb e=>eb b o hb e) f0 f1 f3 f4 f5⟩
  self:=fun _ _ _ _ _ st h=>wpAny_pyIter_tupleiter st h
theorem zg3 {P:Program} {w:World} {K:PySem.W.Frag} {tg:Expr} (it:Addr) (lo:Int) (n:Nat):Turn P w K tg (Itr lo n) [it] it (fun i h=>IsRangeIter h it (lo + (i:Nat) * 1) ((n:Int) - (i:Nat)) 1) where
  mem:=by simp
  obj:=fun i h st b hb=>by
    have e:b = it:=by simpa using hb
    subst e
    exact ⟨_,st,fun v z=>by
      have z':Data.fields _ = Data.cell v:=z
      cases z'⟩
  keep:=fun i h h' st k=>k it (by simp) _ st
  item:=by
    intro X hP hw hK hc i pins s σ H E I hf st hg
    subst hP hw hK
    obtain ⟨f0,f1,f2,f3,f4,f5⟩:=hf it (by simp)
    have W:=Walks.range (prog:=X.prog) (w:=X.w) (I.ok.hd hc) it lo 1 n
    refine W.item i s _ _ hg st fun v h' tk hv st' kk=>?_
    obtain ⟨t,rfl⟩:=hv
    have I1:Inv X pins σ H { s with heap:=h',toks:=tk }:=I.turned (fun b o hb e=>kk b o (by simpa using hb) e) f0 f1 f3 f4 f5
    refine ⟨_,rfl,zht (s:={ s with heap:=h',toks:=tk }) (n:="range_iterator") st' rfl rfl (by decide) ⟨.int (lo + i),H,I1,⟨t,?_⟩,⟨rfl,rfl⟩,st',fun b hb=>(hf b hb).1⟩⟩
    rw [Int.mul_one]
  done:=by
    intro X hP hw hK hc i pins s σ H E I hf st hg
    subst hP hw hK
    obtain ⟨f0,f1,f2,f3,f4,f5⟩:=hf it (by simp)
    exact wpAny_pyNext_range_end (I.ok.hd hc) st (by have:n<=i:=hg;omega) fun h' eb=>⟨rfl,I.turned (t':=s.toks) (fun b o hb e=>eb b o hb e) f0 f1 f3 f4 f5⟩
  self:=fun _ _ _ _ _ st h=>wpAny_pyIter_rangeiter st h
end L2
namespace L2
open PySem PySem.Spec PyProof.Rows
section
variable {X:Cx} {tg:Expr}
noncomputable def znm (K:PySem.W.Frag) (tl:TE):TI:=fun σ H R=>tl σ H fun x H1=>∃ a,x = .ref a/\(∃ xs,SqL K H1 a xs)/\R (Itl K a) H1
noncomputable def zn5 (K:PySem.W.Frag) (tl:TE):TI:=fun σ H R=>tl σ H fun x H1=>∃ a,x = .ref a/\(∃ xs,SqT K H1 a xs)/\R (Itt K a) H1
theorem zkj {l:Expr} {tl:TE} (hl:PE X l tl):PI X tg l (znm X.K tl):=by
  intro pins s σ H R I h
  refine thn (hl pins s σ H _ I h) fun v s1 ⟨x,H1,I1,r1,q1⟩=>?_
  obtain ⟨a,e,⟨xs,hq⟩,q⟩:=q1
  subst e
  cases r1
  obtain ⟨its,rv,p,hz⟩:=I1.list hq
  refine wpAny_pyIter_list p.isList ?_
  refine ⟨s1.heap.objs.size,[s1.heap.objs.size],_,_,H1,rfl,I1.kept (t':=s1.toks) fun b o e=>Heap.get?_push_of_some _ e,zhW a _,⟨_,Heap.get?_push_size _ rfl,rfl,rfl⟩,fun b hb=>?_,q⟩
  have e:b = s1.heap.objs.size:=by simpa using hb
  subst e
  exact I1.fpOk (Nat.le_refl _) (I1.hok.fresh (Nat.le_refl _))
theorem zlD {l:Expr} {tl:TE} (hl:PE X l tl):PI X tg l (zn5 X.K tl):=by
  intro pins s σ H R I h
  refine thn (hl pins s σ H _ I h) fun v s1 ⟨x,H1,I1,r1,q1⟩=>?_
  obtain ⟨a,e,⟨xs,hq⟩,q⟩:=q1
  subst e
  cases r1
  obtain ⟨its,rv,p,hz⟩:=I1.tuple hq
  refine wpAny_pyIter_tuple (show s1.heap.IsTuple a its.toArray from p) ?_
  refine ⟨s1.heap.objs.size,[s1.heap.objs.size],_,_,H1,rfl,I1.kept (t':=s1.toks) fun b o e=>Heap.get?_push_of_some _ e,zg2 a _,⟨_,Heap.get?_push_size _ rfl,rfl,rfl⟩,fun b hb=>?_,q⟩
  have e:b = s1.heap.objs.size:=by simpa using hb
  subst e
  exact I1.fpOk (Nat.le_refl _) (I1.hok.fresh (Nat.le_refl _))
theorem zi2 {pins:List (Addr × Obj)} {σ:St} {H:Hp} {s:Shared} {R:It->Hp->Prop} {E:Value->Shared->Prop} {lo hi:Int} {t u v:Tok} {tk:Nat} (I:Inv X pins σ H s) (h1:-(2 ^ 62)<=lo) (h2:lo < 2 ^ 62) (h3:-(2 ^ 62)<=hi) (h4:hi < 2 ^ 62)
    (q:R (Itr lo (hi - lo).toNat) H):wpAny (model X.prog X.w) X.A (pyIter (.ref s.heap.objs.size)) (PIE X pins σ tg R) E { s with heap:=s.heap.push { cls:=.type "range",data:=.fields #[.int lo t,.int hi u,.int 1 v] },toks:=tk }:=by
  refine wpAny_pyIter_range (IsRange.new ..) (small_one h1 h2 h3 h4) ?_
  have I1:Inv X pins σ H { s with heap:=s.heap.push { cls:=.type "range",data:=.fields #[.int lo t,.int hi u,.int 1 v] },toks:=tk }:=I.kept fun b o e=>Heap.get?_push_of_some _ e
  refine ⟨(s.heap.push { cls:=.type "range",data:=.fields #[.int lo t,.int hi u,.int 1 v] }).objs.size,[(s.heap.push { cls:=.type "range",data:=.fields #[.int lo t,.int hi u,.int 1 v] }).objs.size],_,_,H,rfl,
    I1.kept (t':=tk) fun b o e=>Heap.get?_push_of_some _ e,zg3 _ lo (hi - lo).toNat,?_,fun b hb=>?_,q⟩
  · have e1:lo + ((0:Nat):Int) * 1 = lo:=by simp
    have e2:(((hi - lo).toNat:Nat):Int) - ((0:Nat):Int) = Builtin.Range.rangeSize lo hi 1:=by rw [rangeSize_one];split <;> omega
    show IsRangeIter _ _ (lo + ((0:Nat):Int) * 1) ((((hi - lo).toNat:Nat):Int) - ((0:Nat):Int)) 1
    rw [e1,e2]
    exact Heap.get?_push_size _ rfl
  · have e:b = (s.heap.push { cls:=.type "range",data:=.fields #[.int lo t,.int hi u,.int 1 v] }).objs.size:=by simpa using hb
    subst e
    exact I1.fpOk (Nat.le_refl _) (I1.hok.fresh (Nat.le_refl _))
noncomputable def znl (ta:TA):TI:=fun σ H R=>ta σ H fun vs H1=>∃ j:Int,vs = [.int j]/\-(2 ^ 62)<=j/\j < 2 ^ 62/\R (Itr 0 j.toNat) H1
theorem zh9 {a:Expr} {ta:TA} {p pos:Pos} (hg:Gl X "range") (hm:X.mg "range" = none) (ha:PA X [a] ta) (hs:starEach [a] X.env = [(false,eval a X.env)]:=by rfl):PI X tg (.Call (.Name "range" p) [a] [] pos) (znl ta):=by
  intro pins s σ H R I h
  refine Call_ (za9 I hg hm boot_range (PyProof.Rows.callWith_type1 (thn (ha pos pins s σ H _ I h) fun us s1 ⟨vs,H1,I1,r1,q1⟩=>?_) hs rfl))
  obtain ⟨j,e,q1,q2,q⟩:=q1
  subst e
  cases r1 with
  | cons r rr=>
    cases rr
    obtain ⟨t,rfl⟩:=r
    exact call_range_1 (zi2 I1 (by omega) (by omega) q1 q2 (by simpa using q))
noncomputable def znK (wi:TI) (g:TG) (tb:TS):TS:=fun D σ H=>wi σ H fun J H1=>∃ W:Nat->Nat->St->Hp->Prop,(∃ m,W 0 m σ H1)/\∀ i m σ H,W i m σ H->
  (J.stop i H/\D.nx σ H)\/(J.go i H/\∃ N:St->Hp->Prop,(∀ σ' H',N σ' H'->∃ m',m' < m/\W (i + 1) m' σ' H')/\∀ x H',J.yld i H x H'->g x σ H' fun σ2 H2=>tb { D with nx:=N,ct:=N,bk:=D.nx } σ2 H2)
noncomputable def zbQ (fp:List Addr) (h:Heap):List (Addr × Obj):=fp.filterMap fun b=>(h.get? b).map fun o=>(b,o)
theorem zab {fp:List Addr} {h:Heap} {b:Addr} {o:Obj} (hb:b ∈ fp) (e:h.get? b = some o):(b,o) ∈ zbQ fp h:=List.mem_filterMap.mpr ⟨b,hb,by rw [e];rfl⟩
theorem zic {fp:List Addr} {h:Heap} {p:Addr × Obj} (hp:p ∈ zbQ fp h):p.1 ∈ fp/\h.get? p.1 = some p.2:=by
  obtain ⟨b,hb,e⟩:=List.mem_filterMap.mp hp
  cases q:h.get? b with
  | none=>rw [q] at e;cases e
  | some o=>
    rw [q] at e
    have e':(b,o) = p:=Option.some.inj e
    subst e'
    exact ⟨hb,q⟩
theorem Inv.pinned {pins:List (Addr × Obj)} {σ:St} {H:Hp} {s:Shared} {fp:List Addr} (I:Inv X pins σ H s) (hf:∀ b ∈ fp,zbC X pins H b) (ho:∀ b ∈ fp,∃ o,s.heap.get? b = some o/\∀ v,o.data ≠ .cell v):Inv X (pins ++ zbQ fp s.heap) σ H s:=
  I.pins_of fun p hp=>(List.mem_append.mp hp).elim (fun z=>I.pin p (List.mem_append_right _ z)) fun z=>by
    obtain ⟨hb,e⟩:=zic z
    obtain ⟨f0,f1,f2,_⟩:=hf p.1 hb
    obtain ⟨o,e',d⟩:=ho p.1 hb
    rw [e] at e';cases e'
    exact ⟨e,f0,f1,f2,d⟩
theorem Inv.unpinned {pins pl:List (Addr × Obj)} {σ:St} {H:Hp} {s:Shared} (I:Inv X (pins ++ pl) σ H s):Inv X pins σ H s:=I.pins_of fun p hp=>I.pin p (List.mem_append_right _ (List.mem_append_left _ hp))
theorem zh7 {iter:Expr} {body:List Stmt} {wi:TI} {g:TG} {tb:TS} {pos:Pos} (hp:PassesOwn (model X.prog X.w) X.A X.env X.xe) (hc:X.calm = true) (hi:PI X tg iter wi) (hg:PG X tg g) (hb:PSs X body tb)
    (hs:∀ x,foldedSetIterable iter X.env x = pure x:=by intro _;rfl):PS X (.For tg iter body [] pos) (znK wi g tb):=by
  intro pins s σ H D I h
  refine wpAny_For (thn (hi pins s σ H _ I h) fun v s1 h1=>thn h1 fun itv s2 h2=>?_) hs
  obtain ⟨it,fp,tn,J,H2,e,I2,T,st2,f2,W,⟨m0,w0⟩,turn⟩:=h2
  subst e
  -- what stays true of the iterator's objects through the loop
  have stat:∀ {H':Hp},(∀ b ∈ fp,H' b = none)->∀ b ∈ fp,zbC X pins H' b:=fun hn b hb=>⟨hn b hb,(f2 b hb).2⟩
  refine codeAny_forLoop_any (fun n s'=>∃ i σ' H',Inv X pins σ' H' s'/\tn i s'.heap/\(∀ b ∈ fp,H' b = none)/\W i n σ' H') ?_ m0 ⟨0,σ,H2,I2,st2,fun b hb=>(f2 b hb).1,w0⟩
  rintro n s3 ⟨i,σ3,H3,I3,st3,fr3,w3⟩
  rcases turn i n σ3 H3 w3 with ⟨stop,qn⟩ | ⟨go,N,hN,step⟩
  · refine wpAny_passesOwn hp (thn (T.done X rfl rfl rfl hc i pins s3 σ3 H3 X.xe I3 (stat fr3) st3 stop) fun r s4 ⟨hr,I4⟩=>?_)
    subst hr
    exact wpAny_execs_nil ⟨σ3,H3,I4,qn⟩
  · refine wpAny_passesOwn hp (thn (T.item X rfl rfl rfl hc i pins s3 σ3 H3 X.xe I3 (stat fr3) st3 go) fun r s4 ⟨u,hr,h4⟩=>?_)
    subst hr
    refine wpAny_passesOwn hp (thn h4 fun _ s5 ⟨x,H5,I5,r5,y5,st5,fr5⟩=>?_)
    have I5':=I5.pinned (stat fr5) (T.obj _ _ st5)
    refine wpAny_passesOwn hp (thn (hg _ s5 σ3 H5 x u _ I5' r5 (step x H5 y5)) fun _ s6 ⟨σ6,H6,I6,q6⟩=>?_)
    refine wpAny_passesOwn hp (thn (hb _ s6 σ6 H6 _ I6 q6) fun f s7 q7=>?_)
    have again:∀ {σ7:St} {H7:Hp},Inv X (pins ++ zbQ fp s5.heap) σ7 H7 s7->N σ7 H7->∃ m,m < n/\∃ i σ' H',Inv X pins σ' H' s7/\tn i s7.heap/\(∀ b ∈ fp,H' b = none)/\W i m σ' H':=fun {σ7 H7} I7 n7=>by
      obtain ⟨m',hm,w7⟩:=hN σ7 H7 n7
      refine ⟨m',hm,i + 1,σ7,H7,I7.unpinned,T.keep _ _ _ st5 fun b hb o e=>(I7.pin (b,o) (List.mem_append_right _ (List.mem_append_right _ (zab hb e)))).1,fun b hb=>?_,w7⟩
      obtain ⟨o,e,d⟩:=T.obj _ _ st5 b hb
      exact (I7.pin (b,o) (List.mem_append_right _ (List.mem_append_right _ (zab hb e)))).2.1
    cases f with
    | next=>obtain ⟨σ7,H7,I7,n7⟩:=q7;exact again I7 n7
    | cont=>obtain ⟨σ7,H7,I7,n7⟩:=q7;exact again I7 n7
    | brk=>obtain ⟨σ7,H7,I7,q7⟩:=q7;exact ⟨σ7,H7,I7.unpinned,q7⟩
    | ret v=>obtain ⟨x7,σ7,H7,I7,r7,q7⟩:=q7;exact ⟨x7,σ7,H7,I7.unpinned,r7,q7⟩
end
end L2
namespace L2
open PySem PySem.Spec PyProof.Rows
noncomputable abbrev R2:=V->V->Hp->VK->Prop
noncomputable def OpR (X:Cx) (f:Value->Value->Sem Value) (r:R2):Prop:=
  ∀ (pins:List (Addr × Obj)) (s:Shared) (σ:St) (H:Hp) (x y:V) (v u:Value) (Q:VK),Inv X pins σ H s->RelV x v->RelV y u->r x y H Q->
    wpAny (model X.prog X.w) X.A (f v u) (EP X pins σ Q) X.xe s
noncomputable def UnR (X:Cx) (f:Value->Sem Value) (r:V->Hp->VK->Prop):Prop:=
  ∀ (pins:List (Addr × Obj)) (s:Shared) (σ:St) (H:Hp) (x:V) (v:Value) (Q:VK),Inv X pins σ H s->RelV x v->r x H Q->
    wpAny (model X.prog X.w) X.A (f v) (EP X pins σ Q) X.xe s
noncomputable def CallR (X:Cx) (f:Value) (r:List V->Hp->VK->Prop):Prop:=
  ∀ (pins:List (Addr × Obj)) (s:Shared) (σ:St) (H:Hp) (xs:List V) (us:List Value) (Q:VK),Inv X pins σ H s->Vals xs us->r xs H Q->
    wpAny (model X.prog X.w) X.A (call f us) (EP X pins σ Q) X.xe s
noncomputable def tOp (r:R2) (ta tb:TE):TE:=fun σ H Q=>ta σ H fun x H1=>tb σ H1 fun y H2=>r x y H2 Q
noncomputable def rI (C:Int->Int->Prop) (g:Int->Int->V):R2:=fun x y H Q=>∃ i j,x = .int i/\y = .int j/\C i j/\Q (g i j) H
noncomputable def rI0 (g:Int->Int->V):R2:=fun x y H Q=>∃ i j,x = .int i/\y = .int j/\Q (g i j) H
section
variable {X:Cx} {a b c:Expr} {ta tb tc:TE} {pos:Pos}
theorem zjG (ha:PE X a ta) (hb:PE X b tb) {pins:List (Addr × Obj)} {s:Shared} {σ:St} {H:Hp} {R:V->V->Hp->Prop} (I:Inv X pins σ H s)
    (h:ta σ H fun x H1=>tb σ H1 fun y H2=>R x y H2) {Q:Value->Shared->Prop} {f:Value->Value->Sem Value}
    (hf:∀ v u s2 x y H2,Inv X pins σ H2 s2->RelV x v->RelV y u->R x y H2->wpAny (model X.prog X.w) X.A (f v u) Q X.xe s2) :
    wpAny (model X.prog X.w) X.A (eval a X.env) (fun v s₁=>wpAny (model X.prog X.w) X.A (eval b X.env) (fun u s₂=>wpAny (model X.prog X.w) X.A (f v u) Q X.xe s₂) X.xe s₁) X.xe s:=by
  refine thn (ha pins s σ H _ I h) fun v s1 ⟨x,H1,I1,r1,q1⟩=>?_
  refine thn (hb pins s1 σ H1 _ I1 q1) fun u s2 ⟨y,H2,I2,r2,q2⟩=>?_
  exact hf v u s2 x y H2 I2 r1 r2 q2
theorem zhj {op:Operator} {r:R2} (ho:OpR X (binaryOp op) r) (ha:PE X a ta) (hb:PE X b tb):PE X (.BinOp a op b pos) (tOp r ta tb):=by
  intro pins s σ H Q I h
  exact wpAny_BinOp (zjG ha hb I h fun v u s2 x y H2 I2 rx ry q=>ho pins s2 σ H2 x y v u Q I2 rx ry q)
theorem opI {f:Value->Value->Sem Value} {C:Int->Int->Prop} {g:Int->Int->Int}
    (rule:∀ (i j:Int) (t u:Tok) (s:Shared) (Q:Value->Shared->Prop) (E:Value->Shared->Prop),C i j->Q (.int (g i j) s.toks) { s with toks:=s.toks + 1 }->wpAny (model X.prog X.w) X.A (f (.int i t) (.int j u)) Q E s) :
    OpR X f (rI C fun i j=>.int (g i j)):=by
  intro pins s σ H x y v u Q I rx ry h
  obtain ⟨i,j,rfl,rfl,hc,q⟩:=h
  obtain ⟨t,rfl⟩:=rx
  obtain ⟨t',rfl⟩:=ry
  exact rule i j t t' s _ _ hc ⟨.int (g i j),H,I.tok _,⟨_,rfl⟩,q⟩
theorem zlU {f:Value->Value->Sem Value} {g:Int->Int->Int}
    (rule:∀ (i j:Int) (t u:Tok) (s:Shared) (Q:Value->Shared->Prop) (E:Value->Shared->Prop),Q (.int (g i j) s.toks) { s with toks:=s.toks + 1 }->wpAny (model X.prog X.w) X.A (f (.int i t) (.int j u)) Q E s) :
    OpR X f (rI0 fun i j=>.int (g i j)):=by
  intro pins s σ H x y v u Q I rx ry h
  obtain ⟨i,j,rfl,rfl,q⟩:=h
  obtain ⟨t,rfl⟩:=rx
  obtain ⟨t',rfl⟩:=ry
  exact rule i j t t' s _ _ ⟨.int (g i j),H,I.tok _,⟨_,rfl⟩,q⟩
theorem zlV {f:Value->Value->Sem Value} {g:Int->Int->Bool}
    (rule:∀ (i j:Int) (t u:Tok) (s:Shared) (Q:Value->Shared->Prop) (E:Value->Shared->Prop),Q (.bool (g i j)) s->wpAny (model X.prog X.w) X.A (f (.int i t) (.int j u)) Q E s) :
    OpR X f (rI0 fun i j=>.bl (g i j)):=by
  intro pins s σ H x y v u Q I rx ry h
  obtain ⟨i,j,rfl,rfl,q⟩:=h
  obtain ⟨t,rfl⟩:=rx
  obtain ⟨t',rfl⟩:=ry
  exact rule i j t t' s _ _ ⟨.bl (g i j),H,I,rfl,q⟩
noncomputable def zog (i j:Int):Prop:=0<=j/\j<=1000000/\i.natAbs < 2 ^ 64
noncomputable def CMul (i j:Int):Prop:=(-(2 ^ 64) < i/\i < 2 ^ 64)\/(-(2 ^ 64) < j/\j < 2 ^ 64)
theorem CMul.ok {i j:Int} (h:CMul i j):IntMulOk i j:=by
  rcases h with ⟨h1,h2⟩ | ⟨h1,h2⟩
  · exact .of_left (intBits_le_64 h1 h2)
  · exact .of_right (intBits_le_64 h1 h2)
theorem zlT:OpR X (binaryOp .Add) (rI0 fun i j=>.int (i + j)):=zlU fun _ _ _ _ _ _ _ q=>add_int q
theorem zlN:OpR X (binaryOp .Sub) (rI0 fun i j=>.int (i - j)):=zlU fun _ _ _ _ _ _ _ q=>sub_int q
theorem zks:OpR X (binaryOp .Mod) (rI (fun _ j=>j ≠ 0) fun i j=>.int (i.fmod j)):=opI fun _ _ _ _ _ _ _ hc q=>mod_int' hc q
theorem zlP:OpR X (binaryOp .Pow) (rI zog fun i j=>.int (i ^ j.toNat)):=opI fun _ _ _ _ _ _ _ hc q=>pow_int_small hc.1 hc.2.1 hc.2.2 q
end
section
variable {X:Cx} {a b c:Expr} {ta tb tc:TE} {pos:Pos}
theorem ziu {pins:List (Addr × Obj)} {σ:St} {H:Hp} {s:Shared} {Q:VK} {k k':Bool} (I:Inv X pins σ H s) (q:Q (.bl k) H) (e:k = k'):EP X pins σ Q (.bool k') s:=by
  subst e
  exact ⟨.bl k,H,I,rfl,q⟩
theorem zne:OpR X (compareOp .Lt) (rI0 fun i j=>.bl (decide (i < j))):=zlV fun _ _ _ _ _ _ _ q=>lt_int q
theorem znf:OpR X (compareOp .Gt) (rI0 fun i j=>.bl (decide (j < i))):=zlV fun _ _ _ _ _ _ _ q=>gt_int q
theorem zlR:OpR X (compareOp .Is) (fun x y H Q=>y = .non/\Q (.bl (decide (x = .non))) H):=by
  intro pins s σ H x y v u Q I rx ry h
  obtain ⟨rfl,q⟩:=h
  cases ry
  refine is_none_gen (ziu I q ?_)
  cases x <;> first
    | (cases rx;rfl)
    | (obtain ⟨t,rfl⟩:=rx;rfl)
theorem zkq:OpR X (compareOp .IsNot) (fun x y H Q=>y = .non/\Q (.bl (!decide (x = .non))) H):=by
  intro pins s σ H x y v u Q I rx ry h
  obtain ⟨rfl,q⟩:=h
  cases ry
  refine isnot_none_gen (ziu I q ?_)
  cases x <;> first
    | (cases rx;rfl)
    | (obtain ⟨t,rfl⟩:=rx;rfl)
theorem zt (b:Expr) {op:CmpOp} (h:op ≠ .In:=by decide) (h2:op ≠ .NotIn:=by decide):behindInMarks op b = false:=by
  have e1:(op == CmpOp.In) = false:=by cases op <;> first | rfl | exact absurd rfl h
  have e2:(op == CmpOp.NotIn) = false:=by cases op <;> first | rfl | exact absurd rfl h2
  cases b <;> simp [behindInMarks,e1,e2]
theorem zkm {op:CmpOp} {r:R2} (ho:OpR X (compareOp op) r) (ha:PE X a ta) (hb:PE X b tb) (hm:behindInMarks op b = false):PE X (.Compare a [op] [b] pos) (tOp r ta tb):=by
  intro pins s σ H Q I h
  exact wpAny_Compare1 (zjG ha hb I h fun v u s2 x y H2 I2 rx ry q=>ho pins s2 σ H2 x y v u Q I2 rx ry q) hm
noncomputable def zmW (t:TE):TT:=fun σ H Q=>t σ H fun x H'=>∃ k,x = .bl k/\Q k H'
theorem zkb {op:CmpOp} {r:R2} (ho:OpR X (compareOp op) r) (ha:PE X a ta) (hb:PE X b tb) (hm:behindInMarks op b = false):PT X (.Compare a [op] [b] pos) (zmW (tOp r ta tb)):=by
  intro pins s σ H Q I h
  refine wpAny_isTrue_Compare1 (thn (ha pins s σ H _ I h) fun v s1 ⟨x,H1,I1,r1,q1⟩=>thn (hb pins s1 σ H1 _ I1 q1) fun u s2 ⟨y,H2,I2,r2,q2⟩=>
    thn (ho pins s2 σ H2 x y v u _ I2 r1 r2 q2) fun c s3 ⟨z,H3,I3,r3,k,e,q3⟩=>?_) hm
  subst e
  cases r3
  exact wpAny_truthy_bool ⟨H3,I3,q3⟩
theorem zax:(sizeLine:Nat) < 2 ^ 63:=by rw [sizeLine_eq];decide
theorem zhk:OpR X (binaryOp .Add) (fun x y H Q=>∃ i j,x = .str i/\y = .str j/\i.length + j.length<=sizeLine/\Q (.str (i ++ j)) H):=by
  intro pins s σ H x y v u Q I rx ry h
  obtain ⟨i,j,rfl,rfl,hz,q⟩:=h
  obtain ⟨t,rfl⟩:=rx
  obtain ⟨t',rfl⟩:=ry
  exact add_str (fun t' tk=>⟨.str (i ++ j),H,I.tok _,⟨_,rfl⟩,q⟩) hz
theorem vals1 {x:V} {us:List Value} (r:Vals [x] us):∃ u,us = [u]/\RelV x u:=by
  cases r with
  | cons r1 r2=>cases r2;exact ⟨_,rfl,r1⟩
theorem vals2 {x y:V} {us:List Value} (r:Vals [x,y] us):∃ u w',us = [u,w']/\RelV x u/\RelV y w':=by
  cases r with
  | cons r1 r2=>
    cases r2 with
    | cons r3 r4=>cases r4;exact ⟨_,_,rfl,r1,r3⟩
theorem ziI (hc:X.calm = true):CallR X (.builtin "max") (fun xs H Q=>∃ i j,xs = [.int i,.int j]/\Q (.int (if j > i then j else i)) H):=by
  intro pins s σ H xs us Q I r h
  obtain ⟨i,j,rfl,q⟩:=h
  obtain ⟨u,w',rfl,⟨t,rfl⟩,⟨t',rfl⟩⟩:=vals2 r
  refine max_two_ints (I.ok.hd hc) fun h' tk k=>⟨_,H,I.kept k,?_,q⟩
  by_cases hj:j > i
  · rw [if_pos hj,if_pos hj];exact ⟨_,rfl⟩
  · rw [if_neg hj,if_neg hj];exact ⟨_,rfl⟩
theorem ziH (hc:X.calm = true):CallR X (.builtin "min") (fun xs H Q=>∃ i j,xs = [.int i,.int j]/\Q (.int (if j < i then j else i)) H):=by
  intro pins s σ H xs us Q I r h
  obtain ⟨i,j,rfl,q⟩:=h
  obtain ⟨u,w',rfl,⟨t,rfl⟩,⟨t',rfl⟩⟩:=vals2 r
  refine min_two_ints (I.ok.hd hc) fun h' tk k=>⟨_,H,I.kept k,?_,q⟩
  by_cases hj:j < i
  · rw [if_pos hj,if_pos hj];exact ⟨_,rfl⟩
  · rw [if_neg hj,if_neg hj];exact ⟨_,rfl⟩
end
end L2
namespace L2
open PySem PySem.Spec PyProof.Rows
structure ObjM (h:Heap) (x dx C:Addr) (mA:Str->Option Value):Prop where
  obj:h.get? x = some (PySem.W.instObj C dx)
  ns:h.Ns1 dx mA
  ne:dx ≠ x
theorem zig {h:Heap} {dx:Addr} {mA:Str->Option Value} (n:h.Ns1 dx mA):∃ od,h.get? dx = some od/\∀ name,PySem.W.lookIn name od = some (mA name):=by
  obtain ⟨o,es,ep,ho,hd,hk,_,hm⟩:=n
  refine ⟨o,ho,fun name=>?_⟩
  have e:=hm name
  unfold nsFind findBy at e
  rw [← Array.find?_toList] at e
  unfold PySem.W.lookIn
  rw [hd]
  dsimp only
  split
  · rename_i y q
    rw [q] at e
    exact congrArg some e
  · rename_i q
    rw [q] at e
    have a:es.toList.any (·.refKey) = false:=by
      rw [List.any_eq_false]
      intro y hy
      obtain ⟨z,t,hkey⟩:=hk y (Array.mem_toList_iff.mp hy)
      simp [DictEntry.refKey,hkey]
    have a':¬ es.toList.any (·.refKey) = true:=by rw [a];exact Bool.false_ne_true
    rw [if_neg a']
    exact congrArg some e
theorem ObjM.look {h:Heap} {x dx C:Addr} {mA:Str->Option Value} (I:ObjM h x dx C mA):∃ od,PySem.W.InstAt h x (PySem.W.instObj C dx) C (some od)/\∀ name,PySem.W.lookIn name od = some (mA name):=
  let ⟨od,ho,hl⟩:=zig I.ns
  ⟨od,⟨I.obj,rfl,rfl,ho⟩,hl⟩
noncomputable def zi6 (f:Str) (v:V):List (Str × V)->List (Str × V)
  | []=>[(f,v)]
  | (g,x) :: r=>if g = f then (g,v) :: r else (g,x) :: zi6 f v r
theorem RelO.some_of {v:V} {o:Option Value} (r:RelO (some v) o):∃ u,o = some u/\RelV v u:=by
  cases o with
  | none=>exact (show False from r).elim
  | some u=>exact ⟨u,rfl,r⟩
structure Cls (K:PySem.W.Frag) (C:Addr):Prop where
  pg:PySem.W.plainGet K C Str.empty = true
  hd:PySem.W.hasDictIn K C = true
  po:PySem.W.plainOver K C = true
  sa:PySem.W.findIn K (.ref C) "__setattr__" = some (some (.builtin "object.__setattr__"))
structure Con (K:PySem.W.Frag) (C:Addr) (f:Str) (v:V) (u:Value):Prop where
  at_:PySem.W.findIn K (.ref C) f = some (some u)
  rel:RelV v u
  get:PySem.W.specialIn K u "__get__" = some none
  cp:PySem.W.copiedNames.contains f = false
structure Meth (K:PySem.W.Frag) (C:Addr) (m:Str) (f:Addr):Prop where
  at_:PySem.W.findIn K (.ref C) m = some (some (.ref f))
  fn:PySem.W.isFn K (.ref f) = true
  kp:PySem.W.keepIn K (.ref f) = true
section
variable {X:Cx} {pins:List (Addr × Obj)} {σ:St} {H:Hp} {s:Shared} {a C dx:Addr} {fs:List (Str × V)} {f:Str} {v:V} {A:Around} {E:Value->Shared->Prop}
theorem zle {prog:Program} {w:World} {env:Env} {e:Expr} {f:Str} {pos:Pos} {s:Shared} {Q:Value->Shared->Prop} (hb:attributeBase e f env (eval e env) = eval e env)
    (h:wpAny (model prog w) A (eval e env) (fun o s₁=>wpAny (model prog w) A (getAttr o f true) Q E s₁) E s):wpAny (model prog w) A (eval (.Attribute e f pos) env) Q E s:=
  Attribute_any_ h (by rw [arm_eval_Attribute,hb])
end
section
variable {X:Cx} {pins:List (Addr × Obj)} {σ:St} {H:Hp} {s:Shared} {A:Around} {E:Value->Shared->Prop} {Q:Value->Shared->Prop} {c:Value} {b:Bool}
inductive TyOf (K:PySem.W.Frag) (H:Hp):V->Value->Prop where
  | non:TyOf K H .non (.type "NoneType")
  | bl (x:Bool):TyOf K H (.bl x) (.type "bool")
  | int (i:Int):TyOf K H (.int i) (.type "int")
  | str (x:Str):TyOf K H (.str x) (.type "str")
  | flt (x:UInt64):TyOf K H (.flt x) (.type "float")
  | lst {a:Addr} {xs:List V} (e:H a = some (.lst xs)):TyOf K H (.ref a) (.type "list")
  | frz {a:Addr} {o:Obj} {xs:List V} (e:H a = some (.frz o (.lst xs))):TyOf K H (.ref a) (.type "list")
  | tup {a:Addr} {xs:List V} (e:H a = some (.tup xs)):TyOf K H (.ref a) (.type "tuple")
  | dK {a:Addr} {kvs:List (Key × V)} (e:H a = some (.dK kvs)):TyOf K H (.ref a) (.type "dict")
  | dT {a:Addr} {kvs:List (List Key × V)} (e:H a = some (.dT kvs)):TyOf K H (.ref a) (.type "dict")
  | ins {a C dx:Addr} {fs:List (Str × V)} (e:H a = some (.ins C dx fs)) (cl:Cls K C) (ha:PySem.W.findIn K (.ref C) "__class__" = some (some (.builtin "object.__class__")))
      (hn:PySem.W.specialIn K (.builtin "object.__class__") "__get__" = some (some (.builtin "getset_descriptor.__get__"))) (htk:PySem.W.takesIn K (.builtin "object.__class__") = some true)
      (hm:PySem.W.mroIn K C (.type "object") = some true):TyOf K H (.ref a) (.ref C)
end
end L2
namespace L2
open PySem PySem.Spec PyProof.Rows
structure Room (k:Nat) (A:Around):Prop where
  hd:A.handled = none
  dp:A.depth + 3 * k + 5 < recursionLimit
  un:A.units + 16 * k + 200 < cLine
theorem Room.mono {j k:Nat} {A:Around} (r:Room k A) (h:j<=k):Room j A:=⟨r.hd,by have:=r.dp;omega,by have:=r.un;omega⟩
theorem Room.deeper {k:Nat} {A:Around} (r:Room (k + 1) A) (env:Env):Room k (A.deeper env):=
  ⟨r.hd,by have:=r.dp;show A.depth + 1 + 3 * k + 5 < _;omega,by have:=r.un;show A.units + 3 + 16 * k + 200 < _;omega⟩
theorem Room.in1 {k:Nat} {A:Around} (r:Room (k + 1) A):Room k A.in1:=
  ⟨r.hd,by have:=r.dp;show A.depth + 3 * k + 5 < _;omega,by have:=r.un;show A.units + 1 + 16 * k + 200 < _;omega⟩
theorem zho {A:Around} {C:Addr} {us:List Value} {kw:List (Str × Value)}:(A.under (.builtin "type.__call__" ⟨.ref C :: us,kw⟩)).depth = A.depth + 1:=by
  first | rfl | simp [Around.under,Code.weight,Code.isCreation,Code.isGuard,Code.isCaller,Code.frames,Code.isFrame,guardIds]
theorem zhn {A:Around} {C:Addr} {us:List Value} {kw:List (Str × Value)}:(A.under (.builtin "type.__call__" ⟨.ref C :: us,kw⟩)).units = A.units + 1:=by
  first | rfl | simp [Around.under,Code.cUnits,Code.frames,Code.isFrame]
theorem Room.make {k:Nat} {A:Around} (r:Room (k + 1) A) (C:Addr) (us:List Value) (kw:List (Str × Value)):Room k (A.under (.builtin "type.__call__" ⟨.ref C :: us,kw⟩)):=
  ⟨r.hd,by have:=r.dp;rw [zho];omega,by have:=r.un;rw [zhn];omega⟩
theorem Room.depth {k:Nat} {A:Around} (r:Room k A):A.depth < recursionLimit:=by have:=r.dp;omega
theorem Room.units {k:Nat} {A:Around} (r:Room k A):A.units + 64 < cLine:=by have:=r.un;omega
theorem Room.units0 {k:Nat} {A:Around} (r:Room k A):A.units < cLine:=by have:=r.un;omega
noncomputable def znH:TA:=fun _ H Q=>Q [] H
noncomputable def zm0 (ta:TE) (tr:TA):TA:=fun σ H Q=>ta σ H fun x H1=>tr σ H1 fun xs H2=>Q (x :: xs) H2
section
variable {X:Cx} {e:Expr} {es:List Expr} {te:TE} {t:TA} {pos:Pos}
theorem zdb:PA X [] znH:=fun _ _ _ _ H Q I h=>Calls.spliced_nil ⟨[],H,I,.nil,h⟩
theorem zch (ha:PE X e te) (hr:PA X es t) (hs:starEach (e :: es) X.env = (false,eval e X.env) :: starEach es X.env:=by rfl):PA X (e :: es) (zm0 te t):=by
  intro pos pins s σ H Q I h
  rw [hs]
  show wpAny _ _ (spliced ((false,eval e X.env) :: backTo pos (starEach es X.env))) _ _ s
  refine Calls.spliced_cons (thn (ha pins s σ H _ I h) fun u s1 ⟨x,H1,I1,r1,q1⟩=>?_)
  exact thn (hr pos pins s1 σ H1 _ I1 q1) fun us s2 ⟨xs,H2,I2,r2,q2⟩=>⟨x :: xs,H2,I2,.cons r1 r2,q2⟩
noncomputable def znD (t:TA):TE:=fun σ H Q=>t σ H fun xs H1=>xs.length<=sizeLine/\∀ p,H1 p = none->Q (.ref p) (upd H1 p (.tup xs))
noncomputable def znI (t:TA):TE:=fun σ H Q=>t σ H fun xs H1=>xs.length<=sizeLine/\∀ p,H1 p = none->Q (.ref p) (upd H1 p (.lst xs))
theorem zlG {x1} (h:PA X es t):PE X (.Tuple es x1 pos) (znD t):=by
  intro pins s σ H Q I hq
  refine wpAny_Tuple_spliced (thn (h pos pins s σ H _ I hq) fun us s1 ⟨xs,H1,I1,r,z,q⟩=>⟨by rw [← r.length];exact z,?_⟩)
  have hf:H1 s1.heap.objs.size = none:=I1.hok.fresh (Nat.le_refl _)
  refine ⟨.ref s1.heap.objs.size,upd H1 s1.heap.objs.size (.tup xs),I1.laid (t':=s1.toks) (fun b u e=>Heap.get?_push_of_some _ e) (Nat.le_refl _) ?_,rfl,q _ hf⟩
  exact ⟨z,us,r,⟨_,Heap.get?_push_size _ rfl,rfl,_,rfl⟩,NoDict.new⟩
theorem zlJ (h:PA X es t):PE X (.List es pos) (znI t):=by
  intro pins s σ H Q I hq
  refine wpAny_List_spliced (thn (h pos pins s σ H _ I hq) fun us s1 ⟨xs,H1,I1,r,z,q⟩=>⟨by rw [← r.length];exact z,?_⟩)
  have hf:H1 s1.heap.objs.size = none:=I1.hok.fresh (Nat.le_refl _)
  refine ⟨.ref s1.heap.objs.size,upd H1 s1.heap.objs.size (.lst xs),I1.laid (t':=s1.toks) (fun b u e=>Heap.get?_push_of_some _ e) (Nat.le_refl _) ?_,rfl,q _ hf⟩
  exact ⟨z,us,0,r,Heap.get?_push_size _ rfl⟩
end
noncomputable abbrev Sp:=List V->Hp->VK->XK->Prop
noncomputable abbrev CXT:=List Env->Hp->Shared->XK->Value->Shared->Prop
structure Env0 (P:Program) (w:World) (K:PySem.W.Frag) (mg:Str->Option Value) (base:Heap) (A:Around) (outer:List Env) (s:Shared) (H:Hp):Prop where
  frames:A.frames = some outer
  mod:Mod K mg base
  bs:∀ b o,base.get? b = some o->s.heap.get? b = some o/\H b = none
  bsz:base.objs.size<=s.heap.objs.size
  funs:s.heap.FunFrames base outer
  frf:∀ b ∈ frs outer,H b = none
  hok:HOk P w H s.heap
  bare:AllBare s.gens
noncomputable def CE (outer:List Env) (P:Program) (w:World) (H:Hp) (s:Shared) (Q:VK) (u:Value) (s':Shared):Prop:=
  ∃ v H',s'.os = s.os/\AllBare s'.gens/\Un (frs outer) [] H H' s.heap s'.heap/\HOk P w H' s'.heap/\RelV v u/\Q v H'
noncomputable def CR (CX:CXT) (outer:List Env) (P:Program) (w:World) (H:Hp) (s:Shared) (Q:VK) (E:XK) (r:Result) (s':Shared):Prop:=
  match r with
  | .ok (.ret u)=>CE outer P w H s Q u s'
  | .ok _=>False
  | .error e=>CX outer H s E e s'
structure FnOk (P:Program) (w:World) (K:PySem.W.Frag) (mg:Str->Option Value) (base:Heap) (CX:CXT) (k:Nat) (f:Addr) (fd:FuncData) (ps:List Str) (sp:Sp):Prop where
  len:∀ vs H Q E,sp vs H Q E->vs.length = ps.length
  run:∀ (A:Around) (outer:List Env) (s:Shared) (H:Hp) (args:Args) (us:List Value) (vs:List V) (Q:VK) (E:XK),Room k A->Env0 P w K mg base A outer s H->BindsTo s fd args (ps.zip us)->Vals vs us->sp vs H Q E->
    codeAny (model P w) A (.call (.ref f) args) (CR CX outer P w H s Q E) s
theorem FnOk.mono {P:Program} {w:World} {K:PySem.W.Frag} {mg:Str->Option Value} {base:Heap} {CX:CXT} {j k:Nat} {f:Addr} {fd:FuncData} {ps:List Str} {sp:Sp} (F:FnOk P w K mg base CX j f fd ps sp) (h:j<=k) :
    FnOk P w K mg base CX k f fd ps sp:=⟨F.len,fun A outer s H args us vs Q E hr=>F.run A outer s H args us vs Q E (hr.mono h)⟩
theorem Env0.make {P:Program} {w:World} {K:PySem.W.Frag} {mg:Str->Option Value} {base:Heap} {A:Around} {outer:List Env} {s:Shared} {H:Hp} (e:Env0 P w K mg base A outer s H) (C:Addr) (us:List Value) (kw:List (Str × Value)) :
    Env0 P w K mg base (A.under (.builtin "type.__call__" ⟨.ref C :: us,kw⟩)) outer s H:=⟨by first | exact e.frames | (simpa [Around.under,Code.envs,Code.isFrame,pushEnvs] using e.frames),e.mod,e.bs,e.bsz,e.funs,e.frf,e.hok,e.bare⟩
section
variable {X:Cx} {pins:List (Addr × Obj)} {σ:St} {H:Hp} {s s':Shared}
theorem Inv.env0 (I:Inv X pins σ H s):Env0 X.prog X.w X.K X.mg X.base X.A X.stack s H:=
  ⟨I.ok.frames,I.ok.mod,I.bs,Nat.le_trans I.ok.bsz I.sz,I.stack,I.stkFree,I.hok,I.bare⟩
theorem Inv.after {Q:VK} {u:Value} (I:Inv X pins σ H s) (h:CE X.stack X.prog X.w H s Q u s'):EP X pins σ Q u s':=by
  obtain ⟨v,H',os,bare,un,hok,r,q⟩:=h
  obtain ⟨hh,g,d,t,os'⟩:=s'
  obtain rfl:os' = s.os:=os
  exact ⟨v,H',I.call (h':=hh) (g':=g) (d':=d) (t':=t) (ch:=[]) un hok bare (fun b z=>absurd z (by simp)),r,q⟩
end
noncomputable def zjK (sp:Sp) (dvs:List V) (E:XK) (t:TA):TE:=fun σ H Q=>t σ H fun vs H1=>sp (vs ++ dvs) H1 Q E
noncomputable def Binds (K:PySem.W.Frag) (fd:FuncData) (ps:List Str) (ds:List Value):Prop:=
  ∀ (s:Shared) (us:List Value),K.In s.heap->(us ++ ds).length = ps.length->BindsTo s fd ⟨us,[]⟩ (ps.zip (us ++ ds))
theorem Binds.all {K:PySem.W.Frag} {fd:FuncData} {ps:List Str} (h:∀ us:List Value,us.length = ps.length->bindArgs fd ⟨us,[]⟩ = pure (ps.zip us)):Binds K fd ps []:=fun s us _ hl=>by
  rw [List.append_nil] at hl ⊢
  exact .of_eq (h us hl)
noncomputable def Passes (CX:CXT) (X:Cx) (E:XK):Prop:=∀ (pins:List (Addr × Obj)) (σ:St) (H:Hp) (s:Shared) (e:Value) (s':Shared),Inv X pins σ H s->CX X.stack H s E e s'->X.xe e s'
section
variable {X:Cx} {CX:CXT} {k:Nat} {f C:Addr} {fd:FuncData} {ps:List Str} {sp:Sp} {dvs:List V} {ds:List Value} {E:XK} {x m:Str} {p pos apos:Pos} {e o:Expr} {es:List Expr} {ta:TE} {t:TA}
theorem zlo {pins:List (Addr × Obj)} {σ:St} {H:Hp} {s:Shared} {Q:VK} {us:List Value} {vs:List V} (F:FnOk X.prog X.w X.K X.mg X.base CX k f fd ps sp) (hr:Room k X.A) (hb:Binds X.K fd ps ds) (hd:Vals dvs ds) (hx:Passes CX X E)
    (I:Inv X pins σ H s) (r:Vals vs us) (h:sp (vs ++ dvs) H Q E):wpAny (model X.prog X.w) X.A (call (.ref f) us) (EP X pins σ Q) X.xe s:=by
  have r2:Vals (vs ++ dvs) (us ++ ds):=r.append hd
  have hl:(us ++ ds).length = ps.length:=by rw [← r2.length];exact F.len _ _ _ _ h
  refine wpAny_call (codeAny_mono (F.run X.A X.stack s H ⟨us,[]⟩ (us ++ ds) (vs ++ dvs) Q E hr I.env0 (hb s us I.kIn hl) r2 h) fun r s' hq=>?_)
  cases r with
  | error e=>exact hx pins σ H s e s' I hq
  | ok fl=>
    cases fl with
    | ret u=>exact I.after hq
    | next=>exact False.elim hq
    | brk=>exact False.elim hq
    | cont=>exact False.elim hq
theorem zkn (F:FnOk X.prog X.w X.K X.mg X.base CX k f fd ps sp) (hr:Room k X.A) (hg:Gl X x) (hm:X.mg x = some (.ref f)) (hk:PySem.W.keepIn X.K (.ref f) = true) (hb:Binds X.K fd ps ds) (hd:Vals dvs ds) (hx:Passes CX X E)
    (ha:PA X (e :: es) t) (hdb:(x == ("__debug__":Str)) = false:=by decide) (he:starEach (e :: es) X.env = (false,eval e X.env) :: starEach es X.env:=by rfl) (hpl:(backTo pos (starEach es X.env)).any (·.1) = false:=by rfl) :
    PE X (.Call (.Name x p) (e :: es) [] pos) (zjK sp dvs E t):=by
  intro pins s σ H Q I h
  refine wpAny_Call_Name_kw (zci I hg hm ?_ hdb)
  refine PySem.W.callWith_K (h₀:=X.base) I.ok.mod.kin hk (thn (ha pos pins s σ H _ I h) fun us s1 ⟨vs,H1,I1,r,q⟩=>⟨I1.kIn,?_⟩) he hpl
  exact zlo F hr hb hd hx I1 r q
structure Mk (K:PySem.W.Frag) (C f:Addr):Prop where
  makes:PySem.W.makesIn K C = true
  init:PySem.W.findIn K (.ref C) "__init__" = some (some (.ref f))
  fn:PySem.W.isFn K (.ref f) = true
  kp:PySem.W.keepIn K (.ref C) = true
end
section
variable {X:Cx} {CX:CXT} {k:Nat} {f C:Addr} {fd:FuncData} {ps ks:List Str} {sp:Sp} {E:XK} {x m:Str} {p pos apos kpos:Pos} {e o:Expr} {es:List Expr} {kws:List Keyword} {te ta:TE} {t tk:TA} {nm:Option Str}
structure KBinds (K:PySem.W.Frag) (fd:FuncData) (ps ks:List Str) (g:List Value->List Value->List Value) (gV:List V->List V->List V):Prop where
  to:∀ (s:Shared) (us ws:List Value),K.In s.heap->(g us ws).length = ps.length->BindsTo s fd ⟨us,ks.zip ws⟩ (ps.zip (g us ws))
  rel:∀ {vs:List V} {us:List Value} {zs:List V} {ws:List Value},Vals vs us->Vals zs ws->Vals (gV vs zs) (g us ws)
end
structure FnScope (N P:List Str) (sc:Scope):Prop where
  kind:sc.kind = .function
  co:sc.isCoroutine = false
  gen:sc.isGenerator = false
  nd:N.Nodup
  pre:N.take P.length = P
  par:∀ x ∈ P,sc.names.lookup x = some .local\/sc.names.lookup x = some .cell
  nofree:∀ y ∈ sc.names,y.2 ≠ .free
theorem zew {kindOf:Str->Option NameKind} {x:Str}:∀ {binds:List (Str × Value)} {m:Str->Option Value},(∀ v,(x,v) ∉ binds)->bindL kindOf binds m x = m x
  | [],_,_=>rfl
  | (n,v) :: r,m,h=>by
    unfold bindL
    rw [zew fun w hw=>h w (List.mem_cons_of_mem _ hw)]
    split
    · have:x ≠ n:=by rintro rfl;exact h v List.mem_cons_self
      simp [this]
    · rfl
theorem zey {kindOf:Str->Option NameKind} {x:Str}:∀ {binds:List (Str × Value)} {m:Str->Option Value},(∀ v,(x,v) ∉ binds)->bindC kindOf binds m x = m x
  | [],_,_=>rfl
  | (n,v) :: r,m,h=>by
    unfold bindC
    rw [zey fun w hw=>h w (List.mem_cons_of_mem _ hw)]
    split
    · rfl
    · have:x ≠ n:=by rintro rfl;exact h v List.mem_cons_self
      simp [this]
theorem zex {kindOf:Str->Option NameKind} {x:Str} {v:Value}:∀ {P:List Str} {vs:List Value} {i:Nat} {m:Str->Option Value},P.Nodup->P[i]? = some x->vs[i]? = some v->kindOf x = some .local->
    bindL kindOf (P.zip vs) m x = some v
  | [],_,_,_,_,h,_,_=>by simp at h
  | _ :: _,[],_,_,_,_,h,_=>by simp at h
  | p :: P,w :: vs,0,m,nd,h1,h2,hk=>by
    simp at h1 h2;subst h1;subst h2
    show bindL kindOf ((p,w) :: P.zip vs) m p = _
    unfold bindL
    rw [zew fun v hv=>(List.nodup_cons.mp nd).1 (List.of_mem_zip hv).1,if_pos hk]
    simp
  | p :: P,w :: vs,i + 1,m,nd,h1,h2,hk=>by
    show bindL kindOf ((p,w) :: P.zip vs) m x = _
    unfold bindL
    exact zex (i:=i) (List.nodup_cons.mp nd).2 (by simpa using h1) (by simpa using h2) hk
theorem zez {kindOf:Str->Option NameKind} {x:Str} {v:Value}:∀ {P:List Str} {vs:List Value} {i:Nat} {m:Str->Option Value},P.Nodup->P[i]? = some x->vs[i]? = some v->kindOf x ≠ some .local->
    bindC kindOf (P.zip vs) m x = some v
  | [],_,_,_,_,h,_,_=>by simp at h
  | _ :: _,[],_,_,_,_,h,_=>by simp at h
  | p :: P,w :: vs,0,m,nd,h1,h2,hk=>by
    simp at h1 h2;subst h1;subst h2
    show bindC kindOf ((p,w) :: P.zip vs) m p = _
    unfold bindC
    rw [zey fun v hv=>(List.nodup_cons.mp nd).1 (List.of_mem_zip hv).1,if_neg hk]
    simp
  | p :: P,w :: vs,i + 1,m,nd,h1,h2,hk=>by
    show bindC kindOf ((p,w) :: P.zip vs) m x = _
    unfold bindC
    exact zez (i:=i) (List.nodup_cons.mp nd).2 (by simpa using h1) (by simpa using h2) hk
noncomputable def start (N:List Str) (vs:List V):St:=vs.map some ++ List.replicate (N.length - vs.length) none
noncomputable def qY (CX:CXT) (P:Program) (w:World) (K:PySem.W.Frag) (mg:Str->Option Value) (base:Heap) (N:List Str) (qual:Str) (scope:Scope) (f:Addr) (cd:Value) (A:Around) (outer:List Env) (s:Shared) (H:Hp) (E:XK):Cx where
  prog:=P
  w:=w
  K:=K
  mg:=mg
  base:=base
  A:=A.deeper (envOfC qual scope s.heap.objs.size f cd)
  N:=N
  s₀:=s
  H₀:=H
  env:=envOfC qual scope s.heap.objs.size f cd
  outer:=outer
  stack:=envOfC qual scope s.heap.objs.size f cd :: outer
  ex:=[]
  calm:=true
  fn:=fun _=>true
  pn:=[]
  xe:=fun e s'=>wpAny (model P w) (A.deeper (envOfC qual scope s.heap.objs.size f cd)) (leaving (envOfC qual scope s.heap.objs.size f cd) e) (fun _ s''=>CX outer H s E e s'') (fun e' s''=>CX outer H s E e' s'') s'
theorem zfS {sc:Scope} {n:Nat} {x:Str} (h:sc.names.lookup x = some .cell):∃ c,(cellsFrom n sc.names []).lookup x = some c:=by
  have q:=PySem.W.cellsFrom_some sc.names n [] (.inl h)
  exact Option.isSome_iff_exists.mp q
theorem zik {CX:CXT} {P:Program} {w:World} {K:PySem.W.Frag} {mg:Str->Option Value} {base:Heap} {N ps:List Str} {qual:Str} {scope:Scope} {f:Addr} {cd:Value} {A:Around} {outer:List Env} {s s1:Shared} {H:Hp} {E:XK} {us:List Value} {vs:List V}
    (S:FnScope N ps scope) (hd:A.handled = none) (e0:Env0 P w K mg base A outer s H) (hl:vs.length = ps.length) (r:Vals vs us)
    (x:InCallC s s.heap.objs.size (bindL (envOfC qual scope s.heap.objs.size f cd).kindOf (ps.zip us) fun _=>none) (cellsFrom (s.heap.objs.size + 1) scope.names []) (bindC (envOfC qual scope s.heap.objs.size f cd).kindOf (ps.zip us) fun _=>none) s1) :
    Inv (qY CX P w K mg base N qual scope f cd A outer s H E) [] (start N vs) H s1:=by
  have hpl:ps.length<=N.length:=by have:=congrArg List.length S.pre;rw [List.length_take] at this;omega
  obtain ⟨h1,tk,rfl,hk⟩:=x.done
  have noA:∀ b:Addr,b ∉ (qY CX P w K mg base N qual scope f cd A outer s H E).ex:=fun b z=>absurd (show b ∈ ([]:List Addr) from z) (by simp)
  refine ⟨⟨e0.mod,S.kind,rfl,rfl,Nat.le_refl _,fun y z c h1 h2=>?_,fun y hy=>?_,fun y c _ h=>?_,fun _=>hd,Around.frames_deeper e0.frames,.inr ⟨rfl,rfl⟩,fun b z=>absurd z (noA b),e0.bs,e0.bsz,fun b _ _=>noA b,fun b z=>absurd z (noA b),e0.funs,e0.frf⟩,
    rfl,e0.bare,Un.kept hk,⟨_,x.toInCall.ns,fun i y v h1 h2 h3=>?_⟩,fun y c h=>⟨_,x.cell y c h⟩,e0.hok.fresh (Nat.le_refl _),fun y c h=>?_,fun p hp=>absurd (show p ∈ ([]:List (Addr × Obj)) from hp) (by simp),e0.hok.kept hk,?_⟩
  · exact name_of_addr x.apart (PySem.mem_of_lookup h1) (PySem.mem_of_lookup h2)
  · have hy:scope.names.lookup y = some .cell\/scope.names.lookup y = some .free:=hy
    rcases hy with hy | hy
    · exact zfS hy
    · exact absurd rfl (S.nofree _ (PySem.mem_of_lookup hy))
  · exact Nat.le_of_lt (x.above y c (PySem.mem_of_lookup h))
  · have hi:i < vs.length:=by
      unfold start at h2
      by_cases hi:i < vs.length
      · exact hi
      · rw [List.getElem?_append_right (by simpa using hi)] at h2
        rw [List.getElem?_replicate] at h2
        split at h2 <;> cases h2
    have ha:vs[i]? = some v:=by
      unfold start at h2
      rw [List.getElem?_append_left (by simpa using hi),List.getElem?_map] at h2
      cases e:vs[i]? with
      | none=>rw [e] at h2;cases h2
      | some a=>rw [e] at h2;cases h2;rfl
    obtain ⟨u,hu,rv⟩:=r.get ha
    have hp:ps[i]? = some y:=by
      rw [← S.pre,List.getElem?_take_of_lt (by omega)];exact h1
    have ndP:ps.Nodup:=by rw [← S.pre];exact S.nd.sublist (List.take_sublist _ _)
    refine ⟨u,rv,?_⟩
    rcases S.par y (List.mem_of_getElem? hp) with k | k
    · exact .inl ⟨k,zex ndP hp hu k⟩
    · obtain ⟨c,e⟩:=zfS (n:=s.heap.objs.size + 1) k
      refine .inr ⟨.inl k,c,e,?_⟩
      have q:=x.cell y c e
      rw [zez ndP hp hu (by show scope.names.lookup y ≠ _;rw [k];decide)] at q
      exact q
  · exact e0.hok.fresh (Nat.le_of_lt (x.above y c (PySem.mem_of_lookup h)))
  · unfold start
    show _ = N.length
    rw [List.length_append,List.length_map,List.length_replicate]
    omega
theorem zjO {CX:CXT} {P:Program} {w:World} {K:PySem.W.Frag} {mg:Str->Option Value} {base:Heap} {k:Nat} {f:Addr} {name qual:Str} {params:Arguments} {body:List Stmt} {scope:Scope} {dV kV doc pm cdv ct oc:Value} {an od:Option Addr}
    {osl:Array (Option Value)} {N ps:List Str} {sp:Sp} (lk:K.lookup f = some ⟨oc,od,.func (PySem.W.fnOf name qual params body scope dV kV doc pm an cdv ct),osl⟩) (hcd:PySem.W.codeIn K cdv qual = true) (S:FnScope N ps scope)
    (len:∀ vs H Q E,sp vs H Q E->vs.length = ps.length)
    (hbody:∀ (A:Around) (outer:List Env) (s:Shared) (H:Hp) (vs:List V) (Q:VK) (E:XK),Room k (A.deeper (envOfC qual scope s.heap.objs.size f cdv))->sp vs H Q E->
      ∃ t,PSs (qY CX P w K mg base N qual scope f cdv A outer s H E) body t/\t { nx:=fun _ H'=>Q .non H',rt:=Q } (start N vs) H) :
    FnOk P w K mg base CX (k + 1) f (PySem.W.fnOf name qual params body scope dV kV doc pm an cdv ct) ps sp:=by
  refine ⟨len,fun A outer s H args us vs Q E hr e0 hb r hsp=>?_⟩
  have hl:=len _ _ _ _ hsp
  have KX:K.In s.heap:=e0.mod.kin.keeps fun b o e=>(e0.bs b o e).1
  have lim:s.heap.NoLimit:=e0.mod.nolimit.keeps fun b o e=>(e0.bs b o e).1
  have hkind:∀ y ∈ ps.zip us,scope.names.lookup y.1 = some .local\/(scope.names.lookup y.1 = some .cell/\((cellsFrom (s.heap.objs.size + 1) scope.names []).lookup y.1).isSome = true):=fun ⟨n,v⟩ hy=>by
    rcases S.par n (List.of_mem_zip hy).1 with q | q
    · exact .inl q
    · exact .inr ⟨q,PySem.W.cellsFrom_some _ _ _ (.inl q)⟩
  refine codeAny_call_function hr.depth (KX _ _ lk) rfl S.co S.gen rfl (PySem.W.codeRec_of KX hcd) (hb _ _ _ _ ?_)
  refine wpAny_newFunctionEnv_cells S.kind hkind fun env he s1 x=>?_
  subst he
  refine ⟨lim.keeps x.toInCall.keep,codeAny_func ?_⟩
  obtain ⟨t,ht,hq⟩:=hbody A outer s H vs Q E (hr.deeper _) hsp
  have I:Inv (qY CX P w K mg base N qual scope f cdv A outer s H E) [] (start N vs) H s1:=zik S hr.hd e0 hl r x
  refine wpAny_mono (ht [] s1 (start N vs) H _ I hq) (fun fl s' hs=>?_) fun e s' hs=>hs
  have fin:∀ {σ':St} {H':Hp} {v:V} {u:Value},Inv (qY CX P w K mg base N qual scope f cdv A outer s H E) [] σ' H' s'->RelV v u->Q v H'->CE outer P w H s Q u s':=
    fun {σ' H' v u} J rv q=>⟨v,H',J.os,J.bare,J.base,J.hok,rv,q⟩
  cases fl with
  | ret u=>
    obtain ⟨v,σ',H',J,rv,q⟩:=hs
    exact fin J rv q
  | next=>
    obtain ⟨σ',H',J,q⟩:=hs
    exact fin (v:=V.non) (u:=Value.none) J rfl q
  | brk=>
    obtain ⟨_,_,_,q⟩:=hs
    exact False.elim q
  | cont=>
    obtain ⟨_,_,_,q⟩:=hs
    exact False.elim q
end L2
namespace L2
open PySem PySem.Spec PyProof.Rows
section
variable {X:Cx} {x:Str} {p pos:Pos} {e:Expr} {es:List Expr} {t:TA} {id T:String} {r:List V->Hp->VK->Prop}
noncomputable def tCB (r:List V->Hp->VK->Prop) (t:TA):TE:=fun σ H Q=>t σ H fun vs H1=>r vs H1 Q
theorem zfi (hc:CallR X (.builtin id) r) (hg:Gl X x) (hm:X.mg x = none) (hv:bootBuiltins x = some (.builtin id)) (ha:PA X (e :: es) t) (hn:x ≠ "__name__":=by decide) (hdb:(x == ("__debug__":Str)) = false:=by decide)
    (he:starEach (e :: es) X.env = (false,eval e X.env) :: starEach es X.env:=by rfl) (hpl:(backTo pos (starEach es X.env)).any (·.1) = false:=by rfl):PE X (.Call (.Name x p) (e :: es) [] pos) (tCB r t):=by
  intro pins s σ H Q I h
  refine wpAny_Call_Name_kw (za9 I hg hm hv ?_ hn hdb)
  exact PyProof.Rows.callWith_builtin1 (thn (ha pos pins s σ H _ I h) fun us s1 ⟨vs,H1,I1,r1,q1⟩=>hc pins s1 σ H1 vs us Q I1 r1 q1) he hpl
theorem zaP (hc:CallR X (.type T) r) (hg:Gl X x) (hm:X.mg x = none) (hv:bootBuiltins x = some (.type T)) (ha:PA X (e :: es) t) (hn:x ≠ "__name__":=by decide) (hdb:(x == ("__debug__":Str)) = false:=by decide)
    (he:starEach (e :: es) X.env = (false,eval e X.env) :: starEach es X.env:=by rfl) (hpl:(backTo pos (starEach es X.env)).any (·.1) = false:=by rfl):PE X (.Call (.Name x p) (e :: es) [] pos) (tCB r t):=by
  intro pins s σ H Q I h
  refine wpAny_Call_Name_kw (za9 I hg hm hv ?_ hn hdb)
  exact PyProof.Rows.callWith_type1 (thn (ha pos pins s σ H _ I h) fun us s1 ⟨vs,H1,I1,r1,q1⟩=>hc pins s1 σ H1 vs us Q I1 r1 q1) he hpl
end
end L2
namespace HT
open PySem PyProof.Rows
section
variable {prog:Program} {w:World} {A:Around} {E:Value->Shared->Prop} {s:Shared}
theorem zk8 {t b:Addr} {vs ws:List Value} {Q:Value->Shared->Prop} (ht:IsTup s.heap t vs.toArray) (hb:IsTup s.heap b ws.toArray) (hv:vs ≠ [])
    (h1:ws = []->Q (.ref t) s) (h2:ws ≠ []->Q (.ref s.heap.objs.size) { s with heap:=s.heap.push { cls:=.type "tuple",data:=.seq (vs ++ ws).toArray } })
    (hsz:vs.length + ws.length<=sizeLine):wpAny (model prog w) A (binaryOp .Add (.ref t) (.ref b)) Q E s:=by
  obtain ⟨⟨cls,dd,data,sl⟩,ho,hc,n,hd⟩:=id ht
  obtain ⟨⟨cls2,dd2,data2,sl2⟩,ho2,hc2,n2,hd2⟩:=id hb
  simp only at hc hd hc2 hd2
  subst hc hd hc2 hd2
  have e:vs.toArray ++ ws.toArray = (vs ++ ws).toArray:=by simp
  by_cases hw:ws = []
  · exact concat_meets ⟨_,ho,rfl⟩ ⟨_,ho2,rfl⟩ noFill_tuple_add seq_tuple_add PySem.F.slot_tuple_add PySem.F.entry_tuple_add (PySem.F.args_tuple_add_2 _ _)
      (tuple_addW1 t b vs.toArray ws.toArray n n2 dd dd2 sl sl2 (by simpa using hv) (by simp [hw])) ⟨ho,ho2,h1 hw⟩
  · refine concat_meets ⟨_,ho,rfl⟩ ⟨_,ho2,rfl⟩ noFill_tuple_add seq_tuple_add PySem.F.slot_tuple_add PySem.F.entry_tuple_add (PySem.F.args_tuple_add_2 _ _)
      (tuple_addW2 t b vs.toArray ws.toArray n n2 dd dd2 sl sl2 (by simpa using hv) (by simpa using hw) (by rw [List.size_toArray,List.size_toArray];exact hsz)) ⟨ho,ho2,?_⟩
    rw [e]
    exact h2 hw
noncomputable def sIx (n d:Nat):Option Int->Nat
  | none=>d
  | some v=>if v < 0 then (v + (n:Int)).toNat else min v.toNat n
theorem zfb (n d:Nat):sIx n d none = d:=rfl
theorem zgr (n d k:Nat):sIx n d (some (k:Int)) = min k n:=by
  show (if (k:Int) < 0 then ((k:Int) + (n:Int)).toNat else min (k:Int).toNat n) = min k n
  rw [if_neg (by omega),Int.toNat_natCast]
theorem zln (n d:Nat) (hd:d<=n) (o:Option Int):sIx n d o<=n:=by
  cases o with
  | none=>exact hd
  | some v=>
    show (if v < 0 then (v + (n:Int)).toNat else min v.toNat n)<=n
    by_cases hv:v < 0
    · rw [if_pos hv];omega
    · rw [if_neg hv];exact Nat.min_le_right _ _
theorem zgO (v:Int) (n d:Nat):(if v < 0 then max (v + (n:Int)) 0 else min v (n:Int)) = ((sIx n d (some v):Nat):Int):=by
  show (if v < 0 then max (v + (n:Int)) 0 else min v (n:Int)) = (((if v < 0 then (v + (n:Int)).toNat else min v.toNat n):Nat):Int)
  by_cases hv:v < 0
  · simp only [if_pos hv];omega
  · simp only [if_neg hv];omega
theorem zhM (lo hi:Option Int) (n:Nat):Builtin.Slice.sliceAdjust lo hi 1 (n:Int) = (((sIx n 0 lo:Nat):Int),((sIx n n hi:Nat):Int)):=by
  have h1:¬ ((1:Int) < 0):=by omega
  unfold Builtin.Slice.sliceAdjust
  simp only [h1,if_false]
  refine Prod.ext ?_ ?_
  · cases lo with
    | none=>rfl
    | some v=>exact zgO v n 0
  · cases hi with
    | none=>rfl
    | some v=>exact zgO v n n
theorem zhi (i j:Nat):Builtin.Slice.slicePlaces (i:Int) (j:Int) 1 = j - i:=by
  unfold Builtin.Slice.slicePlaces
  have h1:(1:Int) > 0:=by omega
  simp only [h1,if_true,Int.ediv_one]
  split <;> omega
theorem zc7 {v:Value} {o:Option Int} {Q:Option Int->Shared->Prop} (p:IsPart v o) (h:Q o s):wpAny (model prog w) A (Builtin.Slice.slicePartIndex v) Q E s:=by
  cases p with
  | none=>exact slicePart_none h
  | int i t=>exact slicePart_int h
theorem zap {sl:Addr} {vl vu:Value} {lo hi:Option Int} {n:Nat} {Q:Int × Int × Nat->Shared->Prop} (hs:s.heap.IsSliceOf sl vl vu .none) (pl:IsPart vl lo) (pu:IsPart vu hi)
    (h:Q (((sIx n 0 lo:Nat):Int),1,sIx n n hi - sIx n 0 lo) s):wpAny (model prog w) A (Builtin.Slice.sliceApplied (.ref sl) (pure (n:Int))) Q E s:=by
  obtain ⟨os,hos,hcs,hds⟩:=id hs
  unfold Builtin.Slice.sliceApplied Builtin.Slice.sliceFields
  refine wpAny_bind (wpAny_bind (wpAny_field hos hds (x:=vl) rfl (wpAny_bind (wpAny_field hos hds (x:=vu) rfl (wpAny_bind (wpAny_field hos hds (x:=.none) rfl (wpAny_pure ?_)))))))
  refine wpAny_bind (slicePart_none ?_)
  show wpAny _ _ (if ((1:Int) == 0) = true then _ else _) _ _ s
  rw [if_neg (by decide)]
  refine wpAny_bind (zc7 pl (wpAny_bind (zc7 pu (wpAny_bind (wpAny_pure ?_)))))
  show wpAny _ _ (match Builtin.Slice.sliceAdjust lo hi 1 (n:Int) with | (lo,hi)=>pure (lo,(1:Int),Builtin.Slice.slicePlaces lo hi 1)) _ _ s
  rw [zhM lo hi n]
  show wpAny _ _ (pure (((sIx n 0 lo:Nat):Int),(1:Int),Builtin.Slice.slicePlaces ((sIx n 0 lo:Nat):Int) ((sIx n n hi:Nat):Int) 1)) _ _ s
  rw [zhi]
  exact wpAny_pure h
theorem zi9 (xs:Array Value) (i k:Nat):((List.range k).filterMap fun (m:Nat)=>xs[((i:Int) + (m:Int) * 1).toNat]?).toArray = ((xs.toList.drop i).take k).toArray:=by
  have e:(fun (m:Nat)=>xs[((i:Int) + (m:Int) * 1).toNat]?) = fun m=>xs[i + m]?:=by
    funext m
    have:((i:Int) + (m:Int) * 1).toNat = i + m:=by omega
    rw [this]
  rw [e]
  have:=pick_run xs i k
  rw [List.filterMap_map] at this
  have e2:((fun x=>xs[x]?) ∘ fun x=>i + x) = fun m=>xs[i + m]?:=rfl
  rw [e2] at this
  rw [this]
theorem zcu {t sl:Addr} {items:Array Value} {vl vu:Value} {lo hi:Option Int} {Q:Value->Shared->Prop} (ht:IsTup s.heap t items) (hs:s.heap.IsSliceOf sl vl vu .none) (pl:IsPart vl lo) (pu:IsPart vu hi)
    (hw:¬ (sIx items.size 0 lo = 0/\sIx items.size items.size hi = items.size))
    (h:Q (.ref s.heap.objs.size) { s with heap:=s.heap.push { cls:=.type "tuple",data:=.seq ((items.toList.drop (sIx items.size 0 lo)).take (sIx items.size items.size hi - sIx items.size 0 lo)).toArray } })
    (hsz:items.size<=sizeLine):wpAny (model prog w) A (getItem (.ref t) (.ref sl)) Q E s:=by
  have htake:sizeOk (.seq ((items.toList.drop (sIx items.size 0 lo)).take (sIx items.size items.size hi - sIx items.size 0 lo)).toArray):=by
    show ((items.toList.drop (sIx items.size 0 lo)).take (sIx items.size items.size hi - sIx items.size 0 lo)).toArray.size<=sizeLine
    rw [List.size_toArray,List.length_take,List.length_drop,Array.length_toList]
    omega
  have hj:sIx items.size items.size hi<=items.size:=zln _ _ (Nat.le_refl _) hi
  obtain ⟨os,hos,hcs,hds⟩:=id hs
  have hTs:s.TypeIs (.ref sl) "slice":=⟨os,hos,hcs⟩
  unfold getItem
  try with_reducible refine wpAny_holding ?_
  first | refine wpAny_bind (wpAny_pure ?_) | skip
  refine wpAny_bind (wpAny_sequenceKey ht.typeIs (by decide) ?_)
  refine wpAny_bind (wpAny_callSpecial?_slot (name:=Str.ofString "__getitem__") ht.typeIs PyProof.Rows.slot_tuple_getitem
    (wpAny_call_entry PyProof.Rows.slot_tuple_getitem ht.typeIs entry_tuple_getitem ?_ (args_tuple_getitem _ _)))
  show wpAny _ _ (Builtin.Tuple.tupleItemsOf (.ref t) >>= _) _ _ s
  refine wpAny_bind (tupleItemsOf_ ht ?_)
  refine wpAny_bind (wpAny_typeOf hTs ?_)
  rw [if_pos (by decide)]
  refine wpAny_bind (zap hs pl pu ?_)
  have hno:¬ ((((sIx items.size 0 lo:Nat):Int) == 0 && (1:Int) == 1 && (sIx items.size items.size hi - sIx items.size 0 lo) == items.size) = true):=by
    intro q
    rw [Bool.and_eq_true,Bool.and_eq_true] at q
    have q1:((sIx items.size 0 lo:Nat):Int) = 0:=eq_of_beq q.1.1
    have q2:sIx items.size items.size hi - sIx items.size 0 lo = items.size:=eq_of_beq q.2
    exact hw ⟨by omega,by omega⟩
  show wpAny _ _ (if (((sIx items.size 0 lo:Nat):Int) == 0 && (1:Int) == 1 && (sIx items.size items.size hi - sIx items.size 0 lo) == items.size) = true then _ else _) _ _ s
  rw [if_neg hno,zi9]
  first
    | exact wpAny_bind (m:=Builtin.Tuple.tupleExact _) (wpAny_newObj_type (wpAny_pure ⟨_,rfl,wpAny_pure h⟩) htake)
    | exact wpAny_bind (m:=Builtin.Tuple.tupleExact _) (wpAny_newObj_type (wpAny_bind (wpAny_pure (wpAny_pure ⟨_,rfl,wpAny_pure h⟩))) htake)
    | exact wpAny_bind (wpAny_bind (m:=Builtin.Tuple.tupleExact _) (wpAny_newObj_type (wpAny_pure (wpAny_pure ⟨_,rfl,wpAny_pure h⟩)) htake))
    | exact wpAny_bind (wpAny_bind (m:=Builtin.Tuple.tupleExact _) (wpAny_newObj_type (wpAny_pure ⟨_,rfl,wpAny_pure h⟩) htake))
end
end HT
namespace L2
open PySem PySem.Spec PyProof.Rows
noncomputable abbrev TO:=St->Hp->(Option Int->Hp->Prop)->Prop
noncomputable def PO (X:Cx) (e:Option Expr) (t:TO):Prop:=
  ∀ (pins:List (Addr × Obj)) (s:Shared) (σ:St) (H:Hp) (Q:Option Int->Hp->Prop),Inv X pins σ H s->t σ H Q->
    wpAny (model X.prog X.w) X.A (evalPart e X.env) (fun u s'=>∃ o H',Inv X pins σ H' s'/\IsPart u o/\Q o H') X.xe s
noncomputable def zj4:TO:=fun _ H Q=>Q none H
noncomputable def zmX (t:TE):TO:=fun σ H Q=>t σ H fun x H1=>∃ i,x = .int i/\Q (some i) H1
section
variable {X:Cx} {e:Expr} {te:TE} {lo hi:Option Expr} {tl th:TO} {pos p2:Pos}
theorem zki:PO X none zj4:=by
  intro pins s σ H Q I h
  rw [evalPart_none]
  exact wpAny_pure ⟨none,H,I,.none,h⟩
theorem zkh (h:PE X e te):PO X (some e) (zmX te):=by
  intro pins s σ H Q I hw
  rw [evalPart_some]
  refine thn (h pins s σ H _ I hw) fun u s1 ⟨x,H1,I1,r1,q1⟩=>?_
  obtain ⟨i,rfl,q⟩:=q1
  obtain ⟨t,rfl⟩:=r1
  exact ⟨some i,H1,I1,.int i t,q⟩
noncomputable def SlR (X:Cx) (r:V->Option Int->Option Int->Hp->VK->Prop):Prop:=
  ∀ (pins:List (Addr × Obj)) (s:Shared) (σ:St) (H:Hp) (x:V) (v vl vu:Value) (lo hi:Option Int) (sl:Addr) (Q:VK),Inv X pins σ H s->RelV x v->s.heap.IsSliceOf sl vl vu .none->IsPart vl lo->IsPart vu hi->r x lo hi H Q->
    ∃ T id,typeLookup (.type T) "__getitem__" = pure (some (.builtin id))/\s.TypeIs v T/\wpAny (model X.prog X.w) X.A (getItem v (.ref sl)) (EP X pins σ Q) X.xe s
noncomputable def tSl (r:V->Option Int->Option Int->Hp->VK->Prop) (te:TE) (tl th:TO):TE:=fun σ H Q=>te σ H fun x H1=>tl σ H1 fun l H2=>th σ H2 fun u H3=>r x l u H3 Q
theorem zjb {r:V->Option Int->Option Int->Hp->VK->Prop} (hr:SlR X r) (he:PE X e te) (hl:PO X lo tl) (hu:PO X hi th):PE X (.Subscript e (.Slice lo hi none p2) pos) (tSl r te tl th):=by
  intro pins s σ H Q I h
  refine Subscript_ (thn (he pins s σ H _ I h) fun v s1 ⟨x,H1,I1,r1,q1⟩=>?_)
  refine wpAny_Slice (thn (hl pins s1 σ H1 _ I1 q1) fun vl s2 ⟨l,H2,I2,pl,q2⟩=>thn (hu pins s2 σ H2 _ I2 q2) fun vu s3 ⟨u,H3,I3,pu,q3⟩=>?_)
  rw [evalPart_none]
  refine wpAny_pure ?_
  have I4:Inv X pins σ H3 { s3 with heap:=s3.heap.push { cls:=.type "slice",data:=.fields #[vl,vu,.none] } }:=I3.kept (t':=s3.toks) fun b ob q=>Heap.get?_push_of_some _ q
  obtain ⟨T,id,hT,ht,hg⟩:=hr pins { s3 with heap:=s3.heap.push { cls:=.type "slice",data:=.fields #[vl,vu,.none] } } σ H3 x v vl vu l u s3.heap.objs.size Q I4 r1 (Heap.IsSliceOf.new ..) pl pu q3
  show wpAny (model X.prog X.w) X.A (subscriptTail e (.Slice lo hi none p2) v (.ref s3.heap.objs.size)) (EP X pins σ Q) X.xe { s3 with heap:=s3.heap.push { cls:=.type "slice",data:=.fields #[vl,vu,.none] } }
  exact tail_any (ops:=[.ref s3.heap.objs.size,v]) ht hT hg (by with_unfolding_all rfl)
noncomputable def cutV (xs:List V) (lo hi:Option Int):List V:=(xs.drop (HT.sIx xs.length 0 lo)).take (HT.sIx xs.length xs.length hi - HT.sIx xs.length 0 lo)
theorem zcy (xs:List V) (lo hi:Option Int):(cutV xs lo hi).length<=xs.length:=by
  unfold cutV
  rw [List.length_take,List.length_drop]
  omega
noncomputable def znQ (K:PySem.W.Frag):V->Option Int->Option Int->Hp->VK->Prop:=fun x lo hi H Q=>∃ a xs,x = .ref a/\SqT K H a xs /\
  ¬ (HT.sIx xs.length 0 lo = 0/\HT.sIx xs.length xs.length hi = xs.length)/\∀ p,H p = none->Q (.ref p) (upd H p (.tup (cutV xs lo hi)))
theorem zlm:SlR X (znQ X.K):=by
  intro pins s σ H x v vl vu lo hi sl Q I rx hs pl pu h
  obtain ⟨a,xs,rfl,hx,hw,q⟩:=h
  cases rx
  obtain ⟨its,r,ht,hz⟩:=I.tuple hx
  have hlen:its.toArray.size = xs.length:=by rw [List.size_toArray];exact r.length.symm
  refine ⟨"tuple",_,PyProof.Rows.slot_tuple_getitem.lookup,ht.typeIs,?_⟩
  refine HT.zcu ht hs pl pu (by rw [hlen];exact hw) ?_ (by rw [hlen];exact hz)
  rw [hlen]
  refine ⟨.ref s.heap.objs.size,_,I.laid (t':=s.toks) (o:=.tup (cutV xs lo hi)) (fun b ob q=>Heap.get?_push_of_some _ q) (Nat.le_refl _) ?_,rfl,q _ (I.hok.fresh (Nat.le_refl _))⟩
  exact ⟨Nat.le_trans (zcy xs lo hi) hz,_,(r.drop (HT.sIx xs.length 0 lo)).take (HT.sIx xs.length xs.length hi - HT.sIx xs.length 0 lo),IsTup.new _ _,NoDict.new⟩
noncomputable def zm6 (K:PySem.W.Frag):R2:=fun x y H Q=>∃ a b xs ys,x = .ref a/\y = .ref b/\SqT K H a xs/\SqT K H b ys/\xs ≠ []/\xs.length + ys.length<=sizeLine /\
  (ys = []->Q (.ref a) H)/\(ys ≠ []->∀ p,H p = none->Q (.ref p) (upd H p (.tup (xs ++ ys))))
theorem Vals.nil_iff {xs:List V} {us:List Value} (r:Vals xs us):us = [] ↔ xs = []:=by
  cases r with
  | nil=>simp
  | cons _ _=>simp
theorem zkt:OpR X (binaryOp .Add) (zm6 X.K):=by
  intro pins s σ H x y v u Q I rx ry h
  obtain ⟨a,b,xs,ys,rfl,rfl,ha,hb,hx,hz,q1,q2⟩:=h
  cases rx
  cases ry
  obtain ⟨its,r1,p1,_⟩:=I.tuple ha
  obtain ⟨its2,r2,p2,_⟩:=I.tuple hb
  refine HT.zk8 p1 p2 (fun z=>hx (r1.nil_iff.mp z)) (fun z=>⟨.ref a,H,I,rfl,q1 (r2.nil_iff.mp z)⟩) (fun z=>?_) (by rw [← r1.length,← r2.length];exact hz)
  refine ⟨.ref s.heap.objs.size,_,I.laid (t':=s.toks) (o:=.tup (xs ++ ys)) (fun b ob q=>Heap.get?_push_of_some _ q) (Nat.le_refl _) ?_,rfl,q2 (fun w=>z (r2.nil_iff.mpr w)) _ (I.hok.fresh (Nat.le_refl _))⟩
  exact ⟨by rw [List.length_append];exact hz,_,r1.append r2,IsTup.new _ _,NoDict.new⟩
end
end L2
namespace L2
open PySem PySem.Spec PyProof.Rows
noncomputable def ixN (n:Nat) (i:Int):Option Nat:=if 0<=i then (if i < n then some i.toNat else none) else if -(n:Int)<=i then some (i + n).toNat else none
noncomputable def atI {α:Type} (xs:List α) (i:Int):Option α:=(ixN xs.length i).bind fun j=>xs[j]?
theorem zgG {n:Nat} {i:Int} {j:Nat} (h:ixN n i = some j):seqIndex? i n = some j/\j < n/\-(n:Int)<=i/\i < n:=by
  unfold ixN at h
  by_cases h0:0<=i
  · rw [if_pos h0] at h
    by_cases h1:i < n
    · rw [if_pos h1] at h
      have e:i.toNat = j:=Option.some.inj h
      exact ⟨by rw [seqIndex_of h0 h1,e],by omega,by omega,h1⟩
    · rw [if_neg h1] at h;cases h
  · rw [if_neg h0] at h
    by_cases h1:-(n:Int)<=i
    · rw [if_pos h1] at h
      have e:(i + n).toNat = j:=Option.some.inj h
      exact ⟨by rw [seqIndex_neg (by omega) h1,e],by omega,h1,by omega⟩
    · rw [if_neg h1] at h;cases h
theorem zct {α:Type} {xs:List α} {i:Int} {v:α} (h:atI xs i = some v):∃ j,seqIndex? i xs.length = some j/\xs[j]? = some v/\j < xs.length/\-(xs.length:Int)<=i/\i < xs.length:=by
  unfold atI at h
  cases e:ixN xs.length i with
  | none=>rw [e] at h;cases h
  | some j=>
    rw [e] at h
    obtain ⟨h1,h2,h3,h4⟩:=zgG e
    exact ⟨j,h1,h,h2,h3,h4⟩
theorem yM {α:Type} {xs:List α} {j:Nat} {v:α} (h:xs[j]? = some v):atI xs (j:Int) = some v:=by
  have hj:j < xs.length:=(List.getElem?_eq_some_iff.mp h).1
  have e:ixN xs.length (j:Int) = some j:=by
    unfold ixN
    rw [if_pos (by omega),if_pos (by omega)];simp
  unfold atI;rw [e];exact h
noncomputable def zec (b:Expr):Prop:=∀ o i,subscripted b false o i = operate [o,i] (getItem o i)
noncomputable def IxR (X:Cx) (r:R2):Prop:=
  ∀ (value slice:Expr) (pins:List (Addr × Obj)) (s:Shared) (σ:St) (H:Hp) (x y:V) (v u:Value) (Q:VK),Inv X pins σ H s->RelV x v->RelV y u->r x y H Q->
    subscripted slice false v u = operate [v,u] (getItem v u)->wpAny (model X.prog X.w) X.A (subscriptTail value slice v u) (EP X pins σ Q) X.xe s
noncomputable def MtR (X:Cx) (id:String) (r:V->List V->Hp->VK->Prop):Prop:=
  ∀ (pins:List (Addr × Obj)) (s:Shared) (σ:St) (H:Hp) (x:V) (xs:List V) (v:Value) (us:List Value) (Q:VK),Inv X pins σ H s->RelV x v->Vals xs us->r x xs H Q->
    wpAny (model X.prog X.w) X.A (call (.builtin id) (v :: us)) (EP X pins σ Q) X.xe s
section
variable {X:Cx} {a b:Expr} {ta tb:TE} {pos:Pos}
theorem IxR.or {r r':R2} (h:IxR X r) (h':IxR X r'):IxR X (fun x y H Q=>r x y H Q\/r' x y H Q):=by
  intro value slice pins s σ H x y v u Q I rx ry q hs
  rcases q with q | q
  · exact h value slice pins s σ H x y v u Q I rx ry q hs
  · exact h' value slice pins s σ H x y v u Q I rx ry q hs
theorem znb {r:R2} (hr:IxR X r) (ha:PE X a ta) (hb:PE X b tb) (hs:zec b):PE X (.Subscript a b pos) (tOp r ta tb):=by
  intro pins s σ H Q I h
  exact Subscript_ (zjG ha hb I h fun v u s2 x y H2 I2 rx ry q=>hr a b pins s2 σ H2 x y v u Q I2 rx ry q (hs _ _))
noncomputable def zi3 (K:PySem.W.Frag):R2:=fun x y H Q=>∃ p xs i v,x = .ref p/\y = .int i/\SqL K H p xs/\atI xs i = some v/\Q v H
noncomputable def zls (K:PySem.W.Frag):R2:=fun x y H Q=>∃ p xs i v,x = .ref p/\y = .int i/\SqT K H p xs/\atI xs i = some v/\Q v H
noncomputable def zlt:R2:=fun x y H Q=>∃ z i c,x = .str z/\y = .int i/\z.length<=sizeLine/\atI z.cps.toList i = some c/\Q (.str ⟨#[c]⟩) H
theorem zkG:IxR X (zi3 X.K):=by
  intro value slice pins s σ H x y v u Q I rx ry h hs
  obtain ⟨p,xs,i,z,rfl,rfl,hq,he,q⟩:=h
  cases rx
  obtain ⟨t,rfl⟩:=ry
  obtain ⟨its,r,pl,hz⟩:=I.list hq
  obtain ⟨j,h1,h2,h3,h4,h5⟩:=zct he
  obtain ⟨w,ew,rw'⟩:=r.get h2
  have hl:=r.length
  have hn:=zax
  have fin:EP X pins σ Q w s:=⟨z,H,I,rw',q⟩
  by_cases h0:0<=i
  · have hj:i.toNat = j:=by
      rw [seqIndex_of h0 h5] at h1
      exact Option.some.inj h1
    exact item_listR pl.isList h0 (by omega) (by rw [hj];simpa using ew) fin hs
  · have hj:(i + (its.toArray.size:Int)).toNat = j:=by
      rw [seqIndex_neg (by omega) h4] at h1
      rw [List.size_toArray,← hl]
      exact Option.some.inj h1
    exact subscriptTail_builtinR (x:=w) pl.isList.typeIs slot_list_getitem.lookup
      (wpAny_getItem_list_neg (Q:=fun r s'=>r = w/\EP X pins σ Q r s') pl.isList (by omega) (by rw [List.size_toArray] <;> omega) (by omega) (by rw [hj];simpa using ew) ⟨rfl,fin⟩) hs
theorem zmc:IxR X (zls X.K):=by
  intro value slice pins s σ H x y v u Q I rx ry h hs
  obtain ⟨p,xs,i,z,rfl,rfl,hq,he,q⟩:=h
  cases rx
  obtain ⟨t,rfl⟩:=ry
  obtain ⟨its,r,pl,hz⟩:=I.tuple hq
  obtain ⟨j,h1,h2,h3,h4,h5⟩:=zct he
  obtain ⟨w,ew,rw'⟩:=r.get h2
  have hl:=r.length
  have hn:=zax
  have fin:EP X pins σ Q w s:=⟨z,H,I,rw',q⟩
  exact subscriptTail_builtinR (x:=w) pl.typeIs slot_tuple_getitem.lookup
    (getItem_tuple (j:=j) (Q:=fun r s'=>r = w/\EP X pins σ Q r s') pl (by omega) (by omega) (by rw [List.size_toArray,← hl];exact h1) (by simpa using ew) ⟨rfl,fin⟩) hs
theorem zmd:IxR X zlt:=by
  intro value slice pins s σ H x y v u Q I rx ry h hs
  obtain ⟨z,i,c,rfl,rfl,hz,he,q⟩:=h
  obtain ⟨t,rfl⟩:=rx
  obtain ⟨t',rfl⟩:=ry
  obtain ⟨j,h1,h2,h3,h4,h5⟩:=zct he
  have hl:z.cps.toList.length = z.length:=by simp [Str.length]
  rw [hl] at h1 h4 h5
  have hn:=zax
  exact tail_any (typeIs_str s z t) slot_str_getitem.lookup (getItem_str (c:=c) (by
    have e1:decide (i < -(2 ^ 63:Int)) = false:=decide_eq_false (by omega)
    have e2:decide (i ≥ 2 ^ 63) = false:=decide_eq_false (by omega)
    rw [e1,e2,Bool.or_false]) (by rw [h1];simpa using h2) ⟨.str ⟨#[c]⟩,H,I.tok _,⟨_,rfl⟩,q⟩) hs
noncomputable def rIx (K:PySem.W.Frag):R2:=fun x y H Q=>zi3 K x y H Q\/zls K x y H Q\/zlt x y H Q
theorem zme:IxR X (rIx X.K):=zkG.or (zmc.or zmd)
theorem zhm (its:List Value) (n j:Nat) (u:Value):Obj.mapSeq (·.setIfInBounds j u) { cls:=.type "list",data:=.seq its.toArray n } = { cls:=.type "list",data:=.seq (its.set j u).toArray n }:=by
  simp [Obj.mapSeq]
theorem Inv.lst {pins:List (Addr × Obj)} {σ:St} {H:Hp} {s:Shared} {p:Addr} {xs:List V} (I:Inv X pins σ H s) (h:H p = some (.lst xs)) :
    ∃ (its:List Value) (n:Nat),Vals xs its/\s.heap.get? p = some { cls:=.type "list",data:=.seq its.toArray n }/\xs.length<=sizeLine:=by
  obtain ⟨z,its,n,r,e⟩:=I.hok p _ h
  exact ⟨its,n,r,e,z⟩
theorem Inv.lstUpd {pins:List (Addr × Obj)} {σ:St} {H:Hp} {s:Shared} {p:Addr} {xs ys:List V} {its its':List Value} {n n':Nat} {f:Obj->Obj} (I:Inv X pins σ H s) (h:H p = some (.lst xs))
    (ho:s.heap.get? p = some { cls:=.type "list",data:=.seq its.toArray n }) (hf:f { cls:=.type "list",data:=.seq its.toArray n } = { cls:=.type "list",data:=.seq its'.toArray n' }) (r:Vals ys its') (hz:ys.length<=sizeLine) (t:Nat) :
    Inv X pins σ (upd H p (.lst ys)) { s with heap:=s.heap.update p f,toks:=t }:=by
  have e:(s.heap.update p f).get? p = some { cls:=.type "list",data:=.seq its'.toArray n' }:=by
    rw [Heap.get?_update_self f ho (by rw [hf] <;> rfl),hf]
  refine I.write (x:=p) (e:=p) (by rw [h];trivial) (.inl rfl) (fun b u hb q=>(Heap.get?_update_other _ _ (Ne.symm hb)).trans q) ⟨_,e⟩ ?_
  exact ⟨hz,its',n',r,e⟩
noncomputable def zm4:V->V->V->Hp->(Hp->Prop)->Prop:=fun o i v H Q=>∃ p xs k j,o = .ref p/\i = .int k/\H p = some (.lst xs)/\ixN xs.length k = some j/\Q (upd H p (.lst (xs.set j v)))
theorem set_list:zb9 X zm4:=by
  intro pins s σ H o i v ov iv u Q I ro ri rv h
  obtain ⟨p,xs,k,j,rfl,rfl,hp,hj,q⟩:=h
  cases ro
  obtain ⟨t,rfl⟩:=ri
  obtain ⟨its,n,r,ho,hz⟩:=I.lst hp
  obtain ⟨h1,h2,h3,h4⟩:=zgG hj
  have hl:=r.length
  have hn:=zax
  have I':Inv X pins σ (upd H p (.lst (xs.set j v))) { s with heap:=s.heap.update p (Obj.mapSeq (·.setIfInBounds j u)) }:=
    I.lstUpd hp ho (zhm its n j u) (r.set rv j) (by rw [List.length_set];exact hz) s.toks
  by_cases h0:0<=k
  · have hk:k.toNat = j:=by
      rw [seqIndex_of h0 h4] at h1
      exact Option.some.inj h1
    exact PySem.W.ki_setAt ho h0 (by omega) (by rw [List.size_toArray,← hl];exact h4) (by rw [hk];exact ⟨_,I',q⟩)
  · have hk:(k + (its.toArray.size:Int)).toNat = j:=by
      rw [seqIndex_neg (by omega) h3] at h1
      rw [List.size_toArray,← hl]
      exact Option.some.inj h1
    exact PySem.W.ki_setBack ho (by omega) (by rw [List.size_toArray,← hl];exact h3) (by omega) (by rw [hk];exact ⟨_,I',q⟩)
theorem ze3 (lo hi:Option Int) (n:Nat):(sliceBounds lo hi none n).1 = ((HT.sIx n 0 lo:Nat):Int)/\(sliceBounds lo hi none n).2.1 = ((HT.sIx n n hi:Nat):Int)/\(sliceBounds lo hi none n).2.2 = 1:=by
  refine ⟨?_,?_,rfl⟩
  · cases lo with
    | none=>simp [sliceBounds,HT.sIx]
    | some i=>
      simp only [sliceBounds,HT.sIx,Option.getD_none,show (1:Int) > 0 by decide,if_true]
      by_cases h:i < 0
      · simp only [h,if_true] <;> omega
      · simp only [h,if_false] <;> omega
  · cases hi with
    | none=>simp [sliceBounds,HT.sIx]
    | some i=>
      simp only [sliceBounds,HT.sIx,Option.getD_none,show (1:Int) > 0 by decide,if_true]
      by_cases h:i < 0
      · simp only [h,if_true] <;> omega
      · simp only [h,if_false] <;> omega
theorem zeH (its:List Value) (lo hi:Option Int):slicePick its.toArray lo hi none = ((its.drop (HT.sIx its.length 0 lo)).take (HT.sIx its.length its.length hi - HT.sIx its.length 0 lo)).toArray:=by
  obtain ⟨h1,h2,h3⟩:=ze3 lo hi its.toArray.size
  unfold slicePick
  rw [h1,h2,h3]
  simp only [sliceRange_one,pick_run,List.size_toArray] <;> rfl
noncomputable def znR (K:PySem.W.Frag):V->Option Int->Option Int->Hp->VK->Prop:=fun x lo hi H Q=>∃ a xs,x = .ref a/\SqL K H a xs/\∀ p,H p = none->Q (.ref p) (upd H p (.lst (cutV xs lo hi)))
theorem zj8:SlR X (znR X.K):=by
  intro pins s σ H x v vl vu lo hi sl Q I rx hs pl pu h
  obtain ⟨a,xs,rfl,hx,q⟩:=h
  cases rx
  obtain ⟨its,r,ht,hz⟩:=I.list hx
  have hlen:=r.length
  refine ⟨"list",_,slot_list_getitem.lookup,ht.isList.typeIs,?_⟩
  refine wpAny_getItem_list_slice ht.isList hs pl pu .none (by simp) ?_ (by rw [List.size_toArray] <;> omega)
  rw [zeH,← hlen]
  refine ⟨.ref s.heap.objs.size,_,I.laid (t':=s.toks) (o:=.lst (cutV xs lo hi)) (fun b ob q=>Heap.get?_push_of_some _ q) (Nat.le_refl _) ?_,rfl,q _ (I.hok.fresh (Nat.le_refl _))⟩
  exact ⟨Nat.le_trans (zcy xs lo hi) hz,_,0,(r.drop (HT.sIx xs.length 0 lo)).take (HT.sIx xs.length xs.length hi - HT.sIx xs.length 0 lo),Heap.get?_push_size _ rfl⟩
noncomputable def yF:V->Bool
  | .non=>true
  | .bl _=>true
  | .int _=>true
  | .str _=>true
  | _=>false
noncomputable def eqV:V->V->Bool
  | .non,.non=>true
  | .bl a,.bl b=>a == b
  | .bl a,.int b=>(if a then 1 else 0) == b
  | .int a,.bl b=>a == (if b then 1 else 0)
  | .int a,.int b=>a == b
  | .str a,.str b=>a == b
  | _,_=>false
theorem zfK {A:Around} {s:Shared} {y x:V} {u v:Value} (ry:RelV y u) (rx:RelV x v) (fy:yF y = true) (fx:yF x = true):SeqAt.EqAt A s u v (eqV y x):=by
  cases y with
  | non=>
    cases ry
    cases x with
    | non=>cases rx;exact SeqAt.EqAt.same _
    | bl b=>cases rx;exact SeqAt.EqAt.none_bool b
    | int b=>obtain ⟨t,rfl⟩:=rx;exact SeqAt.EqAt.none_int b t
    | str b=>obtain ⟨t,rfl⟩:=rx;exact SeqAt.EqAt.none_str b t
    | _=>exact absurd (show false = true from fx) Bool.false_ne_true
  | bl a=>
    cases ry
    cases x with
    | non=>cases rx;exact SeqAt.EqAt.bool_none a
    | bl b=>cases rx;exact SeqAt.EqAt.bool_bool a b
    | int b=>obtain ⟨t,rfl⟩:=rx;exact SeqAt.EqAt.bool_int a b t
    | str b=>obtain ⟨t,rfl⟩:=rx;exact SeqAt.EqAt.bool_str a b t
    | _=>exact absurd (show false = true from fx) Bool.false_ne_true
  | int a=>
    obtain ⟨t',rfl⟩:=ry
    cases x with
    | non=>cases rx;exact SeqAt.EqAt.int_none a t'
    | bl b=>cases rx;exact SeqAt.EqAt.int_bool a t' b
    | int b=>obtain ⟨t,rfl⟩:=rx;exact SeqAt.EqAt.int_int a t' b t
    | str b=>obtain ⟨t,rfl⟩:=rx;exact SeqAt.EqAt.int_str a t' b t
    | _=>exact absurd (show false = true from fx) Bool.false_ne_true
  | str a=>
    obtain ⟨t',rfl⟩:=ry
    cases x with
    | non=>cases rx;exact SeqAt.EqAt.str_none a t'
    | bl b=>cases rx;exact SeqAt.EqAt.str_bool a t' b
    | int b=>obtain ⟨t,rfl⟩:=rx;exact SeqAt.EqAt.str_int a t' b t
    | str b=>obtain ⟨t,rfl⟩:=rx;exact SeqAt.EqAt.str_str a t' b t
    | _=>exact absurd (show false = true from fx) Bool.false_ne_true
  | _=>exact absurd (show false = true from fy) Bool.false_ne_true
noncomputable def eqU (x:V) (u:Value):Bool:=match u with
  | .none=>eqV .non x
  | .bool b=>eqV (.bl b) x
  | .int i _=>eqV (.int i) x
  | .str z _=>eqV (.str z) x
  | _=>false
theorem zix {x y:V} {u:Value} (r:RelV y u) (f:yF y = true):eqU x u = eqV y x:=by
  cases y with
  | non=>cases r;rfl
  | bl b=>cases r;rfl
  | int i=>obtain ⟨t,rfl⟩:=r;rfl
  | str z=>obtain ⟨t,rfl⟩:=r;rfl
  | _=>exact absurd (show false = true from f) Bool.false_ne_true
theorem zd6 {x:V}:∀ {xs:List V} {us:List Value},Vals xs us->xs.all yF = true->us.any (eqU x) = xs.any fun y=>eqV y x
  | _,_,.nil,_=>rfl
  | y :: xs,u :: us,.cons r t,f=>by
    rw [List.all_cons,Bool.and_eq_true] at f
    rw [List.any_cons,List.any_cons,zix r f.1,zd6 t f.2]
theorem zcQ {A:Around} {s:Shared} {x:V} {v:Value} (rx:RelV x v) (fx:yF x = true):∀ {xs:List V} {us:List Value},Vals xs us->xs.all yF = true->∀ u ∈ us,SeqAt.EqAt A s u v (eqU x u)
  | _,_,.nil,_=>fun u hu=>by cases hu
  | y :: xs,u :: us,.cons r t,f=>fun u' hu=>by
    rw [List.all_cons,Bool.and_eq_true] at f
    rcases List.mem_cons.mp hu with rfl | hu
    · rw [zix r f.1];exact zfK r rx f.1 fx
    · exact zcQ rx fx t f.2 u' hu
noncomputable def inV (x:V) (xs:List V):Bool:=xs.any fun y=>eqV y x
noncomputable def rIn (K:PySem.W.Frag) (neg:Bool):R2:=fun x y H Q=>∃ p xs,y = .ref p/\(SqL K H p xs\/SqT K H p xs)/\yF x = true/\xs.all yF = true/\Q (.bl (if neg then !inV x xs else inV x xs)) H
theorem zib:OpR X (compareOp .In) (rIn X.K false):=by
  intro pins s σ H x y v u Q I rx ry h
  obtain ⟨p,xs,rfl,hq,fx,fs,q⟩:=h
  cases ry
  rcases hq with hq | hq
  · obtain ⟨its,r,pl,hz⟩:=I.list hq
    refine SeqAt.in_listAt (eqU x) pl.isList (fun w hw=>zcQ rx fx r fs w (by simpa using hw)) ⟨.bl _,H,I,rfl,?_⟩
    rw [show its.toArray.any (eqU x) = its.any (eqU x) by simp,zd6 r fs]
    exact q
  · obtain ⟨its,r,pl,hz⟩:=I.tuple hq
    refine SeqAt.in_tupleAt (eqU x) pl (fun w hw=>zcQ rx fx r fs w (by simpa using hw)) ⟨.bl _,H,I,rfl,?_⟩
    rw [show its.toArray.any (eqU x) = its.any (eqU x) by simp,zd6 r fs]
    exact q
theorem zfX:CallR X (.builtin "len") (fun xs H Q=>∃ p ys,xs = [.ref p]/\(SqL X.K H p ys\/SqT X.K H p ys)/\Q (.int ys.length) H):=by
  intro pins s σ H xs us Q I r h
  obtain ⟨p,ys,rfl,hq,q⟩:=h
  obtain ⟨u,rfl,rx⟩:=vals1 r
  cases rx
  have hn:=zax
  rcases hq with hq | hq
  · obtain ⟨its,r',pl,hz⟩:=I.list hq
    have hlen:=r'.length
    exact Calls.call_len_list pl.isList (by simp only [List.size_toArray] <;> omega) ⟨.int ys.length,H,I.tok _,⟨s.toks + 1,by rw [List.size_toArray,hlen]⟩,q⟩
  · obtain ⟨its,r',pl,hz⟩:=I.tuple hq
    have hlen:=r'.length
    exact len_tuple pl (by simp only [List.size_toArray] <;> omega) ⟨.int ys.length,H,I.tok _,⟨s.toks + 1,by rw [List.size_toArray,hlen]⟩,q⟩
theorem zfW:CallR X (.builtin "len") (fun xs H Q=>∃ z,xs = [.str z]/\z.length<=sizeLine/\Q (.int z.length) H):=by
  intro pins s σ H xs us Q I r h
  obtain ⟨z,rfl,hz,q⟩:=h
  obtain ⟨u,rfl,t,rfl⟩:=vals1 r
  have hn:=zax
  exact len_str (by omega) ⟨.int z.length,H,I.tok _,⟨_,rfl⟩,q⟩
theorem zfV:CallR X (.type "list") (fun xs H Q=>∃ p ys,xs = [.ref p]/\(SqL X.K H p ys\/SqT X.K H p ys)/\∀ l,H l = none->Q (.ref l) (upd H l (.lst ys))):=by
  intro pins s σ H xs us Q I r h
  obtain ⟨p,ys,rfl,hq,q⟩:=h
  obtain ⟨u,rfl,rx⟩:=vals1 r
  cases rx
  have fin:∀ (its:List Value),Vals ys its->ys.length<=sizeLine->∀ (h':Heap) (c':Nat),(∀ b o',s.heap.get? b = some o'->h'.get? b = some o')->
      h'.get? s.heap.objs.size = some { cls:=.type "list",dict:=none,data:=.seq its.toArray c',slots:=#[] }->EP X pins σ Q (.ref s.heap.objs.size) { s with heap:=h' }:=fun its r' hz h' c' kp e=>
    ⟨.ref s.heap.objs.size,_,I.laid (t':=s.toks) kp (Nat.le_refl _) (show ObjOk X.prog X.w _ h' _ (.lst ys) from ⟨hz,its,c',r',e⟩),rfl,q _ (I.hok.fresh (Nat.le_refl _))⟩
  rcases hq with hq | hq
  · obtain ⟨its,r',pl,hz⟩:=I.list hq
    have hlen:=r'.length
    obtain ⟨o,ho,hc,n,hd⟩:=pl.isList
    exact call_list_seq p (.inl rfl) ho hc hd (fun h' c' kp e=>fin its r' hz h' c' kp e) (by simp only [List.size_toArray] <;> omega)
  · obtain ⟨its,r',pl,hz⟩:=I.tuple hq
    have hlen:=r'.length
    obtain ⟨o,ho,hc,n,hd⟩:=pl
    exact call_list_seq p (.inr rfl) ho hc hd (fun h' c' kp e=>fin its r' hz h' c' kp e) (by simp only [List.size_toArray] <;> omega)
theorem zeK:CallR X (.type "tuple") (fun xs H Q=>∃ p ys,xs = [.ref p]/\((SqL X.K H p ys/\∀ l,H l = none->Q (.ref l) (upd H l (.tup ys)))\/(SqT X.K H p ys/\Q (.ref p) H))):=by
  intro pins s σ H xs us Q I r h
  obtain ⟨p,ys,rfl,h⟩:=h
  obtain ⟨u,rfl,rx⟩:=vals1 r
  cases rx
  rcases h with ⟨hq,q⟩ | ⟨hq,q⟩
  · obtain ⟨its,r',pl,hz⟩:=I.list hq
    have hlen:=r'.length
    refine call_tuple_list pl.isList (fun h' kp=>?_) (by simp only [List.size_toArray] <;> omega)
    have I1:Inv X pins σ H { s with heap:=h' }:=I.kept (t':=s.toks) kp
    have I2:Inv X pins σ (upd H h'.objs.size (.tup ys)) { s with heap:=h'.push { cls:=.type "tuple",data:=.seq its.toArray } }:=
      I1.laid (t':=s.toks) (fun b o e=>Heap.get?_push_of_some _ e) (Nat.le_refl _) (show ObjOk X.prog X.w _ _ _ (.tup ys) from ⟨hz,its,r',IsTup.new _ _,NoDict.new⟩)
    exact ⟨.ref h'.objs.size,_,I2,rfl,q _ (I1.hok.fresh (Nat.le_refl _))⟩
  · obtain ⟨its,r',pl,hz⟩:=I.tuple hq
    exact call_tuple_same pl ⟨.ref p,H,I,rfl,q⟩
noncomputable def tyV (K:PySem.W.Frag) (T:String) (x:V) (H:Hp):Prop:=match x with
  | .str _=>T = "str"
  | .int _=>T = "int"
  | .ref p=>(T = "list"/\∃ xs,SqL K H p xs)\/(T = "tuple"/\∃ o,K.lookup p = some o/\o.cls = .type "tuple"/\o.dict = none) \/
      (T = "dict"/\((∃ kvs,Rd H p (.dK kvs))\/∃ kvs,H p = some (.dT kvs)))\/(T = "set"/\∃ S n,H p = some (.set S n))
  | _=>False
theorem zli {pins:List (Addr × Obj)} {σ:St} {H:Hp} {s:Shared} {T:String} {x:V} {v:Value} (I:Inv X pins σ H s) (r:RelV x v) (ty:tyV X.K T x H) :
    s.TypeIs v T/\∀ a,v = .ref a->∃ ob,s.heap.get? a = some ob/\ob.dict = none:=by
  cases x with
  | str z=>
    obtain ⟨t,rfl⟩:=r
    cases (show T = "str" from ty)
    exact ⟨typeIs_str s z t,fun _ e=>nomatch e⟩
  | int i=>
    obtain ⟨t,rfl⟩:=r
    cases (show T = "int" from ty)
    exact ⟨typeIs_int s i t,fun _ e=>nomatch e⟩
  | ref p=>
    cases r
    rcases ty with ⟨rfl,xs,hq⟩ | ⟨rfl,o,hk,hc,hd⟩ | ⟨rfl,hk⟩ | ⟨rfl,S,n,hk⟩
    · obtain ⟨its,_,pl,_⟩:=I.list hq
      refine ⟨pl.isList.typeIs,fun a e=>?_⟩
      cases e
      obtain ⟨o,n,e,c,hd,_⟩:=pl
      exact ⟨o,e,hd⟩
    · refine ⟨⟨o,I.kIn p o hk,hc⟩,fun a e=>?_⟩
      cases e
      exact ⟨o,I.kIn _ o hk,hd⟩
    · have z:∃ o,s.heap.get? p = some o/\o.ExactDict:=by
        rcases hk with ⟨kvs,hk⟩ | ⟨kvs,hk⟩
        · obtain ⟨_,_,_,_,o,_,_,e,ex,_⟩:=(show ObjOk X.prog X.w H s.heap p (.dK kvs) from hk.ok I.hok)
          exact ⟨o,e,ex⟩
        · obtain ⟨_,_,_,_,o,_,_,e,ex,_⟩:=I.hok p _ hk
          exact ⟨o,e,ex⟩
      obtain ⟨o,e,ex⟩:=z
      refine ⟨⟨o,e,ex.1⟩,fun a e2=>?_⟩
      cases e2
      exact ⟨o,e,ex.2.1⟩
    · obtain ⟨o,_,_,_,e,ex,_⟩:=I.hok p _ hk
      refine ⟨⟨o,e,ex.1⟩,fun a e2=>?_⟩
      cases e2
      exact ⟨o,e,ex.2.1⟩
  | _=>exact False.elim ty
noncomputable def tBM (K:PySem.W.Frag) (T:String) (r:V->List V->Hp->VK->Prop) (to:TE) (t:TA):TE:=fun σ H Q=>to σ H fun x H1=>tyV K T x H1/\t σ H1 fun xs H2=>r x xs H2 Q
variable {o e:Expr} {es:List Expr} {to:TE} {t:TA} {name:Str} {apos cpos:Pos} {T id:String} {r:V->List V->Hp->VK->Prop}
theorem zcg (pa:PlainAttrs T) (slot:Slot T name id) (hty:typeOf (.builtin id) = pure (.type "method_descriptor")) (hm:MtR X id r) (ho:PE X o to) (ha:PA X (e :: es) t)
    (hbase:attributeBase o name X.env (eval o X.env) = eval o X.env:=by rfl)
    (hfew:((backTo cpos (starEach (e :: es) X.env)).all (fun x=>!x.1) && (backToKw cpos (keywordEach [] X.env)).all (fun x=>x.1.isSome)
      && decide ((e :: es).length + ([]:List Keyword).length + (if ([]:List Keyword).isEmpty then 0 else 1) < 30)) = true:=by rfl)
    (hline:(apos.endLine == cpos.line) = true:=by rfl) (hs:starEach (e :: es) X.env = (false,eval e X.env) :: starEach es X.env:=by rfl) (hplain:(backTo cpos (starEach es X.env)).any (·.1) = false:=by rfl) :
    PE X (.Call (.Attribute o name apos) (e :: es) [] cpos) (tBM X.K T r to t):=by
  intro pins s σ H Q I h
  refine wpAny_Call_method_late hbase hfew hline rfl (thn (ho pins s σ H _ I h) fun v s1 ⟨x,H1,I1,r1,ty,q1⟩=>?_)
  obtain ⟨h1,h2⟩:=zli I1 r1 ty
  refine ⟨T,id,pa,slot,hty,h1,h2,?_⟩
  have hA:=ha cpos pins s1 σ H1 _ I1 q1
  rw [hs] at hA ⊢
  refine Calls.callWith_builtin (by show (false || (backTo cpos (starEach es X.env)).any (·.1)) = false;rw [hplain] <;> rfl) (Calls.evalArgs_plain ?_)
  exact thn hA fun us s2 ⟨vs,H2,I2,r2,q2⟩=>hm pins s2 σ H2 x vs v us Q I2 r1 r2 q2
end
end L2
namespace L2
open PySem PySem.Spec PyProof.Rows
noncomputable def MtM (X:Cx) (id:String) (r:V->List V->Hp->VK->Prop):Prop:=
  ∀ (pins:List (Addr × Obj)) (s:Shared) (σ:St) (H:Hp) (x:V) (xs:List V) (v:Value) (us:List Value) (Q:VK),Inv X pins σ H s->RelV x v->Vals xs us->r x xs H Q->
    wpAny (model X.prog X.w) X.A (call (.builtin id) (v :: us)) (EP X pins σ Q) X.xe s
theorem Vals.one:∀ {x:V} {us:List Value},Vals [x] us->∃ u,us = [u]/\RelV x u
  | _,_,.cons r .nil=>⟨_,rfl,r⟩
theorem Vals.two:∀ {x y:V} {us:List Value},Vals [x,y] us->∃ u v,us = [u,v]/\RelV x u/\RelV y v
  | _,_,_,.cons r (.cons q .nil)=>⟨_,_,rfl,r,q⟩
theorem Vals.zero:∀ {us:List Value},Vals [] us->us = []
  | _,.nil=>rfl
theorem Vals.eraseIdx:∀ {xs:List V} {us:List Value} (i:Nat),Vals xs us->Vals (xs.eraseIdx i) (us.eraseIdx i)
  | _,_,_,.nil=>.nil
  | _,_,0,.cons _ t=>t
  | _,_,i + 1,.cons r t=>.cons r (Vals.eraseIdx i t)
theorem Vals.rep {xs:List V} {us:List Value} (h:Vals xs us):∀ k:Nat,Vals (List.replicate k xs).flatten (List.replicate k us).flatten
  | 0=>.nil
  | k + 1=>by
    rw [List.replicate_succ,List.replicate_succ,List.flatten_cons,List.flatten_cons]
    exact Vals.append h (Vals.rep h k)
theorem foldl_rep (its:List Value):∀ (k:Nat) (acc:List Value),
    List.foldl (fun x1 x2=>x1 ++ x2) acc.toArray (List.replicate k its.toArray) = (acc ++ (List.replicate k its).flatten).toArray
  | 0,acc=>by simp
  | k + 1,acc=>by
    have e:acc.toArray ++ its.toArray = (acc ++ its).toArray:=by simp
    have e2:(acc ++ its) ++ (List.replicate k its).flatten = acc ++ (List.replicate (k + 1) its).flatten:=by
      rw [List.replicate_succ,List.flatten_cons,List.append_assoc]
    rw [← e2,← foldl_rep its k (acc ++ its),← e,List.replicate_succ,List.foldl_cons]
section
variable {X:Cx} {pins:List (Addr × Obj)} {σ:St} {H:Hp} {s:Shared} {l b:Addr} {xs ys zs:List V}
theorem Inv.lset {its its':List Value} {n:Nat} {f:Array Value->Array Value} {t':Nat} (I:Inv X pins σ H s) (hH:H l = some (.lst xs))
    (e:s.heap.get? l = some { cls:=.type "list",data:=.seq its.toArray n }) (hf:f its.toArray = its'.toArray) (hv:Vals ys its') (hz:ys.length<=sizeLine) :
    Inv X pins σ (upd H l (.lst ys)) { s with heap:=s.heap.update l (Obj.mapSeq f),toks:=t' }:=by
  have q:=PySem.IsL.update e f
  rw [hf] at q
  refine I.write (x:=l) (e:=l) (by rw [hH];exact trivial) (.inl rfl) (fun b' u hb hu=>(Heap.get?_update_other s.heap (Obj.mapSeq f) (Ne.symm hb)).trans hu) ⟨_,q⟩ ?_
  exact ⟨hz,its',_,hv,q⟩
theorem Inv.lnew {its:List Value} {t':Nat} (I:Inv X pins σ H s) (hv:Vals ys its) (hz:ys.length<=sizeLine) :
    Inv X pins σ (upd H s.heap.objs.size (.lst ys)) { s with heap:=s.heap.push { cls:=.type "list",data:=.seq its.toArray },toks:=t' }:=
  I.laid (fun _ _ q=>Heap.get?_push_of_some _ q) (Nat.le_refl _) ⟨hz,its,0,hv,Heap.get?_push_size _ rfl⟩
theorem Inv.fresh (I:Inv X pins σ H s):H s.heap.objs.size = none:=I.hok.fresh (Nat.le_refl _)
theorem Inv.lstM (I:Inv X pins σ H s) (hH:H l = some (.lst xs)):xs.length<=sizeLine/\∃ (its:List Value) (n:Nat),Vals xs its/\xs.length = its.length/\s.heap.get? l = some { cls:=.type "list",data:=.seq its.toArray n }:=by
  obtain ⟨z,its,n,r,e⟩:=I.hok l _ hH
  exact ⟨z,its,n,r,r.length,e⟩
theorem zje {n:Nat} (h:n<=sizeLine):Builtin.List.listTooLong n = false:=by
  unfold Builtin.List.listTooLong
  exact decide_eq_false (by omega)
end
section
variable {X:Cx}
noncomputable def zdL:V->List V->Hp->VK->Prop:=fun x vs H Q=>∃ l xs y,x = .ref l/\vs = [y]/\H l = some (.lst xs)/\xs.length < sizeLine/\Q .non (upd H l (.lst (xs ++ [y])))
theorem y3:MtM X "list.append" zdL:=by
  intro pins s σ H x vs v us Q I rx rv h
  obtain ⟨l,xs,y,rfl,rfl,hH,hz,q⟩:=h
  cases rx
  obtain ⟨u,rfl,ru⟩:=rv.one
  obtain ⟨z,its,n,r,hl,e⟩:=I.lstM hH
  refine call_meets F.slot_list_append ⟨_,e,rfl⟩ F.entry_list_append (F.args_list_append_2 _ _) (PySem.list_append l its.toArray n u (by rw [List.size_toArray];omega)) ⟨e,?_⟩
  refine ⟨.non,_,I.lset (its':=its ++ [u]) hH e (by simp) (r.append (.cons ru .nil)) ?_,rfl,q⟩
  rw [List.length_append,List.length_singleton]
  omega
noncomputable def znT:R2:=fun x y H Q=>∃ l k xs,x = .ref l/\y = .int k/\H l = some (.lst xs)/\-(2 ^ 63)<=k/\k < 2 ^ 63/\xs.length * k.toNat<=sizeLine /\
  ∀ p,H p = none->Q (.ref p) (upd H p (.lst (List.replicate k.toNat xs).flatten))
theorem len_rep {α:Type} (xs:List α) (k:Nat):(List.replicate k xs).flatten.length = k * xs.length:=by
  induction k with
  | zero=>simp
  | succ k ih=>rw [List.replicate_succ,List.flatten_cons,List.length_append,ih,Nat.succ_mul,Nat.add_comm]
theorem zlO:OpR X (binaryOp .Mult) znT:=by
  intro pins s σ H x y v u Q I rx ry h
  obtain ⟨l,k,xs,rfl,rfl,hH,h1,h2,hz,q⟩:=h
  cases rx
  obtain ⟨t,rfl⟩:=ry
  obtain ⟨z,its,n,r,hl,e⟩:=I.lstM hH
  have hlen:its.toArray.size * k.toNat<=sizeLine:=by rw [List.size_toArray,← hl];exact hz
  have hcap:¬ its.toArray.size * k.toNat > (2 ^ 63 - 1) / 8:=by
    have:(sizeLine:Nat)<=(2 ^ 63 - 1) / 8:=by decide
    omega
  have hfit:¬ (!Builtin.List.listFitsIndex k) = true:=by
    rw [fitsIndex_both h1 h2]
    exact Bool.false_ne_true
  have hlong:¬ Builtin.List.listTooLong (its.toArray.size * k.toNat) = true:=by
    rw [zje hlen]
    exact Bool.false_ne_true
  have hnew:List.foldl (fun x1 x2=>x1 ++ x2) #[] (List.replicate (if its.toArray.isEmpty = true then 0 else k.toNat) its.toArray) = (List.replicate k.toNat its).flatten.toArray:=by
    have f0:∀ m:Nat,List.foldl (fun x1 x2=>x1 ++ x2) #[] (List.replicate m its.toArray) = (List.replicate m its).flatten.toArray:=fun m=>by
      have:=foldl_rep its m []
      rw [List.nil_append] at this
      exact this
    rw [f0]
    cases its with
    | nil=>simp
    | cons a r'=>rw [if_neg (by simp)]
  refine wpAny_binaryOp_repeat_ref (T:="list") (U:="int") (by decide) ⟨_,e,rfl⟩ (fun s'=>typeIs_int s' k t) noFill_list_mul F.fills_int_mul F.slot_int_rmul repeat_list F.slot_int_index.lookup
    (call_meets F.slot_int_rmul (typeIs_int s k t) F.entry_int_rmul (F.args_int_rmul_2 _ _) (int___rmul___int_list k t l its.toArray n)
      ⟨e,rfl,⟨_,e,rfl⟩,call_meets F.slot_list_mul ⟨_,e,rfl⟩ F.entry_list_mul (F.args_list_mul_2 _ _) (AutoListH.list___mul___list_int_3 l its.toArray n k t hfit hcap hlong) ⟨e,?_⟩⟩)
  rw [hnew]
  exact ⟨.ref _,_,I.lnew (t':=s.toks) (r.rep k.toNat) (by rw [len_rep,Nat.mul_comm];exact hz),rfl,q _ I.fresh⟩
end
end L2
namespace Att
open PySem PySem.W PySem.Calls PyProof.Rows
theorem zdj {P:Params} {h:Heap}:∀ (ns:List Int) (vs:List Value),WellAll P h vs (ns.map WData.int)->IntsAre vs ns:=by
  intro ns
  induction ns with
  | nil=>
    intro vs w
    rw [List.map_nil] at w
    cases w
    exact .nil
  | cons n ns ih=>
    intro vs w
    rw [List.map_cons] at w
    cases w with
    | cons a b=>
      cases a
      exact .cons _ _ (ih _ b)
theorem zh0 {l:OpenLaw} {n:Nat} (hn:l.most = some n) {P:Params} {h:Heap} {args:List WData} {vals:List Value}
    (hpre:l.row.toRowW.claim.pre args = true) (hwl:WellAll P h vals args) :
    ∃ a vs ns,vals = [Value.ref a]/\args = [WData.list (ns.map WData.int)]/\h.get? a = some { cls:=.type "list",data:=.seq vs.toArray }/\IntsAre vs ns/\ns.length<=n:=by
  have hsh:WShape.hasAll [] args [.list .int] = true:=(pre_splitW hpre).1
  have hc:l.pre.holds [] { args:=args } = true:=(pre_splitW hpre).2
  obtain ⟨d,r,rfl,h1,h2⟩:=hasAllW_cons hsh
  obtain rfl:=hasAllW_nil h2
  obtain ⟨xs,rfl,h3⟩:=hasW_list h1
  obtain ⟨ns,rfl⟩:=items_int h3
  have hlen:ns.length<=n:=by
    unfold OpenLaw.pre at hc
    have h4:(WTm.not (.lt (.lit (.int (n:Int))) (.len (.arg 0)))).holds [] { args:=[.list (ns.map .int)] } = true:=by
      have h4:=(holds_andW hc).1
      rw [hn] at h4
      exact h4
    have h5:=condW_of h4 (w_not (w_lt w_lit (w_len_list (w_arg rfl))))
    rw [List.length_map] at h5
    refine Nat.le_of_not_lt fun q=>?_
    have q':(n:Int) < ((ns.length:Nat):Int):=by omega
    first
      | (rw [decide_eq_true q'] at h5;exact absurd h5 (by decide))
      | (simp at h5;omega)
  cases hwl with
  | cons w1 w2=>
    cases w2
    cases w1 with
    | list ho hall=>exact ⟨_,_,ns,rfl,rfl,ho,zdj ns _ hall,hlen⟩
theorem zh8 (l:OpenLaw) (args:List WData):l.row.toRowW.claim.post args (.bool true) args = true:=
  postW_of (r:=l.row.toRowW) (X:=(true == true))
    (show WShape.has [] (.bool true) .bool = true by first | rfl | decide | simp [WShape.has,WShape.arms,WShape.armsAll])
    (show (WTm.eq .res (.lit (.bool true))).value [] { args:=args,res:=some (.bool true),after:=args } = some (.bool (true == true)) from w_eq_bool (w_res rfl) w_lit) rfl
theorem zgl {l:OpenLaw} {n:Nat} {q:Program} {loose:List Str} {XP:(Str->Option Value)->Heap->Prop} {YP:World->Heap->Prop} {d:DefRec}
    (hn:l.most = some n) (hdf:d.params.defaults = [])
    (call:∀ (w:World) (s₀ s₁:Shared) (mg mb:Str->Option Value) (fa:Addr) (o:Obj) (pm cd doc:Value) (a:Addr) (vs:List Value) (ns:List Int),
      Ground q loose [] XP w s₀ mg mb s₁.heap->YP w s₁.heap->
      s₁.heap.get? fa = some o->o.data = .func (docDef d.name d.params d.body d.scope pm cd doc)->s₁.heap.CodeRec cd d.name->mg d.name = some (.ref fa)->
      s₁.heap.get? a = some { cls:=.type "list",data:=.seq vs.toArray }->IntsAre vs ns->ns.length<=n->s₁.gens = #[]->
      codeAny (model l.prog w) callerA (.call (.ref fa) ⟨[.ref a],[]⟩) (fun r s'=>r = .ok (.ret (.bool true))/\OldK s₁.heap s'.heap/\s'.os = s₁.os/\AllBare s'.gens) s₁) :
    WalkO q loose XP YP l.row.toRowW d [] (fun f vs=>PySem.call f vs):=by
  intro w s₀ s₁ mg mb G Y fa o pm cd doc dV kV ho hd hcd hD hmg hg args vals as hpre hlay hrd hwl hlo
  obtain rfl:dV = .none:=Dflts.none hD hdf
  obtain rfl:kV = .none:=Dflts.noKw hD
  obtain ⟨a,vs,ns,rfl,rfl,hobj,hints,hlen⟩:=zh0 hn hpre hwl
  refine enter_call (codeAny_mono (call w s₀ s₁ mg mb fa o pm cd doc a vs ns G Y ho (fd_plain hd) hcd hmg hobj hints hlen hg) fun r s' hq=>?_)
  obtain ⟨rfl,h2,h3,h4⟩:=hq
  exact ⟨.inl ⟨.bool true,.bool true,[],rfl,fun _=>rfl,.bool true,zh8 l _,fun _=>⟨List.Pairwise.nil,fun _ hm=>(nomatch hm)⟩⟩,h2,h3,h4⟩
end Att
namespace L2
open PySem PySem.Spec PyProof.Rows
theorem zef:∀ {vs:List Value} {ns:List Int},IntsAre vs ns->Vals (ns.map V.int) vs
  | _,_,.nil=>.nil
  | _,_,.cons n t h=>.cons ⟨t,rfl⟩ (zef h)
noncomputable def zhN (H:Hp):Prop:=∀ b,H b = none\/∃ o xs,H b = some (.frz o (.lst xs))
theorem zjk {P:Program} {w:World} {K:PySem.W.Frag} {mg mb:Str->Option Value} {CX:CXT} {k:Nat} {fa a:Addr} {fd:FuncData} {x:Str} {sp:Sp} {s₁:Shared} {vs:List Value} {ns:List Int}
    (KX:K.In s₁.heap) (hns:s₁.heap.Ns mainGlobals mg) (hb:s₁.heap.Ns builtinsNs mb) (hbb:∀ x:Str,x ≠ "__name__"->mb x = bootBuiltins x) (hlim:s₁.heap.NoLimit) (hg:s₁.gens = #[])
    (ha:s₁.heap.get? a = some { cls:=.type "list",data:=.seq vs.toArray }) (hi:IntsAre vs ns) (hl:ns.length<=sizeLine) (hr:Room k callerA)
    (F:∀ base:Heap,K.In base->base.Ns mainGlobals mg->FnOk P w K mg base CX k fa fd [x] sp) (hbind:∀ (s:Shared) (u:Value),BindsTo s fd ⟨[u],[]⟩ [(x,u)])
    (hsp:∀ H:Hp,zhN H->SqL K H a (ns.map V.int)->sp [.ref a] H (fun v _=>v = .bl true) fun _ _ _=>False)
    (hCX:∀ H e s',CX [] H s₁ (fun _ _ _=>False) e s'->False) :
    codeAny (model P w) callerA (.call (.ref fa) ⟨[.ref a],[]⟩) (fun r s'=>r = .ok (.ret (.bool true))/\OldK s₁.heap s'.heap/\s'.os = s₁.os/\AllBare s'.gens) s₁:=by
  have rv:=zef hi
  have lenV:=hi.length
  -- from an abstract heap in which nothing but the script may be tracked
  have core:∀ H:Hp,zhN H->SqL K H a (ns.map V.int)->HOk P w H s₁.heap->(∀ b,H b ≠ none->b = a)->(H a ≠ none->K.lookup a = none)->
      codeAny (model P w) callerA (.call (.ref fa) ⟨[.ref a],[]⟩) (fun r s'=>r = .ok (.ret (.bool true))/\OldK s₁.heap s'.heap/\s'.os = s₁.os/\AllBare s'.gens) s₁:=by
    intro H hO hS hok hA hK
    have base_of:∀ {b:Addr} {o:Obj},s₁.heap.get? b = some o->H b = none->(zbr s₁.heap H).get? b = some o:=fun e n=>zjr e n
    have noA:∀ {b:Addr} {o:Obj} {es:Array DictEntry} {ep:Nat},s₁.heap.get? b = some o->o.data = .dict es ep->H b = none:=fun {b o es ep} e d=>by
      cases q:H b with
      | none=>rfl
      | some u=>
        have e':b = a:=hA b (by rw [q];simp)
        subst e'
        rw [ha] at e;cases e
        have d':Data.seq vs.toArray _ = Data.dict es ep:=d
        cases d'
    have nsK:∀ {b:Addr} {m:Str->Option Value},s₁.heap.Ns b m->(zbr s₁.heap H).Ns b m:=fun {b m} ⟨o,es,ep,e,d,r⟩=>⟨o,es,ep,base_of e (noA e d),d,r⟩
    have hKb:K.In (zbr s₁.heap H):=fun b o e=>base_of (KX b o e) (by
      cases q:H b with
      | none=>rfl
      | some u=>
        have e':b = a:=hA b (by rw [q];simp)
        subst e'
        rw [hK (by rw [q];simp)] at e;cases e)
    have hM:Mod K mg (zbr s₁.heap H):=⟨hKb,nsK hns,⟨mb,nsK hb,hbb⟩,let ⟨mc,h1,h2⟩:=hlim;⟨mc,nsK h1,h2⟩⟩
    have e0:Env0 P w K mg (zbr s₁.heap H) callerA [] s₁ H:=⟨rfl,hM,fun b o e=>zkw e,Nat.le_of_eq (zil _ _),trivial,fun b hb=>absurd (show b ∈ ([]:List Addr) from hb) (by simp),hok,.of_eq hg⟩
    refine codeAny_mono ((F _ hKb (nsK hns)).run callerA [] s₁ H ⟨[.ref a],[]⟩ [.ref a] [.ref a] _ _ hr e0 (hbind s₁ (.ref a)) (.cons rfl .nil) (hsp H hO hS)) fun r s' h=>?_
    cases r with
    | error e=>exact (hCX H e s' h).elim
    | ok fl=>
      cases fl with
      | next=>exact False.elim h
      | brk=>exact False.elim h
      | cont=>exact False.elim h
      | ret u=>
        obtain ⟨v,H',os,bare,un,hok',r',q⟩:=h
        have q':v = .bl true:=q
        subst q'
        obtain rfl:u = Value.bool true:=r'
        refine ⟨rfl,OldK.of_keep fun b o e=>?_,os,bare⟩
        cases q:H b with
        | none=>exact un.keep b o e q (by intro z;exact absurd (show b ∈ ([]:List Addr) from z) (by simp)) (by simp)
        | some u=>
          rcases hO b with z | ⟨ob,xs,z⟩
          · rw [q] at z;cases z
          · have z2:=un.frzs b ob _ z
            obtain ⟨e1,_⟩:=hok b _ z
            obtain ⟨e2,_⟩:=hok' b _ z2
            rw [e] at e1;cases e1
            exact e2
  cases hk:K.lookup a with
  | some o=>
    -- the script is one of the module's own objects
    have e:=KX a o hk
    rw [ha] at e
    cases e
    refine core (fun _=>none) (fun _=>.inl rfl) (.inr ⟨_,vs.toArray,_,hk,rfl,rfl,rfl,by rw [List.size_toArray,lenV];exact hl,by simpa using rv⟩) (fun b u z=>by have z':(none:Option HO) = some u:=z;cases z') (fun b z=>absurd rfl z) fun z=>absurd rfl z
  | none=>
    refine core (fun b=>if b = a then some (.frz { cls:=.type "list",data:=.seq vs.toArray } (.lst (ns.map V.int))) else none) (fun b=>?_) (.inl (.inr ⟨{ cls:=.type "list",data:=.seq vs.toArray },if_pos rfl⟩)) (fun b u z=>?_) (fun b z=>?_) fun _=>hk
    · by_cases hb:b = a
      · exact .inr ⟨_,_,if_pos hb⟩
      · exact .inl (if_neg hb)
    · by_cases hb:b = a
      · have z':=(if_pos hb).symm.trans z
        cases z'
        subst hb
        exact ⟨ha,by rw [List.length_map];exact hl,vs,_,rv,ha⟩
      · have z':=(if_neg hb).symm.trans z
        cases z'
    · by_cases hb:b = a
      · exact hb
      · exact absurd (if_neg hb) z
end L2
namespace L2
open PySem PySem.Spec PyProof.Rows
noncomputable abbrev KOf {K:PySem.W.Frag} {h:Heap} (_:K.In h):PySem.W.Frag:=K
theorem zj0 {l:PySem.W.OpenLaw} {n k:Nat} {q:Program} {loose:List Str} {XP:(Str->Option Value)->Heap->Prop} {YP:World->Heap->Prop} {d:DefRec} {K:Params->PySem.W.Frag} {CX:World->CXT} {sp:World->Sp} {x:Str}
    (hn:l.most = some n) (hn2:n<=sizeLine) (hdf:d.params.defaults = []) (hr:Room k callerA)
    (hY:∀ (w:World) (h:Heap),YP w h->(K w.params).In h)
    (F:∀ (w:World) (mg:Str->Option Value) (fa:Addr) (h:Heap),(K w.params).In h->h.Ns mainGlobals mg->mg d.name = some (.ref fa)->
      ∃ fd:FuncData,(∀ (s:Shared) (u:Value),BindsTo s fd ⟨[u],[]⟩ [(x,u)]) /\
        ∀ base:Heap,(K w.params).In base->base.Ns mainGlobals mg->FnOk l.prog w (K w.params) mg base (CX w) k fa fd [x] (sp w))
    (hsp:∀ (w:World) (H:Hp) (a:Addr) (ns:List Int),ns.length<=n->zhN H->SqL (K w.params) H a (ns.map V.int)->sp w [.ref a] H (fun v _=>v = .bl true) fun _ _ _=>False)
    (hCX:∀ (w:World) (H:Hp) (s:Shared) (e:Value) (s':Shared),CX w [] H s (fun _ _ _=>False) e s'->False) :
    PySem.W.WalkO q loose XP YP l.row.toRowW d [] (fun f vs=>PySem.call f vs):=by
  refine Att.zgl hn hdf fun w s₀ s₁ mg mb fa o pm cd doc a vs ns G Y ho hd hcd hmg hobj hints hlen hg=>?_
  have KX:=hY w _ Y
  obtain ⟨fd,hb,hF⟩:=F w mg fa _ KX G.T.g hmg
  exact zjk KX G.T.g G.T.b G.T.builtins G.T.nolimit hg hobj hints (Nat.le_trans hlen hn2) hr hF hb (fun H hO hS=>hsp w H a ns hlen hO hS) fun H e s'=>hCX w H s₁ e s'
theorem ziR {l:PySem.W.OpenLaw} {n k:Nat} {q:Program} {loose:List Str} {XP:(Str->Option Value)->Heap->Prop} {YP:World->Heap->Prop} {d:DefRec} {K:Params->PySem.W.Frag} {CX:CXT} {sp:PySem.W.Frag->Sp} {x:Str}
    (hn:l.most = some n) (hn2:n<=sizeLine) (hdf:d.params.defaults = []) (hr:Room k callerA)
    (hY:∀ (w:World) (h:Heap),YP w h->(K w.params).In h)
    (F:∀ (w:World) (mg:Str->Option Value) (fa:Addr) (h:Heap),(K w.params).In h->h.Ns mainGlobals mg->mg d.name = some (.ref fa)->
      ∃ fd:FuncData,(∀ (s:Shared) (u:Value),BindsTo s fd ⟨[u],[]⟩ [(x,u)]) /\
        ∀ base:Heap,(K w.params).In base->base.Ns mainGlobals mg->FnOk l.prog w (K w.params) mg base CX k fa fd [x] (sp (K w.params)))
    (hsp:∀ (K:PySem.W.Frag) (H:Hp) (a:Addr) (ns:List Int),ns.length<=n->zhN H->SqL K H a (ns.map V.int)->sp K [.ref a] H (fun v _=>v = .bl true) fun _ _ _=>False)
    (hCX:∀ (H:Hp) (s:Shared) (e:Value) (s':Shared),CX [] H s (fun _ _ _=>False) e s'->False) :
    PySem.W.WalkO q loose XP YP l.row.toRowW d [] (fun f vs=>PySem.call f vs):=
  zj0 (K:=K) (CX:=fun _=>CX) (sp:=fun w=>sp (K w.params)) hn hn2 hdf hr hY F (fun w H a ns h1 h2 h3=>hsp (K w.params) H a ns h1 h2 h3) fun _ H s e s'=>hCX H s e s'
end L2
namespace L2
open PySem PySem.Spec PyProof.Rows
noncomputable def inClass (s:Stmt) (j:Nat):Stmt:=match s with
  | .ClassDef _ _ _ body _ _ _ _ _ _ _=>body.getD j (.Pass ⟨0,0,0,0⟩)
  | _=>.Pass ⟨0,0,0,0⟩
noncomputable def zI (s:Stmt):Arguments:=match s with
  | .FunctionDef _ a _ _ _ _ _ _ _ _=>a
  | _=>{ posonlyargs:=[],args:=[],vararg:=none,kwonlyargs:=[],kw_defaults:=[],kwarg:=none,defaults:=[] }
noncomputable def zn (s:Stmt):List Stmt:=match s with
  | .FunctionDef _ _ b _ _ _ _ _ _ _=>b
  | _=>[]
noncomputable def zd (s:Stmt):Scope:=match s with
  | .FunctionDef _ _ _ _ _ _ sc _ _ _=>sc
  | _=>{ kind:=.function,names:=[],isGenerator:=false,isCoroutine:=false }
noncomputable abbrev CX0:CXT:=fun _ _ _ _ _ _=>False
noncomputable abbrev E0:XK:=fun _ _ _=>False
theorem znd {X:Cx}:Passes CX0 X E0:=fun _ _ _ _ _ _ _ h=>h.elim
structure Fun (K:PySem.W.Frag) (x qual:Str) (st:Stmt) (f:Addr) (fd:FuncData):Prop where
  ex:∃ (oc:Value) (od:Option Addr) (kV doc pm:Value) (an:Option Addr) (cdv ct:Value) (osl:Array (Option Value)),
    fd = PySem.W.fnOf x qual (zI st) (zn st) (zd st) .none kV doc pm an cdv ct/\K.lookup f = some ⟨oc,od,.func fd,osl⟩/\PySem.W.codeIn K cdv qual = true
  kp:PySem.W.keepIn K (.ref f) = true
section
variable {P:Program} {w:World} {K:PySem.W.Frag} {mg:Str->Option Value} {base:Heap}
theorem Fun.ok {x qual:Str} {st:Stmt} {f:Addr} {fd:FuncData} {N ps:List Str} {k:Nat} {sp:Sp} (F:Fun K x qual st f fd) (S:FnScope N ps (zd st)) (len:∀ vs H Q E,sp vs H Q E->vs.length = ps.length)
    (hbody:∀ (cdv:Value) (A:Around) (outer:List Env) (s:Shared) (H:Hp) (vs:List V) (Q:VK) (E:XK),Room k (A.deeper (envOfC qual (zd st) s.heap.objs.size f cdv))->sp vs H Q E->
      ∃ t,PSs (qY CX0 P w K mg base N qual (zd st) f cdv A outer s H E).nox (zn st) t/\t { nx:=fun _ H'=>Q .non H',rt:=Q } (start N vs) H):FnOk P w K mg base CX0 (k + 1) f fd ps sp:=by
  obtain ⟨oc,od,kV,doc,pm,an,cdv,ct,osl,rfl,lk,hcd⟩:=F.ex
  refine zjO lk hcd S len fun A outer s H vs Q E hr hsp=>?_
  obtain ⟨t,h,q⟩:=hbody cdv A outer s H vs Q E hr hsp
  exact ⟨t,h.nox,q⟩
theorem Fun.binds {x qual:Str} {st:Stmt} {f:Addr} {fd:FuncData} {ps:List Str} (F:Fun K x qual st f fd)
    (h:∀ (kV doc pm:Value) (an:Option Addr) (cdv ct:Value) (us:List Value),us.length = ps.length->bindArgs (PySem.W.fnOf x qual (zI st) (zn st) (zd st) .none kV doc pm an cdv ct) ⟨us,[]⟩ = pure (ps.zip us)):Binds K fd ps []:=by
  obtain ⟨oc,od,kV,doc,pm,an,cdv,ct,osl,rfl,lk,hcd⟩:=F.ex
  exact .all (h kV doc pm an cdv ct)
theorem zfH {x qual:Str} {st:Stmt} {f:Addr} {oc:Value} {od an:Option Addr} {osl:Array (Option Value)} {kV doc pm cdv ct:Value} (l:K.lookup f = some ⟨oc,od,.func (PySem.W.fnOf x qual (zI st) (zn st) (zd st) .none kV doc pm an cdv ct),osl⟩)
    (c:PySem.W.codeIn K cdv qual = true) (k:PySem.W.keepIn K (.ref f) = true):Fun K x qual st f (PySem.W.fnOf x qual (zI st) (zn st) (zd st) .none kV doc pm an cdv ct):=⟨⟨oc,od,kV,doc,pm,an,cdv,ct,osl,rfl,l,c⟩,k⟩
end
theorem zaI {n:Nat} (h:n<=1000):n < sizeLine:=Nat.lt_of_le_of_lt h (by decide)
section
variable {X:Cx}
theorem pv (i:Nat) {x:Str} {pos:Pos} (hN:X.N[i]? = some x:=by rfl) (hv:Vis X.env.scope x:=by first | exact Or.inl rfl | exact Or.inr (Or.inl rfl) | exact Or.inr (Or.inr rfl)) (hd:(x == ("__debug__":Str)) = false:=by decide)
    (hcd:(x == ("__classdict__":Str)) = false:=by decide):PE X (.Name x pos) (zbF i):=zfh hN hv hd hcd
end
end L2
set_option maxHeartbeats 4000000
namespace L2
open PySem PySem.Spec PyProof.Rows
section
variable {κ:Type} [DecidableEq κ]
noncomputable def zF (kvs:List (κ × V)) (k:κ):Option V:=(kvs.find? fun kv=>decide (kv.1 = k)).map (·.2)
noncomputable def putK (kvs:List (κ × V)) (k:κ) (v:V):List (κ × V):=
  if (kvs.any fun kv=>decide (kv.1 = k)) = true then kvs.map (fun kv=>if kv.1 = k then (kv.1,v) else kv) else kvs ++ [(k,v)]
noncomputable def zoP (kvs:List (κ × V)) (k:κ):List (κ × V):=kvs.filter fun kv=>decide (kv.1 ≠ k)
theorem zcA {p:κ × V} {r:List (κ × V)} {k:κ} (e:p.1 = k):zF (p :: r) k = some p.2:=by simp [zF,List.find?_cons,e]
theorem zcB {p:κ × V} {r:List (κ × V)} {k:κ} (e:¬ p.1 = k):zF (p :: r) k = zF r k:=by simp [zF,List.find?_cons,e]
theorem ziS (k:κ):∀ kvs:List (κ × V),(kvs.any fun kv=>decide (kv.1 = k)) = (zF kvs k).isSome
  | []=>rfl
  | p :: r=>by
    rw [List.any_cons]
    by_cases e:p.1 = k
    · simp only [zcA e,decide_eq_true e,Bool.true_or,Option.isSome_some]
    · rw [zcB e,decide_eq_false e,Bool.false_or];exact ziS k r
theorem zge (kvs:List (κ × V)) (k:κ) (v:V):(putK kvs k v).length<=kvs.length + 1:=by
  unfold putK
  split
  · rw [List.length_map];omega
  · rw [List.length_append,List.length_cons,List.length_nil];omega
theorem RelO.isSome_eq {o:Option V} {u:Option Value} (r:RelO o u):o.isSome = u.isSome:=by
  cases o with
  | none=>cases u with
    | none=>rfl
    | some _=>exact (show False from r).elim
  | some _=>cases u with
    | none=>exact (show False from r).elim
    | some _=>rfl
theorem RelO.getD {o:Option V} {u:Option Value} {d:V} {d':Value} (r:RelO o u) (rd:RelV d d'):RelV (o.getD d) (u.getD d'):=by
  cases o with
  | none=>cases u with
    | none=>exact rd
    | some _=>exact (show False from r).elim
  | some _=>cases u with
    | none=>exact (show False from r).elim
    | some _=>exact r
theorem KV.val {kvs:List (κ × V)} {vs:List (κ × Value)} (r:KV kvs vs) (k:κ):RelO (zF kvs k) (valueAt vs k):=by
  unfold KV at r
  induction r with
  | nil=>exact True.intro
  | @cons p q ps qs h t ih=>
    obtain ⟨h1,h2⟩:=h
    by_cases e:p.1 = k
    · have e':q.1 = k:=h1.symm.trans e
      have b:valueAt (q :: qs) k = some q.2:=by simp [valueAt,List.find?_cons,e']
      rw [zcA e,b];exact h2
    · have e':¬ q.1 = k:=fun z=>e (h1.trans z)
      have b:valueAt (q :: qs) k = valueAt qs k:=by simp [valueAt,List.find?_cons,e']
      rw [zcB e,b];exact ih
theorem KV.any {kvs:List (κ × V)} {vs:List (κ × Value)} (r:KV kvs vs) (k:κ):(kvs.any fun kv=>decide (kv.1 = k)) = vs.any fun kv=>decide (kv.1 = k):=by
  unfold KV at r
  induction r with
  | nil=>rfl
  | cons h t ih=>rw [List.any_cons,List.any_cons,ih,h.1]
theorem KV.repl {kvs:List (κ × V)} {vs:List (κ × Value)} (r:KV kvs vs) (k:κ) {y:V} {u:Value} (ry:RelV y u) :
    KV (kvs.map fun kv=>if kv.1 = k then (kv.1,y) else kv) (vs.map fun kv=>if kv.1 = k then (kv.1,u) else kv):=by
  unfold KV at r ⊢
  induction r with
  | nil=>exact .nil
  | @cons p q ps qs h t ih=>
    rw [List.map_cons,List.map_cons]
    refine .cons ?_ ih
    obtain ⟨h1,h2⟩:=h
    by_cases e:p.1 = k
    · rw [if_pos e,if_pos (h1.symm.trans e)];exact ⟨h1,ry⟩
    · rw [if_neg e,if_neg (fun z=>e (h1.trans z))];exact ⟨h1,h2⟩
theorem KV.put {kvs:List (κ × V)} {vs:List (κ × Value)} (r:KV kvs vs) (k:κ) {y:V} {u:Value} (ry:RelV y u):KV (putK kvs k y) (stored vs k u):=by
  unfold putK stored
  rw [r.any k]
  by_cases e:(vs.any fun kv=>decide (kv.1 = k)) = true
  · rw [if_pos e,if_pos e];exact r.repl k ry
  · rw [if_neg e,if_neg e];exact Paired.snoc r ⟨rfl,ry⟩
theorem KV.keys {kvs:List (κ × V)} {vs:List (κ × Value)} (r:KV kvs vs):kvs.map (·.1) = vs.map (·.1):=by
  unfold KV at r
  induction r with
  | nil=>rfl
  | cons h t ih=>rw [List.map_cons,List.map_cons,ih,h.1]
theorem KV.length {kvs:List (κ × V)} {vs:List (κ × Value)} (r:KV kvs vs):kvs.length = vs.length:=Paired.length r
end
theorem zcj {P:Program} {w:World} {k:Key} {u:Value} (r:RelV (kV k) u):(yo P w).is k u = true:=by
  cases k with
  | inl i=>obtain ⟨t,e⟩:=(show ∃ t,u = Value.int i t from r);subst e;exact zgc P w i t
  | inr x=>obtain ⟨t,e⟩:=(show ∃ t,u = Value.str x t from r);subst e;exact zgb P w x t
theorem zek {P:Program} {w:World}:∀ {ks:List Key} {us:List Value},Vals (ks.map kV) us->ItemsAre (yo P w) ks us
  | [],_,r=>by rw [List.map_nil] at r;cases r;exact .nil
  | k :: ks,_,r=>by
    rw [List.map_cons] at r
    cases r with
    | cons h t=>exact .cons (zcj h) (zek t)
noncomputable abbrev KT (H:Hp):List (List Key × V)->List (List Key × Addr × Value)->Prop:=Paired fun p q=>p.1 = q.1/\H q.2.1 = some (.tup (p.1.map kV))/\RelV p.2 q.2.2
theorem KT.val {H:Hp} {kvs:List (List Key × V)} {xs:List (List Key × Addr × Value)} (r:KT H kvs xs) (k:List Key):RelO (zF kvs k) ((atKey xs k).map (·.2)):=by
  induction r with
  | nil=>exact True.intro
  | @cons p q ps qs h t ih=>
    obtain ⟨h1,_,h2⟩:=h
    by_cases e:p.1 = k
    · have e':q.1 = k:=h1.symm.trans e
      have b:atKey (q :: qs) k = some q.2:=by simp [atKey,List.find?_cons,e']
      rw [zcA e,b];exact h2
    · have e':¬ q.1 = k:=fun z=>e (h1.trans z)
      have b:atKey (q :: qs) k = atKey qs k:=by simp [atKey,List.find?_cons,e']
      rw [zcB e,b];exact ih
theorem KT.repl {H:Hp} {kvs:List (List Key × V)} {xs:List (List Key × Addr × Value)} (r:KT H kvs xs) (k:List Key) {y:V} {u:Value} (ry:RelV y u) :
    KT H (kvs.map fun kv=>if kv.1 = k then (kv.1,y) else kv) (xs.map (putAt k u)):=by
  induction r with
  | nil=>exact .nil
  | @cons p q ps qs h t ih=>
    rw [List.map_cons,List.map_cons]
    refine .cons ?_ ih
    obtain ⟨h1,h2,h3⟩:=h
    unfold putAt
    by_cases e:p.1 = k
    · rw [if_pos e,if_pos (h1.symm.trans e)];exact ⟨h1,h2,ry⟩
    · rw [if_neg e,if_neg (fun z=>e (h1.trans z))];exact ⟨h1,h2,h3⟩
section
variable {P:Program} {w:World} {H:Hp} {h:Heap} {a:Addr}
theorem zjL {u:HO} (ok:HOk P w H h) (e:Rd H a u):ObjOk P w H h a u:=e.ok ok
theorem zco {kvs:List (Key × V)} (ok:HOk P w H h) (e:Rd H a (.dK kvs)):kvs.length<=sizeLine/\(a == sysModules) = false/\∃ vs,KV kvs vs/\h.DictOf (yo P w) a vs:=
  show ObjOk P w H h a (.dK kvs) from zjL ok e
theorem zbV {ks:List Key} (ok:HOk P w H h) (e:H a = some (.tup (ks.map kV))):(tupleKind (yo P w)).is h ks a:=by
  obtain ⟨_,its,r,⟨o,h1,h2,n,h3⟩,_⟩:=(show ObjOk P w H h a (.tup (ks.map kV)) from ok a _ e)
  exact ⟨o,its.toArray,n,h1,h2,h3,by simpa using zek r⟩
theorem zdn {kvs:List (List Key × V)} (ok:HOk P w H h) (e:Rd H a (.dT kvs)):kvs.length<=sizeLine/\(a == sysModules) = false /\
    ∃ xs,KT H kvs xs/\h.DictOfH (tupleKind (yo P w)) a xs:=by
  obtain ⟨z,y,xs,r,o,es,ep,h1,h2,h3,h4,h5⟩:=(show ObjOk P w H h a (.dT kvs) from zjL ok e)
  refine ⟨z,y,xs,r,o,es,ep,h1,h2,h3,h4,fun x hx=>?_,h5⟩
  have all:∀ {l:List (List Key × V)} {m:List (List Key × Addr × Value)},KT H l m->∀ x ∈ m,(tupleKind (yo P w)).is h x.1 x.2.1:=by
    intro l m q
    induction q with
    | nil=>intro x hx;exact nomatch hx
    | @cons p q ps qs hq t ih=>
      intro x hx
      rcases List.mem_cons.mp hx with e | hx
      · subst e
        exact zbV ok (by rw [← hq.1];exact hq.2.1)
      · exact ih x hx
  exact all r x hx
end
noncomputable def DGet (H:Hp) (a:Addr) (y:V) (r:Option V):Prop:=
  (∃ kvs k,Rd H a (.dK kvs)/\y = kV k/\r = zF kvs k)\/∃ kvs k b,Rd H a (.dT kvs)/\y = .ref b/\H b = some (.tup (k.map kV))/\r = zF kvs k
section
variable {X:Cx} {pins:List (Addr × Obj)} {σ:St} {H:Hp} {s:Shared} {a:Addr} {y v:V} {u r:Value} {o:Option V} {A:Around} {E:Value->Shared->Prop}
theorem Inv.big (I:Inv X pins σ H s):sysModules < s.heap.objs.size:=by
  have h:mainGlobals < s.heap.objs.size:=(I.mod.glob.keeps I.bk).lt
  exact Nat.lt_trans (by decide) h
theorem ziB {Q:Value->Shared->Prop} (hu:A.units + 1 < cLine) (I:Inv X pins σ H s) (g:DGet H a y (some v)) (ry:RelV y u) (h:∀ w' s',Inv X pins σ H s'->RelV v w'->Q w' s') :
    wpAny (model X.prog X.w) A (getItem (.ref a) u) Q E s:=by
  rcases g with ⟨kvs,k,e,ey,l⟩ | ⟨kvs,k,b,e,ey,eb,l⟩
  · subst ey
    obtain ⟨z,hd,vs,rel,dd⟩:=zco I.hok e
    obtain ⟨w',hw,rw'⟩:=RelO.some_of (v:=v) (o:=valueAt vs k) (by rw [l];exact rel.val k)
    exact wpAny_getItem_of (zcj ry) dd.mapOf hw (h w' _ (I.tok _) rw')
  · subst ey
    cases (show u = Value.ref b from ry)
    obtain ⟨z,hd,xs,rel,dd⟩:=zdn I.hok e
    obtain ⟨w',hw,rw'⟩:=RelO.some_of (v:=v) (o:=(atKey xs k).map (·.2)) (by rw [l];exact rel.val k)
    obtain ⟨p,hp,hp2⟩:=Option.map_eq_some_iff.mp hw
    refine wpAny_getItem_heap (tupleKind_room_in1 hu) (zbV I.hok eb) dd hp ?_
    rw [hp2]
    exact h w' _ (I.tok _) rw'
theorem zn9 {Q:Value->Shared->Prop} (hu:A.units + 1 < cLine) (I:Inv X pins σ H s) (g:DGet H a y o) (ry:RelV y u) (h:∀ s',Inv X pins σ H s'->Q (.bool o.isSome) s') :
    wpAny (model X.prog X.w) A (compareOp .In u (.ref a)) Q E s:=by
  rcases g with ⟨kvs,k,e,ey,l⟩ | ⟨kvs,k,b,e,ey,eb,l⟩
  · subst ey
    obtain ⟨z,hd,vs,rel,dd⟩:=zco I.hok e
    refine wpAny_in_of (zcj ry) hd dd.mapOf ?_
    rw [← (rel.val k).isSome_eq,← l]
    exact h _ (I.tok _)
  · subst ey
    cases (show u = Value.ref b from ry)
    obtain ⟨z,hd,xs,rel,dd⟩:=zdn I.hok e
    refine wpAny_in_heap (tupleKind_room_in1 hu) (zbV I.hok eb) hd dd ?_
    have q:=(rel.val k).isSome_eq
    rw [Option.isSome_map] at q
    rw [← q,← l]
    exact h _ (I.tok _)
theorem ziA {P:Program} {w:World} {H':Hp} {h':Heap} {kvs:List (Key × V)} {vs:List (Key × Value)} (z:kvs.length<=sizeLine) (hd:(a == sysModules) = false) (rel:KV kvs vs) (dd:h'.DictOf (yo P w) a vs) :
    ObjOk P w H' h' a (.dK kvs):=⟨z,hd,vs,rel,dd⟩
end
theorem zgj {X:Cx} {pins:List (Addr × Obj)} {σ:St} {H:Hp} {s:Shared} {a:Addr} {y:V} {o:Option V} (I:Inv X pins σ H s) (g:DGet H a y o):s.TypeIs (.ref a) "dict":=by
  rcases g with ⟨kvs,k,e,_,_⟩ | ⟨kvs,k,b,e,_,_,_⟩
  · obtain ⟨_,_,vs,_,dd⟩:=zco I.hok e
    exact dd.typeIs
  · obtain ⟨_,_,xs,_,dd⟩:=zdn I.hok e
    exact dd.typeIs
noncomputable def zav (kvs more:List (Key × V)):List (Key × V):=more.foldl (fun acc kv=>putK acc kv.1 kv.2) kvs
theorem KV.merge:∀ {more:List (Key × V)} {rs:List (Key × Value)} {kvs:List (Key × V)} {vs:List (Key × Value)},KV more rs->KV kvs vs->KV (zav kvs more) (merged vs rs):=by
  intro more rs kvs vs r
  unfold KV at r
  induction r generalizing kvs vs with
  | nil=>intro q;exact q
  | @cons p q ps qs h t ih=>
    intro r0
    have e:KV (putK kvs p.1 p.2) (stored vs q.1 q.2):=by
      have:=r0.put p.1 h.2
      rw [← h.1];exact this
    exact ih e
theorem z7:∀ (more kvs:List (Key × V)),(zav kvs more).length<=kvs.length + more.length
  | [],kvs=>by show kvs.length<=kvs.length + 0;omega
  | p :: r,kvs=>by
    have h1:=z7 r (putK kvs p.1 p.2)
    have h2:=zge kvs p.1 p.2
    show (zav (putK kvs p.1 p.2) r).length<=_
    rw [List.length_cons];omega
structure M1 (X:Cx) (o:Expr) (m:Str) (apos:Pos) (e:Expr) (cpos:Pos):Prop where
  base:attributeBase o m X.env (eval o X.env) = eval o X.env
  few:((backTo cpos (starEach [e] X.env)).all (fun x=>!x.1) && (backToKw cpos (keywordEach [] X.env)).all (fun x=>x.1.isSome)
    && decide (([e]:List Expr).length + ([]:List Keyword).length + (if ([]:List Keyword).isEmpty then 0 else 1) < 30)) = true
  line:(apos.endLine == cpos.line) = true
  trees:backTo cpos (starEach [e] X.env) = [(false,eval e X.env)]
structure M2 (X:Cx) (o:Expr) (m:Str) (apos:Pos) (e f:Expr) (cpos:Pos):Prop where
  base:attributeBase o m X.env (eval o X.env) = eval o X.env
  few:((backTo cpos (starEach [e,f] X.env)).all (fun x=>!x.1) && (backToKw cpos (keywordEach [] X.env)).all (fun x=>x.1.isSome)
    && decide (([e,f]:List Expr).length + ([]:List Keyword).length + (if ([]:List Keyword).isEmpty then 0 else 1) < 30)) = true
  line:(apos.endLine == cpos.line) = true
  trees:backTo cpos (starEach [e,f] X.env) = [(false,eval e X.env),(false,eval f X.env)]
section
variable {X:Cx} {pins:List (Addr × Obj)} {σ:St} {H:Hp} {s:Shared} {a:Addr} {y d:V} {u r:Value} {o:Option V} {A:Around} {E:Value->Shared->Prop}
theorem zmO {Q:Value->Shared->Prop} (hu:A.units + 1 < cLine) (I:Inv X pins σ H s) (g:DGet H a y o) (ry:RelV y u) (h:∀ w' s',Inv X pins σ H s'->RelV (o.getD .non) w'->Q w' s') :
    wpAny (model X.prog X.w) A (call (.builtin "dict.get") [.ref a,u]) Q E s:=by
  rcases g with ⟨kvs,k,e,ey,l⟩ | ⟨kvs,k,b,e,ey,eb,l⟩
  · subst ey
    obtain ⟨z,hd,vs,rel,dd⟩:=zco I.hok e
    refine call_meetsIn PySem.F.slot_dict_get dd.typeIs PySem.F.entry_dict_get (PySem.F.args_dict_get_2 _ _) (meets_dict_get (yo X.prog X.w) a (zcj ry) hd) ⟨_,dd.mapOf,h _ _ (I.tok _) ?_⟩
    rw [l]
    exact (rel.val k).getD rfl
  · subst ey
    cases (show u = Value.ref b from ry)
    obtain ⟨z,hd,xs,rel,dd⟩:=zdn I.hok e
    refine call_meetsIn PySem.F.slot_dict_get dd.typeIs PySem.F.entry_dict_get (PySem.F.args_dict_get_2 _ _) (meetsH_dict_get (tupleKind (yo X.prog X.w)) a b hd) ⟨tupleKind_room_in1 hu,k,xs,zbV I.hok eb,dd,h _ _ (I.tok _) ?_⟩
    rw [l]
    exact (rel.val k).getD rfl
theorem zmN {Q:Value->Shared->Prop} (hu:A.units + 1 < cLine) (I:Inv X pins σ H s) (g:DGet H a y o) (ry:RelV y u) (rd:RelV d r) (h:∀ w' s',Inv X pins σ H s'->RelV (o.getD d) w'->Q w' s') :
    wpAny (model X.prog X.w) A (call (.builtin "dict.get") [.ref a,u,r]) Q E s:=by
  rcases g with ⟨kvs,k,e,ey,l⟩ | ⟨kvs,k,b,e,ey,eb,l⟩
  · subst ey
    obtain ⟨z,hd,vs,rel,dd⟩:=zco I.hok e
    refine call_meetsIn PySem.F.slot_dict_get dd.typeIs PySem.F.entry_dict_get (PySem.F.args_dict_get_3 _ _ _) (meets_dict_get_default (yo X.prog X.w) a (zcj ry) hd r) ⟨_,dd.mapOf,h _ _ (I.tok _) ?_⟩
    rw [l]
    exact (rel.val k).getD rd
  · subst ey
    cases (show u = Value.ref b from ry)
    obtain ⟨z,hd,xs,rel,dd⟩:=zdn I.hok e
    refine call_meetsIn PySem.F.slot_dict_get dd.typeIs PySem.F.entry_dict_get (PySem.F.args_dict_get_3 _ _ _) (meetsH_dict_get_default (tupleKind (yo X.prog X.w)) a b hd r) ⟨tupleKind_room_in1 hu,k,xs,zbV I.hok eb,dd,h _ _ (I.tok _) ?_⟩
    rw [l]
    exact (rel.val k).getD rd
end
end L2
namespace L2
open PySem PySem.Spec PyProof.Rows
noncomputable def Bnd (n:Nat) (i:Int):Prop:=i.natAbs < 10 ^ n
instance (n:Nat) (i:Int):Decidable (Bnd n i):=inferInstanceAs (Decidable (i.natAbs < 10 ^ n))
theorem Bnd.add {n:Nat} {i j:Int} (h:Bnd n i) (k:Bnd n j):Bnd (n + 1) (i + j):=by
  unfold Bnd at *
  have h1:=Int.natAbs_add_le i j
  rw [Nat.pow_succ]
  omega
theorem Bnd.neg {n:Nat} {i:Int} (h:Bnd n i):Bnd n (-i):=by
  unfold Bnd at *
  rw [Int.natAbs_neg];exact h
theorem zgR {n:Nat} {i:Int} (h:Bnd n i) (hn:n<=3000):Builtin.Int.intBits i<=2 ^ 20:=by
  unfold Builtin.Int.intBits
  split
  · exact Nat.zero_le _
  · rename_i h0
    have h1:i.natAbs ≠ 0:=by
      intro z
      have:i = 0:=Int.natAbs_eq_zero.mp z
      subst this
      exact h0 rfl
    have h2:i.natAbs < 2 ^ (4 * n):=by
      have e:(2:Nat) ^ (4 * n) = 16 ^ n:=by rw [Nat.pow_mul]
      rw [e]
      exact Nat.lt_of_lt_of_le h (Nat.pow_le_pow_left (by decide) n)
    have h3:i.natAbs.log2 < 4 * n:=(Nat.log2_lt h1).mpr h2
    have:(2:Nat) ^ 20 = 1048576:=by decide
    omega
noncomputable def CMulB (i j:Int):Prop:=(∃ m n,Bnd m i/\Bnd n j/\m<=3000/\n<=3000)\/CMul i j
theorem CMulB.ok {i j:Int} (h:CMulB i j):IntMulOk i j:=by
  rcases h with ⟨m,n,h1,h2,h3,h4⟩ | h
  · exact IntMulOk.of_bits (zgR h1 h3) (zgR h2 h4)
  · exact h.ok
section
variable {X:Cx}
theorem zkr:OpR X (binaryOp .Mult) (rI CMulB fun i j=>.int (i * j)):=opI fun _ _ _ _ _ _ _ hc q=>mul_int q hc.ok
noncomputable def zm7 (K:PySem.W.Frag):R2:=fun x y H Q=>∃ l b xs zs,x = .ref l/\y = .ref b/\SqL K H l xs/\SqL K H b zs/\xs.length + zs.length<=sizeLine/\∀ p,H p = none->Q (.ref p) (upd H p (.lst (xs ++ zs)))
theorem zku:OpR X (binaryOp .Add) (zm7 X.K):=by
  intro pins s σ H x y v u Q I rx ry h
  obtain ⟨l,b,xs,zs,rfl,rfl,hH,hB,hz,q⟩:=h
  cases rx
  cases ry
  obtain ⟨its,r,pl,z⟩:=I.list hH
  obtain ⟨its2,r2,pl2,z2⟩:=I.list hB
  obtain ⟨⟨cls,dd,data,sl⟩,n,ho,hc,hdi,hd⟩:=pl
  obtain ⟨⟨cls2,dd2,data2,sl2⟩,n2,ho2,hc2,hdi2,hd2⟩:=pl2
  simp only at hc hd hc2 hd2
  subst hc hd hc2 hd2
  have e1:=r.length
  have e2:=r2.length
  refine concat_meets ⟨_,ho,rfl⟩ ⟨_,ho2,rfl⟩ noFill_list_add seq_list_add PySem.F.slot_list_add PySem.F.entry_list_add (PySem.F.args_list_add_2 _ _) (list_addW l b its.toArray its2.toArray n n2 dd dd2 sl sl2 (by rw [List.size_toArray,List.size_toArray];omega)) ⟨ho,ho2,?_⟩
  have ea:its.toArray ++ its2.toArray = (its ++ its2).toArray:=by simp
  rw [ea]
  exact ⟨.ref _,_,I.lnew (t':=s.toks) (r.append r2) (by rw [List.length_append];omega),rfl,q _ I.fresh⟩
end
structure Df (K:PySem.W.Frag) (mg:Str->Option Value) (x:Str) (st:Stmt) (ps:List Str):Prop where
  ex:∃ (f:Addr) (fd:FuncData),Fun K x x st f fd/\Binds K fd ps []/\mg x = some (.ref f)
structure Cal (P:Program) (w:World) (K:PySem.W.Frag) (mg:Str->Option Value) (base:Heap) (k:Nat) (x:Str) (ps:List Str) (sp:Sp):Prop where
  ex:∃ (f:Addr) (fd:FuncData),FnOk P w K mg base CX0 k f fd ps sp/\PySem.W.keepIn K (.ref f) = true/\Binds K fd ps []/\mg x = some (.ref f)
section
variable {P:Program} {w:World} {K:PySem.W.Frag} {mg:Str->Option Value} {base:Heap}
theorem Df.ok {x:Str} {st:Stmt} {N ps:List Str} {k:Nat} {sp:Sp} (D:Df K mg x st ps) (S:FnScope N ps (zd st)) (len:∀ vs H Q E,sp vs H Q E->vs.length = ps.length)
    (hbody:∀ (f:Addr) (cdv:Value) (A:Around) (outer:List Env) (s:Shared) (H:Hp) (vs:List V) (Q:VK) (E:XK),Room k (A.deeper (envOfC x (zd st) s.heap.objs.size f cdv))->sp vs H Q E->
      ∃ t,PSs (qY CX0 P w K mg base N x (zd st) f cdv A outer s H E).nox (zn st) t/\t { nx:=fun _ H'=>Q .non H',rt:=Q } (start N vs) H):Cal P w K mg base (k + 1) x ps sp:=by
  obtain ⟨f,fd,F,b,g⟩:=D.ex
  exact ⟨⟨f,fd,F.ok S len (hbody f),F.kp,b,g⟩⟩
theorem zD {h:Heap} (X:K.In h) (G:h.Ns mainGlobals mg) {x:Str} {st:Stmt} {ps:List Str} {f:Addr} {od an:Option Addr} {sl:Array (Option Value)} {oc kV dc pm cd ct:Value}
    (a:PySem.W.nsIn K mainGlobals x = some (some (.ref f)))
    (l:K.lookup f = some ⟨oc,od,.func (PySem.W.fnOf x x (zI st) (zn st) (zd st) .none kV dc pm an cd ct),sl⟩) (c:PySem.W.codeIn K cd x = true) (k:PySem.W.keepIn K (.ref f) = true)
    (hb:∀ (kV doc pm:Value) (an:Option Addr) (cdv ct:Value) (us:List Value),us.length = ps.length->bindArgs (PySem.W.fnOf x x (zI st) (zn st) (zd st) .none kV doc pm an cdv ct) ⟨us,[]⟩ = pure (ps.zip us)):Df K mg x st ps:=by
  have F:=zfH (st:=st) l c k
  exact ⟨⟨f,_,F,F.binds hb,PySem.W.mg_of X G a⟩⟩
end
section
variable {K:PySem.W.Frag} {mg:Str->Option Value}
theorem zl4 {h:Heap} (X:K.In h) (G:h.Ns mainGlobals mg) {st:Stmt} {f:Addr} {od an:Option Addr} {sl:Array (Option Value)} {oc kV dc pm cd ct:Value}
    (a:PySem.W.nsIn K mainGlobals "law" = some (some (.ref f)))
    (l:K.lookup f = some ⟨oc,od,.func (PySem.W.fnOf "law" "law" (zI st) (zn st) (zd st) .none kV dc pm an cd ct),sl⟩) (c:PySem.W.codeIn K cd "law" = true) (k:PySem.W.keepIn K (.ref f) = true)
    (hb:∀ (kV dc pm:Value) (an:Option Addr) (cd ct:Value) (s:Shared) (u:Value),BindsTo s (PySem.W.fnOf "law" "law" (zI st) (zn st) (zd st) .none kV dc pm an cd ct) ⟨[u],[]⟩ [("script",u)]) :
    ∃ (f:Addr) (fd:FuncData),Fun K "law" "law" st f fd/\mg "law" = some (.ref f)/\∀ (s:Shared) (u:Value),BindsTo s fd ⟨[u],[]⟩ [("script",u)]:=
  ⟨f,_,zfH (st:=st) l c k,PySem.W.mg_of X G a,fun s u=>hb _ _ _ _ _ _ s u⟩
end
section
variable {X:Cx} {k:Nat} {ps:List Str} {sp:Sp} {x:Str} {p pos:Pos} {e:Expr} {es:List Expr} {t:TA}
theorem zlL (C:Cal X.prog X.w X.K X.mg X.base k x ps sp) (hr:Room k X.A) (hg:Gl X x) (ha:PA X (e :: es) t) (hdb:(x == ("__debug__":Str)) = false:=by decide)
    (he:starEach (e :: es) X.env = (false,eval e X.env) :: starEach es X.env:=by rfl) (hpl:(backTo pos (starEach es X.env)).any (·.1) = false:=by rfl) :
    PE X (.Call (.Name x p) (e :: es) [] pos) (zjK sp [] E0 t):=by
  obtain ⟨f,fd,F,kp,b,g⟩:=C.ex
  exact zkn F hr hg g kp b .nil znd ha hdb he hpl
end
end L2
namespace L2
theorem Bnd.of {n:Nat} {i:Int} (h1:-(10 ^ n:Int) < i) (h2:i < 10 ^ n):Bnd n i:=by
  unfold Bnd
  have:((10 ^ n:Nat):Int) = (10:Int) ^ n:=by simp
  omega
theorem Bnd.hi {n:Nat} {i:Int} (h:Bnd n i):i < 10 ^ n:=by
  unfold Bnd at h
  have:((10 ^ n:Nat):Int) = (10:Int) ^ n:=by simp
  omega
theorem Bnd.lo {n:Nat} {i:Int} (h:Bnd n i):-(10 ^ n:Int) < i:=by
  unfold Bnd at h
  have:((10 ^ n:Nat):Int) = (10:Int) ^ n:=by simp
  omega
theorem Bnd.gcd {n:Nat} {a b:Int} (h:0 < b) (k:Bnd n b):Bnd n ((Int.gcd a b:Nat):Int):=by
  unfold Bnd at *
  have h1:((Int.gcd a b:Nat):Int) ∣ b:=Int.gcd_dvd_right ..
  have h2:((Int.gcd a b:Nat):Int)<=b:=Int.le_of_dvd h h1
  omega
end L2
namespace L2
open PySem PySem.Spec PyProof.Rows
noncomputable abbrev y9:List Value:=[.type "ValueError",.type "Exception",.type "BaseException",.type "object"]
structure ExcAt (K:PySem.W.Frag) (mg:Str->Option Value) (x:Str) (C:Addr):Prop where
  bound:mg x = some (.ref C)
  obj:∀ h:Heap,K.In h->∃ bm N nm q bs hdct sn sub ab col dd k0 k1 k2 k3 k5 mN,h.get? C = some (excClassObj nm q C N bs bm hdct sn sub ab col dd k0 k1 k2 k3 k5 "ValueError.__new__")/\h.Ns N mN/\mN "__init__" = none/\OwnTail h y9 bm
noncomputable def zbg (es:Array DictEntry):Bool:=es.toList.all (fun e=>match e.key with | .str _ _=>true | _=>false)
theorem ObjOk.there {P:Program} {w:World} {H:Hp} {h:Heap} {a:Addr} {o:HO} (x:ObjOk P w H h a o):∃ u,h.get? a = some u:=by
  cases o with
  | lst xs=>obtain ⟨_,_,_,_,e⟩:=x;exact ⟨_,e⟩
  | tup xs=>obtain ⟨_,_,_,⟨ob,e,_⟩,_⟩:=x;exact ⟨_,e⟩
  | dK kvs=>obtain ⟨_,_,_,_,o,_,_,e,_⟩:=x;exact ⟨_,e⟩
  | dT kvs=>obtain ⟨_,_,_,_,o,_,_,e,_⟩:=x;exact ⟨_,e⟩
  | set S n=>obtain ⟨o,_,_,_,e,_⟩:=x;exact ⟨_,e⟩
  | ins C dx fs=>obtain ⟨_,_,_,e,_⟩:=x;exact ⟨_,e⟩
  | own y=>obtain ⟨_,e⟩:=x;exact ⟨_,e⟩
  | xd fs=>obtain ⟨_,⟨_,_,_,e,_⟩,_⟩:=x;exact ⟨_,e⟩
  | rng lo hi=>obtain ⟨_,_,_,e⟩:=x;exact ⟨_,e⟩
  | frz ob u=>obtain ⟨e,_⟩:=x;exact ⟨_,e⟩
  | tbl ps=>exact ⟨_,(show h.get? a = some _ from x)⟩
  | met f y=>exact ⟨_,(show h.get? a = some _ from x)⟩
  | ext φ=>obtain ⟨_,⟨_,e⟩,_⟩:=x;exact ⟨_,e⟩
noncomputable def CXC (P:Program) (w:World) (C:Addr):CXT:=fun l H s E ev s'=>∃ (e t:Addr) (B:Heap) (H':Hp),ev = .ref e/\Heap.FlyingW B l e (.ref C) (.ref t) s'.heap/\s'.os = s.os/\AllBare s'.gens /\
  Un (frs l) [] H H' s.heap s'.heap/\HOk P w H' s'.heap/\(∀ b o,s'.heap.get? b = some o->b ∉ frs l->(H' b ≠ none\/∃ o',s.heap.get? b = some o')->B.get? b = some o)/\(∀ b ∈ frs l,H' b = none)/\E (.ref C) none H'
theorem zjI {P:Program} {w:World} {l:List Env} {H H':Hp} {h h1 h2 B:Heap} (u:Un (frs l) [] H H' h h1) (hok:HOk P w H' h1) (hB:∀ b o,h1.get? b = some o->b ∉ frs l->(H' b ≠ none\/∃ o',h.get? b = some o')->B.get? b = some o)
    (hfr:∀ b ∈ frs l,H' b = none) (hfn:∀ b ∈ frs l,∀ o,h1.get? b = some o->∀ vs,o.data ≠ .fields vs) (st:B.StaysIn h2) (up:h1.UpToSlots h2):Un (frs l) [] H H' h h2/\HOk P w H' h2:=by
  refine ⟨⟨fun b o e n nf nx=>?_,fun b o e n hf nx=>?_,u.free,fun b o e nx=>?_,u.tups,u.frzs,u.tbls⟩,fun a o e=>?_⟩
  · exact st _ _ (hB b o (u.keep b o e n nf nx) nf (.inr ⟨o,e⟩))
  · obtain ⟨sl,e1⟩:=u.slot b o e n hf nx
    obtain ⟨sl2,e2⟩:=up b _ e1 (hfn b hf _ e1)
    exact ⟨sl2,e2⟩
  · obtain ⟨o1,e1⟩:=u.there b o e nx
    by_cases hf:b ∈ frs l
    · obtain ⟨sl2,e2⟩:=up b _ e1 (hfn b hf _ e1)
      exact ⟨_,e2⟩
    · exact ⟨_,st _ _ (hB b o1 e1 hf (.inr ⟨o,e⟩))⟩
  · refine (hok a o e).stay (fun b v hb ev=>?_) (fun _ q=>q) fun _ _ q=>q
    have ht:H' b ≠ none:=by
      rcases hb with rfl | hb
      · rw [e];simp
      · rw [hb];simp
    exact st _ _ (hB b v ev (fun hf=>ht (hfr b hf)) (.inl ht))
end L2
namespace L2
open PySem PySem.Spec PyProof.Rows
noncomputable abbrev Cx.suite (X:Cx) (ev:Addr):Cx:={ X with A:=X.A.mark (some (.ref ev)),calm:=false,xe:=fun _ _=>False }
section
variable {X:Cx} {pins:List (Addr × Obj)} {σ:St} {H:Hp} {s:Shared} {ev:Addr}
theorem Inv.suite (I:Inv X pins σ H s) (ev:Addr):Inv (X.suite ev) pins σ H s:=
  ⟨⟨I.ok.mod,I.ok.kind,I.ok.glob,I.ok.blt,I.ok.above,I.ok.inj,I.ok.has,I.ok.cab,(fun z=>by cases z),I.ok.frames,I.ok.stk,I.ok.exf,I.ok.bs,I.ok.bsz,I.ok.noex,I.ok.exfs,I.ok.funs,I.ok.frf⟩,I.os,I.bare,I.base,I.loc,I.cell,I.free,I.freeC,I.pin,I.hok,I.len⟩
theorem Inv.unsuite (ok:X.Ok) (I:Inv (X.suite ev) pins σ H s):Inv X pins σ H s:=⟨ok,I.os,I.bare,I.base,I.loc,I.cell,I.free,I.freeC,I.pin,I.hok,I.len⟩
theorem SP.unsuite (ok:X.Ok) {D:Ends} {f:Flow} {s':Shared} (h:SP (X.suite ev) pins D f s'):SP X pins D f s':=by
  cases f with
  | next=>obtain ⟨σ',H',I,q⟩:=h;exact ⟨σ',H',I.unsuite ok,q⟩
  | brk=>obtain ⟨σ',H',I,q⟩:=h;exact ⟨σ',H',I.unsuite ok,q⟩
  | cont=>obtain ⟨σ',H',I,q⟩:=h;exact ⟨σ',H',I.unsuite ok,q⟩
  | ret u=>obtain ⟨v,σ',H',I,r,q⟩:=h;exact ⟨v,σ',H',I.unsuite ok,r,q⟩
end
end L2
namespace L2
open PySem PySem.Spec PyProof.Rows
theorem zjC (x:V) (f:yF x = true):eqV x x = true:=by
  cases x with
  | non=>rfl
  | bl b=>simp [eqV]
  | int i=>simp [eqV]
  | str z=>simp [eqV]
  | _=>exact absurd (show false = true from f) Bool.false_ne_true
section
variable {X:Cx}
noncomputable def CDivS (_ j:Int):Prop:=j ≠ 0/\∃ n,Bnd n j/\n<=2000
theorem CDivS.ok {i j:Int} (h:CDivS i j):Builtin.divisionGoesByPylong i j = false:=by
  obtain ⟨h0,n,h1,h2⟩:=h
  refine PyProof.noPylong_of_log2 ?_
  have hz:j.natAbs ≠ 0:=by omega
  have e:(2:Nat) ^ (4 * n) = 16 ^ n:=by rw [Nat.pow_mul]
  have h3:j.natAbs < 2 ^ (4 * n):=by
    rw [e]
    exact Nat.lt_of_lt_of_le h1 (Nat.pow_le_pow_left (by decide) n)
  have h4:j.natAbs.log2 < 4 * n:=(Nat.log2_lt hz).mpr h3
  omega
theorem zjc:OpR X (binaryOp .FloorDiv) (rI CDivS fun i j=>.int (i.fdiv j)):=opI fun _ _ _ _ _ _ _ hc q=>floordiv_int hc.1 q (.inl hc.ok)
end
structure CalX (P:Program) (w:World) (K:PySem.W.Frag) (mg:Str->Option Value) (base:Heap) (C:Addr) (k:Nat) (x:Str) (ps:List Str) (sp:Sp):Prop where
  ex:∃ (f:Addr) (fd:FuncData),FnOk P w K mg base (CXC P w C) k f fd ps sp/\PySem.W.keepIn K (.ref f) = true/\Binds K fd ps []/\mg x = some (.ref f)
end L2
namespace L2
open PySem PySem.Spec PyProof.Rows
theorem zak {n:Nat} {name x:Str} {acc:List (Str × Addr)} {c:Addr} (e:((name,n) :: acc).lookup x = some c):(x = name/\c = n)\/acc.lookup x = some c:=by
  rw [List.lookup_cons] at e
  split at e
  · rename_i h;cases e;exact .inl ⟨eq_of_beq h,rfl⟩
  · exact .inr e
theorem zfR:∀ (names:List (Str × NameKind)) (n:Nat) (acc:List (Str × Addr)),(∀ x y c,acc.lookup x = some c->acc.lookup y = some c->x = y)->(∀ x c,acc.lookup x = some c->c < n)->∀ x y c,(cellsFrom n names acc).lookup x = some c->(cellsFrom n names acc).lookup y = some c->x = y
  | [],_,_,h,_,x,y,c,e1,e2=>h x y c e1 e2
  | (name,kind) :: r,n,acc,h,lt,x,y,c,e1,e2=>by
    unfold cellsFrom at e1 e2
    split at e1
    · rename_i hk
      rw [if_pos hk] at e2
      refine zfR r (n + 1) ((name,n) :: acc) (fun x y c f1 f2=>?_) (fun x c f=>?_) x y c e1 e2
      · rcases zak f1 with ⟨g1,g2⟩ | g1 <;> rcases zak f2 with ⟨g3,g4⟩ | g3
        · rw [g1,g3]
        · subst g2;exact absurd (lt _ _ g3) (Nat.lt_irrefl _)
        · subst g4;exact absurd (lt _ _ g1) (Nat.lt_irrefl _)
        · exact h x y c g1 g3
      · rcases zak f with ⟨g1,g2⟩ | g1
        · subst g2;exact Nat.lt_succ_self _
        · exact Nat.lt_succ_of_lt (lt _ _ g1)
    · rename_i hk
      rw [if_neg hk] at e2
      exact zfR r n acc h lt x y c e1 e2
theorem zhD {x:Str} {c:Addr}:∀ (names:List (Str × NameKind)) (n:Nat) (acc:List (Str × Addr)),(cellsFrom n names acc).lookup x = some c->acc.lookup x = some c\/n<=c
  | [],_,_,e=>.inl e
  | (name,kind) :: r,n,acc,e=>by
    unfold cellsFrom at e
    split at e
    · rcases zhD r (n + 1) _ e with f | f
      · rcases zak f with ⟨_,g⟩ | g
        · exact .inr (Nat.le_of_eq g.symm)
        · exact .inl g
      · exact .inr (by omega)
    · exact zhD r n acc e
theorem zhE {x:Str} {c:Addr} {lo:Nat}:∀ (names:List (Str × NameKind)) (n:Nat) (acc:List (Str × Addr)),lo<=n->(∀ c,acc.lookup x = some c->lo<=c)->(cellsFrom n names acc).lookup x = some c->lo<=c
  | [],_,_,_,h,e=>h _ e
  | (name,kind) :: r,n,acc,hn,h,e=>by
    unfold cellsFrom at e
    split at e
    · refine zhE r (n + 1) _ (Nat.le_succ_of_le hn) (fun c f=>?_) e
      rcases zak f with ⟨_,g⟩ | g
      · subst g;exact hn
      · exact h _ g
    · exact zhE r n acc hn h e
theorem zfP {x:Str} {c:Addr}:∀ (names:List (Str × NameKind)) (n:Nat) (acc:List (Str × Addr)),names.lookup x = some .cell->(cellsFrom n names acc).lookup x = some c->n<=c
  | [],_,_,h,_=>by cases h
  | (name,kind) :: r,n,acc,h,e=>by
    unfold cellsFrom at e
    rw [List.lookup_cons] at h
    split at h
    · rename_i hx
      cases h
      rw [if_pos (show (NameKind.cell == NameKind.cell) = true from rfl)] at e
      refine zhE r (n + 1) _ (Nat.le_succ _) (fun c f=>?_) e
      rw [List.lookup_cons,hx] at f
      cases f;exact Nat.le_refl _
    · split at e
      · exact Nat.le_of_succ_le (zfP r (n + 1) _ h e)
      · exact zfP r n acc h e
theorem zfQ {x:Str}:∀ (names:List (Str × NameKind)) (n:Nat) (acc:List (Str × Addr)),(∀ y ∈ names,y.2 = .cell->y.1 ≠ x)->(cellsFrom n names acc).lookup x = acc.lookup x
  | [],_,_,_=>rfl
  | (name,kind) :: r,n,acc,h=>by
    unfold cellsFrom
    split
    · rename_i hk
      rw [zfQ r (n + 1) _ fun y hy=>h y (List.mem_cons_of_mem _ hy),List.lookup_cons]
      have:(x == name) = false:=by
        cases q:x == name with
        | false=>rfl
        | true=>exact absurd (eq_of_beq q).symm (h (name,kind) List.mem_cons_self (eq_of_beq hk))
      rw [this]
    · exact zfQ r n acc fun y hy=>h y (List.mem_cons_of_mem _ hy)
theorem zd2:∀ (names:List (Str × NameKind)) (h:Heap) (acc:List (Str × Addr)),(∀ x c,acc.lookup x = some c->∃ v,h.IsCell c v)->∀ x c,(cellsFrom h.objs.size names acc).lookup x = some c->∃ v,(pushCells h names).IsCell c v
  | [],_,_,k,x,c,e=>k x c e
  | (name,kind) :: r,h,acc,k,x,c,e=>by
    unfold cellsFrom at e
    unfold pushCells
    split at e
    · rename_i hk
      rw [if_pos hk]
      refine zd2 r (h.push { cls:=.type "cell",data:=.cell none }) ((name,h.objs.size) :: acc) (fun x c f=>?_) x c (by rw [Heap.size_push];exact e)
      rcases zak f with ⟨_,g⟩ | g
      · subst g;exact ⟨none,_,Heap.get?_push_size _ rfl,rfl⟩
      · obtain ⟨v,q⟩:=k x c g
        exact ⟨v,q.keeps fun b o e=>Heap.get?_push_of_some _ e⟩
    · rename_i hk
      rw [if_neg hk]
      exact zd2 r h acc k x c e
theorem y6 {M:Model} {A:Around} {E:Value->Shared->Prop} {s:Shared} {scope:Scope} {globals:Addr} {cl:List (Str × Addr)} {qual:Str} {env:Env} {builtins:Addr} {Q:Env->Shared->Prop}
    (hQ:∀ h',h'.Ns s.heap.objs.size (fun _=>none)->h' = pushCells (s.heap.push { cls:=.type "dict",data:=.dict #[] }) scope.names->
      Q (newEnv scope s.heap.objs.size globals (cellsFrom (s.heap.objs.size + 1) scope.names cl) qual none .none (some env) builtins) { s with heap:=h' }) :
    wpAny M A (newFunctionEnv scope globals cl [] qual none .none (some env) builtins) Q E s:=by
  simp only [newFunctionEnv,Option.isSome_some,if_true]
  refine wpAny_bind (wpAny_alloc ?_)
  refine wpAny_bind (wpAny_layCells _ (fun name kind cells=>by cases hkc:kind == NameKind.cell <;> simp [hkc]) _ _ _ _ ?_)
  rw [show ({ s with heap:=s.heap.push { cls:=.type "dict",data:=.dict #[] } }:Shared).heap.objs.size = s.heap.objs.size + 1 from Heap.size_push ..]
  refine wpAny_bind ?_
  rw [List.forIn_nil]
  exact wpAny_pure (wpAny_pure (hQ _ ((Heap.Ns.new s.heap (.type "dict")).keeps (pushCells_keeps _ _)) rfl))
noncomputable def zf0 (scope:Scope) (cl:List (Str × Addr)) (C:Addr) (env:Env):Env:={ compEnvC scope cl C env with cells:=cellsFrom (C + 1) scope.names cl }
noncomputable def Cx.block (X:Cx) (scope:Scope) (cl:List (Str × Addr)) (N:List Str) (ex:List Addr) (s0:Shared) (H0:Hp):Cx where
  prog:=X.prog
  w:=X.w
  K:=X.K
  mg:=X.mg
  base:=X.base
  A:=X.A
  N:=N
  s₀:=s0
  H₀:=H0
  env:=zf0 scope cl s0.heap.objs.size X.env
  outer:=X.stack
  stack:=X.stack
  ex:=ex
  fn:=fun x=>scope.names.lookup x == some .cell
  calm:=X.calm
  pn:=[]
  xe:=fun _ _=>False
noncomputable def PTs (X:Cx) (ifs:List Expr) (t:TT):Prop:=
  ∀ (pins:List (Addr × Obj)) (s:Shared) (σ:St) (H:Hp) (Q:Bool->Hp->Prop),Inv X pins σ H s->t σ H Q->
    wpAny (model X.prog X.w) X.A (forIn ifs true fun c r=>if r = true then do let ok ← isTrue c X.env (eval c X.env);pure (ForInStep.yield ok) else pure (ForInStep.yield r)) (TP X pins σ Q) X.xe s
noncomputable def zmV:TT:=fun _ H Q=>Q true H
theorem zka {X:Cx}:PTs X [] zmV:=fun _ _ _ H _ I h=>wpAny_tests_nil ⟨H,I,h⟩
noncomputable def za0 (tgs:List Str) (caps:List (Str × Nat)) (σ:St):St:=tgs.map (fun _=>none) ++ caps.map fun c=>(σ[c.2]?).join
noncomputable def zjJ (wi:TI) (g:TG) (tc:TT) (te:TE) (σ0:St->St):TE:=fun σ H Q=>wi σ H fun J H1=>∀ D,H1 D = none->∃ W:Nat->Nat->St->Hp->Prop,(∃ m,W 0 m (σ0 σ) (upd H1 D (.lst [])))/\∀ i m σ' H',W i m σ' H'->
  (J.stop i H'/\Q (.ref D) H')\/(J.go i H'/\∃ N:St->Hp->Prop,(∀ σ'' H'',N σ'' H''->∃ m',m' < m/\W (i + 1) m' σ'' H'')/\∀ x H2,J.yld i H' x H2->g x σ' H2 fun σ2 H3=>tc σ2 H3 fun b H4=>
    if b = true then te σ2 H4 fun v H5=>∃ ys,H5 D = some (.lst ys)/\ys.length < sizeLine/\N σ2 (upd H5 D (.lst (ys ++ [v]))) else N σ2 H4)
theorem zbz {prog:Program} {w:World} {A:Around} {R:Result->Shared->Prop} {s:Shared} {elt target iter:Expr} {ifs:List Expr} {scope:Scope} {pos:Pos} {it acc:Value} {env:Env} (I:Nat->Shared->Prop)
    (turn:∀ n s,I n s->wpAny (model prog w) A (pyNext it) (fun r s₁=>match r with
      | none=>R (.ok .next) s₁
      | some v=>wpAny (model prog w) A (letOwnedTupleGo target it v) (fun _ s₁'=>wpAny (model prog w) A (assign target env v) (fun _ s₂=>
          wpAny (model prog w) A (forIn ifs true fun c r=>if r = true then do let ok ← isTrue c env (eval c env);pure (ForInStep.yield ok) else pure (ForInStep.yield r)) (fun ok s₃=>
            if ok = true then wpAny (model prog w) A (eval elt env) (fun x s₄=>
              wpAny (model prog w) A (call (.builtin "list.append") [acc,x]) (fun _ s₅=>∃ m,m < n/\I m s₅) (notedBy (model prog w) A env fun e s'=>R (.error e) s') s₄) (notedBy (model prog w) A env fun e s'=>R (.error e) s') s₃
            else ∃ m,m < n/\I m s₃) (notedBy (model prog w) A env fun e s'=>R (.error e) s') s₂) (notedBy (model prog w) A env fun e s'=>R (.error e) s') s₁') (notedBy (model prog w) A env fun e s'=>R (.error e) s') s₁) (notedBy (model prog w) A env fun e s'=>R (.error e) s') s)
    (n:Nat) (h:I n s):codeAny (model prog w) A (.compLoop (.ListComp elt [⟨target,iter,ifs,0⟩] scope pos) 0 it acc env) R s:=by
  refine codeAny_loop rfl I (fun n s hI=>?_) n h
  show wpAny _ A ((compTurn (.ListComp elt [⟨target,iter,ifs,0⟩] scope pos) 0 it acc env).onRaise (fun x=>do noteFrame x env;theTreesLotGoes x)) _ _ s
  refine wpAny_noted ?_
  rw [compTurn_list]
  refine wpAny_bind (wpAny_standAt (wpAny_bind (wpAny_mono (turn n s hI) (fun r s₁ h₁=>?_) fun _ _ h'=>h')))
  cases r with
  | none=>exact wpAny_pure h₁
  | some v=>
    refine wpAny_bind (wpAny_mono h₁ (fun _ s₁' h₁'=>?_) fun _ _ h'=>h')
    refine wpAny_bind (wpAny_mono h₁' (fun _ s₂ h₂=>wpAny_bind (wpAny_mono h₂ (fun ok s₃ h₃=>?_) fun _ _ h'=>h')) fun _ _ h'=>h')
    cases ok with
    | false=>exact wpAny_pure ⟨rfl,h₃⟩
    | true=>
      exact wpAny_bind (wpAny_bind (wpAny_mono h₃ (fun x s₄ h₄=>wpAny_bind (wpAny_mono h₄ (fun _ s₅ h₅=>wpAny_pure (wpAny_pure ⟨rfl,h₅⟩)) fun _ _ h'=>h')) fun _ _ h'=>h'))
section
variable {X:Cx}
theorem zkl {tg elt iter:Expr} {ifs:List Expr} {scope:Scope} {cl:List (Str × Addr)} {pos:Pos} {tgs:List Str} {caps:List (Str × Nat)} {wi:TI} {g:TG} {tc:TT} {te:TE}
    (hc:X.calm = true) (hi:PI X tg iter wi) (hclos:closureFor scope X.env = pure cl) (hcell:∀ y ∈ scope.names,y.2 = .cell->y.1 ∉ caps.map (·.1)) (hkind:scope.kind = .function)
    (hnames:∀ y ∈ scope.names,y.2 = .local->scope.names.lookup y.1 = some .local)
    (hcl:∀ y c,cl.lookup y = some c->X.env.cells.lookup y = some c)
    (hhas:∀ n y,((relabel scope X.env).names.lookup y = some .cell\/(relabel scope X.env).names.lookup y = some .free)->∃ c,(cellsFrom n scope.names cl).lookup y = some c)
    (hcap:∀ c ∈ caps,X.N[c.2]? = some c.1/\X.env.kindOf c.1 = some .cell/\((relabel scope X.env).names.lookup c.1 = some .cell\/(relabel scope X.env).names.lookup c.1 = some .free))
    (hg:∀ ex s0 H0,PG (X.block scope cl (tgs ++ caps.map (·.1)) ex s0 H0) tg g) (hif:∀ ex s0 H0,PTs (X.block scope cl (tgs ++ caps.map (·.1)) ex s0 H0) ifs tc) (hel:∀ ex s0 H0,PE (X.block scope cl (tgs ++ caps.map (·.1)) ex s0 H0) elt te)
    (hs:∀ x,foldedSetIterable iter X.env x = pure x:=by intro _;rfl) :
    PE X (.ListComp elt [⟨tg,iter,ifs,0⟩] scope pos) (zjJ wi g tc te (za0 tgs caps)):=by
  intro pins s σ H Q I h
  rw [eval_ListComp]
  refine wpAny_comprehension_free (use:=none) rfl hs hclos hkind hnames (thn (hi pins s σ H _ I h) fun v s1 h1=>thn h1 fun itv s2 h2=>?_)
  obtain ⟨it,fp,tn,J,H2,e,I2,T,st2,f2,hrest⟩:=h2
  subst e
  -- the new list
  have hD:H2 s2.heap.objs.size = none:=I2.fresh
  obtain ⟨W,⟨m0,w0⟩,turn⟩:=hrest _ hD
  refine wpAny_newObj_type ?_ (by show 0<=sizeLine;decide)
  have I3:Inv X pins σ (upd H2 s2.heap.objs.size (.lst [])) { s2 with heap:=s2.heap.push { cls:=.type "list",data:=.seq ([]:List Value).toArray } }:=I2.lnew (t':=s2.toks) (ys:=[]) (its:=[]) .nil (by show 0<=sizeLine;decide)
  generalize hs3:({ s2 with heap:=s2.heap.push { cls:=.type "list",data:=.seq ([]:List Value).toArray } }:Shared) = s3 at I3
  have lt2:∀ b o,s2.heap.get? b = some o->s3.heap.get? b = some o:=fun b o e=>by rw [← hs3];exact Heap.get?_push_of_some _ e
  have sz3:s2.heap.objs.size < s3.heap.objs.size:=by rw [← hs3];show _ < (s2.heap.push _).objs.size;rw [Heap.size_push];exact Nat.lt_succ_self _
  have st3:tn 0 s3.heap:=T.keep 0 _ _ st2 fun b _ o e=>lt2 b o e
  have fplt:∀ b ∈ fp,b < s2.heap.objs.size:=fun b hb=>by
    obtain ⟨o,e,_⟩:=T.obj 0 _ st2 b hb
    exact Heap.lt_size e
  generalize hH3:upd H2 s2.heap.objs.size (.lst []) = H3 at I3 w0
  have fr3:∀ b ∈ fp,H3 b = none:=fun b hb=>by rw [← hH3,qd (Nat.ne_of_lt (fplt b hb))];exact (f2 b hb).1
  have nstk:∀ b ∈ fp,b ∉ frs X.stack:=fun b hb z=>by
    obtain ⟨_,n1,n2,_⟩:=f2 b hb
    rcases List.mem_cons.mp (I2.stkSub b z) with z | z
    · exact n1 z
    · exact n2 z
  refine y6 fun h4 ns4 sb4=>?_
  have keep4:∀ b o,s3.heap.get? b = some o->h4.get? b = some o:=fun b o e=>by rw [sb4];exact pushCells_keeps _ _ b o (Heap.get?_push_of_some _ e)
  have clt:∀ x c,cl.lookup x = some c->c < s3.heap.objs.size:=fun x c e=>by
    obtain ⟨v,q⟩:=I3.cell x c (hcl x c e)
    exact q.lt
  have cor:∀ x c,(cellsFrom (s3.heap.objs.size + 1) scope.names cl).lookup x = some c->cl.lookup x = some c\/s3.heap.objs.size + 1<=c:=fun x c e=>zhD _ _ _ e
  have cne:∀ b ∈ fp,∀ x c,(cellsFrom (s3.heap.objs.size + 1) scope.names cl).lookup x = some c->c ≠ b:=fun b hb x c e=>by
    rcases cor x c e with e | e
    · exact (f2 b hb).2.2.2.2.1 x c (hcl x c e)
    · exact Nat.ne_of_gt (Nat.lt_of_lt_of_le (Nat.lt_trans (fplt b hb) sz3) (Nat.le_of_succ_le e))
  have neC:∀ b ∈ fp,b ≠ s3.heap.objs.size:=fun b hb=>Nat.ne_of_lt (Nat.lt_trans (fplt b hb) sz3)
  have ok':(X.block scope cl (tgs ++ caps.map (·.1)) fp s3 H3).Ok:=
    ⟨I.ok.mod,hkind,I.ok.glob,I.ok.blt,Nat.le_refl _,zfR _ _ _ (fun x y c e1 e2=>I.ok.inj x y c (hcl x c e1) (hcl y c e2)) (fun x c e=>Nat.lt_succ_of_lt (clt x c e)),hhas _,(fun x c z e=>Nat.le_of_succ_le (zfP _ _ _ (eq_of_beq z) e)),I.ok.hd,I.ok.frames,.inl rfl,
      fun b hb=>⟨neC b hb,cne b hb⟩,I3.bs,Nat.le_trans I.ok.bsz I3.sz,fun b o e hb=>by
        rcases (f2 b hb).2.2.2.1 with z | z
        · exact I.ok.noex b o e z
        · exact absurd (Nat.lt_of_lt_of_le (Heap.lt_size e) (Nat.le_trans I.ok.bsz z)) (Nat.lt_irrefl _),
      nstk,I3.stack,I3.stkFree⟩
  have I4:Inv (X.block scope cl (tgs ++ caps.map (·.1)) fp s3 H3) [] (za0 tgs caps σ) H3 { s3 with heap:=h4 }:=by
    refine ⟨ok',rfl,I3.bare,Un.kept keep4,⟨_,ns4,fun i x v e1 e2 e3=>?_⟩,fun x c e=>?_,I3.hok.fresh (Nat.le_refl _),fun x c e=>(cor x c e).elim (fun e=>I3.freeC x c (hcl x c e)) (fun e=>I3.hok.fresh (Nat.le_of_succ_le e)),fun p hp=>by simp [Cx.block] at hp,I3.hok.kept keep4,by simp [za0,Cx.block]⟩
    · -- a captured name
      have hlen:(tgs.map (fun _=>(none:Option V))).length = tgs.length:=by simp
      by_cases hi:i < tgs.length
      · have:(za0 tgs caps σ)[i]? = some none:=by
          unfold za0
          rw [List.getElem?_append_left (by simpa using hi)]
          simp [hi]
        rw [this] at e2
        cases e2
      · have e1':(tgs ++ caps.map (·.1))[i]? = some x:=e1
        rw [List.getElem?_append_right (by omega),List.getElem?_map] at e1'
        have e2':=e2
        unfold za0 at e2'
        rw [List.getElem?_append_right (by simpa using hi),hlen,List.getElem?_map] at e2'
        cases hcq:caps[i - tgs.length]? with
        | none=>rw [hcq] at e1';cases e1'
        | some cq=>
          rw [hcq] at e1' e2'
          have ex:cq.1 = x:=Option.some.inj e1'
          have ev:(σ[cq.2]?).join = some v:=Option.some.inj e2'
          obtain ⟨c1,c2,c3⟩:=hcap cq (List.mem_of_getElem? hcq)
          have ev':σ[cq.2]? = some (some v):=by
            cases q:σ[cq.2]? with
            | none=>rw [q] at ev;cases ev
            | some o=>rw [q] at ev;cases o with
              | none=>cases ev
              | some v'=>rw [show v' = v from Option.some.inj ev]
          obtain ⟨m,hn,hl⟩:=I3.loc
          obtain ⟨u,r,lk⟩:=hl cq.2 cq.1 v c1 ev' (.inr (.inl c2))
          rcases lk with ⟨k1,_⟩ | ⟨_,c,ec,icl⟩
          · rw [c2] at k1;cases k1
          · obtain ⟨c',ec'⟩:=hhas (s3.heap.objs.size + 1) cq.1 c3
            have ec2:=ec'
            rw [zfQ _ _ _ fun y hy hk hyx=>hcell y hy hk (by rw [hyx];exact List.mem_map_of_mem (List.mem_of_getElem? hcq))] at ec2
            have:=hcl _ _ ec2
            rw [ec] at this
            cases this
            refine ⟨u,r,.inr ⟨?_,c,?_,?_⟩⟩
            · rw [← ex];exact c3
            · rw [← ex];exact ec'
            · obtain ⟨o,ho,hd⟩:=icl
              exact ⟨o,keep4 _ _ ho,hd⟩
    · show ∃ v,h4.IsCell c v
      rw [sb4]
      refine zd2 scope.names _ cl (fun x c f=>?_) x c (by rw [Heap.size_push];exact e)
      obtain ⟨v,o,ho,hd⟩:=I3.cell x c (hcl x c f)
      exact ⟨v,o,Heap.get?_push_of_some _ ho,hd⟩
  have stat:∀ {H':Hp},(∀ b ∈ fp,H' b = none)->∀ b ∈ fp,zbC (X.block scope cl (tgs ++ caps.map (·.1)) fp s3 H3) [] H' b:=fun hn b hb=>
    ⟨hn b hb,neC b hb,nstk b hb,.inl hb,cne b hb,fun p hp=>by simp [Cx.block] at hp⟩
  have st4:tn 0 h4:=T.keep 0 _ _ st3 fun b _ o e=>keep4 b o e
  have loop:codeAny (model X.prog X.w) X.A (.compLoop (.ListComp elt [⟨tg,iter,ifs,0⟩] scope pos) 0 (.ref it) (.ref s2.heap.objs.size) (zf0 scope cl s3.heap.objs.size X.env))
      (compPost (model X.prog X.w) X.A X.xe none (EP X pins σ Q) (.ref s2.heap.objs.size) s3.heap.objs.size) { s3 with heap:=h4 }:=by
    refine zbz (fun n s'=>∃ i σ' H',Inv (X.block scope cl (tgs ++ caps.map (·.1)) fp s3 H3) [] σ' H' s'/\tn i s'.heap/\(∀ b ∈ fp,H' b = none)/\W i n σ' H') ?_ m0 ⟨0,_,H3,I4,st4,fr3,w0⟩
    rintro n s5 ⟨i,σ5,H5,I5,st5,fr5,w5⟩
    rcases turn i n σ5 H5 w5 with ⟨stop,qn⟩ | ⟨go,N,hN,step⟩
    · refine wpAny_mono (T.done (X.block scope cl (tgs ++ caps.map (·.1)) fp s3 H3) rfl rfl rfl hc i [] s5 σ5 H5 (fun _ _=>False) I5 (stat fr5) st5 stop) (fun r s6 ⟨hr,I6⟩=>?_) fun _ _ z=>False.elim z
      subst hr
      obtain ⟨m6,hn6,_⟩:=I6.loc
      refine ⟨m6,hn6,fun h' sb=>?_⟩
      have nb:∀ b o,s3.heap.get? b = some o->b ≠ s3.heap.objs.size:=fun b o e=>Nat.ne_of_lt (Heap.lt_size e)
      have eqb:∀ b,b ≠ s3.heap.objs.size->h'.get? b = s6.heap.get? b:=fun b hb=>sb.2 b hb
      have uX:Un (frs X.stack) fp H3 H5 s3.heap h':=by
        have u:=I6.base
        refine ⟨fun b o e a1 a2 a3=>?_,fun b o e a1 a2 a3=>?_,u.free,fun b o e a3=>?_,u.tups,u.frzs,u.tbls⟩
        · rw [eqb b (nb b o e)];exact u.keep b o e a1 a2 a3
        · rw [eqb b (nb b o e)];exact u.slot b o e a1 a2 a3
        · rw [eqb b (nb b o e)];exact u.there b o e a3
      have hokX:HOk X.prog X.w H5 h':=fun a o e=>(I6.hok a o e).stay (fun b u hb eu=>by
        have hbC:b ≠ s3.heap.objs.size:=fun z=>by
          have hfC:H5 s3.heap.objs.size = none:=I6.free
          rcases hb with rfl | hb
          · rw [z,hfC] at e;cases e
          · rw [z,hfC] at hb;cases hb
        rw [eqb b hbC];exact eu) (fun _ q=>q) fun _ _ q=>q
      have os6:s6.os = s3.os:=I6.os
      exact ⟨.ref s2.heap.objs.size,H5,I3.call' (s':={ s6 with heap:=h' }) (ch:=fp) os6 uX hokX I6.bare (fun b hb=>⟨(f2 b hb).2.2.2.1,(f2 b hb).2.1,(f2 b hb).2.2.2.2.1,(f2 b hb).2.2.2.2.2⟩),rfl,qn⟩
    · refine wpAny_mono (T.item (X.block scope cl (tgs ++ caps.map (·.1)) fp s3 H3) rfl rfl rfl hc i [] s5 σ5 H5 (fun _ _=>False) I5 (stat fr5) st5 go) (fun r s6 ⟨u,hr,h6⟩=>?_) fun _ _ z=>False.elim z
      subst hr
      refine wpAny_mono h6 (fun _ s7 ⟨x,H7,I7,r7,y7,st7,fr7⟩=>?_) fun _ _ z=>False.elim z
      have I7':=I7.pinned (stat fr7) (T.obj _ _ st7)
      have again:∀ {s9:Shared} {σ9:St} {H9:Hp},Inv (X.block scope cl (tgs ++ caps.map (·.1)) fp s3 H3) ([] ++ zbQ fp s7.heap) σ9 H9 s9->N σ9 H9->
          ∃ m,m < n/\∃ i σ' H',Inv (X.block scope cl (tgs ++ caps.map (·.1)) fp s3 H3) [] σ' H' s9/\tn i s9.heap/\(∀ b ∈ fp,H' b = none)/\W i m σ' H':=fun {s9 σ9 H9} I9 n9=>by
        obtain ⟨m',hm,w9⟩:=hN σ9 H9 n9
        refine ⟨m',hm,i + 1,σ9,H9,I9.unpinned,T.keep _ _ _ st7 fun b hb o e=>(I9.pin (b,o) (List.mem_append_right _ (List.mem_append_right _ (zab hb e)))).1,fun b hb=>?_,w9⟩
        obtain ⟨o,e,d⟩:=T.obj _ _ st7 b hb
        exact (I9.pin (b,o) (List.mem_append_right _ (List.mem_append_right _ (zab hb e)))).2.1
      refine wpAny_mono (hg fp s3 H3 _ s7 σ5 H7 x u _ I7' r7 (step x H7 y7)) (fun _ s8 ⟨σ8,H8,I8,q8⟩=>?_) fun _ _ z=>False.elim z
      refine wpAny_mono (hif fp s3 H3 _ s8 σ8 H8 _ I8 q8) (fun b s9 ⟨H9,I9,q9⟩=>?_) fun _ _ z=>False.elim z
      cases b with
      | false=>
        rw [if_neg Bool.false_ne_true] at q9
        rw [if_neg Bool.false_ne_true]
        exact again I9 q9
      | true=>
        rw [if_pos rfl] at q9
        rw [if_pos rfl]
        refine wpAny_mono (hel fp s3 H3 _ s9 σ8 H9 _ I9 q9) (fun xv s10 ⟨v,H10,I10,rv,ys,hy,hl,q10⟩=>?_) fun _ _ z=>False.elim z
        refine wpAny_mono (y3 (X:=X.block scope cl (tgs ++ caps.map (·.1)) fp s3 H3) _ s10 σ8 H10 (.ref s2.heap.objs.size) [v] (.ref s2.heap.objs.size) [xv] (fun _ H11=>N σ8 H11) I10 rfl (.cons rv .nil) ⟨_,ys,v,rfl,rfl,hy,hl,q10⟩) (fun _ s11 ⟨_,H11,I11,_,q11⟩=>again I11 q11) fun _ _ z=>False.elim z
  exact codeAny_compStart_list loop (T.self _ 0 _ _ _ st4 loop)
end
end L2
namespace L2
open PySem PySem.Spec PyProof.Rows
noncomputable def Each {α:Type} (P:α->Prop):List α->Prop
  | []=>True
  | a :: l=>P a/\Each P l
theorem Each.of {α:Type} {P:α->Prop}:∀ {l:List α},Each P l->∀ a ∈ l,P a
  | _ :: _,⟨h,_⟩,_,.head _=>h
  | _ :: _,⟨_,h⟩,_,.tail _ m=>Each.of h _ m
theorem lookup_mem {l:List (Str × NameKind)} {y:Str} {k:NameKind} (h:l.lookup y = some k):(y,k) ∈ l:=by
  induction l with
  | nil=>cases h
  | cons p l ih=>
    obtain ⟨n,k'⟩:=p
    rw [List.lookup_cons] at h
    cases e:y == n with
    | true=>
      rw [e] at h
      cases h
      rw [eq_of_beq e]
      exact .head _
    | false=>
      rw [e] at h
      exact .tail _ (ih h)
theorem zmj {l:List (Str × NameKind)} {cl:List (Str × Addr)} (h:Each (fun p=>(p.2 = .cell\/p.2 = .free)->∃ c,cl.lookup p.1 = some c) l) (y:Str) (q:l.lookup y = some .cell\/l.lookup y = some .free):∃ c,cl.lookup y = some c:=by
  rcases q with q | q
  · exact h.of _ (lookup_mem q) (.inl rfl)
  · exact h.of _ (lookup_mem q) (.inr rfl)
theorem PI.or {X:Cx} {tg iter:Expr} {wi wi':TI} (h:PI X tg iter wi) (h':PI X tg iter wi'):PI X tg iter (fun σ H R=>wi σ H R\/wi' σ H R):=fun pins s σ H R I q=>q.elim (h pins s σ H R I) (h' pins s σ H R I)
theorem zla {bs:List Bool} {its:List Value} (r:Vals (bs.map V.bl) its) {i:Nat} {v:Value} (e:its[i]? = some v):∃ b,bs[i]? = some b/\v = .bool b:=by
  have hl:=r.length
  rw [List.length_map] at hl
  have hi:i < its.length:=(List.getElem?_eq_some_iff.mp e).1
  have eb:bs[i]? = some bs[i]:=by simp [show i < bs.length by omega]
  have em:(bs.map V.bl)[i]? = some (V.bl bs[i]):=by rw [List.getElem?_map,eb];rfl
  obtain ⟨u,e2,q⟩:=Vals.get r em
  rw [e] at e2
  cases e2
  exact ⟨_,eb,q⟩
theorem range_any (bs:List Bool):(List.range bs.length).any (fun i=>bs.getD i false) = bs.any id:=by
  rw [Bool.eq_iff_iff,List.any_eq_true,List.any_eq_true]
  constructor
  · rintro ⟨i,hi,h⟩
    have hi':=List.mem_range.mp hi
    refine ⟨bs[i],List.getElem_mem hi',?_⟩
    simpa [List.getD,hi'] using h
  · rintro ⟨b,hb,h⟩
    obtain ⟨i,hi,rfl⟩:=List.getElem_of_mem hb
    exact ⟨i,List.mem_range.mpr hi,by simpa [List.getD,hi] using h⟩
section
variable {X:Cx}
theorem ziJ (hc:X.calm = true):CallR X (.builtin "any") (fun xs H Q=>∃ (p:Addr) (bs:List Bool),xs = [.ref p]/\SqL X.K H p (bs.map V.bl)/\Q (.bl (bs.any id)) H):=by
  intro pins s σ H xs us Q I r h
  obtain ⟨p,bs,rfl,hq,q⟩:=h
  obtain ⟨u,rfl,rx⟩:=vals1 r
  cases rx
  obtain ⟨its,r',pl,hz⟩:=I.list hq
  have hlen:=r'.length
  rw [List.length_map] at hlen
  refine call_any_walk (wpAny_pyIter_list pl.isList ?_)
  have hlt:p < s.heap.objs.size:=by
    obtain ⟨o,n,ho,_⟩:=pl
    exact Heap.lt_size ho
  refine ⟨s.heap.objs.size,_,_,_,_,_,fun i=>bs.getD i false,rfl,Walks.list (by exact I.ok.hd hc) _ p (Nat.ne_of_lt hlt) its.toArray,⟨⟨_,Heap.get?_push_size _ rfl,rfl,rfl⟩,?_⟩,?_,fun h' tk hk=>?_⟩
  · obtain ⟨o,ho,c⟩:=pl.isList
    exact ⟨o,Heap.get?_push_of_some _ ho,c⟩
  · intro i v s' Q' E' e hq'
    obtain ⟨b,eb,rfl⟩:=zla r' (show its[i]? = some v by simpa using e)
    have:bs.getD i false = b:=by simp [List.getD,eb]
    have hq2:Q' (bs.getD i false) s':=hq'
    rw [this] at hq2
    exact wpAny_truthy_bool hq2
  · have e:(List.range its.toArray.size).any (fun i=>bs.getD i false) = bs.any id:=by
      rw [← range_any bs,show its.toArray.size = bs.length by simp [hlen]]
    rw [e]
    refine ⟨.bl (bs.any id),H,I.kept (t':=tk) (fun b o eb=>hk b o (fun z=>?_) (Heap.get?_push_of_some _ eb)),rfl,q⟩
    have z':b = s.heap.objs.size:=by simpa using z
    exact absurd (Heap.lt_size eb) (by rw [z'];exact Nat.lt_irrefl _)
end
end L2
namespace L2
open PySem PySem.Spec PyProof.Rows
section
variable {X:Cx}
noncomputable def zm8 (K:PySem.W.Frag):R2:=fun x y H Q=>∃ a b xs ys,x = .ref a/\y = .ref b/\SqT K H a xs/\SqT K H b ys/\xs.length + ys.length<=sizeLine /\
  (xs = []->Q (.ref b) H)/\(xs ≠ []->ys = []->Q (.ref a) H)/\(xs ≠ []->ys ≠ []->∀ p,H p = none->Q (.ref p) (upd H p (.tup (xs ++ ys))))
theorem zkv:OpR X (binaryOp .Add) (zm8 X.K):=by
  intro pins s σ H x y v u Q I rx ry h
  obtain ⟨a,b,xs,ys,rfl,rfl,ha,hb,hz,q0,q1,q2⟩:=h
  by_cases hx:xs = []
  · cases rx
    cases ry
    obtain ⟨its,r1,p1,_⟩:=I.tuple ha
    obtain ⟨its2,r2,p2,_⟩:=I.tuple hb
    obtain ⟨⟨cls,dd,data,sl⟩,ho,hc,n,hd⟩:=id p1
    obtain ⟨⟨cls2,dd2,data2,sl2⟩,ho2,hc2,n2,hd2⟩:=id p2
    simp only at hc hd hc2 hd2
    subst hc hd hc2 hd2
    have e:its = []:=r1.nil_iff.mpr hx
    exact concat_meets ⟨_,ho,rfl⟩ ⟨_,ho2,rfl⟩ noFill_tuple_add seq_tuple_add PySem.F.slot_tuple_add PySem.F.entry_tuple_add (PySem.F.args_tuple_add_2 _ _)
      (tuple_addW0 a b its.toArray its2.toArray n n2 dd dd2 sl sl2 (by simp [e])) ⟨ho,ho2,⟨.ref b,H,I,rfl,q0 hx⟩⟩
  · exact zkt pins s σ H _ _ v u Q I rx ry ⟨a,b,xs,ys,rfl,rfl,ha,hb,hx,hz,q1 hx,q2 hx⟩
end
end L2
namespace HT
open PySem PySem.Spec PyProof.Rows
section
variable {prog:Program} {w:World} {A:Around} {E:Value->Shared->Prop} {s:Shared}
theorem zbD {t sl:Addr} {items:Array Value} {vl vu:Value} {lo hi:Option Int} {Q:Value->Shared->Prop} (ht:IsTup s.heap t items) (hs:s.heap.IsSliceOf sl vl vu .none) (pl:IsPart vl lo) (pu:IsPart vu hi)
    (hw:sIx items.size 0 lo = 0/\sIx items.size items.size hi = items.size) (h:Q (.ref t) s):wpAny (model prog w) A (getItem (.ref t) (.ref sl)) Q E s:=by
  obtain ⟨os,hos,hcs,hds⟩:=id hs
  have hTs:s.TypeIs (.ref sl) "slice":=⟨os,hos,hcs⟩
  unfold getItem
  try with_reducible refine wpAny_holding ?_
  first | refine wpAny_bind (wpAny_pure ?_) | skip
  refine wpAny_bind (wpAny_sequenceKey ht.typeIs (by decide) ?_)
  refine wpAny_bind (wpAny_callSpecial?_slot (name:=Str.ofString "__getitem__") ht.typeIs PyProof.Rows.slot_tuple_getitem
    (wpAny_call_entry PyProof.Rows.slot_tuple_getitem ht.typeIs entry_tuple_getitem ?_ (args_tuple_getitem _ _)))
  show wpAny _ _ (Builtin.Tuple.tupleItemsOf (.ref t) >>= _) _ _ s
  refine wpAny_bind (tupleItemsOf_ ht ?_)
  refine wpAny_bind (wpAny_typeOf hTs ?_)
  rw [if_pos (by decide)]
  refine wpAny_bind (zap hs pl pu ?_)
  have hyes:(((sIx items.size 0 lo:Nat):Int) == 0 && (1:Int) == 1 && (sIx items.size items.size hi - sIx items.size 0 lo) == items.size) = true:=by
    rw [hw.1,hw.2];simp
  show wpAny _ _ (if (((sIx items.size 0 lo:Nat):Int) == 0 && (1:Int) == 1 && (sIx items.size items.size hi - sIx items.size 0 lo) == items.size) = true then _ else _) _ _ s
  rw [if_pos hyes]
  refine wpAny_bind ?_
  unfold Builtin.Tuple.tupleIsExact
  refine wpAny_bind (wpAny_typeOf ht.typeIs (wpAny_pure ?_))
  rw [if_pos (by decide)]
  exact wpAny_bind (wpAny_rule (wpAny_pure ⟨_,rfl,wpAny_pure h⟩))
end
end HT
namespace L2
open PySem PySem.Spec PyProof.Rows
section
variable {X:Cx}
noncomputable def znS (K:PySem.W.Frag):V->Option Int->Option Int->Hp->VK->Prop:=fun x lo hi H Q=>∃ a xs,x = .ref a/\SqT K H a xs /\
  ((HT.sIx xs.length 0 lo = 0/\HT.sIx xs.length xs.length hi = xs.length)->Q (.ref a) H)/\(¬ (HT.sIx xs.length 0 lo = 0/\HT.sIx xs.length xs.length hi = xs.length)->∀ p,H p = none->Q (.ref p) (upd H p (.tup (cutV xs lo hi))))
theorem zj7:SlR X (znS X.K):=by
  intro pins s σ H x v vl vu lo hi sl Q I rx hs pl pu h
  obtain ⟨a,xs,rfl,hx,q1,q2⟩:=h
  by_cases hw:HT.sIx xs.length 0 lo = 0/\HT.sIx xs.length xs.length hi = xs.length
  · cases rx
    obtain ⟨its,r,ht,hz⟩:=I.tuple hx
    have hlen:its.toArray.size = xs.length:=by rw [List.size_toArray];exact r.length.symm
    refine ⟨"tuple",_,PyProof.Rows.slot_tuple_getitem.lookup,ht.typeIs,?_⟩
    refine HT.zbD ht hs pl pu (by rw [hlen];exact hw) ⟨.ref a,H,I,rfl,q1 hw⟩
  · exact zlm pins s σ H _ v vl vu lo hi sl Q I rx hs pl pu ⟨a,xs,rfl,hx,hw,q2 hw⟩
theorem zcP:fillsNumberSlot (.type "tuple") "mul" = pure false:=
  PySem.fillsNumberSlot_seq (id:="tuple.__mul__") (r:=some (.builtin "tuple.__rmul__")) PySem.F.slot_tuple_mul.lookup (by decide +kernel) PySem.F.slot_tuple_rmul.lookup (by decide +kernel)
theorem zfd:seqRepeat? (.type "tuple") = pure (some (.builtin "tuple.__mul__")):=by
  unfold seqRepeat?
  rw [PySem.seqSlot_of (T:="tuple") (name:="__mul__") (id:="tuple.__mul__") PySem.F.slot_tuple_mul.lookup (by decide +kernel),PySem.seqSlot_of (T:="tuple") (name:="__rmul__") (id:="tuple.__rmul__") PySem.F.slot_tuple_rmul.lookup (by decide +kernel)]
  rfl
theorem zdJ (a:Int) (t:Tok) (l:Addr) (items:Array Value) (n:Nat) (dd:Option Addr) (sl:Array (Option Value)) :
    Meets (Builtin.«int.__rmul__» ⟨[.int a t,.ref l],[]⟩) (fun _ R s=>s.heap.get? l = some { cls:=.type "tuple",dict:=dd,data:=.seq items n,slots:=sl }/\R (.ok (.ret Value.notImplemented)) s):=
  .of_wp fun prog w A R s h=>by obtain ⟨hp,g,d,tk,os⟩:=s;obtain ⟨hl,h⟩:=h;wp_walk;exact ⟨_,rfl,h⟩
theorem zg6 (l:Addr) (items:Array Value) (n:Nat) (x:Int) (u:Tok) (dd:Option Addr) (sl:Array (Option Value)) (h0:items.isEmpty = false) (h1:2<=x) (h2:x < 2 ^ 63) (h3:items.size * x.toNat<=sizeLine) :
    Meets (Builtin.«tuple.__mul__» ⟨[.ref l,.int x u],[]⟩) (fun _ R s=>s.heap.get? l = some { cls:=.type "tuple",dict:=dd,data:=.seq items n,slots:=sl }/\R (.ok (.ret (Value.ref s.heap.objs.size))) { s with heap:=s.heap.push { cls:=Value.type "tuple",data:=Data.seq (List.foldl (fun x1 x2=>x1 ++ x2) #[] (List.replicate x.toNat items)) },toks:=s.toks }):=
  .of_wp fun prog w A R s h=>by
    obtain ⟨hp,g,d,tk,os⟩:=s;obtain ⟨hl,h⟩:=h
    have f1:=AutoSeq1.idx_int
    have hA:¬(decide (x < -2 ^ 63) || decide (x ≥ 2 ^ 63)) = true:=by simp;omega
    have hB:¬(items.isEmpty || x == 1) = true:=by rw [h0];simp;omega
    have hC:¬(decide (x<=0) || items.isEmpty) = true:=by rw [h0];simp;omega
    have hm:((items.size:Nat):Int) * x = ((items.size * x.toNat:Nat):Int):=by
      rw [Int.natCast_mul,Int.toNat_of_nonneg (by omega)]
    have hs2:(sizeLine:Nat)<=(2 ^ 63 - 1) / 8:=by decide
    have hD:¬((items.size:Nat):Int) * x > (2 ^ 63 - 1) / 8:=by rw [hm];omega
    have hE:¬Builtin.Tuple.tupleTooMany (((items.size:Nat):Int) * x) = true:=by
      rw [hm]
      show ¬ decide (((items.size * x.toNat:Nat):Int) > ((sizeLine:Nat):Int)) = true
      rw [decide_eq_true_iff];omega
    have hT:IsTup hp l items:=⟨_,hl,rfl,n,rfl⟩
    wp_walk using wpAny_loadPart' hl
    rw [if_neg hA]
    refine wpAny_bind (tupleItemsOf_ hT ?_)
    show wpAny _ _ (if (items.isEmpty || x == 1) = true then _ else _) _ _ _
    rw [if_neg hB]
    show wpAny _ _ (if (decide (x<=0) || items.isEmpty) = true then _ else _) _ _ _
    rw [if_neg hC]
    show wpAny _ _ (if ((items.size:Nat):Int) * x > (2 ^ 63 - 1) / 8 then _ else _) _ _ _
    rw [if_neg hD]
    show wpAny _ _ (if Builtin.Tuple.tupleTooMany (((items.size:Nat):Int) * x) = true then _ else _) _ _ _
    rw [if_neg hE]
    have hj:(List.foldl (fun x1 x2=>x1 ++ x2) #[] (List.replicate x.toNat items)).size<=sizeLine:=by
      have:=foldl_rep items.toList x.toNat []
      rw [List.nil_append,Array.toArray_toList] at this
      rw [this,List.size_toArray,len_rep,Nat.mul_comm,Array.length_toList]
      exact h3
    exact wpAny_bind (m:=Builtin.Tuple.tupleExact _) (wpAny_newObj_type (wpAny_pure ⟨_,rfl,h⟩) hj)
noncomputable def zm5 (K:PySem.W.Frag):R2:=fun x y H Q=>∃ l k xs,x = .ref l/\y = .int k/\SqT K H l xs/\xs ≠ []/\2<=k/\k < 2 ^ 63/\xs.length * k.toNat<=sizeLine /\
  ∀ p,H p = none->Q (.ref p) (upd H p (.tup (List.replicate k.toNat xs).flatten))
theorem zkp:OpR X (binaryOp .Mult) (zm5 X.K):=by
  intro pins s σ H x y v u Q I rx ry h
  obtain ⟨l,k,xs,rfl,rfl,hH,hx,h1,h2,hz,q⟩:=h
  cases rx
  obtain ⟨t,rfl⟩:=ry
  obtain ⟨its,r,pl,_⟩:=I.tuple hH
  have hl:=r.length
  obtain ⟨⟨cls,dd,data,sl⟩,ho,hc,n,hd⟩:=id pl
  simp only at hc hd
  subst hc hd
  have hlen:its.toArray.size * k.toNat<=sizeLine:=by rw [List.size_toArray,← hl];exact hz
  have hne:its.toArray.isEmpty = false:=by
    cases its with
    | nil=>exact absurd (r.nil_iff.mp rfl) hx
    | cons a b=>rfl
  have hnew:List.foldl (fun x1 x2=>x1 ++ x2) #[] (List.replicate k.toNat its.toArray) = (List.replicate k.toNat its).flatten.toArray:=by
    have:=foldl_rep its k.toNat []
    rw [List.nil_append] at this
    exact this
  refine wpAny_binaryOp_repeat_ref (T:="tuple") (U:="int") (by decide) ⟨_,ho,rfl⟩ (fun s'=>typeIs_int s' k t) zcP F.fills_int_mul F.slot_int_rmul zfd F.slot_int_index.lookup
    (call_meets F.slot_int_rmul (typeIs_int s k t) F.entry_int_rmul (F.args_int_rmul_2 _ _) (zdJ k t l its.toArray n dd sl)
      ⟨ho,rfl,⟨_,ho,rfl⟩,call_meets F.slot_tuple_mul ⟨_,ho,rfl⟩ F.entry_tuple_mul (F.args_tuple_mul_2 _ _) (zg6 l its.toArray n k t dd sl hne h1 h2 hlen) ⟨ho,?_⟩⟩)
  rw [hnew]
  refine ⟨.ref s.heap.objs.size,_,I.laid (t':=s.toks) (o:=.tup (List.replicate k.toNat xs).flatten) (fun b ob q=>Heap.get?_push_of_some _ q) (Nat.le_refl _) ?_,rfl,q _ (I.hok.fresh (Nat.le_refl _))⟩
  exact ⟨by rw [len_rep,Nat.mul_comm];exact hz,_,r.rep k.toNat,IsTup.new _ _,NoDict.new⟩
end
end L2
namespace L2
open PySem PySem.Spec PyProof.Rows
theorem ints_get {ns:List Int} {its:List Value} (r:Vals (ns.map V.int) its) {i:Nat} {v:Value} (e:its[i]? = some v):∃ t,v = .int (ns.getD i 0) t:=by
  have hl:=r.length
  rw [List.length_map] at hl
  have hi:i < its.length:=(List.getElem?_eq_some_iff.mp e).1
  have eb:ns[i]? = some ns[i]:=by simp [show i < ns.length by omega]
  have em:(ns.map V.int)[i]? = some (V.int ns[i]):=by rw [List.getElem?_map,eb];rfl
  obtain ⟨u,e2,t,q⟩:=Vals.get r em
  rw [e] at e2
  cases e2
  exact ⟨t,by rw [q];simp [List.getD,eb]⟩
section
variable {X:Cx}
theorem zjx:zf8 X (zi3 X.K):=by
  intro pins s σ H x y v u Q I rx ry h
  obtain ⟨p,xs,i,z,rfl,rfl,hq,he,q⟩:=h
  cases rx
  obtain ⟨t,rfl⟩:=ry
  obtain ⟨its,r,pl,hz⟩:=I.list hq
  obtain ⟨j,h1,h2,h3,h4,h5⟩:=zct he
  obtain ⟨w,ew,rw'⟩:=r.get h2
  have hl:=r.length
  have hn:=zax
  have fin:EP X pins σ Q w s:=⟨z,H,I,rw',q⟩
  by_cases h0:0<=i
  · have hj:i.toNat = j:=by
      rw [seqIndex_of h0 h5] at h1
      exact Option.some.inj h1
    exact wpAny_getItem_list pl.isList h0 (by omega) (by rw [hj];simpa using ew) fin
  · have hj:(i + (its.toArray.size:Int)).toNat = j:=by
      rw [seqIndex_neg (by omega) h4] at h1
      rw [List.size_toArray,← hl]
      exact Option.some.inj h1
    exact wpAny_getItem_list_neg pl.isList (by omega) (by rw [List.size_toArray] <;> omega) (by omega) (by rw [hj];simpa using ew) fin
end
end L2
namespace L2
open PySem PySem.Spec PyProof.Rows PySem.Builtin PySem.Builtin.ObjectAttr
inductive Tl (h:Heap) (bmB:List Value) (ns:List Str):List Value->Prop
  | base:Tl h bmB ns bmB
  | own {a:Addr} {c:Value} {dd:Option Addr} {cd:ClassData} {sl:Array (Option Value)} {mA:Str->Option Value} {tl:List Value} (e:h.get? a = some ⟨c,dd,.cls cd,sl⟩) (hn:h.Ns cd.ns mA) (no:∀ n ∈ ns,mA n = none) (t:Tl h bmB ns tl):Tl h bmB ns (.ref a :: tl)
section
variable {h h':Heap} {bmB tl:List Value} {ns:List Str}
theorem Tl.tail (T:Tl h bmB ns tl) (hi:("__init__":Str) ∈ ns):OwnTail h bmB tl:=by
  induction T with
  | base=>exact .base
  | own e hn no _ ih=>exact .own e hn (no _ hi) ih
variable {M:Model} {A:Around} {E:Value->Shared->Prop} {g:Array GenState} {d:Drawn} {t:Nat} {os:OsState}
theorem Tl.along {n:Str} {y:Option Value} {Q:Option Value->Shared->Prop} (T:Tl h bmB ns tl) (hm:n ∈ ns) (hB:lookupAlong bmB n = pure y) (hq:Q y ⟨h,g,d,t,os⟩):wpAny M A (lookupAlong tl n) Q E ⟨h,g,d,t,os⟩:=by
  induction T with
  | base=>rw [hB];exact wpAny_pure hq
  | own e hn no _ ih=>
    rw [lookupAlong_cons]
    exact wpAny_bind (wpAny_classOwn_cls e hn (by rw [no _ hm];exact ih))
variable {nm q:Str} {C N:Addr} {bs bm:List Value} {hdct:Bool} {sn:List Str} {sub:List Value} {ab:Bool} {col:Option Bool} {dd:Option Addr} {k0 k1 k2 k3 k5:Option Value} {B newId:String}
theorem zaw {n:Str} {mN:Str->Option Value} {y:Option Value} {Q:Option Value->Shared->Prop} (hC:h.get? C = some (excClassObj nm q C N bs bm hdct sn sub ab col dd k0 k1 k2 k3 k5 newId)) (hn:h.Ns N mN) (T:Tl h bmB ns bm) (hm:n ∈ ns)
    (hbm:mroOf (.type B) = pure bmB) (hB:typeLookup (.type B) n = pure y) (hq:Q ((mN n).or y) ⟨h,g,d,t,os⟩):wpAny M A (typeLookup (.ref C) n) Q E ⟨h,g,d,t,os⟩:=by
  have hr:lookupAlong bmB n = pure y:=by rw [typeLookup_eq,hbm] at hB;exact hB
  rw [typeLookup_eq]
  refine wpAny_bind (wpAny_mroOf_exc hC ?_)
  rw [lookupAlong_cons]
  refine wpAny_bind (wpAny_classOwn_exc hC hn ?_)
  cases hv:mN n with
  | some v=>rw [hv] at hq;exact wpAny_pure hq
  | none=>rw [hv] at hq;exact T.along hm hr hq
end
section
variable {prog:Program} {w:World} {A:Around} {E:Value->Shared->Prop} {h:Heap} {g:Array GenState} {d:Drawn} {t:Nat} {os:OsState}
variable {nm q name:Str} {C N x:Addr} {bs bm:List Value} {sn ns:List Str} {sub:List Value} {ab:Bool} {col:Option Bool} {dd:Option Addr} {k0 k1 k2 k3 k5:Option Value} {newId:String} {mN:Str->Option Value} {v:Value} {o:Obj}
theorem zgY {M:Model} {u:Value} {Q:Unit->Shared->Prop} (hC:h.get? C = some (excClassObj nm q C N bs bm true sn sub ab col dd k0 k1 k2 k3 k5 newId)) (T:Tl h y9 ns bm) (hi:("__init__":Str) ∈ ns) (hx:h.get? x = some o) (hc:o.cls = .ref C) (hq:Q () ⟨h,g,d,t,os⟩) :
    wpAny M A (checkBuiltinCall "object.__setattr__" ⟨[.ref x,u,v],[]⟩) Q E ⟨h,g,d,t,os⟩:=by
  have hb:(Value.ref C :: bm).contains (.type "object") = true:=by rw [List.contains_cons,(T.tail hi).hasType PySem.F.store_ValueError.hasOwner,Bool.or_true]
  simp only [checkBuiltinCall,PySem.F.store_ValueError.kind,PySem.F.store_ValueError.split]
  refine wpAny_bind ?_
  unfold isInstance
  repeat (first | (with_reducible refine wpAny_loadPart_at hx ?_;rw [hc]) | (with_reducible refine wpAny_isSubtype_exc hC ?_;rw [hb]) | wp_step)
  exact hq
theorem zgX {tk:Tok} {Q:Fin->Shared->Prop} (hC:h.get? C = some (excClassObj nm q C N bs bm true sn sub ab col dd k0 k1 k2 k3 k5 newId)) (hn:h.Ns N mN) (T:Tl h y9 ns bm) (m2:mN name = none) (hm:name ∈ ns)
    (hB:typeLookup (.type "ValueError") name = pure none) (hx:h.get? x = some o) (hc:o.cls = .ref C) (hnc:∀ c,o.data ≠ .cls c) (hd:o.dict = none)
    (hq:∀ h' tk' dx,h.get? dx = none->dx ≠ x->h'.get? x = some { o with dict:=some dx }->h'.Ns1 dx (fun y=>if y = name then some v else none)->(∀ b ob,b ≠ x->h.get? b = some ob->h'.get? b = some ob)->Q (.done (.ret .none)) ⟨h',g,d,tk',os⟩) :
    wpAny (model prog w) A (Builtin.«object.__setattr__» ⟨[.ref x,.str name tk,v],[]⟩) Q E ⟨h,g,d,t,os⟩:=by
  have hp:∀ l,Tl h y9 ns l->refuseLoop (.ref x) "__setattr__" l = pure ():=by
    intro l T
    induction T with
    | base=>exact PySem.F.store_ValueError.passes (.ref x)
    | own _ _ _ _ ih=>rw [refuseLoop_ref];exact ih
  have hp:=hp bm T
  unfold Builtin.«object.__setattr__»
  repeat (first | rw [refuse_eq] | (rw [refuseLoop_ref,hp]) | (with_reducible refine wpAny_loadPart_at hx ?_;rw [hc]) | with_reducible refine wpAny_mroOf_exc hC ?_ | (with_reducible refine zaw hC hn T hm PySem.F.store_ValueError.mro hB ?_;rw [m2]) | wp_step)
  rw [hd,if_neg (by simp [typeHasDict])]
  have e1:(h.push ⟨.type "dict",none,.dict #[] 0,#[]⟩).get? x = some o:=Heap.get?_push_of_some _ hx
  have ne:x ≠ h.objs.size:=Nat.ne_of_lt (Heap.lt_size hx)
  have hfr:=(Heap.get?_some_iff.mp hx).2
  have key:wpAny (model prog w) A (do let d ← alloc ⟨.type "dict",none,.dict #[] 0,#[]⟩;update x fun o=>{ o with dict:=some d };dictMade (.ref C) x d) (fun a s'=>wpAny (model prog w) A (match a with | some d=>storeInDict d (Value.str name tk) name v | none=>noDictFor (Value.ref x) (Value.ref C) name (none.or none:Option Value).isSome) Q E s') E ⟨h,g,d,t,os⟩:=by
    refine wpAny_bind (wpAny_alloc' (wpAny_bind (wpAny_update' e1 (wpAny_pure ?_))))
    generalize hg2:(h.push ⟨.type "dict",none,.dict #[] 0,#[]⟩).update x (fun o=>{ o with dict:=some h.objs.size }) = h2
    have gd:h2.get? h.objs.size = some ⟨.type "dict",none,.dict #[] 0,#[]⟩:=by
      rw [← hg2];exact (Heap.get?_update_ne _ _ _ _ ne.symm).trans (Heap.get?_push_at rfl rfl)
    have gx:h2.get? x = some { o with dict:=some h.objs.size }:=by
      rw [← hg2]
      refine Heap.get?_update_self _ e1 ?_
      obtain ⟨oc,od,odt,osl⟩:=o
      cases odt <;> first | rfl | exact hfr
    have nd:h2.Ns h.objs.size (fun _=>none):=⟨_,#[],_,gd,rfl,fun e he=>absurd he (by simp),fun _=>rfl⟩
    show wpAny _ _ (storeInDict h.objs.size (.str name tk) name v) _ _ _
    unfold storeInDict newKeyGuard
    refine wpAny_bind (wpAny_pure (wpAny_bind (wpAny_nsSet1 (Heap.Ns1.of_empty nd) fun h' n1 hs=>?_)))
    obtain ⟨oD,esD,epD,a1,a2,a3⟩:=n1.count (Within.cons name v Within.nil)
    refine wpAny_bind (wpAny_lookBehind a1 (by rw [a2];exact pastItsLine_dict (Nat.le_trans a3 (by rw [List.length_cons,List.length_nil,sizeLine_eq];omega))) ?_)
    wp_walk
    refine hq h' _ h.objs.size (Heap.get?_none_of_le (Nat.le_refl _)) ne.symm ((hs.2 x ne).trans gx) n1 fun b ob hb e=>(hs.2 b (Nat.ne_of_lt (Heap.lt_size e))).trans ?_
    rw [← hg2]
    exact (Heap.get?_update_ne _ _ _ _ hb).trans (Heap.get?_push_of_some _ e)
  cases hdt:o.data with
  | cls c=>exact absurd hdt (hnc c)
  | _=>exact key
theorem znx {Q:Unit->Shared->Prop} (hC:h.get? C = some (excClassObj nm q C N bs bm true sn sub ab col dd k0 k1 k2 k3 k5 newId)) (hn:h.Ns N mN) (T:Tl h y9 ns bm) (hi:("__init__":Str) ∈ ns) (m1:mN "__setattr__" = none) (hs:("__setattr__":Str) ∈ ns) (m2:mN name = none) (hm:name ∈ ns)
    (hB:typeLookup (.type "ValueError") name = pure none) (hx:h.get? x = some o) (hc:o.cls = .ref C) (hnc:∀ c,o.data ≠ .cls c) (hd:o.dict = none)
    (hq:∀ h' tk' dx,h.get? dx = none->dx ≠ x->h'.get? x = some { o with dict:=some dx }->h'.Ns1 dx (fun y=>if y = name then some v else none)->(∀ b ob,b ≠ x->h.get? b = some ob->h'.get? b = some ob)->Q () ⟨h',g,d,tk',os⟩) :
    wpAny (model prog w) A (setAttr (.ref x) name v) Q E ⟨h,g,d,t,os⟩:=by
  have f3:=PySem.F.store_ValueError.slot.bind (.ref x)
  unfold setAttr callSpecial? specialOf
  repeat (any_goals (first | assumption | (with_reducible refine wpAny_loadPart_at hx ?_;rw [hc]) | (with_reducible refine zaw hC hn T hs PySem.F.store_ValueError.mro PySem.F.store_ValueError.slot.lookup ?_;rw [m1]) | wp_step))
  refine codeAny_call_builtin PySem.F.store_ValueError.slot.plain PySem.F.store_ValueError.entry (zgY hC T hi hx hc (zgX hC hn T m2 hm hB hx hc hnc hd fun h' tk' dx a1 a2 a3 a4 a5=>?_))
  repeat (any_goals (first | assumption | wp_step))
  exact hq h' tk' dx a1 a2 a3 a4 a5
end
end L2
namespace L2
open PySem PySem.Spec PyProof.Rows PySem.Builtin PySem.Builtin.ObjectAttr
noncomputable abbrev zU (C:Addr) (t:Addr) (od:Option Addr):Obj:=⟨.ref C,od,.fields #[.ref t,.none,.none,.none,.bool false,.none],#[]⟩
section
variable {prog:Program} {w:World} {A:Around} {E:Value->Shared->Prop} {h:Heap} {g:Array GenState} {d:Drawn} {t:Nat} {os:OsState}
variable {nm q:Str} {C N fI:Addr} {bs bm:List Value} {hdct:Bool} {sn:List Str} {sub:List Value} {ab:Bool} {col:Option Bool} {dd:Option Addr} {k0 k1 k2 k3 k5:Option Value} {mN:Str->Option Value} {rest:List Value} {oI:Obj}
theorem zgZ {Q:PySem.Fin->Shared->Prop} (hC:h.get? C = some (excClassObj nm q C N bs bm hdct sn sub ab col dd k0 k1 k2 k3 k5 "ValueError.__new__")) (hn:h.Ns N mN) (T:OwnTail h y9 bm) (hi:mN "__init__" = some (.ref fI)) (hf:h.get? fI = some oI) (hc:oI.cls = .type "function")
    (hq:∀ h' e,Heap.MadeExcOf h h' e (.ref C) rest->wpAny (model prog w) A (call (.ref fI) (.ref e :: rest)) (fun r s'=>r = .none/\Q (.done (.ret (.ref e))) s') E ⟨h',g,d,t,os⟩) (hl:rest.length<=sizeLine) :
    wpAny (model prog w) A (Builtin.«type.__call__» ⟨.ref C :: rest,[]⟩) Q E ⟨h,g,d,t,os⟩:=by
  have F:=PySem.F.excBase_ValueError
  repeat (first | with_reducible refine wpAny_loadPart_at hC ?_ | with_reducible refine wpAny_madeBy_exc hC ?_ | wp_step)
  refine codeAny_call_builtin_code (Code.quiet_builtin _ F.quiet) (wpAny_check_new_subT F T hC ?_)
  refine codeAny_exc_new_subT F T hC ?_ hl
  show wpAny _ _ _ _ _ _
  have k2:∀ b o,h.get? b = some o->((h.push ⟨.type "tuple",none,.seq rest.toArray 0,#[]⟩).push (zU C h.objs.size none)).get? b = some o:=fun b o e=>Heap.get?_push_of_some _ (Heap.get?_push_of_some _ e)
  have ge:((h.push ⟨.type "tuple",none,.seq rest.toArray 0,#[]⟩).push (zU C h.objs.size none)).get? (h.objs.size + 1) = some (zU C h.objs.size none):=by heap_get
  have hC1:=k2 _ _ hC
  have hcC:(Value.ref C :: bm).contains (.ref C) = true:=by simp
  unfold isInstance
  repeat (first | with_reducible refine wpAny_loadPart_at ge ?_ | (with_reducible refine wpAny_isSubtype_exc hC1 ?_;rw [hcC]) | wp_step)
  show wpAny _ _ (typeLookup (.ref C) _) _ _ _
  refine wpAny_typeLookup_tail hC1 (hn.keeps k2) (T.keeps k2) F.mroIs F.init.lookup ?_
  rw [hi]
  refine wpAny_holding (wpAny_bind ?_)
  unfold bindSpecial
  refine wpAny_bind (wpAny_typeOf (T:="function") ⟨_,k2 _ _ hf,hc⟩ ?_)
  rw [if_pos (by decide)]
  refine wpAny_pure (wpAny_bind (wpAny_mono (hq _ (h.objs.size + 1) ⟨k2,Heap.get?_none_of_le (Nat.le_succ _),h.objs.size,ge,Heap.get?_none_of_le (Nat.le_refl _),?_⟩) (fun r s' hr=>?_) fun _ _ x=>x))
  · exact Heap.get?_push_of_some _ (Heap.get?_push_at rfl rfl)
  · obtain ⟨rfl,hQ⟩:=hr
    wp_walk
    exact hQ
theorem zmT {Q:Value->Shared->Prop} (hC:h.get? C = some (excClassObj nm q C N bs bm hdct sn sub ab col dd k0 k1 k2 k3 k5 "ValueError.__new__")) (hn:h.Ns N mN) (T:OwnTail h y9 bm) (hi:mN "__init__" = some (.ref fI)) (hf:h.get? fI = some oI) (hc:oI.cls = .type "function")
    (hq:∀ h' e,Heap.MadeExcOf h h' e (.ref C) rest->wpAny (model prog w) (A.under (.builtin "type.__call__" ⟨.ref C :: rest,[]⟩)) (call (.ref fI) (.ref e :: rest)) (fun r s'=>r = .none/\Q (.ref e) s') E ⟨h',g,d,t,os⟩) (hl:rest.length<=sizeLine) :
    wpAny (model prog w) A (call (.ref C) rest) Q E ⟨h,g,d,t,os⟩:=by
  have f1:=tc_lookup
  have f2:=tc_bind (.ref C)
  have hT:(⟨h,g,d,t,os⟩:Shared).TypeIs (.ref C) "type":=⟨_,hC,rfl⟩
  refine wpAny_call (codeAny_of_tree ?_)
  show wpAny _ _ (callAny (.ref C) _) _ _ _
  repeat (any_goals (first | assumption | with_reducible refine wpAny_loadPart_at hC ?_ | wp_step))
  refine ⟨rfl,codeAny_call_builtin_at (Code.quiet_builtin _ (by decide +kernel)) entry_typeCall (wpAny_check_type_call_sub hC (zgZ (hl:=hl) hC hn T hi hf hc fun h' e hm=>?_))⟩
  exact hq h' e hm
theorem zlh {M:Model} {env:PySem.Env} {x:Sem Value} {s:Shared} {Q:Flow->Shared->Prop} (hb:bm.contains (.type "BaseException") = true) (hh:A.handled = none)
    (hq:wpAny M A x (fun v s1=>∃ e t od,v = .ref e/\s1.heap.get? C = some (excClassObj nm q C N bs bm hdct sn sub ab col dd k0 k1 k2 k3 k5 "ValueError.__new__")/\s1.heap.get? e = some (zU C t od)/\E (.ref e) s1) E s) :
    wpAny M A (raiseStmt env (some x) none) Q E s:=by
  have hcB:(Value.ref C :: bm).contains (.type "BaseException") = true:=by rw [List.contains_cons,hb,Bool.or_true]
  unfold raiseStmt
  refine wpAny_bind (wpAny_mono hq (fun v s1 h1=>?_) fun _ _ x=>x)
  obtain ⟨e,t,od,rfl,hC,he,hE⟩:=h1
  obtain ⟨hp,g,d,tk,os⟩:=s1
  repeat (first | with_reducible refine wpAny_loadPart_at he ?_ | with_reducible refine wpAny_loadPart_at hC ?_ | (with_reducible refine wpAny_isSubtype_exc hC ?_;rw [hcB]) | wp_step)
  exact wpAny_raiseNew_none hh hE
end
end L2
namespace L2
open PySem PySem.Spec PyProof.Rows
noncomputable def Qt {α:Type}:Sem α->Prop
  | .pure _=>True
  | .raise _=>True
  | .unsupported _=>True
  | .finish _=>True
  | .rule _ k=>Qt (k ())
  | .at _ k=>Qt (k ())
  | .load _ _ k=>∀ o,Qt (k o)
  | .update _ _ f k=>(∀ o:Obj,(f o).dict = o.dict/\(o.isFreed = false->(f o).isFreed = false))/\Qt (k ())
  | .alloc _ k=>∀ a,Qt (k a)
  | .loadIfAlive _ k=>∀ o,Qt (k o)
  | .point _ k=>Qt (k ())
  | .fresh k=>∀ a,Qt (k a)
  | .ask k=>∀ a,Qt (k a)
  | .handled _ k=>∀ a,Qt (k a)
  | .stack k=>∀ a,Qt (k a)
  | _=>False
theorem Qt.bind {α β:Type} {k:α->Sem β} (hk:∀ a,Qt (k a)):∀ {t:Sem α},Qt t->Qt (t >>= k):=by
  intro t
  induction t with
  | pure a=>exact fun _=>hk a
  | raise e=>exact fun _=>trivial
  | unsupported e=>exact fun _=>trivial
  | finish e=>exact fun _=>trivial
  | rule _ _ ih=>exact fun h=>ih () h
  | «at» _ _ ih=>exact fun h=>ih () h
  | load _ _ _ ih=>exact fun h o=>ih o (h o)
  | update _ _ _ _ ih=>exact fun h=>⟨h.1,ih () h.2⟩
  | alloc _ _ ih=>exact fun h o=>ih o (h o)
  | loadIfAlive _ _ ih=>exact fun h o=>ih o (h o)
  | point _ _ ih=>exact fun h=>ih () h
  | fresh _ ih=>exact fun h o=>ih o (h o)
  | ask _ ih=>exact fun h o=>ih o (h o)
  | handled _ _ ih=>exact fun h o=>ih o (h o)
  | stack _ ih=>exact fun h o=>ih o (h o)
  | _=>exact fun h=>h.elim
noncomputable def Dk (s s':Shared):Prop:=∀ b o,s.heap.get? b = some o->∃ o',s'.heap.get? b = some o'/\o'.dict = o.dict
theorem Dk.refl (s:Shared):Dk s s:=fun _ o e=>⟨o,e,rfl⟩
theorem Dk.trans {a b c:Shared} (h:Dk a b) (g:Dk b c):Dk a c:=fun x o e=>by
  obtain ⟨o1,e1,d1⟩:=h x o e
  obtain ⟨o2,e2,d2⟩:=g x o1 e1
  exact ⟨o2,e2,d2.trans d1⟩
theorem Qt.wp {α:Type} {M:Model} {Γ:PySem.Ctx} {Q:α->Pos->Shared->Prop} {E:Value->Pos->Shared->Prop}:∀ {t:Sem α} {p:Pos} {s:Shared},Qt t->Sem.wp M Γ t Q E p s->Sem.wp M Γ t (fun a p' s'=>Q a p' s'/\Dk s s') (fun e p' s'=>E e p' s'/\Dk s s') p s:=by
  have up:∀ {t:Sem α} {p:Pos} {s s1:Shared},Dk s s1->Sem.wp M Γ t (fun a p' s'=>Q a p' s'/\Dk s1 s') (fun e p' s'=>E e p' s'/\Dk s1 s') p s1->Sem.wp M Γ t (fun a p' s'=>Q a p' s'/\Dk s s') (fun e p' s'=>E e p' s'/\Dk s s') p s1:=fun k h=>
    Sem.wp_mono M Γ _ (fun _ _ _ z=>⟨z.1,k.trans z.2⟩) (fun _ _ _ z=>⟨z.1,k.trans z.2⟩) _ _ h
  intro t
  induction t with
  | pure a=>exact fun _ h=>⟨h,.refl _⟩
  | raise e=>exact fun _ h=>⟨h,.refl _⟩
  | unsupported e=>exact fun _ h=>h
  | finish e=>exact fun _ h=>h
  | rule _ _ ih=>exact fun q h=>ih () q h
  | «at» _ _ ih=>exact fun q h=>ih () q h
  | load _ _ _ ih=>exact fun q ⟨o,e,h⟩=>⟨o,e,ih o (q o) h⟩
  | update a _ f _ ih=>
    intro p s q ⟨e,h⟩
    refine ⟨e,up (fun b o eb=>?_) (ih () q.2 h)⟩
    by_cases hb:b = a
    · subst hb
      exact ⟨f o,Heap.get?_update_self _ eb ((q.1 o).2 (Heap.get?_some_iff.mp eb).2),(q.1 o).1⟩
    · exact ⟨o,(Heap.get?_update_ne _ _ _ _ hb).trans eb,rfl⟩
  | alloc ob _ ih=>
    intro p s q h
    exact up (s:=s) (s1:={ s with heap:=s.heap.push ob }) (fun b o eb=>⟨o,Heap.get?_push_of_some _ eb,rfl⟩) (ih _ (q _) h)
  | loadIfAlive _ _ ih=>exact fun q h=>ih _ (q _) h
  | point _ _ ih=>exact fun q h=>ih () q h
  | fresh _ ih=>
    intro p s q h
    exact up (s:=s) (s1:={ s with toks:=s.toks + 1 }) (fun b o eb=>⟨o,eb,rfl⟩) (ih _ (q _) h)
  | ask _ ih=>exact fun q h=>ih _ (q _) h
  | handled _ _ ih=>exact fun q h=>ih _ (q _) h
  | stack _ ih=>exact fun q h=>ih _ (q _) h
  | _=>exact fun q _=>q.elim
theorem Qt.any {α:Type} {M:Model} {A:Around} {t:Sem α} {Q:α->Shared->Prop} {E:Value->Shared->Prop} {s:Shared} (q:Qt t) (h:wpAny M A t Q E s):wpAny M A t (fun a s'=>Q a s'/\Dk s s') (fun e s'=>E e s'/\Dk s s') s:=fun Γ p hΓ=>q.wp (h Γ p hΓ)
theorem zga {v:Value}:Qt (fieldsOf v):=by
  unfold fieldsOf
  split
  · exact Qt.bind (fun o=>by split <;> exact trivial) (fun _=>trivial)
  · exact trivial
theorem zbl {v:Value} {i:Nat}:Qt (field v i):=by
  unfold field
  exact Qt.bind (fun vs=>by split <;> exact trivial) zga
theorem zlu {f:Array Value->Array Value} (o:Obj):(Obj.mapFields f o).dict = o.dict/\(o.isFreed = false->(Obj.mapFields f o).isFreed = false):=by
  obtain ⟨c,d,dt,sl⟩:=o
  cases dt <;> exact ⟨rfl,fun h=>h⟩
theorem zaY {v x:Value} {i:Nat}:Qt (setField v i x):=by
  unfold setField
  split
  · unfold updateField
    refine Qt.bind (fun o=>?_) (fun _=>trivial)
    split
    · split
      · exact ⟨zlu,trivial⟩
      · exact trivial
    · exact trivial
  · exact trivial
theorem zat {e:Value} {f:Option Addr}:Qt (setFlight e f):=by
  unfold setFlight
  refine Qt.bind (fun tb=>?_) zbl
  split
  · exact zaY
  · exact trivial
theorem zfe:∀ l:List PySem.Env,Qt (readyFrames l)
  | []=>trivial
  | env :: outer=>by
    unfold readyFrames
    split
    · rename_i f _
      refine Qt.bind (fun o=>?_) (fun _=>trivial)
      split
      · exact trivial
      · refine Qt.bind (fun b=>Qt.bind (fun k=>?_) ?_) ?_
        · exact ⟨fun o=>⟨rfl,fun h=>by obtain ⟨c,d,dt,sl⟩:=o;cases dt <;> exact h⟩,zfe outer⟩
        · unfold keptBack
          split
          · split
            · exact trivial
            · unfold underTheClaimsCaller
              exact fun _=>trivial
          · exact trivial
        · unfold behindIsImport
          split
          · exact trivial
          · split
            · exact trivial
            · refine Qt.bind (fun _=>?_) zbl
              exact trivial
    · exact trivial
theorem zhg {env:PySem.Env}:Qt (PySem.frameOf env):=by
  unfold PySem.frameOf
  refine Qt.bind (fun l=>Qt.bind (fun o=>?_) ?_) (show Qt frameEnvs from fun _=>trivial)
  · split <;> exact trivial
  · unfold frameObject
    split
    · exact trivial
    · refine Qt.bind (fun _=>?_) (zfe _)
      exact trivial
theorem zf9 {a b c d e:Value} {l:List Value}:Qt (EntryCells.newEntry a b c d e l):=by
  have nw:∀ dt:Data,Qt (newObjAsIs (.type "traceback") dt):=fun dt _=>trivial
  unfold EntryCells.newEntry newFields newObj
  dsimp only
  generalize (if l.isEmpty = true then List.replicate 6 Value.none else l) = m
  split
  · exact trivial
  · exact nw _
theorem zi4 {f:Addr} {b:Bool}:Qt (entryPlaceOf f b):=by
  unfold entryPlaceOf
  refine Qt.bind (fun l=>?_) (fun _=>trivial)
  split <;> exact trivial
theorem zgt {e:Value} {env:PySem.Env}:Qt (noteFrame e env):=by
  unfold noteFrame
  split
  · rename_i f _
    refine Qt.bind (fun hd=>?_) zbl
    have last:Qt (PySem.frameOf env >>= fun a=>entryPlaceOf f (hd != .none) >>= fun p=>EntryCells.newEntry hd a .none (rawInt f) .none p >>= fun n=>setField e 1 n):=Qt.bind (fun a=>Qt.bind (fun p=>Qt.bind (fun n=>zaY) zf9) zi4) zhg
    dsimp only
    split
    · refine Qt.bind (fun x=>?_) zbl
      split
      · exact trivial
      · exact Qt.bind (fun _=>last) zaY
    · exact last
  · exact trivial
theorem zhf {e:Value} {env:PySem.Env}:Qt (leaving env e):=by
  unfold leaving
  exact Qt.bind (fun _=>zat) zgt
end L2
namespace L2
open PySem PySem.Spec PyProof.Rows
noncomputable def ExO (e C:Addr) (od:Option Addr):Heap->Prop:=fun h=>∃ ob,h.get? e = some ob/\ob.cls = .ref C/\ob.dict = od/\∀ c,ob.data ≠ .cls c
noncomputable def ExN (e C t:Addr) (od:Option Addr):Heap->Prop:=fun h=>h.get? e = some (zU C t od)
theorem zmL {P:Program} {w:World} {H:Hp} {h:Heap} {e C:Addr} {od:Option Addr} (x:ExO e C od h):ObjOk P w H h e (.ext (ExO e C od)):=
  ⟨x,let ⟨ob,q,_⟩:=x;⟨ob,q⟩,fun _ _ ⟨ob,q,c⟩ k=>⟨ob,k _ q,c⟩⟩
theorem ziv {P:Program} {w:World} {H:Hp} {h:Heap} {e C t:Addr} {od:Option Addr} (x:ExN e C t od h):ObjOk P w H h e (.ext (ExN e C t od)):=
  ⟨x,⟨_,x⟩,fun _ _ q k=>k _ q⟩
noncomputable def qA (H:Hp) (e:Addr):Hp:=fun b=>if b = e then none else H b
theorem qQ {H:Hp} {e b:Addr} (h:b ≠ e):qA H e b = H b:=if_neg h
theorem zeg {H:Hp} {e:Addr}:qA H e e = none:=if_pos rfl
section
variable {X:Cx} {pins:List (Addr × Obj)} {σ:St} {H:Hp} {s:Shared} {e:Addr}
theorem Inv.take {o:HO} (I:Inv X pins σ H s) (h0:X.s₀.heap.get? e = none) (hn:H e = none) (hl:e ≠ X.env.locals) (hc:∀ x c,X.env.cells.lookup x = some c->c ≠ e) (hp:∀ p ∈ X.pn ++ pins,p.1 ≠ e) (new:ObjOk X.prog X.w (upd H e o) s.heap e o):Inv X pins σ (upd H e o) s:=by
  have ne:∀ b ob,X.s₀.heap.get? b = some ob->b ≠ e:=fun b ob q z=>by rw [z,h0] at q;cases q
  have nh:∀ b u,H b = some u->b ≠ e:=fun b u q z=>by rw [z,hn] at q;cases q
  refine ⟨I.ok,I.os,I.bare,⟨I.base.keep,I.base.slot,fun b ob q n x=>by rw [qd (ne b ob q)];exact I.base.free b ob q n x,I.base.there,fun b xs q=>?_,fun b u xs q=>?_,fun b ps q=>?_⟩,I.loc,I.cell,by rw [qd hl.symm];exact I.free,fun x c q=>by rw [qd (hc x c q)];exact I.freeC x c q,fun p q=>?_,?_,I.len⟩
  · have:=I.base.tups b xs q;rw [qd (nh b _ this)];exact this
  · have:=I.base.frzs b u xs q;rw [qd (nh b _ this)];exact this
  · obtain ⟨m,this⟩:=I.base.tbls b ps q;exact ⟨m,by rw [qd (nh b _ this)];exact this⟩
  · obtain ⟨a,b,c⟩:=I.pin p q
    exact ⟨a,by rw [qd (hp p q)];exact b,c⟩
  · intro b u q
    by_cases hb:b = e
    · subst hb;rw [qf] at q;cases q;exact new
    · rw [qd hb] at q
      exact (I.hok b u q).stay (fun _ _ _ z=>z) (fun c z=>by rw [qd (nh c _ z)];exact z) fun c xs z=>by rw [qd (nh c _ z)];exact z
theorem Inv.let {φ:Heap->Prop} (I:Inv X pins σ H s) (he:H e = some (.ext φ)):Inv X pins σ (qA H e) s:=by
  have nh:∀ b u,H b = some u->(∀ ψ,u ≠ .ext ψ)->b ≠ e:=fun b u q n z=>by rw [z,he] at q;cases q;exact n φ rfl
  have nn:∀ b,H b = none->qA H e b = none:=fun b q=>by
    unfold qA
    split
    · rfl
    · exact q
  refine ⟨I.ok,I.os,I.bare,⟨I.base.keep,I.base.slot,fun b ob q n x=>nn b (I.base.free b ob q n x),I.base.there,fun b xs q=>?_,fun b u xs q=>?_,fun b ps q=>?_⟩,I.loc,I.cell,nn _ I.free,fun x c q=>nn _ (I.freeC x c q),fun p q=>?_,?_,I.len⟩
  · have:=I.base.tups b xs q;rw [qQ (nh b _ this (fun _ z=>by cases z))];exact this
  · have:=I.base.frzs b u xs q;rw [qQ (nh b _ this (fun _ z=>by cases z))];exact this
  · obtain ⟨m,this⟩:=I.base.tbls b ps q;exact ⟨m,by rw [qQ (nh b _ this (fun _ z=>by cases z))];exact this⟩
  · obtain ⟨a,b,c⟩:=I.pin p q
    exact ⟨a,nn _ b,c⟩
  · intro b u q
    by_cases hb:b = e
    · subst hb;rw [zeg] at q;cases q
    · rw [qQ hb] at q
      exact (I.hok b u q).stay (fun _ _ _ z=>z) (fun c z=>by rw [qQ (nh c _ z (fun _ y=>by cases y))];exact z) fun c xs z=>by rw [qQ (nh c _ z (fun _ y=>by cases y))];exact z
end
noncomputable def CXX (P:Program) (w:World):CXT:=fun l H s E ev s'=>∃ (e t C:Addr) (oe:Obj) (B:Heap) (H':Hp),ev = .ref e/\Heap.FlyingW B l e (.ref C) (.ref t) s'.heap/\s'.heap.get? e = some oe/\s'.os = s.os/\AllBare s'.gens /\
  Un (frs l) [] H H' s.heap s'.heap/\HOk P w H' s'.heap/\(∀ b o,s'.heap.get? b = some o->b ∉ frs l->(H' b ≠ none\/∃ o',s.heap.get? b = some o')->B.get? b = some o)/\(∀ b ∈ frs l,H' b = none)/\E (.ref C) oe.dict H'
section
variable {X:Cx} {E:XK} {pins:List (Addr × Obj)} {σ:St} {H:Hp} {s:Shared}
theorem zk2 {s1:Shared} {e t C:Addr} {B:Heap} {od:Option Addr} (I:Inv X pins σ H s) (hst:X.stack = X.env :: X.outer) (hf:X.env.frame = some X.env.locals) (hex:X.ex = [])
    (hE:E (.ref C) od H) (hB:∀ b o,s.heap.get? b = some o->b ∉ frs X.stack->(H b ≠ none\/∃ o',X.s₀.heap.get? b = some o')->B.get? b = some o) (fl:Heap.FlyingW B X.outer e (.ref C) (.ref t) s1.heap) (up:s.heap.UpToSlots s1.heap) (hd:∃ oe,s1.heap.get? e = some oe/\oe.dict = od)
    (os:s1.os = s.os) (ge:s1.gens = s.gens):CXX X.prog X.w X.outer X.H₀ X.s₀ E (.ref e) s1:=by
  obtain ⟨oe,he,hod⟩:=hd
  have u0:Un (frs X.outer) [] X.H₀ H X.s₀.heap s.heap:=by have:=I.base;rw [hex] at this;exact this
  have sub1:∀ b ∈ frs X.outer,b ∈ frs X.stack:=fun b hb=>by
    rw [hst];unfold frs
    rw [List.filterMap_cons,hf]
    exact List.mem_cons_of_mem _ hb
  have nst:∀ b o,s.heap.get? b = some o->b ∉ frs X.outer->(H b ≠ none\/∃ o',X.s₀.heap.get? b = some o')->b ∉ frs X.stack:=fun b o e1 n1 q1 hm=>by
    rw [hst] at hm
    unfold frs at hm
    rw [List.filterMap_cons,hf] at hm
    rcases List.mem_cons.mp hm with z | z
    · rcases q1 with q1 | ⟨o',q1⟩
      · rw [z] at q1;exact q1 I.free
      · rw [z] at q1;exact absurd (Heap.lt_size q1) (Nat.not_lt.mpr I.ok.above)
    · exact n1 z
  have hB1:∀ b o,s.heap.get? b = some o->b ∉ frs X.outer->(H b ≠ none\/∃ o',X.s₀.heap.get? b = some o')->B.get? b = some o:=fun b o e1 n1 q1=>hB b o e1 (nst b o e1 n1 q1) q1
  have hfr:∀ b ∈ frs X.outer,H b = none:=fun b hb=>I.stkFree b (sub1 b hb)
  have hfn:∀ b ∈ frs X.outer,∀ o,s.heap.get? b = some o->∀ vs,o.data ≠ .fields vs:=fun b hb o e1=>by
    obtain ⟨_,o',e2,n2⟩:=I.stack.mem (sub1 b hb)
    rw [e1] at e2;cases e2
    exact n2
  obtain ⟨un2,hok2⟩:=zjI u0 I.hok hB1 hfr hfn fl.1 up
  refine ⟨e,t,C,oe,B,H,rfl,fl,he,os.trans I.os,by rw [ge];exact I.bare,un2,hok2,fun b o e1 n1 q1=>?_,hfr,by rw [hod];exact hE⟩
  have hex2:∃ o1,s.heap.get? b = some o1:=by
    rcases q1 with q1 | ⟨o',q1⟩
    · cases z:H b with
      | none=>exact absurd z q1
      | some u=>exact (I.hok b u z).there
    · exact u0.there b o' q1 (by simp)
  obtain ⟨o1,e2⟩:=hex2
  have e3:=hB1 b o1 e2 n1 q1
  have e4:=fl.1 b o1 e3
  rw [e1] at e4;cases e4
  exact e3
theorem zk3 {e t C:Addr} {od:Option Addr} (I:Inv X pins σ H s) (hst:X.stack = X.env :: X.outer) (hf:X.env.frame = some X.env.locals) (hex:X.ex = [])
    (hxe:X.xe = fun ev s'=>wpAny (model X.prog X.w) X.A (leaving X.env ev) (fun _ s''=>CXX X.prog X.w X.outer X.H₀ X.s₀ E ev s'') (fun e' s''=>CXX X.prog X.w X.outer X.H₀ X.s₀ E e' s'') s')
    (he:s.heap.get? e = some (zU C t od)) (hn:H e = none) (h0:X.s₀.heap.get? e = none) (hE:E (.ref C) od H):X.xe (.ref e) s:=by
  rw [hxe]
  have hfrm:X.A.frames = some (X.env :: X.outer):=by rw [I.ok.frames,hst]
  have hff:s.heap.FunFrames X.base (X.env :: X.outer):=by have:=I.stack;rw [hst] at this;exact this
  have hin:∀ env ∈ (X.env :: X.outer),∀ b,env.frame = some b->b ∈ e :: frs (X.env :: X.outer):=fun env he b hb=>List.mem_cons_of_mem _ (List.mem_filterMap.mpr ⟨env,he,hb⟩)
  have w1:=zhf.any (wpAny_leaving_firstW (M:=model X.prog X.w) (E:=fun _ _=>False) (base:=PySem.W.hideAll s.heap (e :: frs (X.env :: X.outer))) (a0:=.ref t) (Q:=fun _ s2=>∃ h',s2 = { s with heap:=h' }/\Heap.LeftW (PySem.W.hideAll s.heap (e :: frs (X.env :: X.outer))) (X.env :: X.outer) e (.ref C) (.ref t) s.heap h') hfrm (PySem.W.funFrames_hide hff hin) hf he (fun b o e1=>PySem.W.of_hideAll _ e1) (PySem.W.hideAll_none _ (List.mem_cons_self ..)) rfl rfl rfl fun h' a=>⟨h',rfl,a⟩)
  refine wpAny_mono w1 ?_ fun _ _ z=>z.1.elim
  rintro _ s2 ⟨⟨h',rfl,k1,⟨_,_,k2⟩,k3,k4⟩,dk⟩
  refine zk2 (s1:={ s with heap:=h' }) I hst hf hex hE (fun b o e1 n1 q1=>?_) ⟨k1,PySem.W.hideAll_none _ (List.mem_cons_self ..),k2,k3⟩ k4 (dk e _ he) rfl rfl
  refine PySem.W.hideAll_get _ e1 fun hm=>?_
  rcases List.mem_cons.mp hm with z | z
  · rcases q1 with q1 | ⟨o',q1⟩
    · rw [z] at q1;exact q1 hn
    · rw [z,h0] at q1;cases q1
  · rw [hst] at n1;exact n1 z
end
end L2
namespace L2
open PySem PySem.Spec PyProof.Rows
noncomputable abbrev xns:List Str:=["__setattr__","at","__getattribute__","__getattr__"]
structure XcAt (K:PySem.W.Frag) (mg:Str->Option Value) (x:Str) (C fI:Addr):Prop where
  bound:mg x = some (.ref C)
  obj:∀ h:Heap,K.In h->∃ bm N nm q bs sn sub ab col dd k0 k1 k2 k3 k5 mN,h.get? C = some (excClassObj nm q C N bs bm true sn sub ab col dd k0 k1 k2 k3 k5 "ValueError.__new__")/\h.Ns N mN/\mN "__init__" = some (.ref fI)/\(∀ n ∈ xns,mN n = none)/\Tl h y9 ("__init__" :: xns) bm
  fn:∃ oI,K.lookup fI = some oI/\oI.cls = .type "function"
theorem zgF:typeLookup (.type "ValueError") "at" = pure none:=by rw [typeLookup_type,builtinLookup_eq_fast];kernel_rfl
section
variable {X:Cx} {E:XK} {o value:Expr} {ta tv:TE} {pos pos':Pos}
theorem Inv.new0 {pins:List (Addr × Obj)} {σ:St} {H:Hp} {s:Shared} {e:Addr} (I:Inv X pins σ H s) (hex:X.ex = []) (he:s.heap.get? e = none):X.s₀.heap.get? e = none/\H e = none/\e ≠ X.env.locals/\(∀ x c,X.env.cells.lookup x = some c->c ≠ e)/\∀ p ∈ X.pn ++ pins,p.1 ≠ e:=by
  refine ⟨?_,?_,fun z=>?_,fun x c q z=>?_,fun p q z=>?_⟩
  · cases q:X.s₀.heap.get? e with
    | none=>rfl
    | some u=>
      obtain ⟨o',e'⟩:=I.base.there e u q (by rw [hex];simp)
      rw [he] at e';cases e'
  · cases q:H e with
    | none=>rfl
    | some u=>
      obtain ⟨o',e'⟩:=(I.hok e u q).there
      rw [he] at e';cases e'
  · obtain ⟨m,⟨ob,_,_,e',_⟩,_⟩:=I.loc
    rw [← z,he] at e';cases e'
  · obtain ⟨v,ob,e',_⟩:=I.cell x c q
    rw [z,he] at e';cases e'
  · have:=(I.pin p q).1
    rw [z,he] at this;cases this
theorem zlz (hex:X.ex = []) (ha:PE X o ta) (hv:PE X value tv) (hs:swapsWith value (some (.Attribute o "at" pos')) pos.line X.env = pure false:=by rfl):PS X (.Assign [.Attribute o "at" pos'] value pos)
    (fun D σ H=>tv σ H fun y H1=>ta σ H1 fun x H2=>∃ e C fI t nm,x = .ref e/\XcAt X.K X.mg nm C fI/\H2 e = some (.ext (ExN e C t none))/\∀ d,H2 d = none->d ≠ e->D.nx σ (upd (upd H2 e (.ext (ExN e C t (some d)))) d (.xd [("at",y)]))):=by
  intro pins s σ H D I h
  refine plainObj_wpAny_Assign_Attribute (thn (hv pins s σ H _ I h) fun u s1 ⟨y,H1,I1,ry,q⟩=>thn (ha pins s1 σ H1 _ I1 q) fun ov s2 ⟨x,H2,I2,rx,e,C,fI,t,nm,ex,O,ee,q2⟩=>?_) hs
  subst ex
  obtain rfl:ov = Value.ref e:=rx
  obtain ⟨bm,N,nm,q,bs,sn,sub,ab,col,dd,k0,k1,k2,k3,k5,mN,hC,hN,hi,hno,T⟩:=O.obj s2.heap I2.kIn
  obtain ⟨g0,_,_⟩:=I2.hok e _ ee
  have g0:s2.heap.get? e = some (zU C t none):=g0
  obtain ⟨h2,ge,dr,tk,os⟩:=s2
  refine znx hC hN T (by decide) (hno _ (by decide)) (by decide) (hno _ (by decide)) (by decide) zgF g0 rfl (fun c z=>by cases z) rfl fun h' tk' dx a1 a2 a3 a4 a5=>?_
  have I3:Inv X pins σ (upd H2 e (.ext (ExN e C t (some dx)))) ⟨h',ge,dr,tk',os⟩:=I2.write (t':=tk') (by rw [ee];trivial) (.inl rfl) (fun b u nb e'=>a5 b u nb e') ⟨_,a3⟩ (ziv a3)
  obtain ⟨b1,b2,b3,b4,b5⟩:=I2.new0 hex a1
  have I4:Inv X pins σ (upd (upd H2 e (.ext (ExN e C t (some dx)))) dx (.xd [("at",y)])) ⟨h',ge,dr,tk',os⟩:=I3.take b1 (by rw [qd a2];exact b2) b3 b4 b5 ⟨_,a4,fun f=>by
    by_cases hf:f = "at"
    · subst hf;exact ry
    · rw [if_neg hf]
      show RelO (List.lookup f [("at",y)]) none
      rw [List.lookup_cons]
      simp only [beq_eq_false_iff_ne.mpr hf,List.lookup_nil]
      trivial⟩
  exact ⟨σ,_,I4,q2 dx b2 a2⟩
end
end L2
namespace L2
open PySem PySem.Spec PyProof.Rows
theorem zkI {P:Program} {w:World} {K:PySem.W.Frag} {mg:Str->Option Value} {base:Heap} {x qual:Str} {st:Stmt} {C f:Addr} {fd:FuncData} {p1 p2 p3 p4:Pos} (O:XcAt K mg x C f) (F:Fun K "__init__" qual st f fd) (S:FnScope ["self","at"] ["self","at"] (zd st))
    (hb:zn st = [.Assign [.Attribute (.Name "self" p1) "at" p2] (.Name "at" p3) p4]) (l1:(zd st).names.lookup ("self":Str) = some NameKind.local) (l2:(zd st).names.lookup ("at":Str) = some NameKind.local) :
    FnOk P w K mg base CX0 1 f fd ["self","at"] (fun vs H Q E=>(∃ e t v,vs = [.ref e,v]/\H e = some (.ext (ExN e C t none))/\∀ d,H d = none->d ≠ e->Q .non (upd (upd H e (.ext (ExN e C t (some d)))) d (.xd [("at",v)])))):=by
  refine F.ok S (fun vs H Q E ⟨e,t,v,h,_⟩=>by rw [h];rfl) fun cdv A outer s H vs Q E hr ⟨e,t,v,h1,h2,h3⟩=>?_
  subst h1
  rw [hb]
  refine ⟨_,zgv (zlz rfl (zfh (i:=0) rfl (.inl l1)) (zfh (i:=1) rfl (.inl l2))),?_⟩
  exact ⟨v,rfl,.ref e,rfl,e,C,f,t,x,rfl,O,h2,h3⟩
end L2
namespace L2
open PySem PySem.Spec PyProof.Rows
section
variable {prog:Program} {w:World} {A:Around} {E:Value->Shared->Prop} {s:Shared} {env:PySem.Env}
variable {nm q:Str} {C N:Addr} {bs bm:List Value} {hdct:Bool} {sn:List Str} {sub:List Value} {ab:Bool} {col:Option Bool} {dd:Option Addr} {k0 k1 k2 k3 k5:Option Value}
theorem zhe {x:Str} {np cpos pos:Pos} {args:List Expr} {Q:Flow->Shared->Prop} (hb:bm.contains (.type "BaseException") = true) (hh:A.handled = none) (hp:(backTo cpos (starEach args env)).any (·.1) = false)
    (h:wpAny (model prog w) A (eval (.Name x np) env) (fun f s1=>f = .ref C/\wpAny (model prog w) A (evalArgs (.ref C) true (backTo cpos (starEach args env)) []) (fun a s2=>a.kw = []/\s2.heap.get? C = some (excClassObj nm q C N bs bm hdct sn sub ab col dd k0 k1 k2 k3 k5 "ValueError.__new__") /\
      wpAny (model prog w) A (call (.ref C) a.pos) (fun v s3=>∃ e t od,v = .ref e/\s3.heap.get? C = some (excClassObj nm q C N bs bm hdct sn sub ab col dd k0 k1 k2 k3 k5 "ValueError.__new__")/\s3.heap.get? e = some (zU C t od)/\E (.ref e) s3) E s2) E s1) E s) :
    wpAny (model prog w) A (exec (.Raise (some (.Call (.Name x np) args [] cpos)) none pos) env) Q E s:=by
  rw [arm_exec_Raise]
  refine wpAny_bind (wpAny_standAt (zlh (C:=C) (nm:=nm) (q:=q) (N:=N) (bs:=bs) (bm:=bm) (hdct:=hdct) (sn:=sn) (sub:=sub) (ab:=ab) (col:=col) (dd:=dd) (k0:=k0) (k1:=k1) (k2:=k2) (k3:=k3) (k5:=k5) hb hh ?_))
  try simp only [evalOpt,Option.map]
  refine wpAny_bind (wpAny_mono (wpAny_Call_ofName (wpAny_mono h (fun f s1 h1=>?_) fun _ _ y=>y)) (fun v s3 h3=>wpAny_bind (wpAny_standAt (wpAny_pure h3))) fun _ _ y=>y)
  obtain ⟨rfl,h1⟩:=h1
  unfold callWith
  refine wpAny_bind (wpAny_holding (wpAny_mono h1 (fun a s2 h2=>wpAny_bind (wpAny_standAt ?_)) fun _ _ y=>y))
  obtain ⟨ap,ak⟩:=a
  obtain ⟨hkw,hC,h2⟩:=h2
  obtain rfl:ak = []:=hkw
  obtain ⟨hp',g,d,tk,os⟩:=s2
  simp only [hp]
  refine wpAny_bind (wpAny_keeperOf_exc hC (wpAny_bind (wpAny_mono h2 (fun v s3 h3=>wpAny_bind (wpAny_holding (wpAny_point (wpAny_pure ?_)))) fun _ _ y=>y)))
  exact h3
end
section
variable {X:Cx} {C f:Addr} {x:Str} {E:XK} {e:Expr} {ta:TA} {np cpos pos:Pos} {fd:FuncData}
theorem zh6 (O:XcAt X.K X.mg x C f) (F:FnOk X.prog X.w X.K X.mg X.base CX0 1 f fd ["self","at"] (fun vs H Q E=>(∃ e t v,vs = [.ref e,v]/\H e = some (.ext (ExN e C t none))/\∀ d,H d = none->d ≠ e->Q .non (upd (upd H e (.ext (ExN e C t (some d)))) d (.xd [("at",v)])))))
    (hbd:Binds X.K fd ["self","at"] []) (hr:Room 2 X.A) (hg:Gl X x) (hst:X.stack = X.env :: X.outer) (hf:X.env.frame = some X.env.locals) (hex:X.ex = [])
    (hxe:X.xe = fun ev s'=>wpAny (model X.prog X.w) X.A (leaving X.env ev) (fun _ s''=>CXX X.prog X.w X.outer X.H₀ X.s₀ E ev s'') (fun e' s''=>CXX X.prog X.w X.outer X.H₀ X.s₀ E e' s'') s')
    (ha:PA X [e] ta) (hd:(x == ("__debug__":Str)) = false:=by decide) (he:starEach [e] X.env = [(false,eval e X.env)]:=by rfl) :
    PS X (.Raise (some (.Call (.Name x np) [e] [] cpos)) none pos) (fun _ σ H=>ta σ H fun vs H1=>∃ v,vs = [v]/\∀ d,H1 d = none->E (.ref C) (some d) (upd H1 d (.xd [("at",v)]))):=by
  intro pins s σ H D I h
  obtain ⟨bm,N,nm,q,bs,sn,sub,ab,col,dd,k0,k1,k2,k3,k5,mN,hC,hN,hi,hno,T⟩:=O.obj X.base I.ok.mod.kin
  have Tt:=T.tail (by decide)
  refine zhe (C:=C) (nm:=nm) (q:=q) (N:=N) (bs:=bs) (bm:=bm) (hdct:=true) (sn:=sn) (sub:=sub) (ab:=ab) (col:=col) (dd:=dd) (k0:=k0) (k1:=k1) (k2:=k2) (k3:=k3) (k5:=k5) (Tt.hasType PySem.F.excBase_ValueError.hasBase) hr.hd (by rw [he];rfl) (zci I hg O.bound ⟨rfl,?_⟩ hd)
  have hq:=ha cpos pins s σ H _ I h
  rw [he] at hq ⊢
  refine Calls.evalArgs_plain (wpAny_mono hq (fun us s2 ⟨vs,H2,I2,r2,v,ev,hE⟩=>?_) fun _ _ y=>y)
  subst ev
  obtain ⟨u,rfl,ru⟩:∃ u,us = [u]/\RelV v u:=by
    cases r2 with
    | cons a b=>cases b;exact ⟨_,rfl,a⟩
  obtain ⟨oI,fk,fc⟩:=O.fn
  have hC2:=I2.bk _ _ hC
  refine ⟨rfl,hC2,?_⟩
  obtain ⟨h2,g2,d2,t2,os2⟩:=s2
  refine zmT hC2 (hN.keeps I2.bk) (Tt.keeps I2.bk) hi (I2.kIn _ _ fk) fc (fun h' e hm=>?_) (by show 1<=sizeLine;decide)
  obtain ⟨t,ge,_,_⟩:=hm.there
  obtain ⟨b1,b2,b3,b4,b5⟩:=I2.new0 hex hm.new
  have I3:Inv X pins σ H2 ⟨h',g2,d2,t2,os2⟩:=I2.kept (t':=t2) hm.keeps
  have I4:Inv X pins σ (upd H2 e (.ext (ExN e C t none))) ⟨h',g2,d2,t2,os2⟩:=I3.take b1 b2 b3 b4 b5 (ziv ge)
  refine wpAny_call (codeAny_mono (F.run _ X.stack _ _ ⟨[.ref e,u],[]⟩ [.ref e,u] [.ref e,v] (fun w H'=>w = .non/\∃ d,H2 d = none/\d ≠ e/\H' = upd (upd (upd H2 e (.ext (ExN e C t none))) e (.ext (ExN e C t (some d)))) d (.xd [("at",v)])) E0 (hr.make C [u] []) (I4.env0.make C [u] []) (hbd _ [.ref e,u] I4.kIn rfl) (.cons rfl (.cons ru .nil)) ⟨e,t,v,rfl,qf,fun d hd ne=>⟨rfl,d,by rw [qd ne] at hd;exact hd,ne,rfl⟩⟩) fun r s' hr'=>?_)
  cases r with
  | error ee=>exact hr'.elim
  | ok fl=>
    cases fl with
    | next=>exact hr'.elim
    | brk=>exact hr'.elim
    | cont=>exact hr'.elim
    | ret u'=>
      obtain ⟨w',H5,os,bare,un,hok,rw',rfl,d,hd2,ne,eH⟩:=hr'
      have I5:Inv X pins σ H5 s':=I4.call' (ch:=[]) os un hok bare (fun b z=>absurd z (by simp))
      have e5:H5 e = some (.ext (ExN e C t (some d))):=by rw [eH,qd ne.symm,qf]
      have ge5:s'.heap.get? e = some (zU C t (some d)):=(I5.hok e _ e5).1
      have I6:=I5.let e5
      have eq:qA H5 e = upd H2 d (.xd [("at",v)]):=by
        funext b
        rw [eH]
        by_cases hb:b = e
        · subst hb;rw [zeg,qd ne.symm,b2]
        · rw [qQ hb]
          by_cases hd':b = d
          · subst hd';rw [qf,qf]
          · rw [qd hd',qd hb,qd hb,qd hd']
      rw [eq] at I6
      refine ⟨rw',e,t,some d,rfl,I6.bk _ _ hC,ge5,?_⟩
      exact zk3 I6 hst hf hex hxe ge5 (by rw [qd ne.symm];exact b2) b1 (hE d hd2)
end
end L2
namespace L2
open PySem PySem.Spec PyProof.Rows
section
variable {X:Cx} {pins:List (Addr × Obj)} {σ:St} {H:Hp} {s:Shared}
theorem zcm {M:Model} {A:Around} {E:Value->Shared->Prop} {j:Nat} {n:Str} {p:Pos} {Q:Unit->Shared->Prop} (I:Inv X pins σ H s) (hN:X.N.Nodup) (hj:X.N[j]? = some n) (hk:X.env.scope.names.lookup n = some .local) (h:∀ s',Inv X pins (σ.set j none) H s'->Q () s') :
    wpAny M A (do bindName X.env n .none;unbindBehindTheSuite X.env n p) Q E s:=by
  refine wpAny_bind (wpAny_bindName (zan (v:=.non) I hN hj (.inl hk) rfl (fun s1 I1=>?_) (.inr hk)))
  unfold unbindBehindTheSuite
  refine wpAny_onRaise ?_
  unfold unbindName
  refine wpAny_bind (wpAny_point (wpAny_bind ?_))
  have hp:(X.env.scope.kind == .class || (X.env.scope.kind == .module && X.env.locals != X.env.globals)) = false:=by rw [I.ok.kind];rfl
  have hkd:X.env.kindOf n = some .local:=hk
  unfold deleteName
  simp only [hkd,hp]
  rw [if_neg (by decide)]
  obtain ⟨m,hn,hl⟩:=id I1.loc
  have hjσ:j < σ.length:=by rw [I.len];exact (List.getElem?_eq_some_iff.mp hj).1
  obtain ⟨u0,r0,q0⟩:=hl j n .non hj (by rw [List.getElem?_set_self hjσ]) (.inl hk)
  have hm:(m n).isSome = true:=by
    rcases q0 with ⟨_,e⟩ | ⟨z | z,_⟩
    · rw [e];rfl
    · rw [hkd] at z;cases z
    · rw [hkd] at z;cases z
  refine wpAny_bind (wpAny_nsDel_keeps hn fun h2 v hn2 hs=>?_)
  rw [hm]
  simp only [Bool.not_true,Bool.false_eq_true,if_false]
  refine wpAny_pure (wpAny_point (h _ ?_))
  obtain ⟨oL,_,_,hoL,_⟩:=id hn
  have cne:=I1.cne
  have ab:∀ b o,X.s₀.heap.get? b = some o->b ≠ X.env.locals:=fun b o e=>Nat.ne_of_lt (Nat.lt_of_lt_of_le (Heap.lt_size e) I.ok.above)
  refine ⟨I1.ok,I1.os,I1.bare,⟨fun b o e q hb hx=>(hs.2 b (ab b o e)).trans (I1.base.keep b o e q hb hx),fun b o e q hb hx=>?_,I1.base.free,fun b o e hx=>?_,I1.base.tups,I1.base.frzs,I1.base.tbls⟩,⟨_,hn2,fun i y v' e1 e2 e3=>?_⟩,fun y c e=>?_,I1.free,I1.freeC,fun p hp=>?_,fun b ob e=>?_,by rw [List.length_set];exact I.len⟩
  · obtain ⟨sl,e1⟩:=I1.base.slot b o e q hb hx
    exact ⟨sl,(hs.2 b (ab b o e)).trans e1⟩
  · obtain ⟨o',e1⟩:=I1.base.there b o e hx
    exact ⟨o',(hs.2 b (ab b o e)).trans e1⟩
  · have hij:j ≠ i:=by
      rintro rfl
      rw [List.getElem?_set_self hjσ] at e2
      cases e2
    rw [List.getElem?_set_ne hij] at e2
    obtain ⟨u',r',q⟩:=hl i y v' e1 (by rw [List.getElem?_set_ne hij];exact e2) e3
    refine ⟨u',r',?_⟩
    rcases q with ⟨k,e⟩ | ⟨k,c,e,z⟩
    · have:y ≠ n:=fun e=>hij (zcO hN hj (e ▸ e1))
      exact .inl ⟨k,by simp [this,e]⟩
    · exact .inr ⟨k,c,e,z.sameBut hs (cne y c e)⟩
  · obtain ⟨w',z⟩:=I1.cell y c e
    exact ⟨w',z.sameBut hs (cne y c e)⟩
  · obtain ⟨e,q,ne,nf,d⟩:=I1.pin p hp
    exact ⟨(hs.2 p.1 ne).trans e,q,ne,nf,d⟩
  · refine (I1.hok b ob e).stay (fun c w' hc q=>(hs.2 c ?_).trans q) (fun _ q=>q) fun _ _ q=>q
    rintro rfl
    rcases hc with rfl | hc
    · rw [I1.free] at e;cases e
    · rw [I1.free] at hc;cases hc
end
structure Sup (K:PySem.W.Frag) (mg:Str->Option Value) (y:Str) (C C':Addr):Prop where
  bound:mg y = some (.ref C)
  obj:∀ h:Heap,K.In h->(∃ bm N nm q bs hdct sn sub ab col dd k0 k1 k2 k3 k5,h.get? C = some (excClassObj nm q C N bs bm hdct sn sub ab col dd k0 k1 k2 k3 k5 "ValueError.__new__")/\bm.contains (.type "BaseException") = true) /\
    ∃ bm N nm q bs hdct sn sub ab col dd k0 k1 k2 k3 k5,h.get? C' = some (excClassObj nm q C' N bs bm hdct sn sub ab col dd k0 k1 k2 k3 k5 "ValueError.__new__")/\(Value.ref C' :: bm).contains (.ref C) = true
theorem ziw {M:Model} {A:Around} {E:Value->Shared->Prop} {nm nm' q q':Str} {C C' N N':Addr} {bs bs' bm bm':List Value} {hd hd':Bool} {sn sn':List Str} {sub sub':List Value} {ab ab':Bool} {col col':Option Bool} {dd dd':Option Addr} {k0 k1 k2 k3 k5 j0 j1 j2 j3 j5:Option Value}
    {h:Heap} {g:Array GenState} {d:Drawn} {t:Nat} {os:OsState} {e:Addr} {oe:Obj} {Q:Bool->Shared->Prop} (hC:h.get? C = some (excClassObj nm q C N bs bm hd sn sub ab col dd k0 k1 k2 k3 k5 "ValueError.__new__")) (hC':h.get? C' = some (excClassObj nm' q' C' N' bs' bm' hd' sn' sub' ab' col' dd' j0 j1 j2 j3 j5 "ValueError.__new__"))
    (he:h.get? e = some oe) (hc:oe.cls = .ref C') (hb:bm.contains (.type "BaseException") = true) (hm:(Value.ref C' :: bm').contains (.ref C) = true) (hq:Q true ⟨h,g,d,t,os⟩):wpAny M A (excMatches (.ref e) (.ref C)) Q E ⟨h,g,d,t,os⟩:=by
  have hcB:(Value.ref C :: bm).contains (.type "BaseException") = true:=by rw [List.contains_cons,hb,Bool.or_true]
  have f:=tc_notTuple
  unfold excMatches
  repeat (first | (with_reducible refine wpAny_loadPart_at he ?_;rw [hc]) | with_reducible refine wpAny_loadPart_at hC ?_ | (with_reducible refine wpAny_isSubtype_exc hC ?_;rw [hcB]) | (with_reducible refine wpAny_isSubtype_exc hC' ?_;rw [hm]) | wp_step)
  exact hq
section
variable {X:Cx} {pins:List (Addr × Obj)} {σ:St} {H:Hp} {s s':Shared} {y:Str} {C:Addr} {np hp:Pos} {b0:Stmt} {suite:List Stmt} {rest:List ExceptHandler} {th:TS} {D:Ends} {ev:Value}
theorem zer {E:XK} {nmo:Option Str} (hg:Gl X y) (hst:X.stack = X.env :: X.outer) (hf:X.env.frame = some X.env.locals) (hex:X.ex = []) (I:Inv X pins σ H s)
    (hq:CXX X.prog X.w X.stack H s E ev s') (hS:∀ C' od H',E (.ref C') od H'->Sup X.K X.mg y C C')
    (go:∀ e t C' od B H' h5,(∀ h6,B.StaysIn h6->h5.UpToSlots h6->Inv X pins σ H' { s' with heap:=h6 })->Heap.FlyingW B X.stack e (.ref C') (.ref t) h5->(∃ oe,h5.get? e = some oe/\oe.dict = od)->
      (X.s₀.heap.get? e = none/\H' e = none/\e ≠ X.env.locals/\(∀ x c,X.env.cells.lookup x = some c->c ≠ e)/\∀ p ∈ X.pn ++ pins,p.1 ≠ e)->E (.ref C') od H'->
      codeAny (model X.prog X.w) (X.A.mark (some (.ref e))) (.handlers (.ref e) [.ExceptHandler none nmo (b0 :: suite) hp] X.env) (fun r s2=>match r with
          | .ok f=>(match nmo with
            | none=>SP X pins D f s2
            | some n=>wpAny (model X.prog X.w) X.A (do bindName X.env n .none;unbindBehindTheSuite X.env n hp) (fun _ s3=>SP X pins D f s3) X.xe s2)
          | .error x=>cameBackBy (model X.prog X.w) X.A X.env X.xe x s2) { s' with heap:=h5 }) (hd:(y == ("__debug__":Str)) = false:=by decide) :
    wpAny (model X.prog X.w) X.A (noteFrame ev X.env) (fun _ s2=>wpAny (model X.prog X.w) X.A (setFlight ev none) (fun _ s3=>wpAny (model X.prog X.w) X.A (handleBy ev X.env (.ExceptHandler (some (.Name y np)) nmo (b0 :: suite) hp :: rest)) (SP X pins D) X.xe s3) X.xe s2) X.xe s':=by
  obtain ⟨e,t,C',oe,B,H',rfl,fl,he,os,bare,un,hok,hB,hfr,hE⟩:=hq
  have hfrm:X.A.frames = some (X.env :: X.outer):=by rw [I.ok.frames,hst]
  have hfn:∀ b ∈ frs X.stack,∀ o,s'.heap.get? b = some o->∀ vs,o.data ≠ .fields vs:=fun b hb o e1=>by
    obtain ⟨_,o',e2,n2⟩:=fl.2.2.1.mem hb
    rw [e1] at e2;cases e2
    exact n2
  have inv_at:∀ h2:Heap,B.StaysIn h2->s'.heap.UpToSlots h2->Inv X pins σ H' { s' with heap:=h2 }:=fun h2 st up=>by
    obtain ⟨un2,hok2⟩:=zjI un hok hB hfr hfn st up
    exact I.call' (s':={ s' with heap:=h2 }) (ch:=[]) os un2 hok2 bare (fun b z=>absurd z (by simp))
  have ne:s.heap.get? e = none:=by
    cases q:s.heap.get? e with
    | none=>rfl
    | some u=>
      have hf2:e ∉ frs X.stack:=fun hm=>by
        obtain ⟨oe',h1,_⟩:=fl.there
        obtain ⟨oe2,vs2,h2,_,h3,_⟩:=fl.first
        exact hfn e hm oe2 h2 vs2 h3
      have:=hB e oe he hf2 (.inr ⟨u,q⟩)
      rw [fl.2.1] at this;cases this
  have he0:H' e = none:=by
    cases q:H' e with
    | none=>rfl
    | some u=>
      have hf2:e ∉ frs X.stack:=fun hm=>by
        obtain ⟨oe2,vs2,h2,_,h3,_⟩:=fl.first
        exact hfn e hm oe2 h2 vs2 h3
      have:=hB e oe he hf2 (.inl (by rw [q];simp))
      rw [fl.2.1] at this;cases this
  obtain ⟨b1,_,b3,b4,b5⟩:=I.new0 hex ne
  obtain ⟨⟨bm,N,nm,q,bs,hdct,sn,sub,ab,col,dd,k0,k1,k2,k3,k5,hC,hcb⟩,bm',N',nm',q',bs',hdct',sn',sub',ab',col',dd',j0,j1,j2,j3,j5,hC',hcc⟩:=(hS C' oe.dict H' hE).obj X.base I.ok.mod.kin
  rw [hst] at fl
  refine wpAny_mono (zgt.any (wpAny_looks_onW (M:=model X.prog X.w) (E:=fun _ _=>False) (Q:=fun _ s2=>∃ h4,s2 = { s' with heap:=h4 }/\Heap.HeldW B (X.env :: X.outer) e (.ref C') (.ref t) X.env.locals h4/\s'.heap.UpToSlots h4) hfrm hf fl fun h' a b=>⟨h',rfl,a,b⟩)) ?_ fun _ _ z=>z.1.elim
  rintro _ s4 ⟨⟨h4,rfl,hl4,up4⟩,dk4⟩
  refine wpAny_mono (zat.any (wpAny_landsW (M:=model X.prog X.w) (A:=X.A) (E:=fun _ _=>False) (s:={ s' with heap:=h4 }) (Q:=fun _ s2=>∃ h5,s2 = { s' with heap:=h5 }/\Heap.FlyingW B (X.env :: X.outer) e (.ref C') (.ref t) h5/\h4.UpToSlots h5) hl4 fun h' a b=>⟨h',rfl,a,b⟩)) ?_ fun _ _ z=>z.1.elim
  rintro _ s5 ⟨⟨h5,rfl,fl5,up5⟩,dk5⟩
  have up45:=up4.trans up5
  have I5:=inv_at h5 fl5.1 up45
  have d5:=(dk4.trans dk5) e oe he
  refine wpAny_handleBy_cons (codeAny_handlers_test ?_) (by intro z;cases z)
  refine zci (X:=X.suite e) (I5.suite e) hg (hS C' oe.dict H' hE).bound ?_ hd
  obtain ⟨o5,ge5,gd5⟩:=d5
  obtain ⟨o5',ge5',gc5⟩:=fl5.there
  rw [ge5] at ge5';cases ge5'
  refine ziw (I5.bk _ _ hC) (I5.bk _ _ hC') ge5 gc5 hcb hcc ?_
  refine go e t C' oe.dict B H' h5 (fun h6 st up=>inv_at h6 st (up45.trans up)) (by rw [hst];exact fl5) ⟨o5,ge5,gd5⟩ ⟨b1,he0,b3,b4,b5⟩ hE
end
end L2
namespace L2
open PySem PySem.Spec PyProof.Rows
section
variable {X:Cx} {pins:List (Addr × Obj)} {σ:St} {H:Hp} {s s':Shared} {y:Str} {C:Addr} {np hp:Pos} {b0:Stmt} {suite:List Stmt} {rest:List ExceptHandler} {th:TS} {D:Ends} {ev:Value}
theorem zk7 (hg:Gl X y) (hst:X.stack = X.env :: X.outer) (hf:X.env.frame = some X.env.locals) (hex:X.ex = []) (I:Inv X pins σ H s)
    (hq:CXX X.prog X.w X.stack H s (fun cv _ H2=>∃ C',cv = .ref C'/\Sup X.K X.mg y C C'/\th D σ H2) ev s') (hs:∀ ev,PSs (X.suite ev) (b0 :: suite) th) (hd:(y == ("__debug__":Str)) = false:=by decide) :
    wpAny (model X.prog X.w) X.A (noteFrame ev X.env) (fun _ s2=>wpAny (model X.prog X.w) X.A (setFlight ev none) (fun _ s3=>wpAny (model X.prog X.w) X.A (handleBy ev X.env (.ExceptHandler (some (.Name y np)) none (b0 :: suite) hp :: rest)) (SP X pins D) X.xe s3) X.xe s2) X.xe s':=by
  refine zer hg hst hf hex I hq (fun C' od H' ⟨C2,e,S,_⟩=>by cases e;exact S) (fun e t C' od B H' h5 ia fl dk nw ⟨C2,e2,S,ht⟩=>?_) hd
  refine codeAny_handlers_suite (lands_againW fl fun h6 fl6 up6=>?_)
  have I6:=ia h6 fl6.1 up6
  exact wpAny_mono (hs e pins _ σ H' D (I6.suite e) ht) (fun f s3 q3=>q3.unsuite I6.ok) fun _ _ z=>False.elim z
theorem zk6 {n:Str} {j:Nat} (hg:Gl X y) (hst:X.stack = X.env :: X.outer) (hf:X.env.frame = some X.env.locals) (hex:X.ex = []) (hN:X.N.Nodup) (hj:X.N[j]? = some n) (hk:X.env.scope.names.lookup n = some .local) (I:Inv X pins σ H s)
    (hq:CXX X.prog X.w X.stack H s (fun cv od H2=>∃ C',cv = .ref C'/\Sup X.K X.mg y C C'/\∀ e,H2 e = none->th { nx:=fun σ' H'=>D.nx (σ'.set j none) H',rt:=D.rt,bk:=fun σ' H'=>D.bk (σ'.set j none) H',ct:=fun σ' H'=>D.ct (σ'.set j none) H' } (σ.set j (some (.ref e))) (upd H2 e (.ext (ExO e C' od)))) ev s')
    (hs:∀ ev,PSs (X.suite ev) (b0 :: suite) th) (hd:(y == ("__debug__":Str)) = false:=by decide) :
    wpAny (model X.prog X.w) X.A (noteFrame ev X.env) (fun _ s2=>wpAny (model X.prog X.w) X.A (setFlight ev none) (fun _ s3=>wpAny (model X.prog X.w) X.A (handleBy ev X.env (.ExceptHandler (some (.Name y np)) (some n) (b0 :: suite) hp :: rest)) (SP X pins D) X.xe s3) X.xe s2) X.xe s':=by
  refine zer hg hst hf hex I hq (fun C' od H' ⟨C2,e,S,_⟩=>by cases e;exact S) (fun e t C' od B H' h5 ia fl dk nw ⟨C2,e2,S,ht⟩=>?_) hd
  cases e2
  obtain ⟨oe,h1,h2⟩:=dk
  refine codeAny_handlers_suite_as (wpAny_mono (zat.any (lands_againW (M:=model X.prog X.w) (A:=X.A.mark (some (.ref e))) (E:=fun _ _=>False) (s:={ s' with heap:=h5 }) (Q:=fun _ s2=>∃ h6,s2 = { s' with heap:=h6 }/\Heap.FlyingW B X.stack e (.ref C') (.ref t) h6/\h5.UpToSlots h6) fl fun h' a b=>⟨h',rfl,a,b⟩)) ?_ fun _ _ z=>z.1.elim)
  rintro _ s6 ⟨⟨h6,rfl,fl6,up6⟩,dk6⟩
  have I6:=ia h6 fl6.1 up6
  obtain ⟨o6,g1,g2⟩:=dk6 e oe h1
  obtain ⟨o7,vs7,g3,g4,g5,_⟩:=fl6.first
  rw [show h6.get? e = some o6 from g1] at g3;cases g3
  obtain ⟨b1,b2,b3,b4,b5⟩:=nw
  have I7:=I6.take (o:=.ext (ExO e C' od)) b1 b2 b3 b4 b5 (zmL ⟨o6,g1,g4,g2.trans h2,fun c z=>by rw [g5] at z;cases z⟩)
  refine zan (M:=model X.prog X.w) (v:=.ref e) I7 hN hj (.inl hk) rfl (fun s8 I8=>?_) (.inr hk)
  refine wpAny_mono (hs e pins _ _ _ _ (I8.suite e) (ht e b2)) (fun f s3 q3=>?_) fun _ _ z=>False.elim z
  have q4:=q3.unsuite I8.ok
  cases f with
  | next=>obtain ⟨σ',H9,I9,q⟩:=q4;exact zcm I9 hN hj hk fun s10 I10=>⟨_,H9,I10,q⟩
  | brk=>obtain ⟨σ',H9,I9,q⟩:=q4;exact zcm I9 hN hj hk fun s10 I10=>⟨_,H9,I10,q⟩
  | cont=>obtain ⟨σ',H9,I9,q⟩:=q4;exact zcm I9 hN hj hk fun s10 I10=>⟨_,H9,I10,q⟩
  | ret u=>obtain ⟨v,σ',H9,I9,r,q⟩:=q4;exact zcm I9 hN hj hk fun s10 I10=>⟨v,_,H9,I10,r,q⟩
end
end L2
namespace L2
open PySem PySem.Spec PyProof.Rows PySem.Builtin PySem.Builtin.ObjectAttr
theorem zng:typeLookup (.type "ValueError") "__getattribute__" = pure (some (.builtin "BaseException.__getattribute__")):=by rw [typeLookup_type,builtinLookup_eq_fast];kernel_rfl
theorem zl1:typeLookup (.type "ValueError") "__getattr__" = pure none:=by rw [typeLookup_type,builtinLookup_eq_fast];kernel_rfl
section
variable {prog:Program} {w:World} {A:Around} {E:Value->Shared->Prop} {h:Heap} {g:Array GenState} {d:Drawn} {t:Nat} {os:OsState} {a dx:Addr} {o:Obj}
  {nm q name:Str} {C N:Addr} {bs bm:List Value} {sn ns:List Str} {sub:List Value} {ab:Bool} {col:Option Bool} {dd:Option Addr} {k0 k1 k2 k3 k5:Option Value} {newId:String} {mN mA:Str->Option Value} {v:Value}
theorem zg1 {M:Model} {u:Value} {Q:Unit->Shared->Prop} (hC:h.get? C = some (excClassObj nm q C N bs bm true sn sub ab col dd k0 k1 k2 k3 k5 newId)) (T:Tl h y9 ns bm) (hi:("__init__":Str) ∈ ns) (hx:h.get? a = some o) (hc:o.cls = .ref C) (hq:Q () ⟨h,g,d,t,os⟩) :
    wpAny M A (checkBuiltinCall "BaseException.__getattribute__" ⟨[.ref a,u],[]⟩) Q E ⟨h,g,d,t,os⟩:=by
  have hk:builtinKind "BaseException.__getattribute__" = some .slot:=by decide +kernel
  have hs:splitId "BaseException.__getattribute__" = some ("BaseException","__getattribute__"):=by decide +kernel
  have hb:(Value.ref C :: bm).contains (.type "BaseException") = true:=by rw [List.contains_cons,(T.tail hi).hasType PySem.F.excBase_ValueError.hasBase];rfl
  have ha:=PySem.F.args_bexc_ga (.ref a) u
  simp only [checkBuiltinCall,hk,hs]
  refine wpAny_bind ?_
  unfold isInstance
  repeat (first | (with_reducible refine wpAny_loadPart_at hx ?_;rw [hc]) | (with_reducible refine wpAny_isSubtype_exc hC ?_;rw [hb]) | wp_step)
  exact hq
theorem zg0 {tk:Tok} {Q:PySem.Fin->Shared->Prop} (hC:h.get? C = some (excClassObj nm q C N bs bm true sn sub ab col dd k0 k1 k2 k3 k5 newId)) (hn:h.Ns N mN) (T:Tl h y9 ns bm) (m2:mN name = none) (hm:name ∈ ns) (hB:typeLookup (.type "ValueError") name = pure none)
    (hx:h.get? a = some o) (hc:o.cls = .ref C) (hnc:∀ c,o.data ≠ .cls c) (hd:o.dict = some dx) (hD:h.Ns dx mA) (hv:mA name = some v) (hq:Q (.done (.ret v)) ⟨h,g,d,t,os⟩) :
    wpAny (model prog w) A (Builtin.«object.__getattribute__» ⟨[.ref a,.str name tk],[]⟩) Q E ⟨h,g,d,t,os⟩:=by
  unfold Builtin.«object.__getattribute__»
  repeat (first | (with_reducible refine wpAny_loadPart_at hx ?_;rw [hc]) | (with_reducible refine zaw hC hn T hm PySem.F.store_ValueError.mro hB ?_;rw [m2]) | wp_step)
  split
  · rename_i c hcd
    exact absurd hcd (hnc c)
  unfold instanceDict
  repeat (first | (with_reducible refine wpAny_loadPart_at hx ?_;rw [hc]) | with_reducible refine wpAny_loadPart_at hC ?_ | wp_step)
  rw [hd]
  repeat (first | (with_reducible refine wpAny_nsGet hD ?_;rw [hv]) | wp_step)
  exact hq
theorem zny {expr:Bool} {Q:Value->Shared->Prop} (hC:h.get? C = some (excClassObj nm q C N bs bm true sn sub ab col dd k0 k1 k2 k3 k5 newId)) (hn:h.Ns N mN) (T:Tl h y9 ns bm) (hi:("__init__":Str) ∈ ns) (m2:mN name = none) (hm:name ∈ ns) (m3:mN "__getattribute__" = none) (h3:("__getattribute__":Str) ∈ ns) (m4:mN "__getattr__" = none) (h4:("__getattr__":Str) ∈ ns)
    (hB:typeLookup (.type "ValueError") name = pure none) (hx:h.get? a = some o) (hc:o.cls = .ref C) (hnc:∀ c,o.data ≠ .cls c) (hd:o.dict = some dx) (hD:h.Ns dx mA) (hv:mA name = some v) (hh:handedOut v = pure v) (hq:Q v ⟨h,g,d,t + 1,os⟩) :
    wpAny (model prog w) A (getAttr (.ref a) name expr) Q E ⟨h,g,d,t,os⟩:=by
  have f3:=PySem.F.excAttr_ValueError.ga.bind (.ref a)
  have hx0:(expr && onTheHeap (Value.builtin "BaseException.__getattribute__")) = false:=by cases expr <;> rfl
  have hx2:(Value.builtin "BaseException.__getattribute__" == Value.builtin "object.__getattribute__") = false:=by decide +kernel
  have hx1:(onTheHeap (Value.ref C) && Value.builtin "BaseException.__getattribute__" == Value.builtin "object.__getattribute__") = false:=by rw [hx2];rfl
  unfold getAttr
  repeat (any_goals (first | assumption | (with_reducible refine wpAny_loadPart_at hx ?_;rw [hc]) | (with_reducible refine zaw hC hn T h3 PySem.F.store_ValueError.mro zng ?_;rw [m3]) | (with_reducible refine zaw hC hn T h4 PySem.F.store_ValueError.mro zl1 ?_;rw [m4]) | wp_step))
  refine codeAny_call_builtin PySem.F.excAttr_ValueError.ga.plain PySem.F.entry_bexc_ga (zg1 hC T hi hx hc (zg0 hC hn T m2 hm hB hx hc hnc hd hD hv ?_))
  show wpAny _ _ (handedOut v) _ _ _
  rw [hh]
  exact wpAny_pure hq
end
theorem handed {x:V} {v:Value} (r:RelV x v):handedOut v = pure v:=by
  cases x with
  | non=>cases r;rfl
  | bl b=>cases r;rfl
  | int i=>obtain ⟨_,rfl⟩:=r;rfl
  | str i=>obtain ⟨_,rfl⟩:=r;rfl
  | byt i=>obtain ⟨_,rfl⟩:=r;rfl
  | flt i=>obtain ⟨_,rfl⟩:=r;rfl
  | ref a=>cases r;rfl
  | ty n=>cases r;rfl
section
variable {X:Cx} {e:Expr} {te:TE} {pos:Pos}
theorem zlF (he:PE X e te) (hb:attributeBase e "at" X.env (eval e X.env) = eval e X.env):PE X (.Attribute e "at" pos) (fun σ H Q=>te σ H fun x H1=>∃ a C d us v nm fI,x = .ref a/\H1 a = some (.ext (ExO a C (some d)))/\H1 d = some (.xd us)/\XcAt X.K X.mg nm C fI/\us.lookup ("at":Str) = some v/\Q v H1):=by
  intro pins s σ H Q I h
  refine zle hb (thn (he pins s σ H _ I h) fun u s1 ⟨x,H1,I1,rx,a,C,d,us,v,nm,fI,ex,ea,ed,O,l,q⟩=>?_)
  subst ex
  obtain rfl:u = Value.ref a:=rx
  obtain ⟨bm,N,nm,qq,bs,sn,sub,ab,col,dd,k0,k1,k2,k3,k5,mN,hC,hN,hi,hno,T⟩:=O.obj s1.heap I1.kIn
  obtain ⟨⟨ob,g1,g2,g3,g4⟩,_,_⟩:=I1.hok a _ ea
  obtain ⟨mA,n1,rel⟩:=(show ObjOk X.prog X.w H1 s1.heap d (.xd us) from I1.hok d _ ed)
  have rl:=rel "at"
  rw [l] at rl
  cases hm:mA "at" with
  | none=>rw [hm] at rl;exact rl.elim
  | some w=>
    rw [hm] at rl
    obtain ⟨h2,ge,dr,tk,os⟩:=s1
    refine zny hC hN T (by decide) (hno _ (by decide)) (by decide) (hno _ (by decide)) (by decide) (hno _ (by decide)) (by decide) zgF g1 g2 g4 g3 n1.ns hm (handed rl) ⟨v,H1,I1.tok _,rl,q⟩
end
end L2
namespace L2
open PySem PySem.Spec PyProof.Rows
noncomputable def PX (X:Cx) (sts:List Stmt) (t:XK->TS):Prop:=
  ∀ (E:XK) (pins:List (Addr × Obj)) (s:Shared) (σ:St) (H:Hp) (D:Ends),Inv X pins σ H s->t E D σ H->
    wpAny (model X.prog X.w) X.A (execs sts X.env) (SP X pins D) (fun ev s'=>∃ H1 s1,Inv X pins σ H1 s1/\CXX X.prog X.w X.stack H1 s1 E ev s') s
section
variable {X:Cx} {C:Addr} {k:Nat} {f:Addr} {fd:FuncData} {ps:List Str} {sp:Sp} {x y v n:Str} {p pos pos2 np hp tp vp:Pos} {e c:Expr} {es:List Expr} {ta:TA} {tc:TT} {b0:Stmt} {suite sts b1 b2:List Stmt} {th:TS} {t t1 t2:XK->TS} {i j:Nat}
theorem zm3 {E:XK} {pins:List (Addr × Obj)} {s:Shared} {σ:St} {H:Hp} {Q:VK} (F:FnOk X.prog X.w X.K X.mg X.base (CXX X.prog X.w) k f fd ps sp) (hr:Room k X.A) (hg:Gl X x) (hm:X.mg x = some (.ref f)) (hk:PySem.W.keepIn X.K (.ref f) = true) (hb:Binds X.K fd ps [])
    (ha:∀ E',PA (X.wish E') (e :: es) ta) (hdb:(x == ("__debug__":Str)) = false) (he:starEach (e :: es) X.env = (false,eval e X.env) :: starEach es X.env) (hpl:(backTo pos (starEach es X.env)).any (·.1) = false) (I:Inv X pins σ H s) (h:ta σ H fun vs H1=>sp vs H1 Q E) :
    wpAny (model X.prog X.w) X.A (eval (.Call (.Name x p) (e :: es) [] pos) X.env) (EP X pins σ Q) (fun ev s'=>∃ H1 s1,Inv X pins σ H1 s1/\CXX X.prog X.w X.stack H1 s1 E ev s') s:=by
  refine wpAny_Call_Name_kw (zci (X:=X) I hg hm ?_ hdb)
  refine PySem.W.callWith_K (h₀:=X.base) I.ok.mod.kin hk (thn (ha (fun ev s'=>∃ H1 s1,Inv X pins σ H1 s1/\CXX X.prog X.w X.stack H1 s1 E ev s') pos pins s σ H _ (I.wish _) h) fun us s1 ⟨vs,H1,I1,r,q⟩=>⟨I1.kIn,?_⟩) he hpl
  have hl:us.length = ps.length:=by rw [← r.length];exact F.len _ _ _ _ q
  have I1':=I1.unwish
  refine wpAny_call (codeAny_mono (F.run X.A X.stack s1 H1 ⟨us,[]⟩ us vs _ _ hr I1'.env0 (by have:=hb s1 us I1'.kIn (by rw [List.append_nil];exact hl);rw [List.append_nil] at this;exact this) r q) fun r s' hq=>?_)
  cases r with
  | error ee=>exact ⟨H1,s1,I1',hq⟩
  | ok fl=>
    cases fl with
    | ret u=>exact I1'.after hq
    | next=>exact False.elim hq
    | brk=>exact False.elim hq
    | cont=>exact False.elim hq
theorem zlv (hN:X.N.Nodup) (hi:X.N[i]? = some v) (hv:X.env.scope.names.lookup v = some .local) (F:FnOk X.prog X.w X.K X.mg X.base (CXX X.prog X.w) k f fd ps sp) (hr:Room k X.A) (hg:Gl X x) (hm:X.mg x = some (.ref f)) (hk:PySem.W.keepIn X.K (.ref f) = true) (hb:Binds X.K fd ps []) (ha:∀ E',PA (X.wish E') (e :: es) ta)
    (hdb:(x == ("__debug__":Str)) = false:=by decide) (he:starEach (e :: es) X.env = (false,eval e X.env) :: starEach es X.env:=by rfl) (hpl:(backTo pos (starEach es X.env)).any (·.1) = false:=by rfl) (hsw:swapsWith (.Call (.Name x p) (e :: es) [] pos) (some (.Name v vp)) pos2.line X.env = pure false:=by rfl) :
    PX X [.Assign [.Name v vp] (.Call (.Name x p) (e :: es) [] pos) pos2] (fun E D σ H=>ta σ H fun vs H1=>sp vs H1 (fun w H2=>D.nx (σ.set i (some w)) H2) E):=by
  intro E pins s σ H D I h
  refine wpAny_execs_cons (wpAny_mono (Q:=SP X pins D) (wpAny_Assign_Name (thn (zm3 F hr hg hm hk hb ha hdb he hpl I h) fun u s1 ⟨w,H1,I1,r,q⟩=>?_) hsw) (fun fl s1 q=>?_) fun _ _ z=>z)
  · exact zan I1 hN hi (.inl hv) r (fun s2 I2=>⟨_,H1,I2,q⟩) (.inr hv)
  · cases fl with
    | next=>exact wpAny_execs_nil q
    | brk=>exact q
    | cont=>exact q
    | ret u=>exact q
theorem zke (hb:PX X sts t) (hgy:Gl X y) (hst:X.stack = X.env :: X.outer) (hf:X.env.frame = some X.env.locals) (hex:X.ex = []) (hs:∀ ev,PSs (X.suite ev) (b0 :: suite) th) (hdy:(y == ("__debug__":Str)) = false:=by decide) :
    PS X (.Try sts [.ExceptHandler (some (.Name y np)) none (b0 :: suite) hp] [] [] tp) (fun D σ H=>t (fun cv _ H2=>∃ C',cv = .ref C'/\Sup X.K X.mg y C C'/\th D σ H2) D σ H):=by
  intro pins s σ H D I h
  refine wpAny_Try_except (wpAny_mono (hb _ pins s σ H D I h) (fun fl s1 q=>?_) fun ev s1 ⟨H1,s0,I1,hq⟩=>?_)
  · cases fl with
    | next=>exact wpAny_execs_nil q
    | brk=>exact q
    | cont=>exact q
    | ret u=>exact q
  · exact zk7 hgy hst hf hex I1 hq hs hdy
theorem zkd (hb:PX X sts t) (hgy:Gl X y) (hst:X.stack = X.env :: X.outer) (hf:X.env.frame = some X.env.locals) (hex:X.ex = []) (hN:X.N.Nodup) (hj:X.N[j]? = some n) (hk:X.env.scope.names.lookup n = some .local) (hs:∀ ev,PSs (X.suite ev) (b0 :: suite) th) (hdy:(y == ("__debug__":Str)) = false:=by decide) :
    PS X (.Try sts [.ExceptHandler (some (.Name y np)) (some n) (b0 :: suite) hp] [] [] tp) (fun D σ H=>t (fun cv od H2=>∃ C',cv = .ref C'/\Sup X.K X.mg y C C'/\∀ e,H2 e = none->th { nx:=fun σ' H'=>D.nx (σ'.set j none) H',rt:=D.rt,bk:=fun σ' H'=>D.bk (σ'.set j none) H',ct:=fun σ' H'=>D.ct (σ'.set j none) H' } (σ.set j (some (.ref e))) (upd H2 e (.ext (ExO e C' od)))) D σ H):=by
  intro pins s σ H D I h
  refine wpAny_Try_except (wpAny_mono (hb _ pins s σ H D I h) (fun fl s1 q=>?_) fun ev s1 ⟨H1,s0,I1,hq⟩=>?_)
  · cases fl with
    | next=>exact wpAny_execs_nil q
    | brk=>exact q
    | cont=>exact q
    | ret u=>exact q
  · exact zk6 hgy hst hf hex hN hj hk I1 hq hs hdy
end
end L2
namespace FT
open PySem PySem.Spec PyProof.Rows L2
noncomputable def noStar:Expr->Bool
  | .Starred _ _=>false
  | _=>true
theorem yn {e:Expr} {es:List Expr} {env:PySem.Env} (h:noStar e = true):starEach (e :: es) env = (false,eval e env) :: starEach es env:=by
  cases e <;> first | rfl | cases h
theorem zao {env:PySem.Env} {pos:Pos}:∀ {es:List Expr},es.all noStar = true->(backTo pos (starEach es env)).any (·.1) = false:=by
  intro es h
  have h1:(starEach es env).any (·.1) = false:=by
    induction es with
    | nil=>rfl
    | cons e es ih=>
      rw [List.all_cons,Bool.and_eq_true] at h
      rw [yn h.1,List.any_cons,ih h.2]
      rfl
  have h2:∀ l:List (Bool × Sem Value),l.any (·.1) = false->(backTo pos l).any (·.1) = false:=by
    intro l hl
    unfold backTo
    rw [List.any_map]
    exact hl
  exact h2 _ h1
end FT
namespace FT
open PySem PySem.Spec PyProof.Rows L2
inductive T where
  | non | bl (b:Bool) | int (i:Int) | str (x:Str) | ty (n:String) | tup (xs:List T) | lst (xs:List T) | ref (a:Nat) | dct (kvs:List (Key × T)) | exc (C:Addr) (fs:List (Str × T))
inductive Cell where
  | lst (xs:List T) | dic (kvs:List (Key × T)) | ins (C:Addr) (fs:List (Str × T))
noncomputable abbrev Mem:=List Cell
noncomputable abbrev Ev:=List (Option T)
inductive Out (β:Type) where
  | ok (b:β) (M:Mem) | exn (C:Addr) (fs:List (Str × T)) (M:Mem) | bad
noncomputable def Out.bind {β γ:Type} (o:Out β) (k:β->Mem->Out γ):Out γ:=match o with
  | .ok b M=>k b M
  | .exn C fs M=>.exn C fs M
  | .bad=>.bad
theorem zor {β γ:Type} (b:β) (M:Mem) (k:β->Mem->Out γ):(Out.ok b M).bind k = k b M:=rfl
theorem zoc {β γ:Type} (k:β->Mem->Out γ):(Out.bad:Out β).bind k = .bad:=rfl
structure Sit where
  α:Nat->Addr
  M:Mem
  H:Hp
  hid:List Addr
noncomputable def Sit.off (S:Sit) (p:Addr):Prop:=(∀ a,a < S.M.length->S.α a ≠ p)/\p ∉ S.hid
noncomputable def KL (K:PySem.W.Frag) (a:Addr) (xs:List V):Prop:=
  ∃ (o:Obj) (its:Array Value) (n:Nat),K.lookup a = some o/\o.cls = .type "list"/\o.dict = none/\o.data = .seq its n/\its.size<=sizeLine/\Vals xs its.toList
inductive Rep (K:PySem.W.Frag) (S:Sit):T->V->Prop where
  | non:Rep K S .non .non
  | bl (b:Bool):Rep K S (.bl b) (.bl b)
  | int (i:Int):Rep K S (.int i) (.int i)
  | str (x:Str):Rep K S (.str x) (.str x)
  | ty (x:String):Rep K S (.ty x) (.ty x)
  | tup {ts:List T} {p:Addr} {vs:List V} (h:SqT K S.H p vs) (l:ts.length = vs.length) (r:∀ (i:Nat) t v,ts[i]? = some t->vs[i]? = some v->Rep K S t v):Rep K S (.tup ts) (.ref p)
  | lst {ts:List T} {p:Addr} {vs:List V} (h:(Rd S.H p (.lst vs)/\S.off p)\/KL K p vs) (l:ts.length = vs.length) (r:∀ (i:Nat) t v,ts[i]? = some t->vs[i]? = some v->Rep K S t v):Rep K S (.lst ts) (.ref p)
  | ref {a:Nat} (h:a < S.M.length):Rep K S (.ref a) (.ref (S.α a))
  | dct {kvs:List (Key × T)} {us:List (Key × V)} {p:Addr} {o:Obj} (h:S.H p = some (.frz o (.dK us))) (l:kvs.map (·.1) = us.map (·.1)) (r:∀ (i:Nat) t v,(kvs.map (·.2))[i]? = some t->(us.map (·.2))[i]? = some v->Rep K S t v):Rep K S (.dct kvs) (.ref p)
  | exc {C:Addr} {fs:List (Str × T)} {us:List (Str × V)} {p:Addr} {od:Option Addr} (h:S.H p = some (.ext (ExO p C od))) (hd:(od = none/\us = [])\/∃ d,od = some d/\S.H d = some (.xd us)) (l:fs.map (·.1) = us.map (·.1)) (r:∀ (i:Nat) t v,(fs.map (·.2))[i]? = some t->(us.map (·.2))[i]? = some v->Rep K S t v):Rep K S (.exc C fs) (.ref p)
noncomputable def Reps (K:PySem.W.Frag) (S:Sit) (ts:List T) (vs:List V):Prop:=ts.length = vs.length/\∀ (i:Nat) t v,ts[i]? = some t->vs[i]? = some v->Rep K S t v
noncomputable def RepF (K:PySem.W.Frag) (S:Sit) (fs:List (Str × T)) (us:List (Str × V)):Prop:=fs.map (·.1) = us.map (·.1)/\Reps K S (fs.map (·.2)) (us.map (·.2))
noncomputable def RepK (K:PySem.W.Frag) (S:Sit) (fs:List (Key × T)) (us:List (Key × V)):Prop:=fs.map (·.1) = us.map (·.1)/\Reps K S (fs.map (·.2)) (us.map (·.2))
noncomputable def CellOk (K:PySem.W.Frag) (S:Sit) (p:Addr):Cell->Prop
  | .lst ts=>∃ vs,S.H p = some (.lst vs)/\Reps K S ts vs
  | .dic kvs=>∃ us,S.H p = some (.dK us)/\RepK K S kvs us
  | .ins C fs=>∃ dx us,S.H p = some (.ins C dx us)/\RepF K S fs us
structure MemOk (K:PySem.W.Frag) (S:Sit):Prop where
  cell:∀ a c,S.M[a]? = some c->CellOk K S (S.α a) c
  inj:∀ a b,a < S.M.length->b < S.M.length->S.α a = S.α b->a = b
  hd:∀ p ∈ S.hid,(∀ a,a < S.M.length->S.α a ≠ p)/\∃ vs,S.H p = some (.lst vs)
structure Grow (S S':Sit):Prop where
  le:S.M.length<=S'.M.length
  al:∀ a,a < S.M.length->S'.α a = S.α a
  fr:∀ a,S.M.length<=a->a < S'.M.length->S.H (S'.α a) = none
  kp:∀ b o,S.H b = some o->S.off b->S'.H b = some o
  hk:∀ p ∈ S.hid,p ∈ S'.hid/\S'.H p = S.H p
  hf:∀ p ∈ S'.hid,p ∈ S.hid\/S.H p = none
structure Stp (K:PySem.W.Frag) (S S':Sit):Prop extends Grow S S' where
  mok:MemOk K S'
section
variable {K:PySem.W.Frag} {S S' S'':Sit}
theorem MemOk.some (m:MemOk K S) {a:Nat} (h:a < S.M.length):∃ o,S.H (S.α a) = Option.some o/\Mut (Option.some o):=by
  have e:S.M[a]? = Option.some S.M[a]:=by simp [h]
  have c:=m.cell a _ e
  cases q:S.M[a] with
  | lst ts=>rw [q] at c;obtain ⟨vs,e,_⟩:=c;exact ⟨_,e,trivial⟩
  | dic ts=>rw [q] at c;obtain ⟨vs,e,_⟩:=c;exact ⟨_,e,trivial⟩
  | ins C fs=>rw [q] at c;obtain ⟨dx,vs,e,_⟩:=c;exact ⟨_,e,trivial⟩
theorem MemOk.off_of (m:MemOk K S) {p:Addr} {o:Option HO} (e:S.H p = o) (h:¬ Mut o):S.off p:=by
  refine ⟨fun a ha z=>?_,fun z=>?_⟩
  · obtain ⟨o',e',mu⟩:=m.some ha
    rw [z,e] at e'
    rw [e'] at h
    exact h mu
  · obtain ⟨_,vs,q⟩:=m.hd p z
    rw [e] at q
    rw [q] at h
    exact h trivial
theorem MemOk.off_ext (m:MemOk K S) {p:Addr} {φ:Heap->Prop} (e:S.H p = Option.some (.ext φ)):S.off p:=by
  refine ⟨fun a ha z=>?_,fun z=>?_⟩
  · have ea:S.M[a]? = Option.some S.M[a]:=by simp [ha]
    have c:=m.cell a _ ea
    cases q:S.M[a] with
    | lst ts=>rw [q] at c;obtain ⟨vs,e',_⟩:=c;rw [z,e] at e';cases e'
    | dic ts=>rw [q] at c;obtain ⟨vs,e',_⟩:=c;rw [z,e] at e';cases e'
    | ins C fs=>rw [q] at c;obtain ⟨dx,vs,e',_⟩:=c;rw [z,e] at e';cases e'
  · obtain ⟨_,vs,q⟩:=m.hd p z
    rw [e] at q;cases q
theorem MemOk.off_none (m:MemOk K S) {p:Addr} (e:S.H p = none):S.off p:=m.off_of e (fun z=>z)
theorem Grow.tup (g:Grow S S') (m:MemOk K S) {p:Addr} {vs:List V} (h:SqT K S.H p vs):SqT K S'.H p vs:=by
  rcases h with (h | ⟨o,h⟩) | h
  · exact .inl (.inl (g.kp _ _ h (m.off_of h (fun z=>z))))
  · exact .inl (.inr ⟨o,g.kp _ _ h (m.off_of h (fun z=>z))⟩)
  · exact .inr h
theorem Grow.off (g:Grow S S') {p:Addr} {o:HO} (h:S.H p = some o) (f:S.off p):S'.off p:=by
  refine ⟨fun a ha z=>?_,fun z=>?_⟩
  · by_cases hl:a < S.M.length
    · rw [g.al a hl] at z;exact f.1 a hl z
    · have:=g.fr a (Nat.le_of_not_lt hl) ha
      rw [z,h] at this
      cases this
  · rcases g.hf p z with q | q
    · exact f.2 q
    · rw [h] at q;cases q
theorem Grow.rd (g:Grow S S') {p:Addr} {u:HO} (h:Rd S.H p u) (f:S.off p):Rd S'.H p u/\S'.off p:=by
  rcases h with h | ⟨o,h⟩
  · exact ⟨.inl (g.kp _ _ h f),g.off h f⟩
  · exact ⟨.inr ⟨o,g.kp _ _ h f⟩,g.off h f⟩
theorem Rep.grow (m:MemOk K S) (g:Grow S S') {t:T} {v:V} (r:Rep K S t v):Rep K S' t v:=by
  induction r with
  | non=>exact .non
  | bl b=>exact .bl b
  | int b=>exact .int b
  | str b=>exact .str b
  | ty b=>exact .ty b
  | tup h l _ ih=>exact .tup (g.tup m h) l ih
  | lst h l _ ih=>
    refine .lst ?_ l ih
    rcases h with ⟨h,f⟩ | h
    · exact .inl (g.rd h f)
    · exact .inr h
  | ref h=>rw [← g.al _ h];exact .ref (Nat.lt_of_lt_of_le h g.le)
  | dct h l _ ih=>exact .dct (g.kp _ _ h (m.off_of h (fun z=>z))) l ih
  | exc h hd l _ ih=>exact .exc (g.kp _ _ h (m.off_ext h)) (hd.imp (fun z=>z) fun ⟨d,a,b⟩=>⟨d,a,g.kp _ _ b (m.off_of b (fun z=>z))⟩) l ih
theorem Reps.grow (m:MemOk K S) (g:Grow S S') {ts:List T} {vs:List V} (r:Reps K S ts vs):Reps K S' ts vs:=⟨r.1,fun i t v e1 e2=>(r.2 i t v e1 e2).grow m g⟩
theorem RepF.grow (m:MemOk K S) (g:Grow S S') {ts:List (Str × T)} {vs:List (Str × V)} (r:RepF K S ts vs):RepF K S' ts vs:=⟨r.1,r.2.grow m g⟩
theorem RepK.grow (m:MemOk K S) (g:Grow S S') {ts:List (Key × T)} {vs:List (Key × V)} (r:RepK K S ts vs):RepK K S' ts vs:=⟨r.1,r.2.grow m g⟩
theorem Reps.nil:Reps K S [] []:=⟨rfl,fun _ _ _ e _=>by simp at e⟩
theorem Reps.cons {t:T} {v:V} {ts:List T} {vs:List V} (r:Rep K S t v) (rs:Reps K S ts vs):Reps K S (t :: ts) (v :: vs):=by
  refine ⟨by simp [rs.1],fun i a b e1 e2=>?_⟩
  cases i with
  | zero=>simp at e1 e2;subst e1;subst e2;exact r
  | succ i=>exact rs.2 i a b (by simpa using e1) (by simpa using e2)
theorem Reps.nil_inv {ts:List T} (r:Reps K S ts []):ts = []:=List.length_eq_zero_iff.mp (by rw [r.1];rfl)
theorem Reps.consT {t:T} {ts:List T} {vs:List V} (r:Reps K S (t :: ts) vs):∃ v vs',vs = v :: vs'/\Rep K S t v/\Reps K S ts vs':=by
  cases vs with
  | nil=>have:=r.1;simp at this
  | cons v vs'=>exact ⟨v,vs',rfl,r.2 0 t v rfl rfl,by have:=r.1;simpa using this,fun i a b e1 e2=>r.2 (i + 1) a b (by simpa using e1) (by simpa using e2)⟩
theorem Reps.nilT {vs:List V} (r:Reps K S [] vs):vs = []:=List.length_eq_zero_iff.mp (by rw [← r.1];rfl)
theorem Reps.app {ts ts':List T} {vs vs':List V} (r:Reps K S ts vs) (r':Reps K S ts' vs'):Reps K S (ts ++ ts') (vs ++ vs'):=by
  induction ts generalizing vs with
  | nil=>rw [r.nilT];exact r'
  | cons t ts ih=>
    obtain ⟨v,vs1,rfl,r1,r2⟩:=r.consT
    exact (ih r2).cons r1
theorem Reps.get {ts:List T} {vs:List V} (r:Reps K S ts vs) {i:Nat} {t:T} (e:ts[i]? = some t):∃ v,vs[i]? = some v/\Rep K S t v:=by
  have hi:i < vs.length:=by rw [← r.1];exact (List.getElem?_eq_some_iff.mp e).1
  have e2:vs[i]? = some vs[i]:=by simp [hi]
  exact ⟨_,e2,r.2 i t _ e e2⟩
theorem Reps.set {ts:List T} {vs:List V} (r:Reps K S ts vs) {t:T} {v:V} (q:Rep K S t v) (j:Nat):Reps K S (ts.set j t) (vs.set j v):=by
  refine ⟨by simp [r.1],fun i a b e1 e2=>?_⟩
  rw [List.getElem?_set] at e1 e2
  by_cases h:j = i
  · subst h
    by_cases hl:j < ts.length
    · rw [if_pos rfl,if_pos hl] at e1
      rw [if_pos rfl,if_pos (by rw [← r.1];exact hl)] at e2
      cases e1;cases e2;exact q
    · rw [if_pos rfl,if_neg hl] at e1;cases e1
  · rw [if_neg h] at e1 e2
    exact r.2 i a b e1 e2
theorem Reps.sub {ts:List T} {vs:List V} (r:Reps K S ts vs) (a b:Nat):Reps K S ((ts.drop a).take b) ((vs.drop a).take b):=by
  refine ⟨by simp [r.1],fun i x y e1 e2=>?_⟩
  rw [List.getElem?_take] at e1 e2
  split at e1
  · rename_i h
    rw [if_pos h] at e2
    rw [List.getElem?_drop] at e1 e2
    exact r.2 _ x y e1 e2
  · cases e1
theorem CellOk.grow (m:MemOk K S) (g:Grow S S') {p:Addr} {c:Cell} (e:S'.H p = S.H p) (h:CellOk K S p c):CellOk K S' p c:=by
  cases c with
  | lst ts=>obtain ⟨vs,q,r⟩:=h;exact ⟨vs,by rw [e];exact q,r.grow m g⟩
  | dic ts=>obtain ⟨vs,q,r⟩:=h;exact ⟨vs,by rw [e];exact q,r.grow m g⟩
  | ins C ts=>obtain ⟨dx,vs,q,r⟩:=h;exact ⟨dx,vs,by rw [e];exact q,r.grow m g⟩
theorem Stp.refl (m:MemOk K S):Stp K S S:=⟨⟨Nat.le_refl _,fun _ _=>rfl,fun a h1 h2=>absurd (Nat.lt_of_lt_of_le h2 h1) (Nat.lt_irrefl _),fun _ _ e _=>e,fun _ h=>⟨h,rfl⟩,fun _ h=>.inl h⟩,m⟩
theorem Stp.trans (a:Stp K S S') (b:Stp K S' S''):Stp K S S'':=by
  have nn:∀ p,S'.H p = none->S.H p = none:=fun p hn=>by
    cases q:S.H p with
    | none=>rfl
    | some o=>
      by_cases f:S.off p
      · rw [a.kp _ _ q f] at hn;cases hn
      · exfalso
        apply f
        refine ⟨fun c hc z=>?_,fun z=>?_⟩
        · have h3:c < S'.M.length:=Nat.lt_of_lt_of_le hc a.le
          obtain ⟨o',e',_⟩:=a.mok.some h3
          rw [a.al c hc,z,hn] at e'
          cases e'
        · rw [(a.hk p z).2,q] at hn;cases hn
  refine ⟨⟨Nat.le_trans a.le b.le,fun i hi=>(b.al i (Nat.lt_of_lt_of_le hi a.le)).trans (a.al i hi),fun i h1 h2=>?_,fun p o e f=>b.kp _ _ (a.kp _ _ e f) (a.off e f),fun p h=>⟨(b.hk p (a.hk p h).1).1,(b.hk p (a.hk p h).1).2.trans (a.hk p h).2⟩,fun p h=>?_⟩,b.mok⟩
  · by_cases hl:i < S'.M.length
    · rw [b.al i hl];exact a.fr i h1 hl
    · exact nn _ (b.fr i (Nat.le_of_not_lt hl) h2)
  · rcases b.hf p h with q | q
    · exact a.hf p q
    · exact .inr (nn p q)
theorem Stp.new (m:MemOk K S) {p:Addr} (hp:S.H p = none) (o:HO):Stp K S ⟨S.α,S.M,upd S.H p o,S.hid⟩:=by
  have g:Grow S ⟨S.α,S.M,upd S.H p o,S.hid⟩:=⟨Nat.le_refl _,fun _ _=>rfl,fun a h1 h2=>absurd (Nat.lt_of_lt_of_le h2 h1) (Nat.lt_irrefl _),fun b u e _=>by show upd S.H p o b = _;rw [qd (zk e hp)];exact e,fun q h=>⟨h,by obtain ⟨_,vs,e⟩:=m.hd q h;exact qd (zk e hp)⟩,fun q h=>.inl h⟩
  refine ⟨g,⟨fun a c e=>?_,m.inj,fun q h=>?_⟩⟩
  rotate_left
  · obtain ⟨h1,vs,e⟩:=m.hd q h
    exact ⟨h1,vs,(qd (zk e hp)).trans e⟩
  refine (m.cell a c e).grow m g ?_
  have ha:a < S.M.length:=(List.getElem?_eq_some_iff.mp e).1
  exact qd ((m.off_none hp).1 a ha)
noncomputable def Sit.more (S:Sit) (p:Addr) (o:HO) (c:Cell):Sit:=⟨fun a=>if a = S.M.length then p else S.α a,S.M ++ [c],upd S.H p o,S.hid⟩
theorem Grow.more (m:MemOk K S) {p:Addr} (hp:S.H p = none) (o:HO) (c:Cell):Grow S (S.more p o c):=by
  refine ⟨by show _<=(S.M ++ [c]).length;simp,fun a h=>if_neg (Nat.ne_of_lt h),fun a h1 h2=>?_,fun b u e _=>?_,fun q h=>⟨h,by obtain ⟨_,vs,e⟩:=m.hd q h;exact qd (zk e hp)⟩,fun q h=>.inl h⟩
  · have h3:a < (S.M ++ [c]).length:=h2
    have:a = S.M.length:=by simp at h3;omega
    show S.H (if a = S.M.length then p else S.α a) = none
    rw [if_pos this];exact hp
  · show upd S.H p o b = _;rw [qd (zk e hp)];exact e
theorem Stp.more (m:MemOk K S) {p:Addr} (hp:S.H p = none) (o:HO) (c:Cell) (hc:CellOk K (S.more p o c) p c):Stp K S (S.more p o c):=by
  have g:=Grow.more m hp o c
  refine ⟨g,⟨fun a d e=>?_,fun a b h1 h2 e=>?_,fun q h=>?_⟩⟩
  rotate_right
  · obtain ⟨h1,vs,e⟩:=m.hd q h
    refine ⟨fun a ha z=>?_,vs,(qd (zk e hp)).trans e⟩
    have z':(if a = S.M.length then p else S.α a) = q:=z
    by_cases hl:a = S.M.length
    · rw [if_pos hl] at z';rw [← z',hp] at e;cases e
    · rw [if_neg hl] at z'
      have h3:a < (S.M ++ [c]).length:=ha
      exact h1 a (by simp at h3;omega) z'
  · have e':(S.M ++ [c])[a]? = some d:=e
    by_cases ha:a < S.M.length
    · rw [List.getElem?_append_left ha] at e'
      show CellOk K _ (if a = S.M.length then p else S.α a) d
      rw [if_neg (Nat.ne_of_lt ha)]
      exact (m.cell a d e').grow m g (qd ((m.off_none hp).1 a ha))
    · rw [List.getElem?_append_right (Nat.le_of_not_lt ha)] at e'
      have h3:a - S.M.length = 0:=by
        cases q:a - S.M.length with
        | zero=>rfl
        | succ k=>rw [q] at e';simp at e'
      rw [h3] at e'
      cases e'
      show CellOk K _ (if a = S.M.length then p else S.α a) c
      rw [if_pos (by omega)]
      exact hc
  · have h1':a < (S.M ++ [c]).length:=h1
    have h2':b < (S.M ++ [c]).length:=h2
    have e':(if a = S.M.length then p else S.α a) = (if b = S.M.length then p else S.α b):=e
    simp at h1' h2'
    by_cases ha:a = S.M.length
    · by_cases hb:b = S.M.length
      · omega
      · rw [if_pos ha,if_neg hb] at e'
        exact absurd e'.symm ((m.off_none hp).1 b (by omega))
    · by_cases hb:b = S.M.length
      · rw [if_neg ha,if_pos hb] at e'
        exact absurd e' ((m.off_none hp).1 a (by omega))
      · rw [if_neg ha,if_neg hb] at e'
        exact m.inj a b (by omega) (by omega) e'
noncomputable def Sit.put (S:Sit) (a:Nat) (o:HO) (c:Cell):Sit:=⟨S.α,S.M.set a c,upd S.H (S.α a) o,S.hid⟩
theorem Grow.put (m:MemOk K S) {a:Nat} (ha:a < S.M.length) (o:HO) (c:Cell):Grow S (S.put a o c):=by
  refine ⟨by show _<=(S.M.set a c).length;simp,fun _ _=>rfl,fun b h1 h2=>?_,fun b u e f=>?_,fun q h=>⟨h,qd (Ne.symm ((m.hd q h).1 a ha))⟩,fun q h=>.inl h⟩
  · have h3:b < (S.M.set a c).length:=h2
    simp at h3
    exact absurd (Nat.lt_of_lt_of_le h3 h1) (Nat.lt_irrefl _)
  · show upd S.H (S.α a) o b = _
    rw [qd (Ne.symm (f.1 a ha))];exact e
theorem Stp.put (m:MemOk K S) {a:Nat} (ha:a < S.M.length) (o:HO) (c:Cell) (hc:CellOk K (S.put a o c) (S.α a) c):Stp K S (S.put a o c):=by
  have g:=Grow.put m ha o c
  refine ⟨g,⟨fun b d e=>?_,fun i j h1 h2 e=>?_,fun q h=>?_⟩⟩
  rotate_right
  · obtain ⟨h1,vs,e⟩:=m.hd q h
    refine ⟨fun b hb z=>?_,vs,(qd (Ne.symm (h1 a ha))).trans e⟩
    have h3:b < (S.M.set a c).length:=hb
    simp at h3
    exact h1 b h3 z
  · have e':(S.M.set a c)[b]? = some d:=e
    rw [List.getElem?_set] at e'
    by_cases h:a = b
    · subst h
      rw [if_pos rfl,if_pos ha] at e'
      cases e'
      exact hc
    · rw [if_neg h] at e'
      refine (m.cell b d e').grow m g (qd fun z=>h ?_)
      exact (m.inj b a (List.getElem?_eq_some_iff.mp e').1 ha z).symm
  · have h1':i < (S.M.set a c).length:=h1
    have h2':j < (S.M.set a c).length:=h2
    simp at h1' h2'
    exact m.inj i j h1' h2' e
end
noncomputable def EvR (K:PySem.W.Frag) (S:Sit) (στ:Ev) (σ:L2.St):Prop:=στ.length = σ.length/\∀ (i:Nat) t,στ[i]? = some (some t)->∃ v,σ[i]? = some (some v)/\Rep K S t v
class Mo (K:PySem.W.Frag) {β γ:Type} (R:Sit->β->γ->Prop):Prop where
  mo:∀ {S S' b c},MemOk K S->Stp K S S'->R S b c->R S' b c
noncomputable def UnR:Sit->Unit->Unit->Prop:=fun _ _ _=>True
noncomputable def EqR {β:Type}:Sit->β->β->Prop:=fun _ b c=>b = c
noncomputable def PrR {A AV B BV:Type} (RA:Sit->A->AV->Prop) (RB:Sit->B->BV->Prop):Sit->A × B->AV × BV->Prop:=fun S a v=>RA S a.1 v.1/\RB S a.2 v.2
instance (K):Mo K (Rep K):=⟨fun m s r=>r.grow m s.toGrow⟩
instance (K):Mo K (Reps K):=⟨fun m s r=>r.grow m s.toGrow⟩
instance (K):Mo K (EvR K):=⟨fun m s r=>⟨r.1,fun i t e=>let ⟨v,e',q⟩:=r.2 i t e;⟨v,e',q.grow m s.toGrow⟩⟩⟩
instance (K):Mo K UnR:=⟨fun _ _ r=>r⟩
instance (K) {β:Type}:Mo K (EqR (β:=β)):=⟨fun _ _ r=>r⟩
instance (K) {A AV B BV:Type} (RA:Sit->A->AV->Prop) (RB:Sit->B->BV->Prop) [Mo K RA] [Mo K RB]:Mo K (PrR RA RB):=⟨fun m s r=>⟨Mo.mo m s r.1,Mo.mo m s r.2⟩⟩
noncomputable def zmS (K:PySem.W.Frag) (S:Sit) (fs:List (Str × T)) (od:Option Addr):Prop:=(fs = []/\od = none)\/∃ d us,od = some d/\S.H d = some (.xd us)/\RepF K S fs us
noncomputable def Fin {β γ:Type} (XE:XK) (R:Sit->β->γ->Prop) (K:PySem.W.Frag) (S:Sit) (o:Out β) (Q:γ->Hp->Prop):Prop:=match o with
  | .ok b M'=>∀ S' c,S'.M = M'->Stp K S S'->R S' b c->Q c S'.H
  | .exn C fs M'=>∀ S' od,S'.M = M'->Stp K S S'->zmS K S' fs od->XE (.ref C) od S'.H
  | .bad=>False
theorem Fin.later {β γ:Type} {XE:XK} {R:Sit->β->γ->Prop} {K:PySem.W.Frag} {S S1:Sit} {o:Out β} {Q:γ->Hp->Prop} (s:Stp K S S1) (h:Fin XE R K S o Q):Fin XE R K S1 o Q:=by
  cases o with
  | ok b M'=>exact fun S' c e s' r=>h S' c e (s.trans s') r
  | exn C fs M'=>exact fun S' c e s' r=>h S' c e (s.trans s') r
  | bad=>exact h
theorem Fin.mono {β γ:Type} {XE:XK} {R:Sit->β->γ->Prop} {K:PySem.W.Frag} {S:Sit} {o:Out β} {Q Q':γ->Hp->Prop} (i:∀ c H,Q c H->Q' c H) (h:Fin XE R K S o Q):Fin XE R K S o Q':=by
  cases o with
  | ok b M'=>exact fun S' c e s' r=>i _ _ (h S' c e s' r)
  | exn C fs M'=>exact h
  | bad=>exact h
noncomputable def LN {A AV β γ:Type} (XE:XK) (R:Sit->β->γ->Prop) (K:PySem.W.Frag) (RA:Sit->A->AV->Prop) (k:A->Ev->Mem->Out β) (av:AV) (σ:L2.St) (H:Hp) (Q:γ->Hp->Prop):Prop:=
  ∃ (S:Sit) (στ:Ev) (a:A),S.H = H/\MemOk K S/\EvR K S στ σ/\RA S a av/\Fin XE R K S (k a στ S.M) Q
noncomputable def L0 {A AV β γ:Type} (XE:XK) (R:Sit->β->γ->Prop) (K:PySem.W.Frag) (RA:Sit->A->AV->Prop) (k:A->Mem->Out β) (av:AV) (H:Hp) (Q:γ->Hp->Prop):Prop:=
  ∃ (S:Sit) (a:A),S.H = H/\MemOk K S/\RA S a av/\Fin XE R K S (k a S.M) Q
section
variable {K:PySem.W.Frag} {XE:XK}
theorem LN.bind {A AV B BV β γ:Type} {R:Sit->β->γ->Prop} {RA:Sit->A->AV->Prop} {RB:Sit->B->BV->Prop} [Mo K RA] {f:A->Ev->Mem->Out B} {k:A->B->Ev->Mem->Out β} {av:AV} {σ:L2.St} {H:Hp} {Q:γ->Hp->Prop}
    (h:LN XE R K RA (fun a σ M=>(f a σ M).bind fun b M1=>k a b σ M1) av σ H Q) :
    LN XE RB K RA f av σ H (fun bv H1=>LN XE R K (PrR RA RB) (fun ab=>k ab.1 ab.2) (av,bv) σ H1 Q):=by
  obtain ⟨S,στ,a,e,m,ev,ra,fin⟩:=h
  refine ⟨S,στ,a,e,m,ev,ra,?_⟩
  replace fin:Fin XE R K S ((f a στ S.M).bind fun b M1=>k a b στ M1) Q:=fin
  cases q:f a στ S.M with
  | bad=>rw [q] at fin;exact fin
  | exn C fs M'=>rw [q] at fin;exact fin
  | ok b M1=>
    rw [q] at fin
    intro S1 c e1 s1 r1
    refine ⟨S1,στ,(a,b),rfl,s1.mok,Mo.mo m s1 ev,⟨Mo.mo m s1 ra,r1⟩,?_⟩
    rw [e1]
    exact fin.later s1
theorem LN.l0 {A AV β γ:Type} {R:Sit->β->γ->Prop} {RA:Sit->A->AV->Prop} {k:A->Mem->Out β} {av:AV} {σ:L2.St} {H:Hp} {Q:γ->Hp->Prop} (h:LN XE R K RA (fun a _ M=>k a M) av σ H Q):L0 XE R K RA k av H Q:=by
  obtain ⟨S,στ,a,e,m,ev,ra,fin⟩:=h
  exact ⟨S,a,e,m,ra,fin⟩
theorem LN.mono {A AV β γ:Type} {R:Sit->β->γ->Prop} {RA:Sit->A->AV->Prop} {k:A->Ev->Mem->Out β} {av:AV} {σ:L2.St} {H:Hp} {Q Q':γ->Hp->Prop} (h:LN XE R K RA k av σ H Q) (i:∀ c H,Q c H->Q' c H):LN XE R K RA k av σ H Q':=by
  obtain ⟨S,στ,a,e,m,ev,ra,fin⟩:=h
  exact ⟨S,στ,a,e,m,ev,ra,fin.mono i⟩
theorem LN.env {A AV β γ:Type} {R:Sit->β->γ->Prop} {RA:Sit->A->AV->Prop} {f:Ev->Mem->Out β} {av:AV} {σ:L2.St} {H:Hp} {Q:γ->Hp->Prop} (h:LN XE R K RA (fun _ σ M=>f σ M) av σ H Q):LN XE R K UnR (fun _ σ M=>f σ M) () σ H Q:=by
  obtain ⟨S,στ,a,e,m,ev,ra,fin⟩:=h
  exact ⟨S,στ,(),e,m,ev,trivial,fin⟩
end
noncomputable def lE (XE:XK) (K:PySem.W.Frag) (f:Ev->Mem->Out T):TE:=fun σ H Q=>LN XE (Rep K) K UnR (fun _ σ M=>f σ M) () σ H Q
noncomputable def lT (XE:XK) (K:PySem.W.Frag) (f:Ev->Mem->Out Bool):TT:=fun σ H Q=>LN XE EqR K UnR (fun _ σ M=>f σ M) () σ H Q
noncomputable def lA (XE:XK) (K:PySem.W.Frag) (f:Ev->Mem->Out (List T)):TA:=fun σ H Q=>LN XE (Reps K) K UnR (fun _ σ M=>f σ M) () σ H Q
noncomputable def GE (X:Cx) (XE:XK) (e:Expr) (f:Ev->Mem->Out T):Prop:=PE X e (lE XE X.K f)
noncomputable def GT (X:Cx) (XE:XK) (e:Expr) (f:Ev->Mem->Out Bool):Prop:=PT X e (lT XE X.K f)
noncomputable def GW (X:Cx) (XE:XK) (e:Expr) (f:Ev->Mem->Out Bool):Prop:=PW X e (lT XE X.K f)
noncomputable def GA (X:Cx) (XE:XK) (es:List Expr) (f:Ev->Mem->Out (List T)):Prop:=PA X es (lA XE X.K f)
theorem PE.imp {X:Cx} {e:Expr} {t t':TE} (h:PE X e t) (i:∀ σ H Q,t' σ H Q->t σ H Q):PE X e t':=fun pins s σ H Q I q=>h pins s σ H Q I (i σ H Q q)
theorem PT.imp {X:Cx} {e:Expr} {t t':TT} (h:PT X e t) (i:∀ σ H Q,t' σ H Q->t σ H Q):PT X e t':=fun pins s σ H Q I q=>h pins s σ H Q I (i σ H Q q)
theorem PW.imp {X:Cx} {e:Expr} {t t':TT} (h:PW X e t) (i:∀ σ H Q,t' σ H Q->t σ H Q):PW X e t':=fun whole pins s σ H Q I q=>h whole pins s σ H Q I (i σ H Q q)
theorem PA.imp {X:Cx} {e:List Expr} {t t':TA} (h:PA X e t) (i:∀ σ H Q,t' σ H Q->t σ H Q):PA X e t':=fun pos pins s σ H Q I q=>h pos pins s σ H Q I (i σ H Q q)
theorem PS.imp {X:Cx} {e:Stmt} {t t':TS} (h:PS X e t) (i:∀ D σ H,t' D σ H->t D σ H):PS X e t':=fun pins s σ H D I q=>h pins s σ H D I (i D σ H q)
theorem PSs.imp {X:Cx} {e:List Stmt} {t t':TS} (h:PSs X e t) (i:∀ D σ H,t' D σ H->t D σ H):PSs X e t':=fun pins s σ H D I q=>h pins s σ H D I (i D σ H q)
end FT
namespace FT
open PySem PySem.Spec PyProof.Rows L2
noncomputable def yb (i:Nat):Ev->Mem->Out T:=fun σ M=>match σ[i]? with
  | some (some t)=>.ok t M
  | _=>.bad
noncomputable def eC (t:T):Ev->Mem->Out T:=fun _ M=>.ok t M
noncomputable def eOp (o:T->T->Mem->Out T) (f g:Ev->Mem->Out T):Ev->Mem->Out T:=fun σ M=>(f σ M).bind fun x M1=>(g σ M1).bind fun y M2=>o x y M2
noncomputable def eUn (o:T->Mem->Out T) (f:Ev->Mem->Out T):Ev->Mem->Out T:=fun σ M=>(f σ M).bind fun x M1=>o x M1
noncomputable def blT {β:Type} (t:T) (M:Mem) (k:Bool->Mem->Out β):Out β:=match t with
  | .bl b=>k b M
  | _=>.bad
noncomputable def qB (f:Ev->Mem->Out T):Ev->Mem->Out Bool:=fun σ M=>(f σ M).bind fun x M1=>blT x M1 fun b M2=>.ok b M2
noncomputable def zoJ (f g:Ev->Mem->Out Bool):Ev->Mem->Out Bool:=fun σ M=>(f σ M).bind fun c M1=>if c = true then g σ M1 else .ok false M1
noncomputable def zdC (f g:Ev->Mem->Out Bool):Ev->Mem->Out Bool:=fun σ M=>(f σ M).bind fun c M1=>if c = true then .ok true M1 else g σ M1
noncomputable def zg7 (f:Ev->Mem->Out Bool):Ev->Mem->Out Bool:=fun σ M=>(f σ M).bind fun c M1=>.ok (!c) M1
noncomputable def zjE (f g:Ev->Mem->Out T):Ev->Mem->Out T:=fun σ M=>(f σ M).bind fun x M1=>blT x M1 fun b M2=>if b = true then g σ M2 else .ok (.bl false) M2
noncomputable def eOr (f g:Ev->Mem->Out T):Ev->Mem->Out T:=fun σ M=>(f σ M).bind fun x M1=>blT x M1 fun b M2=>if b = true then .ok (.bl true) M2 else g σ M2
noncomputable def zoV (f:Ev->Mem->Out T):Ev->Mem->Out T:=fun σ M=>(f σ M).bind fun x M1=>blT x M1 fun b M2=>.ok (.bl (!b)) M2
noncomputable def eIf (c:Ev->Mem->Out Bool) (f g:Ev->Mem->Out T):Ev->Mem->Out T:=fun σ M=>(c σ M).bind fun b M1=>if b = true then f σ M1 else g σ M1
noncomputable def yd:Ev->Mem->Out (List T):=fun _ M=>.ok [] M
noncomputable def zb (f:Ev->Mem->Out T) (g:Ev->Mem->Out (List T)):Ev->Mem->Out (List T):=fun σ M=>(f σ M).bind fun x M1=>(g σ M1).bind fun xs M2=>.ok (x :: xs) M2
noncomputable def zaZ (g:Ev->Mem->Out (List T)):Ev->Mem->Out T:=fun σ M=>(g σ M).bind fun xs M1=>if xs.length<=sizeLine then .ok (.tup xs) M1 else .bad
noncomputable def qr (g:Ev->Mem->Out (List T)):Ev->Mem->Out (List T):=fun σ M=>(g σ M).bind fun xs M1=>if xs.length<=sizeLine then .ok xs M1 else .bad
noncomputable def eFz (g:Ev->Mem->Out (List T)):Ev->Mem->Out T:=fun σ M=>(g σ M).bind fun xs M1=>.ok (.lst xs) M1
noncomputable def eTk (g:Ev->Mem->Out (List T)):Ev->Mem->Out T:=fun σ M=>(g σ M).bind fun xs M1=>.ok (.ref M1.length) (M1 ++ [.lst xs])
noncomputable def ze (f:List T->Mem->Out T) (g:Ev->Mem->Out (List T)):Ev->Mem->Out T:=fun σ M=>(g σ M).bind fun ts M1=>f ts M1
noncomputable def zoF (o o':T->T->Mem->Out T) (f g h:Ev->Mem->Out T):Ev->Mem->Out T:=fun σ M=>(f σ M).bind fun x M1=>(g σ M1).bind fun y M2=>(o x y M2).bind fun z M3=>blT z M3 fun b M4=>if b = true then (h σ M4).bind fun w M5=>o' y w M5 else .ok (.bl false) M4
noncomputable def lR2 (XE:XK) (K:PySem.W.Frag) (o:T->T->Mem->Out T):R2:=fun x y H Q=>L0 XE (Rep K) K (PrR (Rep K) (Rep K)) (fun a M=>o a.1 a.2 M) (x,y) H Q
noncomputable def lRN (XE:XK) (K:PySem.W.Frag) (o:List T->Mem->Out T):List V->Hp->VK->Prop:=fun xs H Q=>L0 XE (Rep K) K (Reps K) o xs H Q
noncomputable def FinL (XE:XK) (K:PySem.W.Frag) (S:Sit) (o:Out (List T)) (Q:VK):Prop:=match o with
  | .ok xs M'=>∀ S' p vs,S'.M = M'->Stp K S S'->S.H p = none->p ∈ S'.hid->S'.H p = some (.lst vs)->Reps K S' xs vs->Q (.ref p) S'.H
  | .exn C fs M'=>∀ S' od,S'.M = M'->Stp K S S'->zmS K S' fs od->XE (.ref C) od S'.H
  | .bad=>False
theorem FinL.later {XE:XK} {K:PySem.W.Frag} {S S1:Sit} {o:Out (List T)} {Q:VK} (s:Stp K S S1) (h:FinL XE K S o Q):FinL XE K S1 o Q:=by
  have nn:∀ p,S1.H p = none->S.H p = none:=fun p hn=>by
    cases q:S.H p with
    | none=>rfl
    | some o=>
      by_cases f:S.off p
      · rw [s.kp _ _ q f] at hn;cases hn
      · exfalso
        apply f
        refine ⟨fun c hc z=>?_,fun z=>?_⟩
        · have h3:c < S1.M.length:=Nat.lt_of_lt_of_le hc s.le
          obtain ⟨o',e',_⟩:=s.mok.some h3
          rw [s.al c hc,z,hn] at e'
          cases e'
        · rw [(s.hk p z).2,q] at hn;cases hn
  cases o with
  | ok b M'=>exact fun S' p vs e s' f=>h S' p vs e (s.trans s') (nn p f)
  | exn C fs M'=>exact fun S' c e s' r=>h S' c e (s.trans s') r
  | bad=>exact h
noncomputable def lL (XE:XK) (K:PySem.W.Frag) (f:Ev->Mem->Out (List T)):TE:=fun σ H Q=>∃ (S:Sit) (στ:Ev),S.H = H/\MemOk K S/\EvR K S στ σ/\FinL XE K S (f στ S.M) Q
noncomputable def GL (X:Cx) (XE:XK) (e:Expr) (f:Ev->Mem->Out (List T)):Prop:=PE X e (lL XE X.K f)
section
variable {K:PySem.W.Frag} {S S':Sit}
noncomputable def Sit.show (S':Sit) (h:List Addr):Sit:=⟨S'.α,S'.M,S'.H,h⟩
theorem Rep.show {h:List Addr} (sub:∀ p ∈ h,p ∈ S'.hid) {t:T} {v:V} (r:Rep K S' t v):Rep K (S'.show h) t v:=by
  induction r with
  | non=>exact .non
  | bl b=>exact .bl b
  | int b=>exact .int b
  | str b=>exact .str b
  | ty b=>exact .ty b
  | tup h l _ ih=>exact .tup h l ih
  | lst h l _ ih=>
    refine .lst ?_ l ih
    rcases h with ⟨h,f⟩ | h
    · exact .inl ⟨h,f.1,fun z=>f.2 (sub _ z)⟩
    · exact .inr h
  | ref h=>exact .ref (S:=S'.show _) h
  | dct h l _ ih=>exact .dct h l ih
  | exc h hd l _ ih=>exact .exc h hd l ih
theorem Reps.show {h:List Addr} (sub:∀ p ∈ h,p ∈ S'.hid) {ts:List T} {vs:List V} (r:Reps K S' ts vs):Reps K (S'.show h) ts vs:=⟨r.1,fun i t v e1 e2=>(r.2 i t v e1 e2).show sub⟩
theorem CellOk.show {h:List Addr} (sub:∀ p ∈ h,p ∈ S'.hid) {p:Addr} {c:Cell} (q:CellOk K S' p c):CellOk K (S'.show h) p c:=by
  cases c with
  | lst ts=>obtain ⟨vs,q,r⟩:=q;exact ⟨vs,q,r.show sub⟩
  | dic ts=>obtain ⟨vs,q,r⟩:=q;exact ⟨vs,q,r.1,r.2.show sub⟩
  | ins C ts=>obtain ⟨dx,vs,q,r⟩:=q;exact ⟨dx,vs,q,r.1,r.2.show sub⟩
theorem Stp.show (s:Stp K S S'):Stp K S (S'.show S.hid):=by
  have sub:∀ p ∈ S.hid,p ∈ S'.hid:=fun p h=>(s.hk p h).1
  exact ⟨⟨s.le,s.al,s.fr,s.kp,fun p h=>⟨h,(s.hk p h).2⟩,fun p h=>.inl h⟩,⟨fun a c e=>(s.mok.cell a c e).show sub,s.mok.inj,fun p h=>s.mok.hd p (sub p h)⟩⟩
theorem zkJ (s:Stp K S S') {p:Addr} {vs:List V} (hn:S.H p = none) (m:MemOk K S) (hp:p ∈ S'.hid) (e:S'.H p = some (.lst vs)) {xs:List T} (r:Reps K S' xs vs):Rep K (S'.show S.hid) (.lst xs) (.ref p):=by
  have sub:∀ p ∈ S.hid,p ∈ S'.hid:=fun p h=>(s.hk p h).1
  refine .lst (.inl ⟨.inl e,(s.mok.hd p hp).1,fun z=>?_⟩) r.1 (r.show sub).2
  obtain ⟨_,us,q⟩:=m.hd p z
  rw [hn] at q
  cases q
noncomputable def Sit.track (S':Sit) (p:Addr) (xs:List T) (h:List Addr):Sit:=⟨fun a=>if a = S'.M.length then p else S'.α a,S'.M ++ [.lst xs],S'.H,h⟩
theorem Rep.track {p:Addr} {xs:List T} {hh:List Addr} (hp:p ∈ S'.hid) (sub:∀ p ∈ hh,p ∈ S'.hid) {t:T} {v:V} (r:Rep K S' t v):Rep K (S'.track p xs hh) t v:=by
  induction r with
  | non=>exact .non
  | bl b=>exact .bl b
  | int b=>exact .int b
  | str b=>exact .str b
  | ty b=>exact .ty b
  | tup h l _ ih=>exact .tup h l ih
  | lst h l _ ih=>
    refine .lst ?_ l ih
    rcases h with ⟨h,f⟩ | h
    · refine .inl ⟨h,fun a ha z=>?_,fun z=>f.2 (sub _ z)⟩
      have z':(if a = S'.M.length then p else S'.α a) = _:=z
      by_cases hl:a = S'.M.length
      · rw [if_pos hl] at z';rw [← z'] at f;exact f.2 hp
      · rw [if_neg hl] at z'
        have h3:a < (S'.M ++ [Cell.lst xs]).length:=ha
        exact f.1 a (by simp at h3;omega) z'
    · exact .inr h
  | @ref a h=>
    have:S'.α a = (S'.track p xs hh).α a:=(if_neg (Nat.ne_of_lt h)).symm
    rw [this]
    exact .ref (by show a < (S'.M ++ [Cell.lst xs]).length;simp;omega)
  | dct h l _ ih=>exact .dct h l ih
  | exc h hd l _ ih=>exact .exc h hd l ih
theorem Reps.track {p:Addr} {xs:List T} {h:List Addr} (hp:p ∈ S'.hid) (sub:∀ p ∈ h,p ∈ S'.hid) {ts:List T} {vs:List V} (r:Reps K S' ts vs):Reps K (S'.track p xs h) ts vs:=⟨r.1,fun i t v e1 e2=>(r.2 i t v e1 e2).track hp sub⟩
theorem CellOk.track {p:Addr} {xs:List T} {h:List Addr} (hp:p ∈ S'.hid) (sub:∀ p ∈ h,p ∈ S'.hid) {q:Addr} {c:Cell} (o:CellOk K S' q c):CellOk K (S'.track p xs h) q c:=by
  cases c with
  | lst ts=>obtain ⟨vs,q,r⟩:=o;exact ⟨vs,q,r.track hp sub⟩
  | dic ts=>obtain ⟨vs,q,r⟩:=o;exact ⟨vs,q,r.1,r.2.track hp sub⟩
  | ins C ts=>obtain ⟨dx,vs,q,r⟩:=o;exact ⟨dx,vs,q,r.1,r.2.track hp sub⟩
theorem Stp.track (s:Stp K S S') (m:MemOk K S) {p:Addr} {vs:List V} (hn:S.H p = none) (hp:p ∈ S'.hid) (e:S'.H p = some (.lst vs)) {xs:List T} (r:Reps K S' xs vs):Stp K S (S'.track p xs S.hid):=by
  have sub:∀ p ∈ S.hid,p ∈ S'.hid:=fun p h=>(s.hk p h).1
  have lt:∀ a,a < S'.M.length->(S'.track p xs S.hid).α a = S'.α a:=fun a h=>if_neg (Nat.ne_of_lt h)
  refine ⟨⟨Nat.le_trans s.le (by show _<=(S'.M ++ [Cell.lst xs]).length;simp),fun a h=>(lt a (Nat.lt_of_lt_of_le h s.le)).trans (s.al a h),fun a h1 h2=>?_,s.kp,fun p h=>⟨h,(s.hk p h).2⟩,fun p h=>.inl h⟩,⟨fun a c e2=>?_,fun a b h1 h2 e2=>?_,fun q h=>?_⟩⟩
  · by_cases hl:a < S'.M.length
    · rw [lt a hl];exact s.fr a h1 hl
    · have h3:a < (S'.M ++ [Cell.lst xs]).length:=h2
      have:a = S'.M.length:=by simp at h3;omega
      show S.H (if a = S'.M.length then p else S'.α a) = none
      rw [if_pos this];exact hn
  · have e':(S'.M ++ [Cell.lst xs])[a]? = some c:=e2
    by_cases ha:a < S'.M.length
    · rw [List.getElem?_append_left ha] at e'
      rw [lt a ha]
      exact (s.mok.cell a c e').track hp sub
    · rw [List.getElem?_append_right (Nat.le_of_not_lt ha)] at e'
      have h3:a - S'.M.length = 0:=by
        cases q:a - S'.M.length with
        | zero=>rfl
        | succ k=>rw [q] at e';simp at e'
      rw [h3] at e'
      cases e'
      show CellOk K _ (if a = S'.M.length then p else S'.α a) _
      rw [if_pos (by omega)]
      exact ⟨vs,e,r.track hp sub⟩
  · have h1':a < (S'.M ++ [Cell.lst xs]).length:=h1
    have h2':b < (S'.M ++ [Cell.lst xs]).length:=h2
    have e':(if a = S'.M.length then p else S'.α a) = (if b = S'.M.length then p else S'.α b):=e2
    simp at h1' h2'
    by_cases ha:a = S'.M.length
    · by_cases hb:b = S'.M.length
      · omega
      · rw [if_pos ha,if_neg hb] at e'
        exact absurd e'.symm ((s.mok.hd p hp).1 b (by omega))
    · by_cases hb:b = S'.M.length
      · rw [if_neg ha,if_pos hb] at e'
        exact absurd e' ((s.mok.hd p hp).1 a (by omega))
      · rw [if_neg ha,if_neg hb] at e'
        exact s.mok.inj a b (by omega) (by omega) e'
  · obtain ⟨h1,us,q1⟩:=s.mok.hd q (sub q h)
    refine ⟨fun a ha z=>?_,us,q1⟩
    have z':(if a = S'.M.length then p else S'.α a) = q:=z
    have h3:a < (S'.M ++ [Cell.lst xs]).length:=ha
    by_cases hl:a = S'.M.length
    · rw [if_pos hl] at z'
      obtain ⟨_,us2,q2⟩:=m.hd q h
      rw [← z',hn] at q2
      cases q2
    · rw [if_neg hl] at z'
      exact h1 a (by simp at h3;omega) z'
noncomputable def Sit.hide (S:Sit) (p:Addr) (vs:List V):Sit:=⟨S.α,S.M,upd S.H p (.lst vs),p :: S.hid⟩
theorem Stp.hide (m:MemOk K S) {p:Addr} (hp:S.H p = none) (vs:List V):Stp K S (S.hide p vs):=by
  have g:Grow S (S.hide p vs):=⟨Nat.le_refl _,fun _ _=>rfl,fun a h1 h2=>absurd (Nat.lt_of_lt_of_le h2 h1) (Nat.lt_irrefl _),fun b u e _=>by show upd S.H p _ b = _;rw [qd (zk e hp)];exact e,fun q h=>⟨.tail _ h,by obtain ⟨_,vs,e⟩:=m.hd q h;exact qd (zk e hp)⟩,fun q h=>by
    cases h with
    | head=>exact .inr hp
    | tail _ h=>exact .inl h⟩
  refine ⟨g,⟨fun a c e=>?_,m.inj,fun q h=>?_⟩⟩
  · have ha:a < S.M.length:=(List.getElem?_eq_some_iff.mp e).1
    exact (m.cell a c e).grow m g (qd ((m.off_none hp).1 a ha))
  · cases h with
    | head=>exact ⟨(m.off_none hp).1,vs,qf⟩
    | tail _ h=>
      obtain ⟨h1,us,e⟩:=m.hd q h
      exact ⟨h1,us,(qd (zk e hp)).trans e⟩
end
section
variable {X:Cx} {XE:XK} {a b c e:Expr} {es:List Expr} {f g h:Ev->Mem->Out T} {pos:Pos} {ga:Ev->Mem->Out (List T)}
theorem zmB {i:Nat} (h:PE X e (zbF i)):GE X XE e (yb i):=PE.imp h fun σ H Q h9=>by
  obtain ⟨S,στ,_,e,m,ev,_,fin⟩:=h9
  replace fin:Fin XE (Rep X.K) X.K S (yb i στ S.M) Q:=fin
  unfold yb at fin
  cases q:στ[i]? with
  | none=>rw [q] at fin;exact fin.elim
  | some o=>
    cases o with
    | none=>rw [q] at fin;exact fin.elim
    | some t=>
      rw [q] at fin
      obtain ⟨v,e2,r⟩:=ev.2 i t q
      exact ⟨v,e2,by rw [← e];exact fin S v rfl (.refl m) r⟩
theorem zbs {t:T} {v:V} (h:PE X e (tC v)) (r:∀ S,Rep X.K S t v):GE X XE e (eC t):=PE.imp h fun σ H Q h9=>by
  obtain ⟨S,στ,_,e,m,ev,_,fin⟩:=h9
  show Q v H
  rw [← e];exact fin S v rfl (.refl m) (r S)
theorem ge_int {i j}:GE X XE (.Constant (.int i) j pos) (eC (.int i)):=zbs zlK fun _=>.int _
theorem znu {i j}:GE X XE (.Constant (.bool i) j pos) (eC (.bl i)):=zbs znc fun _=>.bl _
theorem zmE {j}:GE X XE (.Constant .none j pos) (eC .non):=zbs zlI fun _=>.non
theorem zkY {x:Str} {n:String} (hg:Gl X x) (hm:X.mg x = none) (hv:bootBuiltins x = some (.type n)) (hn:x ≠ "__name__":=by decide) (hd:(x == ("__debug__":Str)) = false:=by decide):GE X XE (.Name x pos) (eC (.ty n)):=zbs (zko (v:=.ty n) hg hm hv rfl hn hd) fun _=>.ty _
theorem zeS {o:T->T->Mem->Out T} {K:PySem.W.Frag} {σ:L2.St} {H:Hp} {Q:VK} (h:lE XE K (eOp o f g) σ H Q):lE XE K f σ H fun x H1=>lE XE K g σ H1 fun y H2=>lR2 XE K o x y H2 Q:=
  LN.mono (LN.bind (f:=fun _ σ M=>f σ M) (k:=fun _ x σ M1=>(g σ M1).bind fun y M2=>o x y M2) (RB:=Rep K) h) fun v H1 h1=>
    LN.mono (LN.env (f:=g) (LN.bind (f:=fun _ σ M=>g σ M) (k:=fun (ax:Unit × T) y σ M2=>o ax.2 y M2) (RB:=Rep K) h1)) fun w H2 h2=>by
      obtain ⟨S,στ,a,e,m,ev,ra,fin⟩:=h2
      exact ⟨S,(a.1.2,a.2),e,m,⟨ra.1.2,ra.2⟩,fin⟩
theorem znr {op:Operator} {o:T->T->Mem->Out T} (ho:OpR X (binaryOp op) (lR2 XE X.K o)) (ha:GE X XE a f) (hb:GE X XE b g):GE X XE (.BinOp a op b pos) (eOp o f g):=PE.imp (zhj ho ha hb) fun _ _ _ h=>zeS h
theorem zmF {op:CmpOp} {o:T->T->Mem->Out T} (ho:OpR X (compareOp op) (lR2 XE X.K o)) (ha:GE X XE a f) (hb:GE X XE b g) (hm:behindInMarks op b = false):GE X XE (.Compare a [op] [b] pos) (eOp o f g):=PE.imp (zkm ho ha hb hm) fun _ _ _ h=>zeS h
theorem zns {o:T->T->Mem->Out T} (ho:IxR X (lR2 XE X.K o)) (ha:GE X XE a f) (hb:GE X XE b g) (hs:zec b):GE X XE (.Subscript a b pos) (eOp o f g):=PE.imp (znb ho ha hb hs) fun _ _ _ h=>zeS h
theorem zhK {K:PySem.W.Frag} {β γ:Type} {R:Sit->β->γ->Prop} {S:Sit} {t:T} {v:V} {M:Mem} {k:Bool->Mem->Out β} {Q:γ->Hp->Prop} (r:Rep K S t v) (h:Fin XE R K S (blT t M k) Q):∃ b,v = .bl b/\t = .bl b/\Fin XE R K S (k b M) Q:=by
  cases r with
  | bl b=>exact ⟨b,rfl,rfl,h⟩
  | _=>exact h.elim
theorem zmm (ha:GE X XE e f) (he:∀ whole,isTrue e X.env whole = (do let v ← whole;standAt e.pos;holding [v] (truthy v)):=by intro _;rfl):GT X XE e (qB f):=PT.imp (zlx ha he) fun σ H Q h=>
  LN.mono (LN.bind (f:=fun _ σ M=>f σ M) (k:=fun _ x σ M1=>blT x M1 fun b M2=>.ok b M2) (RB:=Rep X.K) h) fun v H1 h2=>by
    obtain ⟨S,στ,a,e,m,ev,ra,fin⟩:=h2
    obtain ⟨b,e1,_,fin⟩:=zhK ra.2 fin
    exact ⟨b,e1,by rw [← e];exact fin S b rfl (.refl m) rfl⟩
theorem zmo {op:CmpOp} {o:T->T->Mem->Out T} (ho:OpR X (compareOp op) (lR2 XE X.K o)) (ha:GE X XE a f) (hb:GE X XE b g) (hm:behindInMarks op b = false):GT X XE (.Compare a [op] [b] pos) (qB (eOp o f g)):=PT.imp (zkb ho ha hb hm) fun σ H Q h=>by
  have h1:=LN.bind (f:=fun _ σ M=>eOp o f g σ M) (k:=fun _ x σ M1=>blT x M1 fun b M2=>.ok b M2) (RB:=Rep X.K) h
  refine zeS (LN.mono h1 fun v H1 h2=>?_)
  obtain ⟨S,στ,a,e,m,ev,ra,fin⟩:=h2
  obtain ⟨b,e1,_,fin⟩:=zhK ra.2 fin
  exact ⟨b,e1,by rw [← e];exact fin S b rfl (.refl m) rfl⟩
theorem tif {tf tg:Ev->Mem->Out Bool} {K:PySem.W.Frag} {σ:L2.St} {H:Hp} {Q:Bool->Hp->Prop} {p:Bool->Ev->Mem->Out Bool} (h:LN XE EqR K UnR (fun _ σ M=>(tf σ M).bind fun c M1=>p c σ M1) () σ H Q):lT XE K tf σ H fun c H1=>lT XE K (fun σ M=>p c σ M) σ H1 Q:=
  LN.mono (LN.bind (f:=fun _ σ M=>tf σ M) (k:=fun _ c σ M1=>p c σ M1) (RB:=EqR) h) fun c H1 h2=>by
    obtain ⟨S,στ,a,e,m,ev,ra,fin⟩:=h2
    have:a.2 = c:=ra.2
    subst this
    exact ⟨S,στ,(),e,m,ev,trivial,fin⟩
theorem zhp {K:PySem.W.Frag} {σ:L2.St} {H:Hp} {Q:Bool->Hp->Prop} {d:Bool} (h:lT XE K (fun _ M=>.ok d M) σ H Q):Q d H:=by
  obtain ⟨S,στ,a,e,m,ev,ra,fin⟩:=h
  rw [← e];exact fin S d rfl (.refl m) rfl
theorem zni {K:PySem.W.Frag} {σ:L2.St} {H:Hp} {Q:VK} {d:T} {v:V} (h:lE XE K (fun _ M=>.ok d M) σ H Q) (r:∀ S,Rep K S d v):Q v H:=by
  obtain ⟨S,στ,a,e,m,ev,ra,fin⟩:=h
  rw [← e];exact fin S v rfl (.refl m) (r S)
variable {tf tg:Ev->Mem->Out Bool} {rest:List Expr}
theorem zml (ha:GT X XE a tf):GW X XE (.BoolOp .Or [a] pos) tf:=zlw ha
theorem znn (ha:GT X XE a tf) (hb:GW X XE (.BoolOp .Or (b :: rest) pos) tg):GW X XE (.BoolOp .Or (a :: b :: rest) pos) (zdC tf tg):=PW.imp (zm9 ha hb) fun σ H Q h=>
  LN.mono (tif (tf:=tf) (tg:=tg) (p:=fun c σ M1=>if c = true then .ok true M1 else tg σ M1) h) fun c H1 h1=>by
    cases c with
    | true=>exact (if_pos rfl).mpr (zhp h1)
    | false=>exact (if_neg Bool.false_ne_true).mpr h1
theorem GW.gt (h:GW X XE e tf):GT X XE e tf:=PW.pt h
theorem zmn (ha:GT X XE a tf):GT X XE (.UnaryOp .Not a pos) (zg7 tf):=PT.imp (zly ha) fun σ H Q h=>
  LN.mono (tif (tf:=tf) (tg:=tf) (p:=fun c σ M1=>.ok (!c) M1) h) fun c H1 h1=>zhp h1
theorem zmD {op} (h:GE X XE a f):GE X XE (.BoolOp op [a] pos) f:=zlH h
theorem eif {K:PySem.W.Frag} {σ:L2.St} {H:Hp} {Q:VK} {p:Bool->Ev->Mem->Out T} (h:LN XE (Rep K) K UnR (fun _ σ M=>(f σ M).bind fun x M1=>blT x M1 fun b M2=>p b σ M2) () σ H Q):lE XE K f σ H fun x H1=>∃ c,x = .bl c/\lE XE K (fun σ M=>p c σ M) σ H1 Q:=
  LN.mono (LN.bind (f:=fun _ σ M=>f σ M) (k:=fun _ x σ M1=>blT x M1 fun b M2=>p b σ M2) (RB:=Rep K) h) fun c H1 h2=>by
    obtain ⟨S,στ,a,e,m,ev,ra,fin⟩:=h2
    obtain ⟨b,e1,e2,fin⟩:=zhK ra.2 fin
    exact ⟨b,e1,S,στ,(),e,m,ev,trivial,fin⟩
theorem zmH (ha:GE X XE a f) (hb:GE X XE (.BoolOp .And (b :: rest) pos) g):GE X XE (.BoolOp .And (a :: b :: rest) pos) (zjE f g):=PE.imp (zlM ha hb) fun σ H Q h=>
  LN.mono (eif (f:=f) (p:=fun b σ M2=>if b = true then g σ M2 else .ok (.bl false) M2) h) fun x H1 ⟨c,e,h1⟩=>⟨c,e,by
    cases c with
    | true=>exact (if_pos rfl).mpr h1
    | false=>exact (if_neg Bool.false_ne_true).mpr (zni h1 fun _=>.bl _)⟩
theorem zmI:GA X XE [] yd:=PA.imp zdb fun σ H Q h9=>by
  obtain ⟨S,στ,_,e,m,ev,_,fin⟩:=h9
  show Q [] H
  rw [← e];exact fin S [] rfl (.refl m) .nil
theorem zkZ (ha:GE X XE e f) (hr:GA X XE es ga) (hs:noStar e = true:=by rfl):GA X XE (e :: es) (zb f ga):=PA.imp (zch ha hr (yn hs)) fun σ H Q h=>
  LN.mono (LN.bind (f:=fun _ σ M=>f σ M) (k:=fun _ x σ M1=>(ga σ M1).bind fun xs M2=>.ok (x :: xs) M2) (RB:=Rep X.K) h) fun v H1 h1=>
    LN.mono (LN.env (f:=ga) (LN.bind (f:=fun _ σ M=>ga σ M) (k:=fun (ax:Unit × T) ys σ M2=>.ok (ax.2 :: ys) M2) (RB:=Reps X.K) h1)) fun w H2 h2=>by
      obtain ⟨S,στ,a,e,m,ev,ra,fin⟩:=h2
      show Q (v :: w) H2
      rw [← e]
      exact fin S _ rfl (.refl m) (Reps.cons ra.1.2 ra.2)
theorem zmC {x1} (h:GA X XE es ga):GE X XE (.Tuple es x1 pos) (zaZ ga):=PE.imp (zlG h) fun σ H Q h=>
  LN.mono (LN.bind (f:=fun _ σ M=>ga σ M) (k:=fun _ xs σ M1=>if xs.length<=sizeLine then .ok (T.tup xs) M1 else .bad) (RB:=Reps X.K) h) fun v H1 h2=>by
    obtain ⟨S,στ,a,e,m,ev,ra,fin⟩:=h2
    by_cases hl:a.2.length<=sizeLine
    · replace fin:Fin XE (Rep X.K) X.K S (if a.2.length<=sizeLine then .ok (.tup a.2) S.M else .bad) Q:=fin
      rw [if_pos hl] at fin
      refine ⟨by rw [← ra.2.1];exact hl,fun p hp=>?_⟩
      subst e
      have s:=Stp.new m hp (.tup v)
      exact fin ⟨S.α,S.M,upd S.H p (.tup v),S.hid⟩ (.ref p) rfl s (.tup (.inl (.inl qf)) ra.2.1 (ra.2.grow m s.toGrow).2)
    · replace fin:Fin XE (Rep X.K) X.K S (if a.2.length<=sizeLine then .ok (.tup a.2) S.M else .bad) Q:=fin
      rw [if_neg hl] at fin
      exact fin.elim
theorem zkS (h:GA X XE es ga):GL X XE (.List es pos) (qr ga):=PE.imp (zlJ h) fun σ H Q h9=>by
  obtain ⟨S,στ,e,m,ev,fin⟩:=h9
  replace fin:FinL XE X.K S ((ga στ S.M).bind fun xs M1=>if xs.length<=sizeLine then .ok xs M1 else .bad) Q:=fin
  refine ⟨S,στ,(),e,m,ev,trivial,?_⟩
  show Fin XE (Reps X.K) X.K S (ga στ S.M) _
  cases q:ga στ S.M with
  | bad=>rw [q] at fin;exact fin
  | exn C fs M'=>rw [q] at fin;exact fin
  | ok xs M1=>
    rw [q] at fin
    intro S1 vs e1 s1 r1
    by_cases hl:xs.length<=sizeLine
    · replace fin:FinL XE X.K S (if xs.length<=sizeLine then .ok xs M1 else .bad) Q:=fin
      rw [if_pos hl] at fin
      refine ⟨by rw [← r1.1];exact hl,fun p hp=>?_⟩
      have s2:=Stp.hide s1.mok hp vs
      exact (fin.later s1) (S1.hide p vs) p vs e1 s2 hp (.head _) qf (r1.grow s1.mok s2.toGrow)
    · replace fin:FinL XE X.K S (if xs.length<=sizeLine then .ok xs M1 else .bad) Q:=fin
      rw [if_neg hl] at fin
      exact fin.elim
theorem znt (h:GL X XE e ga):GE X XE e (eFz ga):=PE.imp h fun σ H Q ⟨S,στ,_,e,m,ev,_,fin⟩=>⟨S,στ,e,m,ev,by
  show FinL XE X.K S (ga στ S.M) Q
  replace fin:Fin XE (Rep X.K) X.K S ((ga στ S.M).bind fun xs M1=>.ok (.lst xs) M1) Q:=fin
  cases q:ga στ S.M with
  | bad=>rw [q] at fin;exact fin
  | exn C fs M'=>rw [q] at fin;exact fin
  | ok xs M1=>
    rw [q] at fin
    intro S1 p vs e1 s1 hn hp hv r
    exact fin (S1.show S.hid) (.ref p) e1 s1.show (zkJ s1 hn m hp hv r)⟩
theorem znp (h:GL X XE e ga):GE X XE e (eTk ga):=PE.imp h fun σ H Q ⟨S,στ,_,e,m,ev,_,fin⟩=>⟨S,στ,e,m,ev,by
  show FinL XE X.K S (ga στ S.M) Q
  replace fin:Fin XE (Rep X.K) X.K S ((ga στ S.M).bind fun xs M1=>.ok (.ref M1.length) (M1 ++ [.lst xs])) Q:=fin
  cases q:ga στ S.M with
  | bad=>rw [q] at fin;exact fin
  | exn C fs M'=>rw [q] at fin;exact fin
  | ok xs M1=>
    rw [q] at fin
    intro S1 p vs e1 s1 hn hp hv r
    refine fin (S1.track p xs S.hid) (.ref p) (by show S1.M ++ _ = _;rw [e1]) (s1.track m hn hp hv r) ?_
    have this:(S1.track p xs S.hid).α S1.M.length = p:=if_pos rfl
    rw [← e1]
    have hl:S1.M.length < (S1.track p xs S.hid).M.length:=by show _ < (S1.M ++ [Cell.lst xs]).length;simp
    have r2:Rep X.K (S1.track p xs S.hid) (.ref S1.M.length) (.ref ((S1.track p xs S.hid).α S1.M.length)):=.ref hl
    rw [this] at r2
    exact r2⟩
end
end FT
namespace FT
open PySem PySem.Spec PyProof.Rows L2
inductive Fl where
  | nx (σ:Ev) | rt (t:T) | bk (σ:Ev) | ct (σ:Ev)
inductive FlV where
  | nx (σ:L2.St) | rt (v:V) | bk (σ:L2.St) | ct (σ:L2.St)
inductive FlR (K:PySem.W.Frag) (S:Sit):Fl->FlV->Prop where
  | nx {a b}:EvR K S a b->FlR K S (.nx a) (.nx b)
  | rt {a b}:Rep K S a b->FlR K S (.rt a) (.rt b)
  | bk {a b}:EvR K S a b->FlR K S (.bk a) (.bk b)
  | ct {a b}:EvR K S a b->FlR K S (.ct a) (.ct b)
noncomputable def zp (D:Ends):FlV->Hp->Prop
  | .nx σ,H=>D.nx σ H
  | .rt v,H=>D.rt v H
  | .bk σ,H=>D.bk σ H
  | .ct σ,H=>D.ct σ H
noncomputable def lS (XE:XK) (K:PySem.W.Frag) (g:Ev->Mem->Out Fl):TS:=fun D σ H=>LN XE (FlR K) K UnR (fun _ σ M=>g σ M) () σ H (zp D)
noncomputable def GS (X:Cx) (XE:XK) (st:Stmt) (g:Ev->Mem->Out Fl):Prop:=PS X st (lS XE X.K g)
noncomputable def GSs (X:Cx) (XE:XK) (st:List Stmt) (g:Ev->Mem->Out Fl):Prop:=PSs X st (lS XE X.K g)
theorem EvR.set {K:PySem.W.Frag} {S:Sit} {στ:Ev} {σ:L2.St} (r:EvR K S στ σ) {t:T} {v:V} (q:Rep K S t v) (i:Nat):EvR K S (στ.set i (some t)) (σ.set i (some v)):=by
  refine ⟨by simp [r.1],fun j u e=>?_⟩
  rw [List.getElem?_set] at e ⊢
  by_cases h:i = j
  · subst h
    by_cases hl:i < στ.length
    · rw [if_pos rfl,if_pos hl] at e
      cases e
      exact ⟨v,by rw [if_pos rfl,if_pos (by rw [← r.1];exact hl)],q⟩
    · rw [if_pos rfl,if_neg hl] at e;cases e
  · rw [if_neg h] at e
    obtain ⟨w,e2,q2⟩:=r.2 j u e
    exact ⟨w,by rw [if_neg h];exact e2,q2⟩
noncomputable def qP:Ev->Mem->Out Fl:=fun σ M=>.ok (.nx σ) M
noncomputable def zfc:Ev->Mem->Out Fl:=fun σ M=>.ok (.bk σ) M
noncomputable def zoK:Ev->Mem->Out Fl:=fun σ M=>.ok (.ct σ) M
noncomputable def zcf (k:Ev->Mem->Out Fl) (fl:Fl) (M:Mem):Out Fl:=match fl with
  | .nx σ=>k σ M
  | .rt t=>.ok (.rt t) M
  | .bk σ=>.ok (.bk σ) M
  | .ct σ=>.ok (.ct σ) M
noncomputable def zg (g h:Ev->Mem->Out Fl):Ev->Mem->Out Fl:=fun σ M=>(g σ M).bind (zcf h)
noncomputable def qv (f:Ev->Mem->Out T):Ev->Mem->Out Fl:=fun σ M=>(f σ M).bind fun t M1=>.ok (.rt t) M1
noncomputable def zdG (f:Ev->Mem->Out T):Ev->Mem->Out Fl:=fun σ M=>(f σ M).bind fun _ M1=>.ok (.nx σ) M1
noncomputable def sIf (c:Ev->Mem->Out Bool) (g h:Ev->Mem->Out Fl):Ev->Mem->Out Fl:=fun σ M=>(c σ M).bind fun b M1=>if b = true then g σ M1 else h σ M1
noncomputable def yj (i:Nat) (f:Ev->Mem->Out T):Ev->Mem->Out Fl:=fun σ M=>(f σ M).bind fun t M1=>.ok (.nx (σ.set i (some t))) M1
noncomputable def lG (XE:XK) (K:PySem.W.Frag) (bd:T->Ev->Mem->Out Ev):TG:=fun v σ H Q=>LN XE (EvR K) K (Rep K) bd v σ H Q
noncomputable def lGs (XE:XK) (K:PySem.W.Frag) (bd:List T->Ev->Mem->Out Ev):TGs:=fun v σ H Q=>LN XE (EvR K) K (Reps K) bd v σ H Q
noncomputable def GG (X:Cx) (XE:XK) (tg:Expr) (bd:T->Ev->Mem->Out Ev):Prop:=PG X tg (lG XE X.K bd)
noncomputable def GGs (X:Cx) (XE:XK) (tg:List Expr) (bd:List T->Ev->Mem->Out Ev):Prop:=PGs X tg (lGs XE X.K bd)
noncomputable def zh (i:Nat):T->Ev->Mem->Out Ev:=fun t σ M=>.ok (σ.set i (some t)) M
noncomputable def zN:List T->Ev->Mem->Out Ev:=fun ts σ M=>match ts with
  | []=>.ok σ M
  | _=>.bad
noncomputable def zm (b:T->Ev->Mem->Out Ev) (bs:List T->Ev->Mem->Out Ev):List T->Ev->Mem->Out Ev:=fun ts σ M=>match ts with
  | t :: r=>(b t σ M).bind fun σ1 M1=>bs r σ1 M1
  | _=>.bad
noncomputable def qM (n:Nat) (bs:List T->Ev->Mem->Out Ev):T->Ev->Mem->Out Ev:=fun t σ M=>match t with
  | .tup xs=>if xs.length = n then bs xs σ M else .bad
  | _=>.bad
noncomputable def zdH (f:Ev->Mem->Out T) (b:T->Ev->Mem->Out Ev):Ev->Mem->Out Fl:=fun σ M=>(f σ M).bind fun t M1=>(b t σ M1).bind fun σ1 M2=>.ok (.nx σ1) M2
noncomputable def za1 (K:PySem.W.Frag) (S:Sit) (items:List T) (J:It):Prop:=∀ S',Stp K S S'->
  (∀ (i:Nat) t,items[i]? = some t->J.go i S'.H/\∀ x H',J.yld i S'.H x H'->∃ S'',S''.H = H'/\S''.M = S'.M/\Stp K S' S''/\Rep K S'' t x)/\∀ i,items.length<=i->J.stop i S'.H
instance (K):Mo K (za1 K):=⟨fun _ s r=>fun S' s'=>r S' (s.trans s')⟩
noncomputable def lI (XE:XK) (K:PySem.W.Frag) (f:Ev->Mem->Out (List T)):TI:=fun σ H R=>LN XE (za1 K) K UnR (fun _ σ M=>f σ M) () σ H R
noncomputable def GI (X:Cx) (XE:XK) (tg iter:Expr) (f:Ev->Mem->Out (List T)):Prop:=PI X tg iter (lI XE X.K f)
noncomputable def zy (k:Ev->Mem->Out Fl) (fl:Fl) (M:Mem):Out Fl:=match fl with
  | .nx σ=>k σ M
  | .ct σ=>k σ M
  | .bk σ=>.ok (.nx σ) M
  | .rt t=>.ok (.rt t) M
noncomputable def forL (bd:T->Ev->Mem->Out Ev) (body:Ev->Mem->Out Fl):List T->Ev->Mem->Out Fl
  | [],σ,M=>.ok (.nx σ) M
  | x :: xs,σ,M=>(bd x σ M).bind fun σ1 M1=>(body σ1 M1).bind (zy (forL bd body xs))
noncomputable def qW (it:Ev->Mem->Out (List T)) (bd:T->Ev->Mem->Out Ev) (body:Ev->Mem->Out Fl):Ev->Mem->Out Fl:=fun σ M=>(it σ M).bind fun xs M1=>forL bd body xs σ M1
noncomputable def whileN (c:Ev->Mem->Out Bool) (body:Ev->Mem->Out Fl):Nat->Ev->Mem->Out Fl
  | 0,_,_=>.bad
  | n + 1,σ,M=>(c σ M).bind fun b M1=>if b = true then (body σ M1).bind (zy (whileN c body n)) else .ok (.nx σ) M1
open Classical in
noncomputable def ze9 (c:Ev->Mem->Out Bool) (body:Ev->Mem->Out Fl):Ev->Mem->Out Fl:=fun σ M=>if h:∃ n,whileN c body n σ M ≠ .bad then whileN c body h.choose σ M else .bad
theorem zaW {c:Ev->Mem->Out Bool} {body:Ev->Mem->Out Fl}:∀ {n:Nat} {σ:Ev} {M:Mem} {r:Out Fl},whileN c body n σ M = r->r ≠ .bad->whileN c body (n + 1) σ M = r
  | 0,_,_,_,e,h=>absurd e.symm h
  | n + 1,σ,M,r,e,h=>by
    unfold whileN at e ⊢
    cases q:c σ M with
    | bad=>rw [q] at e;exact absurd e.symm h
    | exn C fs M'=>rw [q] at e;exact e
    | ok b M1=>
      rw [q] at e
      replace e:(if b = true then (body σ M1).bind (zy (whileN c body n)) else Out.ok (.nx σ) M1) = r:=e
      show (if b = true then (body σ M1).bind (zy (whileN c body (n + 1))) else Out.ok (.nx σ) M1) = r
      cases b with
      | false=>exact e
      | true=>
        rw [if_pos rfl] at e ⊢
        cases q2:body σ M1 with
        | bad=>rw [q2] at e;exact absurd e.symm h
        | exn C fs M'=>rw [q2] at e;exact e
        | ok fl M2=>
          rw [q2] at e
          cases fl with
          | nx σ2=>exact zaW (n:=n) e h
          | ct σ2=>exact zaW (n:=n) e h
          | bk σ2=>exact e
          | rt t=>exact e
theorem zed {c:Ev->Mem->Out Bool} {body:Ev->Mem->Out Fl} {n k:Nat} {σ:Ev} {M:Mem} {r:Out Fl} (e:whileN c body n σ M = r) (h:r ≠ .bad):whileN c body (n + k) σ M = r:=by
  induction k with
  | zero=>exact e
  | succ k ih=>exact zaW ih h
theorem zh3 {c:Ev->Mem->Out Bool} {body:Ev->Mem->Out Fl} {σ:Ev} {M:Mem} {r:Out Fl} (n:Nat) (e:whileN c body n σ M = r) (h:r ≠ .bad):ze9 c body σ M = r:=by
  have ex:∃ n,whileN c body n σ M ≠ .bad:=⟨n,by rw [e];exact h⟩
  unfold ze9
  rw [dif_pos ex]
  have h2:=ex.choose_spec
  have e1:=zed (k:=ex.choose) e h
  have e2:=zed (k:=n) rfl h2
  rw [Nat.add_comm] at e2
  rw [← e2,e1]
noncomputable def zfu (XE:XK) (K:PySem.W.Frag) (st:T->T->T->Mem->Out Unit):zea:=fun o i v H Q=>L0 XE UnR K (PrR (PrR (Rep K) (Rep K)) (Rep K)) (fun a M=>st a.1.1 a.1.2 a.2 M) ((o,i),v) H (fun _ H'=>Q H')
noncomputable def zd5 (st:T->T->T->Mem->Out Unit) (f g:Ev->Mem->Out T):T->Ev->Mem->Out Ev:=fun t σ M=>(f σ M).bind fun o M1=>(g σ M1).bind fun i M2=>(st o i t M2).bind fun _ M3=>.ok σ M3
noncomputable def zaO (get op:T->T->Mem->Out T) (st:T->T->T->Mem->Out Unit) (f g h:Ev->Mem->Out T):Ev->Mem->Out Fl:=fun σ M=>
  (f σ M).bind fun o M1=>(g σ M1).bind fun i M2=>(get o i M2).bind fun x M3=>(h σ M3).bind fun y M4=>(op x y M4).bind fun z M5=>(st o i z M5).bind fun _ M6=>.ok (.nx σ) M6
section
variable {X:Cx} {XE:XK} {a b c e iter tg:Expr} {es:List Expr} {f g h:Ev->Mem->Out T} {pos:Pos} {ga:Ev->Mem->Out (List T)} {st:Stmt} {sts rest:List Stmt} {p q r:Ev->Mem->Out Fl} {tf:Ev->Mem->Out Bool}
theorem zkM:GSs X XE [] qP:=PSs.imp zkc fun D σ H h9=>by
  obtain ⟨S,στ,_,e,m,ev,_,fin⟩:=h9
  show D.nx σ H
  rw [← e];exact fin S (.nx σ) rfl (.refl m) (.nx ev)
theorem zl5 {K:PySem.W.Frag} {D:Ends} {σ:L2.St} {H:Hp} (hh:lS XE K (zg p q) D σ H):lS XE K p { D with nx:=lS XE K q D } σ H:=by
  obtain ⟨S,στ,_,e,m,ev,_,fin⟩:=hh
  refine ⟨S,στ,(),e,m,ev,trivial,?_⟩
  show Fin XE (FlR K) K S (p στ S.M) _
  replace fin:Fin XE (FlR K) K S ((p στ S.M).bind (zcf q)) (zp D):=fin
  cases o:p στ S.M with
  | bad=>rw [o] at fin;exact fin
  | exn C fs M'=>rw [o] at fin;exact fin
  | ok fl M1=>
    rw [o] at fin
    intro S1 cc e1 s1 r1
    cases r1 with
    | nx r1=>exact ⟨S1,_,(),rfl,s1.mok,r1,trivial,by rw [e1];exact Fin.later s1 fin⟩
    | rt r1=>exact fin S1 _ e1 s1 (.rt r1)
    | bk r1=>exact fin S1 _ e1 s1 (.bk r1)
    | ct r1=>exact fin S1 _ e1 s1 (.ct r1)
theorem zjs (h1:GS X XE st p) (h2:GSs X XE rest q):GSs X XE (st :: rest) (zg p q):=PSs.imp (zi7 h1 h2) fun _ _ _ hh=>zl5 hh
theorem zkL (h1:GS X XE st p):GSs X XE [st] p:=zgv h1
theorem zjt:GS X XE (.Break pos) zfc:=PS.imp zi8 fun D σ H h9=>by
  obtain ⟨S,στ,_,e,m,ev,_,fin⟩:=h9
  show D.bk σ H
  rw [← e];exact fin S (.bk σ) rfl (.refl m) (.bk ev)
theorem zmr (he:GE X XE e f):GS X XE (.Return (some e) pos) (qv f):=PS.imp (zlB he) fun D σ H hh=>
  LN.mono (LN.bind (f:=fun _ σ M=>f σ M) (k:=fun _ t σ M1=>.ok (Fl.rt t) M1) (RB:=Rep X.K) hh) fun v H1 h9=>by
    obtain ⟨S,στ,a,e,m,ev,ra,fin⟩:=h9
    rw [← e];exact fin S (.rt v) rfl (.refl m) (.rt ra.2)
theorem zmt (he:GE X XE e f) (hs:swapsWith e none pos.line X.env = pure false:=by rfl):GS X XE (.Expr e pos) (zdG f):=PS.imp (zkf he hs) fun D σ H hh=>
  LN.mono (LN.bind (f:=fun _ σ M=>f σ M) (k:=fun _ t σ M1=>.ok (Fl.nx σ) M1) (RB:=Rep X.K) hh) fun v H1 h9=>by
    obtain ⟨S,στ,a,e,m,ev,ra,fin⟩:=h9
    show D.nx σ H1
    rw [← e];exact fin S (.nx σ) rfl (.refl m) (.nx ev)
theorem zno (hc:GT X XE c tf) (ha:GSs X XE sts p) (hb:GSs X XE rest q):GS X XE (.If c sts rest pos) (sIf tf p q):=PS.imp (zna hc ha hb) fun D σ H hh=>
  LN.mono (LN.bind (f:=fun _ σ M=>tf σ M) (k:=fun _ c σ M1=>if c = true then p σ M1 else q σ M1) (RB:=EqR) hh) fun c H1 h2=>by
    obtain ⟨S,στ,a,e,m,ev,ra,fin⟩:=h2
    have:a.2 = c:=ra.2
    subst this
    replace fin:Fin XE (FlR X.K) X.K S (if a.2 = true then p στ S.M else q στ S.M) (zp D):=fin
    cases q:a.2 with
    | true=>exact (if_pos rfl).mpr ⟨S,στ,(),e,m,ev,trivial,by rw [q] at fin;exact fin⟩
    | false=>exact (if_neg Bool.false_ne_true).mpr ⟨S,στ,(),e,m,ev,trivial,by rw [q] at fin;exact fin⟩
theorem zmq {i:Nat} {x:Str} {pos':Pos} (hN:X.N.Nodup) (hi:X.N[i]? = some x) (hx:Loc X.env.scope x) (he:GE X XE e f) (hs:swapsWith e (some (.Name x pos')) pos.line X.env = pure false:=by rfl) (hf:X.fn x = true\/X.env.scope.names.lookup x = some .local:=by first | exact .inl rfl | exact .inr rfl | assumption) :
    GS X XE (.Assign [.Name x pos'] e pos) (yj i f):=PS.imp (zlA hN hi hx he hs hf) fun D σ H hh=>
  LN.mono (LN.bind (f:=fun _ σ M=>f σ M) (k:=fun _ t σ M1=>.ok (Fl.nx (σ.set i (some t))) M1) (RB:=Rep X.K) hh) fun v H1 h9=>by
    obtain ⟨S,στ,a,e,m,ev,ra,fin⟩:=h9
    show D.nx (σ.set i (some v)) H1
    rw [← e];exact fin S (.nx _) rfl (.refl m) (.nx (ev.set ra.2 i))
theorem PG.imp {t t':TG} (h:PG X tg t) (i:∀ v σ H Q,t' v σ H Q->t v σ H Q):PG X tg t':=fun pins s σ H v u Q I r q=>h pins s σ H v u Q I r (i v σ H Q q)
theorem PGs.imp {tgs:List Expr} {t t':TGs} (h:PGs X tgs t) (i:∀ v σ H Q,t' v σ H Q->t v σ H Q):PGs X tgs t':=fun pins s σ H v u Q I r q=>h pins s σ H v u Q I r (i v σ H Q q)
theorem zkV {i:Nat} (h:PG X tg (zeQ i)):GG X XE tg (zh i):=PG.imp h fun v σ H Q h9=>by
  obtain ⟨S,στ,t,e,m,ev,ra,fin⟩:=h9
  show Q (σ.set i (some v)) H
  rw [← e];exact fin S _ rfl (.refl m) (ev.set ra i)
theorem zkU:GGs X XE [] zN:=PGs.imp zkk fun v σ H Q h9=>by
  obtain ⟨S,στ,t,e,m,ev,ra,fin⟩:=h9
  cases t with
  | nil=>exact ⟨ra.nilT,by rw [← e];exact fin S _ rfl (.refl m) ev⟩
  | cons t r=>exact fin.elim
theorem zjw {bd:T->Ev->Mem->Out Ev} {bs:List T->Ev->Mem->Out Ev} (h:PGs X (e :: es) (zhw (lG XE X.K bd) (lGs XE X.K bs))):GGs X XE (e :: es) (zm bd bs):=PGs.imp h fun v σ H Q h9=>by
  obtain ⟨S,στ,t,e,m,ev,ra,fin⟩:=h9
  cases t with
  | nil=>exact fin.elim
  | cons t r=>
    obtain ⟨v1,vs,rfl,r1,r2⟩:=ra.consT
    refine ⟨v1,vs,rfl,?_⟩
    replace fin:Fin XE (EvR X.K) X.K S ((bd t στ S.M).bind fun σ1 M1=>bs r σ1 M1) Q:=fin
    refine ⟨S,στ,t,e,m,ev,r1,?_⟩
    show Fin XE (EvR X.K) X.K S (bd t στ S.M) _
    cases o:bd t στ S.M with
    | bad=>rw [o] at fin;exact fin
    | exn C fs M'=>rw [o] at fin;exact fin
    | ok σ1 M1=>
      rw [o] at fin
      intro S1 cc e1 s1 ev1
      exact ⟨S1,σ1,r,rfl,s1.mok,ev1,r2.grow m s1.toGrow,by rw [e1];exact Fin.later s1 fin⟩
theorem zmy {n:Nat} {bs:List T->Ev->Mem->Out Ev} (h:PG X tg (zjz X.K n (lGs XE X.K bs))):GG X XE tg (qM n bs):=PG.imp h fun v σ H Q h9=>by
  obtain ⟨S,στ,t,e,m,ev,ra,fin⟩:=h9
  cases ra with
  | @tup ts p vs h l r=>
    replace fin:Fin XE (EvR X.K) X.K S (if ts.length = n then bs ts στ S.M else .bad) Q:=fin
    by_cases hn:ts.length = n
    · rw [if_pos hn] at fin
      exact ⟨p,vs,rfl,by rw [← e];exact h,by rw [← l];exact hn,S,στ,ts,e,m,ev,⟨l,r⟩,fin⟩
    · rw [if_neg hn] at fin;exact fin.elim
  | _=>exact fin.elim
theorem znh {K:PySem.W.Frag} {bd:T->Ev->Mem->Out Ev} {v:V} {σ:L2.St} {H:Hp} {D:Ends} (hh:LN XE (FlR K) K (Rep K) (fun t σ M=>(bd t σ M).bind fun σ1 M2=>.ok (Fl.nx σ1) M2) v σ H (zp D)):lG XE K bd v σ H D.nx:=by
  obtain ⟨S,στ,t,e,m,ev,ra,fin⟩:=hh
  refine ⟨S,στ,t,e,m,ev,ra,?_⟩
  replace fin:Fin XE (FlR K) K S ((bd t στ S.M).bind fun σ1 M2=>.ok (Fl.nx σ1) M2) (zp D):=fin
  cases o:bd t στ S.M with
  | bad=>rw [o] at fin;exact fin
  | exn C fs M'=>rw [o] at fin;exact fin
  | ok σ1 M1=>
    rw [o] at fin
    intro S1 cc e1 s1 ev1
    exact fin S1 (.nx cc) e1 s1 (.nx ev1)
theorem zmu {bd:T->Ev->Mem->Out Ev} (he:GE X XE e f) (hg:GG X XE tg bd) (hs:swapsWithSole [tg] e pos.line X.env = pure false:=by rfl) (hw:swappedStores [tg] e X.env = pure none:=by rfl)
    (h1:(assignEach [tg] X.env).map (·.2) = [assign tg X.env]:=by rfl):GS X XE (.Assign [tg] e pos) (zdH f bd):=PS.imp (zlC he hg hs hw h1) fun D σ H hh=>
  LN.mono (LN.bind (f:=fun _ σ M=>f σ M) (k:=fun _ t σ M1=>(bd t σ M1).bind fun σ1 M2=>.ok (Fl.nx σ1) M2) (RB:=Rep X.K) hh) fun v H1 ⟨S,στ,a,e,m,ev,ra,fin⟩=>
    znh ⟨S,στ,a.2,e,m,ev,ra.2,fin⟩
theorem PI.imp {t t':TI} (h:PI X tg iter t) (i:∀ σ H R,t' σ H R->t σ H R):PI X tg iter t':=fun pins s σ H R I q=>h pins s σ H R I (i σ H R q)
theorem zms {bd:T->Ev->Mem->Out Ev} (hp:PassesOwn (model X.prog X.w) X.A X.env X.xe) (hc:X.calm = true) (hi:GI X XE tg iter ga) (hg:GG X XE tg bd) (hb:GSs X XE sts p)
    (hs:∀ x,foldedSetIterable iter X.env x = pure x:=by intro _;rfl):GS X XE (.For tg iter sts [] pos) (qW ga bd p):=PS.imp (zh7 hp hc hi hg hb hs) fun D σ H hh=>by
  refine LN.mono (LN.bind (f:=fun _ σ M=>ga σ M) (k:=fun _ xs σ M1=>forL bd p xs σ M1) (RB:=za1 X.K) hh) fun J H1 h1=>?_
  obtain ⟨S,στ,a,e,m,ev,ra,fin⟩:=h1
  refine ⟨fun i n σ H=>∃ S στ,S.H = H/\MemOk X.K S/\EvR X.K S στ σ/\za1 X.K S a.2 J/\n = a.2.length - i/\i<=a.2.length/\Fin XE (FlR X.K) X.K S (forL bd p (a.2.drop i) στ S.M) (zp D),⟨_,S,στ,e,m,ev,ra.2,rfl,Nat.zero_le _,fin⟩,?_⟩
  rintro i n σ1 H2 ⟨S1,στ1,e1,m1,ev1,it1,en,hi1,fin1⟩
  subst e1
  obtain ⟨it2,it3⟩:=it1 S1 (.refl m1)
  by_cases hl:i < a.2.length
  · have eq:a.2.drop i = a.2[i] :: a.2.drop (i + 1):=List.drop_eq_getElem_cons hl
    rw [eq] at fin1
    obtain ⟨go,yl⟩:=it2 i a.2[i] (by simp [hl])
    refine .inr ⟨go,fun σ' H'=>∃ S στ,S.H = H'/\MemOk X.K S/\EvR X.K S στ σ'/\za1 X.K S a.2 J/\Fin XE (FlR X.K) X.K S (forL bd p (a.2.drop (i + 1)) στ S.M) (zp D),?_,fun x H' hy=>?_⟩
    · rintro σ' H' ⟨S2,στ2,e2,m2,ev2,it4,fin2⟩
      exact ⟨a.2.length - (i + 1),by omega,S2,στ2,e2,m2,ev2,it4,rfl,hl,fin2⟩
    · obtain ⟨S2,e2,eM,s2,r2⟩:=yl x H' hy
      replace fin1:Fin XE (FlR X.K) X.K S1 ((bd a.2[i] στ1 S1.M).bind fun σ1 M1=>(p σ1 M1).bind (zy (forL bd p (a.2.drop (i + 1))))) (zp D):=fin1
      refine ⟨S2,στ1,a.2[i],e2,s2.mok,Mo.mo m1 s2 ev1,r2,?_⟩
      rw [eM]
      cases o:bd a.2[i] στ1 S1.M with
      | bad=>rw [o] at fin1;exact fin1
      | exn C fs M'=>rw [o] at fin1;exact Fin.later s2 fin1
      | ok σ3 M3=>
        rw [o] at fin1
        intro S3 σ3v e3 s3 ev3
        have s13:=s2.trans s3
        refine ⟨S3,σ3,(),rfl,s3.mok,ev3,trivial,?_⟩
        show Fin XE (FlR X.K) X.K S3 (p σ3 S3.M) _
        rw [e3]
        replace fin1:Fin XE (FlR X.K) X.K S1 ((p σ3 M3).bind (zy (forL bd p (a.2.drop (i + 1))))) (zp D):=fin1
        cases o2:p σ3 M3 with
        | bad=>rw [o2] at fin1;exact fin1
        | exn C fs M'=>rw [o2] at fin1;exact Fin.later s13 fin1
        | ok fl M4=>
          rw [o2] at fin1
          intro S4 fv e4 s4 r4
          have s14:=s13.trans s4
          cases r4 with
          | nx r4=>exact ⟨S4,_,rfl,s4.mok,r4,Mo.mo m1 s14 it1,by rw [e4];exact Fin.later s14 fin1⟩
          | ct r4=>exact ⟨S4,_,rfl,s4.mok,r4,Mo.mo m1 s14 it1,by rw [e4];exact Fin.later s14 fin1⟩
          | bk r4=>exact fin1 S4 (.nx _) e4 s14 (.nx r4)
          | rt r4=>exact fin1 S4 (.rt _) e4 s14 (.rt r4)
  · rw [List.drop_eq_nil_of_le (by omega)] at fin1
    refine .inl ⟨it3 i (by omega),?_⟩
    exact fin1 S1 (.nx σ1) rfl (.refl m1) (.nx ev1)
end
end FT
namespace FT
open PySem PySem.Spec PyProof.Rows L2
noncomputable def startT (n:Nat) (ts:List T):Ev:=ts.map some ++ List.replicate (n - ts.length) none
noncomputable def zl (p n:Nat) (g:Ev->Mem->Out Fl):List T->Mem->Out T:=fun ts M=>if ts.length = p then match g (startT n ts) M with
  | .ok (.rt t) M'=>.ok t M'
  | .ok (.nx _) M'=>.ok .non M'
  | _=>.bad else .bad
noncomputable def spT (K:PySem.W.Frag) (f:List T->Mem->Out T):Sp:=fun vs H Q E=>L0 E (Rep K) K (Reps K) f vs H Q
structure CalT (P:Program) (w:World) (K:PySem.W.Frag) (mg:Str->Option Value) (base:Heap) (k:Nat) (x:Str) (ps:List Str) (f:List T->Mem->Out T):Prop where
  cal:Cal P w K mg base k x ps (spT K f)
  nox:∀ ts M C fs M',f ts M ≠ .exn C fs M'
theorem zhc (p n:Nat) (g:Ev->Mem->Out Fl):∀ ts M C fs M',zl p n g ts M ≠ .exn C fs M':=by
  intro ts M C fs M' z
  unfold zl at z
  split at z
  · split at z <;> cases z
  · cases z
theorem EvR.start {K:PySem.W.Frag} {S:Sit} {ts:List T} {vs:List V} (r:Reps K S ts vs) {N:List Str} {n:Nat} (hn:N.length = n):EvR K S (startT n ts) (L2.start N vs):=by
  subst hn
  refine ⟨by simp [startT,L2.start,r.1],fun i t e=>?_⟩
  unfold startT at e
  unfold L2.start
  by_cases hi:i < ts.length
  · rw [List.getElem?_append_left (by simpa using hi)] at e
    rw [List.getElem?_append_left (by simpa [← r.1] using hi)]
    rw [List.getElem?_map] at e ⊢
    cases q:ts[i]? with
    | none=>rw [q] at e;cases e
    | some t'=>
      rw [q] at e
      have:t' = t:=Option.some.inj (Option.some.inj e)
      subst this
      obtain ⟨v,e2,r2⟩:=r.get q
      exact ⟨v,by rw [e2];rfl,r2⟩
  · rw [List.getElem?_append_right (by simpa using hi)] at e
    rw [List.getElem?_replicate] at e
    split at e <;> cases e
section
variable {P:Program} {w:World} {K:PySem.W.Frag} {mg:Str->Option Value} {base:Heap}
theorem zfZ {X:Cx} {st:List Stmt} {g:Ev->Mem->Out Fl} {p n:Nat} {N:List Str} (hn:N.length = n) {E:XK} {vs:List V} {H:Hp} {Q:VK} (hX:X.K = K) (h:spT K (zl p n g) vs H Q E) (hb:GSs X E0 st g) :
    ∃ t,PSs X st t/\t { nx:=fun _ H'=>Q .non H',rt:=Q } (start N vs) H:=by
  subst hX
  refine ⟨_,hb,?_⟩
  obtain ⟨S,ts,e,m,r,fin⟩:=h
  refine ⟨S,startT n ts,(),e,m,EvR.start r hn,trivial,?_⟩
  show Fin E0 (FlR X.K) X.K S (g (startT n ts) S.M) _
  unfold zl at fin
  by_cases hp:ts.length = p
  · rw [if_pos hp] at fin
    cases o:g (startT n ts) S.M with
    | bad=>rw [o] at fin;exact fin
    | exn C fs M'=>rw [o] at fin;exact fin.elim
    | ok fl M1=>
      rw [o] at fin
      cases fl with
      | nx σ1=>
        intro S1 c e1 s1 r1
        cases r1 with
        | nx r1=>exact fin S1 .non e1 s1 .non
      | rt t=>
        intro S1 c e1 s1 r1
        cases r1 with
        | rt r1=>exact fin S1 _ e1 s1 r1
      | bk σ1=>exact fin.elim
      | ct σ1=>exact fin.elim
  · rw [if_neg hp] at fin;exact fin.elim
theorem zhY {p n:Nat} {g:Ev->Mem->Out Fl} {ps:List Str} (hp:ps.length = p):∀ vs H Q E,spT K (zl p n g) vs H Q E->vs.length = ps.length:=by
  intro vs H Q E ⟨S,ts,e,m,r,fin⟩
  rw [← r.1,hp]
  unfold zl at fin
  by_cases h:ts.length = p
  · exact h
  · rw [if_neg h] at fin;exact fin.elim
theorem zmQ {x:Str} {st:Stmt} {N ps:List Str} {k p n:Nat} {g:Ev->Mem->Out Fl} (D:Df K mg x st ps) (Sc:FnScope N ps (zd st)) (hp:ps.length = p) (hn:N.length = n)
    (hb:∀ (f:Addr) (cdv:Value) (A:Around) (outer:List PySem.Env) (s:Shared) (H:Hp) (E:XK),Room k (A.deeper (envOfC x (zd st) s.heap.objs.size f cdv))->GSs (qY CX0 P w K mg base N x (zd st) f cdv A outer s H E).nox E0 (zn st) g) :
    CalT P w K mg base (k + 1) x ps (zl p n g):=
  ⟨D.ok Sc (zhY hp) fun f cdv A outer s H vs Q E hr h=>zfZ hn rfl h (hb f cdv A outer s H E hr),zhc _ _ _⟩
theorem zl3 {st:Stmt} {N ps:List Str} {x qual:Str} {f:Addr} {fd:FuncData} {k p n:Nat} {g:Ev->Mem->Out Fl} (F:Fun K x qual st f fd) (Sc:FnScope N ps (zd st)) (hp:ps.length = p) (hn:N.length = n)
    (hb:∀ (cdv:Value) (A:Around) (outer:List PySem.Env) (s:Shared) (H:Hp) (E:XK),Room k (A.deeper (envOfC qual (zd st) s.heap.objs.size f cdv))->GSs (qY CX0 P w K mg base N qual (zd st) f cdv A outer s H E).nox E0 (zn st) g) :
    FnOk P w K mg base CX0 (k + 1) f fd ps (spT K (zl p n g)):=
  F.ok Sc (zhY hp) fun cdv A outer s H vs Q E hr h=>zfZ hn rfl h (hb cdv A outer s H E hr)
theorem zkD {f:List T->Mem->Out T} {H:Hp} {a:Addr} {ns:List Int} {M':Mem} (hS:SqL K H a (ns.map V.int)) (h:f [.lst (ns.map .int)] [] = .ok (.bl true) M'):spT K f [.ref a] H (fun v _=>v = .bl true) fun _ _ _=>False:=by
  refine ⟨⟨fun _=>0,[],H,[]⟩,[.lst (ns.map .int)],rfl,⟨fun a c e=>by simp at e,fun a b h=>absurd h (Nat.not_lt_zero _),fun p h=>by simp at h⟩,.cons (.lst (vs:=ns.map V.int) ?_ (by simp) ?_) .nil,?_⟩
  · rcases hS with h | h
    · exact .inl ⟨h,fun a h=>absurd h (Nat.not_lt_zero _),fun z=>by simp at z⟩
    · exact .inr h
  · intro i t v e1 e2
    rw [List.getElem?_map] at e1 e2
    cases q:ns[i]? with
    | none=>rw [q] at e1;cases e1
    | some z=>rw [q] at e1 e2;cases e1;cases e2;exact .int z
  · show Fin _ _ K _ (f [.lst (ns.map .int)] []) _
    rw [h]
    intro S' c e s r
    cases r
    rfl
end
section
variable {X:Cx} {XE:XK} {k:Nat} {ps:List Str} {x:Str} {p pos:Pos} {e:Expr} {es:List Expr} {ga:Ev->Mem->Out (List T)} {F:List T->Mem->Out T}
theorem zmG (C:CalT X.prog X.w X.K X.mg X.base k x ps F) (hr:Room k X.A) (hg:Gl X x) (ha:GA X XE (e :: es) ga) (hdb:(x == ("__debug__":Str)) = false:=by decide)
    (he:noStar e = true:=by rfl) (hpl:es.all noStar = true:=by rfl) :
    GE X XE (.Call (.Name x p) (e :: es) [] pos) (ze F ga):=PE.imp (zlL C.cal hr hg ha hdb (yn he) (zao hpl)) fun σ H Q hh=>
  LN.mono (LN.bind (f:=fun _ σ M=>ga σ M) (k:=fun _ ts σ M1=>F ts M1) (RB:=Reps X.K) hh) fun vs H1 h9=>by
    obtain ⟨S,στ,a,e,m,ev,ra,fin⟩:=h9
    rw [List.append_nil]
    refine ⟨S,a.2,e,m,ra.2,?_⟩
    show Fin E0 (Rep X.K) X.K S (F a.2 S.M) Q
    replace fin:Fin XE (Rep X.K) X.K S (F a.2 S.M) Q:=fin
    cases o:F a.2 S.M with
    | bad=>rw [o] at fin;exact fin
    | exn C' fs M'=>exact absurd o (C.nox _ _ _ _ _)
    | ok t M1=>rw [o] at fin;exact fin
theorem zjy {id:String} (hc:CallR X (.builtin id) (lRN XE X.K F)) (hg:Gl X x) (hm:X.mg x = none) (hv:bootBuiltins x = some (.builtin id)) (ha:GA X XE (e :: es) ga) (hn:x ≠ "__name__":=by decide) (hdb:(x == ("__debug__":Str)) = false:=by decide)
    (he:noStar e = true:=by rfl) (hpl:es.all noStar = true:=by rfl) :
    GE X XE (.Call (.Name x p) (e :: es) [] pos) (ze F ga):=PE.imp (zfi hc hg hm hv ha hn hdb (yn he) (zao hpl)) fun σ H Q hh=>
  LN.mono (LN.bind (f:=fun _ σ M=>ga σ M) (k:=fun _ ts σ M1=>F ts M1) (RB:=Reps X.K) hh) fun vs H1 ⟨S,στ,a,e,m,ev,ra,fin⟩=>⟨S,a.2,e,m,ra.2,fin⟩
theorem ziq {id:String} (hc:CallR X (.type id) (lRN XE X.K F)) (hg:Gl X x) (hm:X.mg x = none) (hv:bootBuiltins x = some (.type id)) (ha:GA X XE (e :: es) ga) (hn:x ≠ "__name__":=by decide) (hdb:(x == ("__debug__":Str)) = false:=by decide)
    (he:noStar e = true:=by rfl) (hpl:es.all noStar = true:=by rfl) :
    GE X XE (.Call (.Name x p) (e :: es) [] pos) (ze F ga):=PE.imp (zaP hc hg hm hv ha hn hdb (yn he) (zao hpl)) fun σ H Q hh=>
  LN.mono (LN.bind (f:=fun _ σ M=>ga σ M) (k:=fun _ ts σ M1=>F ts M1) (RB:=Reps X.K) hh) fun vs H1 ⟨S,στ,a,e,m,ev,ra,fin⟩=>⟨S,a.2,e,m,ra.2,fin⟩
end
inductive T.lt (n:Nat):T->Prop where
  | non:T.lt n .non
  | bl (b:Bool):T.lt n (.bl b)
  | int (i:Int):T.lt n (.int i)
  | str (x:Str):T.lt n (.str x)
  | ty (x:String):T.lt n (.ty x)
  | tup {ts:List T} (h:∀ t ∈ ts,T.lt n t):T.lt n (.tup ts)
  | lst {ts:List T} (h:∀ t ∈ ts,T.lt n t):T.lt n (.lst ts)
  | ref {a:Nat} (h:a < n):T.lt n (.ref a)
  | dct {kvs:List (Key × T)} (h:∀ t ∈ kvs.map (·.2),T.lt n t):T.lt n (.dct kvs)
  | exc {C:Addr} {fs:List (Str × T)} (h:∀ t ∈ fs.map (·.2),T.lt n t):T.lt n (.exc C fs)
noncomputable def Cell.lt (n:Nat):Cell->Prop
  | .lst ts=>∀ t ∈ ts,T.lt n t
  | .dic kvs=>∀ k ∈ kvs,T.lt n k.2
  | .ins _ fs=>∀ k ∈ fs,T.lt n k.2
inductive Fz (M':Mem) (n:Nat):T->T->Prop where
  | same {t:T} (h:T.lt n t):Fz M' n t t
  | tup {ts us:List T} (l:ts.length = us.length) (h:∀ (i:Nat) t u,ts[i]? = some t->us[i]? = some u->Fz M' n t u):Fz M' n (.tup ts) (.tup us)
  | lst {ts us:List T} (l:ts.length = us.length) (h:∀ (i:Nat) t u,ts[i]? = some t->us[i]? = some u->Fz M' n t u):Fz M' n (.lst ts) (.lst us)
  | ref {a:Nat} {ts us:List T} (e:M'[a]? = some (.lst ts)) (g:n<=a) (l:ts.length = us.length) (h:∀ (i:Nat) t u,ts[i]? = some t->us[i]? = some u->Fz M' n t u):Fz M' n (.ref a) (.lst us)
theorem Rep.lt {K:PySem.W.Frag} {S:Sit} {t:T} {v:V} (r:Rep K S t v):T.lt S.M.length t:=by
  induction r with
  | non=>exact .non
  | bl b=>exact .bl b
  | int b=>exact .int b
  | str b=>exact .str b
  | ty b=>exact .ty b
  | @tup ts p vs h l _ ih=>
    refine .tup fun t ht=>?_
    obtain ⟨i,hi,rfl⟩:=List.getElem_of_mem ht
    exact ih i _ vs[i] (by simp [hi]) (by simp [← l,hi])
  | @lst ts p vs h l _ ih=>
    refine .lst fun t ht=>?_
    obtain ⟨i,hi,rfl⟩:=List.getElem_of_mem ht
    exact ih i _ vs[i] (by simp [hi]) (by simp [← l,hi])
  | ref h=>exact .ref h
  | @dct kvs us p o h l _ ih=>
    refine .dct fun t ht=>?_
    obtain ⟨i,hi,rfl⟩:=List.getElem_of_mem ht
    have hl:i < us.length:=by have:=congrArg List.length l;simp at this hi;omega
    exact ih i _ (us[i]'hl).2 (List.getElem?_eq_getElem hi) (by simp [hl])
  | @exc C fs us p od h hd l _ ih=>
    refine .exc fun t ht=>?_
    obtain ⟨i,hi,rfl⟩:=List.getElem_of_mem ht
    have hl:i < us.length:=by have:=congrArg List.length l;simp at this hi;omega
    exact ih i _ (us[i]'hl).2 (List.getElem?_eq_getElem hi) (by simp [hl])
theorem Reps.lt {K:PySem.W.Frag} {S:Sit} {ts:List T} {vs:List V} (r:Reps K S ts vs):∀ t ∈ ts,T.lt S.M.length t:=fun t ht=>by
  obtain ⟨i,hi,rfl⟩:=List.getElem_of_mem ht
  have hv:i < vs.length:=by rw [← r.1];exact hi
  exact (r.2 i _ vs[i] (by simp [hi]) (by simp [hv])).lt
theorem zgC {κ:Type} {fs:List (κ × T)} {n:Nat} (h:∀ t ∈ fs.map (·.2),T.lt n t):∀ k ∈ fs,T.lt n k.2:=fun k hk=>h _ (List.mem_map_of_mem (f:=(·.2)) hk)
theorem CellOk.lt {K:PySem.W.Frag} {S:Sit} {p:Addr} {c:Cell} (h:CellOk K S p c):Cell.lt S.M.length c:=by
  cases c with
  | lst ts=>obtain ⟨vs,_,r⟩:=h;exact r.lt
  | dic ts=>obtain ⟨vs,_,r⟩:=h;exact zgC r.2.lt
  | ins C ts=>obtain ⟨dx,vs,_,r⟩:=h;exact zgC r.2.lt
theorem T.lt.mono {n m:Nat} (h:n<=m) {t:T} (r:T.lt n t):T.lt m t:=by
  induction r with
  | non=>exact .non
  | bl b=>exact .bl b
  | int b=>exact .int b
  | str b=>exact .str b
  | ty b=>exact .ty b
  | tup _ ih=>exact .tup ih
  | lst _ ih=>exact .lst ih
  | ref g=>exact .ref (Nat.lt_of_lt_of_le g h)
  | dct _ ih=>exact .dct ih
  | exc _ ih=>exact .exc ih
noncomputable def Sit.cut (S:Sit) (n:Nat) (h:List Addr):Sit:=⟨S.α,S.M.take n,S.H,h⟩
section
variable {K:PySem.W.Frag} {S S':Sit} {n:Nat} {hh:List Addr}
theorem Rep.cut (hn:n<=S'.M.length) (sub:∀ p ∈ hh,p ∈ S'.hid) {t:T} {v:V} (r:Rep K S' t v) (l:T.lt n t):Rep K (S'.cut n hh) t v:=by
  have ln:(S'.cut n hh).M.length = n:=by show (S'.M.take n).length = n;simp;omega
  induction r with
  | non=>exact .non
  | bl b=>exact .bl b
  | int b=>exact .int b
  | str b=>exact .str b
  | ty b=>exact .ty b
  | @tup ts p vs h l2 _ ih=>
    cases l with
    | tup hl=>exact .tup h l2 fun i t v e1 e2=>ih i t v e1 e2 (hl t (List.mem_of_getElem? e1))
  | @lst ts p vs h l2 _ ih=>
    cases l with
    | lst hl=>
      refine .lst ?_ l2 fun i t v e1 e2=>ih i t v e1 e2 (hl t (List.mem_of_getElem? e1))
      rcases h with ⟨h,f⟩ | h
      · exact .inl ⟨h,fun a ha z=>f.1 a (by rw [ln] at ha;omega) z,fun z=>f.2 (sub _ z)⟩
      · exact .inr h
  | @ref a h=>
    cases l with
    | ref hl=>exact .ref (S:=S'.cut n hh) (by rw [ln];exact hl)
  | dct h l2 _ ih=>
    cases l with
    | dct hl=>exact .dct (S:=S'.cut n hh) h l2 fun i t v e1 e2=>ih i t v e1 e2 (hl t (List.mem_of_getElem? e1))
  | exc h hd l2 _ ih=>
    cases l with
    | exc hl=>exact .exc (S:=S'.cut n hh) h hd l2 fun i t v e1 e2=>ih i t v e1 e2 (hl t (List.mem_of_getElem? e1))
theorem Reps.cut (hn:n<=S'.M.length) (sub:∀ p ∈ hh,p ∈ S'.hid) {t:List T} {v:List V} (r:Reps K S' t v) (l:∀ x ∈ t,T.lt n x):Reps K (S'.cut n hh) t v:=⟨r.1,fun i t v e1 e2=>(r.2 i t v e1 e2).cut hn sub (l t (List.mem_of_getElem? e1))⟩
theorem CellOk.cut (hn:n<=S'.M.length) (sub:∀ p ∈ hh,p ∈ S'.hid) {p:Addr} {c:Cell} (r:CellOk K S' p c) (l:Cell.lt n c):CellOk K (S'.cut n hh) p c:=by
  have ms:∀ {κ:Type} {fs:List (κ × T)},(∀ k ∈ fs,T.lt n k.2)->∀ t ∈ fs.map (·.2),T.lt n t:=fun h t ht=>by
    obtain ⟨k,hk,rfl⟩:=List.mem_map.mp ht
    exact h k hk
  cases c with
  | lst ts=>obtain ⟨vs,q,r⟩:=r;exact ⟨vs,q,r.cut hn sub l⟩
  | dic ts=>obtain ⟨vs,q,r⟩:=r;exact ⟨vs,q,r.1,r.2.cut hn sub (ms l)⟩
  | ins C ts=>obtain ⟨dx,vs,q,r⟩:=r;exact ⟨dx,vs,q,r.1,r.2.cut hn sub (ms l)⟩
theorem Stp.cut (s:Stp K S S') (h1:S.M.length<=n) (h2:n<=S'.M.length) (hl:∀ (i:Nat) c,i < n->S'.M[i]? = some c->Cell.lt n c):Stp K S (S'.cut n S.hid):=by
  have sub:∀ p ∈ S.hid,p ∈ S'.hid:=fun p h=>(s.hk p h).1
  have ln:(S'.cut n S.hid).M.length = n:=by show (S'.M.take n).length = n;simp;omega
  refine ⟨⟨by rw [ln];exact h1,s.al,fun a g1 g2=>s.fr a g1 (by rw [ln] at g2;omega),s.kp,fun p h=>⟨h,(s.hk p h).2⟩,fun p h=>.inl h⟩,⟨fun a c e=>?_,fun a b g1 g2 e=>s.mok.inj a b (by rw [ln] at g1;omega) (by rw [ln] at g2;omega) e,fun p h=>?_⟩⟩
  · have e':(S'.M.take n)[a]? = some c:=e
    rw [List.getElem?_take] at e'
    split at e'
    · rename_i hi
      exact (s.mok.cell a c e').cut h2 sub (hl a c hi e')
    · cases e'
  · obtain ⟨g1,vs,g2⟩:=s.mok.hd p (sub p h)
    exact ⟨fun a ha z=>g1 a (by rw [ln] at ha;omega) z,vs,g2⟩
theorem Rep.fz (m:MemOk K S') (hn:n<=S'.M.length) (sub:∀ p ∈ hh,p ∈ S'.hid) {t u:T} (z:Fz S'.M n t u):∀ {v:V},Rep K S' t v->Rep K (S'.cut n hh) u v:=by
  have ln:(S'.cut n hh).M.length = n:=by show (S'.M.take n).length = n;simp;omega
  induction z with
  | same h=>exact fun r=>r.cut hn sub h
  | @tup ts us l _ ih=>
    intro v r
    cases r with
    | @tup _ p vs h l2 rr=>
      refine .tup h (by rw [← l];exact l2) fun i t v e1 e2=>?_
      have hi:i < ts.length:=by rw [l];exact (List.getElem?_eq_some_iff.mp e1).1
      exact ih i ts[i] t (by simp [hi]) e1 (rr i _ v (by simp [hi]) e2)
  | @lst ts us l _ ih=>
    intro v r
    cases r with
    | @lst _ p vs h l2 rr=>
      refine .lst ?_ (by rw [← l];exact l2) fun i t v e1 e2=>?_
      · rcases h with ⟨h,f⟩ | h
        · exact .inl ⟨h,fun a ha z=>f.1 a (by rw [ln] at ha;omega) z,fun z=>f.2 (sub _ z)⟩
        · exact .inr h
      · have hi:i < ts.length:=by rw [l];exact (List.getElem?_eq_some_iff.mp e1).1
        exact ih i ts[i] t (by simp [hi]) e1 (rr i _ v (by simp [hi]) e2)
  | @ref a ts us e g l _ ih=>
    intro v r
    cases r with
    | ref ha=>
      obtain ⟨vs,q,rr⟩:=m.cell a _ e
      refine .lst (vs:=vs) (.inl ⟨.inl q,fun b hb z=>?_,fun z=>?_⟩) (by rw [← l];exact rr.1) fun i t v e1 e2=>?_
      · rw [ln] at hb
        have:=m.inj b a (by omega) ha z
        omega
      · exact (m.hd _ (sub _ z)).1 a ha rfl
      · have hi:i < ts.length:=by rw [l];exact (List.getElem?_eq_some_iff.mp e1).1
        exact ih i ts[i] t (by simp [hi]) e1 (rr.2 i _ v (by simp [hi]) e2)
end
noncomputable def zeb (f g:List T->Mem->Out T):Prop:=∀ ts M t' M1,(∀ c ∈ M,Cell.lt M.length c)->f ts M = .ok t' M1->∃ t M',g ts M = .ok t M'/\M.length<=M1.length/\M1.length<=M'.length/\M1 = M'.take M1.length/\(∀ (i:Nat) c,M1[i]? = some c->M[i]? = some c\/Cell.lt M1.length c)/\Fz M' M1.length t t'
theorem Cell.lt.mono {n m:Nat} (h:n<=m) {c:Cell} (r:Cell.lt n c):Cell.lt m c:=by
  cases c with
  | lst ts=>exact fun t ht=>(r t ht).mono h
  | dic ts=>exact fun t ht=>(r t ht).mono h
  | ins C ts=>exact fun t ht=>(r t ht).mono h
theorem CalT.refine {P:Program} {w:World} {K:PySem.W.Frag} {mg:Str->Option Value} {base:Heap} {k:Nat} {x:Str} {ps:List Str} {f g:List T->Mem->Out T} (C:CalT P w K mg base k x ps g) (h:zeb f g) (nox:∀ ts M C fs M',f ts M ≠ .exn C fs M'):CalT P w K mg base k x ps f:=by
  refine ⟨?_,nox⟩
  obtain ⟨⟨fa,fd,F,kp,b,gg⟩⟩:=C.cal
  have key:∀ vs H Q E,spT K f vs H Q E->spT K g vs H Q E:=by
    rintro vs H Q E ⟨S,ts,e,m,r,fin⟩
    refine ⟨S,ts,e,m,r,?_⟩
    have wf:∀ c ∈ S.M,Cell.lt S.M.length c:=fun c hc=>by
      obtain ⟨i,hi,rfl⟩:=List.getElem_of_mem hc
      exact (m.cell i _ (by simp [hi])).lt
    cases o:f ts S.M with
    | bad=>rw [o] at fin;exact fin.elim
    | exn C' fs M'=>exact absurd o (nox _ _ _ _ _)
    | ok t' M1=>
      rw [o] at fin
      obtain ⟨t,M',eg,l1,l2,eM,hc,z⟩:=h ts S.M t' M1 wf o
      rw [eg]
      intro S' v e1 s r1
      have hl:∀ (i:Nat) c,i < M1.length->S'.M[i]? = some c->Cell.lt M1.length c:=fun i c hi ec=>by
        have e2:M1[i]? = some c:=by
          rw [eM,List.getElem?_take,if_pos hi,← e1];exact ec
        rcases hc i c e2 with q | q
        · exact (wf c (List.mem_of_getElem? q)).mono l1
        · exact q
      have sc:=s.cut l1 (by rw [e1];exact l2) hl
      refine fin (S'.cut M1.length S.hid) v ?_ sc ?_
      · show S'.M.take M1.length = M1
        rw [e1];exact eM.symm
      · exact Rep.fz s.mok (by rw [e1];exact l2) (fun p h=>(s.hk p h).1) (by rw [e1];exact z) r1
  refine ⟨⟨fa,fd,⟨fun vs H Q E q=>F.len vs H Q E (key _ _ _ _ q),?_⟩,kp,b,gg⟩⟩
  intro A outer s H args us vs Q E hr h0 hb hv hq
  exact F.run A outer s H args us vs Q E hr h0 hb hv (key _ _ _ _ hq)
end FT
namespace FT
open PySem PySem.Spec PyProof.Rows L2
noncomputable def yu (t:T) (M:Mem):Option (List T):=match t with
  | .lst xs=>some xs
  | .ref a=>match M[a]? with
    | some (.lst xs)=>some xs
    | _=>none
  | _=>none
noncomputable def ze7 (t:T):Option (List T):=match t with
  | .lst xs=>some xs
  | .tup xs=>some xs
  | _=>none
noncomputable def zbi (t:T) (M:Mem):Option (List T):=match t with
  | .tup xs=>some xs
  | t=>yu t M
section
variable {K:PySem.W.Frag} {S:Sit} {t:T} {v:V} {xs:List T}
theorem za8 {p:Addr} {vs:List V} (h:(Rd S.H p (.lst vs)/\S.off p)\/KL K p vs):SqL K S.H p vs:=by
  rcases h with ⟨h,_⟩ | h
  · exact .inl h
  · exact .inr h
theorem zo (m:MemOk K S) (r:Rep K S t v) (e:yu t S.M = some xs):∃ p vs,v = .ref p/\SqL K S.H p vs/\Reps K S xs vs:=by
  cases r with
  | @lst ts p vs h l r=>cases e;exact ⟨p,vs,rfl,za8 h,l,r⟩
  | @ref a h=>
    unfold yu at e
    dsimp only at e
    split at e
    · rename_i ys q
      cases e
      obtain ⟨vs,q2,r2⟩:=m.cell a _ q
      exact ⟨_,vs,rfl,.inl (.inl q2),r2⟩
    · cases e
  | _=>cases e
theorem zaK (m:MemOk K S) (r:Rep K S t v) (e:zbi t S.M = some xs):∃ p vs,v = .ref p/\(SqL K S.H p vs\/SqT K S.H p vs)/\Reps K S xs vs:=by
  cases t with
  | tup ts=>
    cases e
    cases r with
    | @tup _ p vs h l r=>exact ⟨p,vs,rfl,.inr h,l,r⟩
  | lst ts=>obtain ⟨p,vs,e1,h,r2⟩:=zo m r e;exact ⟨p,vs,e1,.inl h,r2⟩
  | ref a=>obtain ⟨p,vs,e1,h,r2⟩:=zo m r e;exact ⟨p,vs,e1,.inl h,r2⟩
  | _=>cases e
end
noncomputable def zaz (f:Ev->Mem->Out T):Ev->Mem->Out (List T):=fun σ M=>(f σ M).bind fun t M1=>match ze7 t with
  | some xs=>.ok xs M1
  | none=>.bad
noncomputable def zbN (lo:Int) (n:Nat):List T:=(List.range n).map fun (k:Nat)=>T.int (lo + (k:Int))
noncomputable def zdI (ts:List T) (M1:Mem):Out (List T):=match ts with
  | [.int j]=>@ite _ (-(2 ^ 62)<=j/\j < 2 ^ 62) (Classical.propDecidable _) (.ok (zbN 0 j.toNat) M1) .bad
  | _=>.bad
noncomputable def znO (ts:List T) (M1:Mem):Out (List T):=match ts with
  | [.int i,.int j]=>@ite _ ((-(2 ^ 62)<=i/\i < 2 ^ 62)/\(-(2 ^ 62)<=j/\j < 2 ^ 62)) (Classical.propDecidable _) (.ok (zbN i (j - i).toNat) M1) .bad
  | _=>.bad
noncomputable def yR (f:Ev->Mem->Out (List T)):Ev->Mem->Out (List T):=fun σ M=>(f σ M).bind fun ts M1=>zdI ts M1
noncomputable def zoo (f:Ev->Mem->Out (List T)):Ev->Mem->Out (List T):=fun σ M=>(f σ M).bind fun ts M1=>znO ts M1
theorem zjm (K:PySem.W.Frag) (S:Sit) (lo:Int) (n:Nat):za1 K S (zbN lo n) (Itr lo n):=fun S' s=>by
  refine ⟨fun i t e=>?_,fun i h=>?_⟩
  · unfold zbN at e
    rw [List.getElem?_map] at e
    cases q:(List.range n)[i]? with
    | none=>rw [q] at e;cases e
    | some k=>
      rw [q] at e
      cases e
      have hi:i < n:=by have:=(List.getElem?_eq_some_iff.mp q).1;simpa using this
      have hk:k = i:=by rw [List.getElem?_range hi] at q;exact (Option.some.inj q).symm
      subst hk
      refine ⟨hi,fun x H' hy=>?_⟩
      obtain ⟨e1,e2⟩:=hy
      exact ⟨S',e1.symm,rfl,.refl s.mok,by rw [e2];exact .int _⟩
  · show n<=i
    simpa [zbN] using h
section
variable {X:Cx} {XE:XK} {a b c e iter tg:Expr} {es:List Expr} {f g h:Ev->Mem->Out T} {pos p:Pos} {ga:Ev->Mem->Out (List T)}
theorem zmx (he:GE X XE e f):GI X XE tg e (zaz f):=PI.imp (PI.or (zkj he) (zlD he)) fun σ H R h9=>by
  obtain ⟨S,στ,_,e,m,ev,_,fin⟩:=h9
  replace fin:Fin XE (za1 X.K) X.K S ((f στ S.M).bind fun t M1=>match ze7 t with | some xs=>.ok xs M1 | none=>.bad) R:=fin
  cases o:f στ S.M with
  | bad=>rw [o] at fin;exact fin.elim
  | exn C fs M'=>
    rw [o] at fin
    refine .inl ⟨S,στ,(),e,m,ev,trivial,?_⟩
    show Fin XE (Rep X.K) X.K S (f στ S.M) _
    rw [o];exact fin
  | ok t M1=>
    rw [o] at fin
    cases t with
    | lst ts=>
      refine .inl ⟨S,στ,(),e,m,ev,trivial,?_⟩
      show Fin XE (Rep X.K) X.K S (f στ S.M) _
      rw [o]
      intro S1 v e1 s1 r1
      cases r1 with
      | @lst _ p vs h l r=>
        have r1:Reps X.K S1 ts vs:=⟨l,r⟩
        refine ⟨p,rfl,⟨vs,za8 h⟩,fin S1 _ e1 s1 fun S3 s3=>?_⟩
        have g3:SqL X.K S3.H p vs:=by
          rcases h with ⟨h2,f2⟩ | h2
          · exact .inl (s3.toGrow.rd h2 f2).1
          · exact .inr h2
        refine ⟨fun i t et=>?_,fun i hi=>⟨vs,g3,by rw [← l];exact hi⟩⟩
        obtain ⟨v2,ev3,r3⟩:=r1.get et
        refine ⟨⟨vs,v2,g3,ev3⟩,fun x H' hy=>?_⟩
        obtain ⟨ey,hy⟩:=hy
        have:=hy vs g3
        rw [ev3] at this
        cases this
        exact ⟨S3,ey.symm,rfl,.refl s3.mok,r3.grow s1.mok s3.toGrow⟩
    | tup ts=>
      refine .inr ⟨S,στ,(),e,m,ev,trivial,?_⟩
      show Fin XE (Rep X.K) X.K S (f στ S.M) _
      rw [o]
      intro S1 v e1 s1 r1
      cases r1 with
      | @tup _ p vs h l r=>
        have r1:Reps X.K S1 ts vs:=⟨l,r⟩
        refine ⟨p,rfl,⟨vs,h⟩,fin S1 _ e1 s1 fun S3 s3=>?_⟩
        have g3:SqT X.K S3.H p vs:=s3.toGrow.tup s1.mok h
        refine ⟨fun i t et=>?_,fun i hi=>⟨vs,g3,by rw [← l];exact hi⟩⟩
        obtain ⟨v2,ev3,r3⟩:=r1.get et
        refine ⟨⟨vs,v2,g3,ev3⟩,fun x H' hy=>?_⟩
        obtain ⟨ey,hy⟩:=hy
        have:=hy vs g3
        rw [ev3] at this
        cases this
        exact ⟨S3,ey.symm,rfl,.refl s3.mok,r3.grow s1.mok s3.toGrow⟩
    | _=>exact fin.elim
theorem zio (hg:Gl X "range") (hm:X.mg "range" = none) (ha:GA X XE [a] ga) (hs:starEach [a] X.env = [(false,eval a X.env)]:=by rfl):GI X XE tg (.Call (.Name "range" p) [a] [] pos) (yR ga):=PI.imp (zh9 hg hm ha hs) fun σ H R hh=>
  LN.mono (LN.bind (f:=fun _ σ M=>ga σ M) (k:=fun _ ts σ M1=>zdI ts M1) (RB:=Reps X.K) hh) fun vs H1 h9=>by
    obtain ⟨S,στ,a,e,m,ev,ra,fin⟩:=h9
    obtain ⟨u,ts⟩:=a
    have rr:Reps X.K S ts vs:=ra.2
    replace fin:Fin XE (za1 X.K) X.K S (zdI ts S.M) R:=fin
    unfold zdI at fin
    split at fin
    · rename_i j
      obtain ⟨v,vs',rfl,r1,r2⟩:=rr.consT
      cases r1
      rw [r2.nilT]
      split at fin
      · rename_i hj
        exact ⟨j,rfl,hj.1,hj.2,by rw [← e];exact fin S _ rfl (.refl m) (zjm _ _ _ _)⟩
      · exact fin.elim
    · exact fin.elim
end
noncomputable def ql (bd:T->Ev->Mem->Out Ev) (cond:Ev->Mem->Out Bool) (el:Ev->Mem->Out T):List T->Ev->Mem->List T->Out (List T)
  | [],_,M,acc=>.ok acc M
  | x :: xs,σ,M,acc=>(bd x σ M).bind fun σ1 M1=>(cond σ1 M1).bind fun b M2=>if b = true then (el σ1 M2).bind fun t M3=>if acc.length < sizeLine then ql bd cond el xs σ1 M3 (acc ++ [t]) else .bad else ql bd cond el xs σ1 M2 acc
noncomputable def zb4 (tgs:List Str) (caps:List (Str × Nat)) (σ:Ev):Ev:=tgs.map (fun _=>none) ++ caps.map fun c=>(σ[c.2]?).join
noncomputable def zaQ (it:Ev->Mem->Out (List T)) (bd:T->Ev->Mem->Out Ev) (cond:Ev->Mem->Out Bool) (el:Ev->Mem->Out T) (tgs:List Str) (caps:List (Str × Nat)):Ev->Mem->Out (List T):=fun σ M=>(it σ M).bind fun xs M1=>ql bd cond el xs (zb4 tgs caps σ) M1 []
noncomputable def qO:Ev->Mem->Out Bool:=fun _ M=>.ok true M
theorem EvR.cap {K:PySem.W.Frag} {S:Sit} {στ:Ev} {σ:L2.St} (r:EvR K S στ σ) (tgs:List Str) (caps:List (Str × Nat)):EvR K S (zb4 tgs caps στ) (za0 tgs caps σ):=by
  refine ⟨by simp [zb4,za0],fun i t e=>?_⟩
  unfold zb4 at e
  unfold za0
  by_cases hi:i < tgs.length
  · rw [List.getElem?_append_left (by simpa using hi)] at e
    rw [List.getElem?_map] at e
    cases q:tgs[i]? with
    | none=>rw [q] at e;cases e
    | some x=>rw [q] at e;cases e
  · rw [List.getElem?_append_right (by simpa using hi),List.getElem?_map] at e
    rw [List.getElem?_append_right (by simpa using hi),List.getElem?_map]
    simp only [List.length_map] at e ⊢
    cases q:caps[i - tgs.length]? with
    | none=>rw [q] at e;cases e
    | some cq=>
      rw [q] at e
      have e2:(στ[cq.2]?).join = some t:=Option.some.inj e
      have e3:στ[cq.2]? = some (some t):=by
        cases q2:στ[cq.2]? with
        | none=>rw [q2] at e2;cases e2
        | some o=>rw [q2] at e2;cases o with
          | none=>cases e2
          | some v'=>rw [show v' = t from Option.some.inj e2]
      obtain ⟨v,e4,r4⟩:=r.2 _ _ e3
      exact ⟨v,by show some ((σ[cq.2]?).join) = _;rw [e4];rfl,r4⟩
noncomputable def Sit.hput (S:Sit) (p:Addr) (vs:List V):Sit:=⟨S.α,S.M,upd S.H p (.lst vs),S.hid⟩
section
variable {K:PySem.W.Frag} {S S0:Sit} {p:Addr} {us:List V}
theorem Rep.hput (m:MemOk K S) (hp:p ∈ S.hid) {t:T} {v:V} (r:Rep K S t v):Rep K (S.hput p us) t v:=by
  obtain ⟨_,ws,ew⟩:=m.hd p hp
  induction r with
  | non=>exact .non
  | bl b=>exact .bl b
  | int b=>exact .int b
  | str b=>exact .str b
  | ty b=>exact .ty b
  | @tup ts q vs h l _ ih=>
    refine .tup ?_ l ih
    rcases h with (h | ⟨o,h⟩) | h
    · exact .inl (.inl ((qd (zde h ew (by intro z;cases z))).trans h))
    · exact .inl (.inr ⟨o,(qd (zde h ew (by intro z;cases z))).trans h⟩)
    · exact .inr h
  | @lst ts q vs h l _ ih=>
    refine .lst ?_ l ih
    rcases h with ⟨h,f⟩ | h
    · have hne:q ≠ p:=fun z=>f.2 (by rw [z];exact hp)
      refine .inl ⟨?_,f⟩
      rcases h with h | ⟨o,h⟩
      · exact .inl ((qd hne).trans h)
      · exact .inr ⟨o,(qd hne).trans h⟩
    · exact .inr h
  | ref h=>exact .ref (S:=S.hput p us) h
  | dct h l _ ih=>exact .dct (S:=S.hput p us) ((qd (zde h ew (by intro z;cases z))).trans h) l ih
  | exc h hd l _ ih=>exact .exc (S:=S.hput p us) ((qd (zde h ew (by intro z;cases z))).trans h) (hd.imp (fun z=>z) fun ⟨d,a,b⟩=>⟨d,a,(qd (zde b ew (by intro z;cases z))).trans b⟩) l ih
theorem Reps.hput (m:MemOk K S) (hp:p ∈ S.hid) {t:List T} {v:List V} (r:Reps K S t v):Reps K (S.hput p us) t v:=⟨r.1,fun i a b e1 e2=>(r.2 i a b e1 e2).hput m hp⟩
theorem CellOk.hput (m:MemOk K S) (hp:p ∈ S.hid) {q:Addr} {c:Cell} (hq:q ≠ p) (r:CellOk K S q c):CellOk K (S.hput p us) q c:=by
  cases c with
  | lst ts=>obtain ⟨vs,q,r⟩:=r;exact ⟨vs,(qd hq).trans q,r.hput m hp⟩
  | dic ts=>obtain ⟨vs,q,r⟩:=r;exact ⟨vs,(qd hq).trans q,r.1,r.2.hput m hp⟩
  | ins C ts=>obtain ⟨dx,vs,q,r⟩:=r;exact ⟨dx,vs,(qd hq).trans q,r.1,r.2.hput m hp⟩
theorem Stp.hput (s:Stp K S0 S) (hp:p ∈ S.hid) (hn:S0.H p = none) (m0:MemOk K S0):Stp K S0 (S.hput p us):=by
  refine ⟨⟨s.le,s.al,s.fr,fun b o e f=>(qd (zk e hn)).trans (s.kp b o e f),fun q h=>⟨(s.hk q h).1,?_⟩,s.hf⟩,⟨fun a c e=>?_,s.mok.inj,fun q h=>?_⟩⟩
  · obtain ⟨_,vs,e⟩:=m0.hd q h
    exact (qd (zk e hn)).trans (s.hk q h).2
  · exact (s.mok.cell a c e).hput s.mok hp ((s.mok.hd p hp).1 a (List.getElem?_eq_some_iff.mp e).1)
  · obtain ⟨h1,vs,e⟩:=s.mok.hd q h
    refine ⟨h1,?_⟩
    by_cases z:q = p
    · exact ⟨us,by show upd S.H p _ q = _;rw [z];exact qf⟩
    · exact ⟨vs,(qd z).trans e⟩
end
structure CB (X:Cx) (scope:Scope) (cl:List (Str × Addr)) (caps:List (Str × Nat)):Prop where
  hc:X.calm = true
  hclos:closureFor scope X.env = pure cl
  hcell:∀ y ∈ scope.names,y.2 = .cell->y.1 ∉ caps.map (·.1)
  hkind:scope.kind = .function
  hnames:∀ y ∈ scope.names,y.2 = .local->scope.names.lookup y.1 = some .local
  hcl:∀ y c,cl.lookup y = some c->X.env.cells.lookup y = some c
  hhas:∀ n y,((relabel scope X.env).names.lookup y = some .cell\/(relabel scope X.env).names.lookup y = some .free)->∃ c,(cellsFrom n scope.names cl).lookup y = some c
  hcap:∀ c ∈ caps,X.N[c.2]? = some c.1/\X.env.kindOf c.1 = some .cell/\((relabel scope X.env).names.lookup c.1 = some .cell\/(relabel scope X.env).names.lookup c.1 = some .free)
section
variable {X:Cx} {XE:XK}
theorem zjF {tgs:List Str} {caps:List (Str × Nat)} {ga:Ev->Mem->Out (List T)} {bd:T->Ev->Mem->Out Ev} {cond:Ev->Mem->Out Bool} {f:Ev->Mem->Out T} {σ:L2.St} {H:Hp} {Q:VK} (hh:lL XE X.K (zaQ ga bd cond f tgs caps) σ H Q) :
    zjJ (lI XE X.K ga) (lG XE X.K bd) (lT XE X.K cond) (lE XE X.K f) (za0 tgs caps) σ H Q:=by
  obtain ⟨S,στ,e,m,ev,fin⟩:=hh
  replace fin:FinL XE X.K S ((ga στ S.M).bind fun xs M1=>ql bd cond f xs (zb4 tgs caps στ) M1 []) Q:=fin
  refine ⟨S,στ,(),e,m,ev,trivial,?_⟩
  show Fin XE (za1 X.K) X.K S (ga στ S.M) _
  cases o:ga στ S.M with
  | bad=>rw [o] at fin;exact fin
  | exn C fs M'=>rw [o] at fin;exact fin
  | ok items M1=>
    rw [o] at fin
    replace fin:FinL XE X.K S (ql bd cond f items (zb4 tgs caps στ) M1 []) Q:=fin
    intro S0 J e0 s0 it0 D hD
    have m0:=s0.mok
    have fin0:=fin.later s0
    have s1:=Stp.hide (K:=X.K) m0 hD []
    refine ⟨fun i n σ' H'=>∃ S στ acc vs,S.H = H'/\EvR X.K S στ σ'/\n = items.length - i/\i<=items.length/\D ∈ S.hid/\S.H D = some (.lst vs)/\Reps X.K S acc vs/\Stp X.K S0 S/\FinL XE X.K S0 (ql bd cond f (items.drop i) στ S.M acc) Q,
      ⟨items.length - 0,S0.hide D [],zb4 tgs caps στ,[],[],rfl,(Mo.mo (K:=X.K) m0 s1 (Mo.mo (K:=X.K) m s0 ev)).cap tgs caps,rfl,Nat.zero_le _,.head _,qf,.nil,s1,by show FinL XE X.K S0 (ql bd cond f items (zb4 tgs caps στ) S0.M []) Q;rw [e0];exact fin0⟩,?_⟩
    rintro i n σ1 H1 ⟨S2,στ2,acc,vs,e2,ev2,en,hi2,hid2,hD2,racc,s2,fin2⟩
    subst e2
    have m2:=s2.mok
    obtain ⟨itg,its⟩:=it0 S2 s2
    by_cases hl:i < items.length
    · have eq:items.drop i = items[i] :: items.drop (i + 1):=List.drop_eq_getElem_cons hl
      rw [eq] at fin2
      obtain ⟨go,yl⟩:=itg i items[i] (by simp [hl])
      refine .inr ⟨go,fun σ' H'=>∃ S στ acc vs,S.H = H'/\EvR X.K S στ σ'/\D ∈ S.hid/\S.H D = some (.lst vs)/\Reps X.K S acc vs/\Stp X.K S0 S/\FinL XE X.K S0 (ql bd cond f (items.drop (i + 1)) στ S.M acc) Q,?_,fun x H' hy=>?_⟩
      · rintro σ' H' ⟨S,στ,acc,vs,a1,a2,a3,a4,a5,a6,a7⟩
        exact ⟨items.length - (i + 1),by omega,S,στ,acc,vs,a1,a2,rfl,hl,a3,a4,a5,a6,a7⟩
      · obtain ⟨S3,e3,eM,s3,r3⟩:=yl x H' hy
        replace fin2:FinL XE X.K S0 ((bd items[i] στ2 S2.M).bind fun σ1 M1=>(cond σ1 M1).bind fun b M2=>if b = true then (f σ1 M2).bind fun t M3=>if acc.length < sizeLine then ql bd cond f (items.drop (i + 1)) σ1 M3 (acc ++ [t]) else .bad else ql bd cond f (items.drop (i + 1)) σ1 M2 acc) Q:=fin2
        refine ⟨S3,στ2,items[i],e3,s3.mok,Mo.mo m2 s3 ev2,r3,?_⟩
        show Fin XE (EvR X.K) X.K S3 (bd items[i] στ2 S3.M) _
        rw [eM]
        cases o1:bd items[i] στ2 S2.M with
        | bad=>rw [o1] at fin2;exact fin2
        | exn C fs M'=>rw [o1] at fin2;exact fun S' od a1 a2 a3=>fin2 S' od a1 ((s2.trans s3).trans a2) a3
        | ok σ4 M4=>
          rw [o1] at fin2
          intro S4 σ4v e4 s4 ev4
          have t4:=s3.trans s4
          replace fin2:FinL XE X.K S0 ((cond σ4 M4).bind fun b M2=>if b = true then (f σ4 M2).bind fun t M3=>if acc.length < sizeLine then ql bd cond f (items.drop (i + 1)) σ4 M3 (acc ++ [t]) else .bad else ql bd cond f (items.drop (i + 1)) σ4 M2 acc) Q:=fin2
          refine ⟨S4,σ4,(),rfl,s4.mok,ev4,trivial,?_⟩
          show Fin XE EqR X.K S4 (cond σ4 S4.M) _
          rw [e4]
          cases o2:cond σ4 M4 with
          | bad=>rw [o2] at fin2;exact fin2
          | exn C fs M'=>rw [o2] at fin2;exact fun S' od a1 a2 a3=>fin2 S' od a1 ((s2.trans t4).trans a2) a3
          | ok b M5=>
            rw [o2] at fin2
            intro S5 b5 e5 s5 eb
            have eb':b = b5:=eb
            subst eb'
            have t5:=t4.trans s5
            replace fin2:FinL XE X.K S0 (if b = true then (f σ4 M5).bind fun t M3=>if acc.length < sizeLine then ql bd cond f (items.drop (i + 1)) σ4 M3 (acc ++ [t]) else .bad else ql bd cond f (items.drop (i + 1)) σ4 M5 acc) Q:=fin2
            cases b with
            | false=>
              rw [if_neg Bool.false_ne_true] at fin2
              refine (if_neg Bool.false_ne_true).mpr ⟨S5,σ4,acc,vs,rfl,Mo.mo s4.mok s5 ev4,(t5.hk D hid2).1,by rw [(t5.hk D hid2).2];exact hD2,racc.grow m2 t5.toGrow,s2.trans t5,by rw [e5];exact fin2⟩
            | true=>
              rw [if_pos rfl] at fin2
              refine (if_pos rfl).mpr ⟨S5,σ4,(),rfl,s5.mok,Mo.mo s4.mok s5 ev4,trivial,?_⟩
              show Fin XE (Rep X.K) X.K S5 (f σ4 S5.M) _
              rw [e5]
              cases o3:f σ4 M5 with
              | bad=>rw [o3] at fin2;exact fin2
              | exn C fs M'=>rw [o3] at fin2;exact fun S' od a1 a2 a3=>fin2 S' od a1 ((s2.trans t5).trans a2) a3
              | ok t M6=>
                rw [o3] at fin2
                replace fin2:FinL XE X.K S0 (if acc.length < sizeLine then ql bd cond f (items.drop (i + 1)) σ4 M6 (acc ++ [t]) else .bad) Q:=fin2
                intro S6 v6 e6 s6 r6
                have t6:=t5.trans s6
                have hz:acc.length < sizeLine:=by
                  by_cases hz:acc.length < sizeLine
                  · exact hz
                  · rw [if_neg hz] at fin2;exact fin2.elim
                rw [if_pos hz] at fin2
                have hid6:=(t6.hk D hid2).1
                have hD6:S6.H D = some (.lst vs):=by rw [(t6.hk D hid2).2];exact hD2
                refine ⟨vs,hD6,by rw [← racc.1];exact hz,S6.hput D (vs ++ [v6]),σ4,acc ++ [t],vs ++ [v6],rfl,?_,hid6,qf,?_,(s2.trans t6).hput hid6 hD m0,by show FinL XE X.K S0 (ql bd cond f (items.drop (i + 1)) σ4 S6.M (acc ++ [t])) Q;rw [e6];exact fin2⟩
                · have ev6:EvR X.K S6 σ4 σ4v:=Mo.mo s4.mok (s5.trans s6) ev4
                  exact ⟨ev6.1,fun i t e=>let ⟨v,e',q⟩:=ev6.2 i t e;⟨v,e',q.hput s6.mok hid6⟩⟩
                · exact ((racc.grow m2 t6.toGrow).app (.cons r6 .nil)).hput s6.mok hid6
    · rw [List.drop_eq_nil_of_le (by omega)] at fin2
      refine .inl ⟨its i (by omega),?_⟩
      exact fin2 S2 D vs rfl s2 hD hid2 hD2 racc
theorem zkT {tg elt iter:Expr} {ifs:List Expr} {scope:Scope} {cl:List (Str × Addr)} {pos:Pos} {tgs:List Str} {caps:List (Str × Nat)} {ga:Ev->Mem->Out (List T)} {bd:T->Ev->Mem->Out Ev} {cond:Ev->Mem->Out Bool} {f:Ev->Mem->Out T}
    (hi:GI X XE tg iter ga) (cb:CB X scope cl caps)
    (hg:∀ ex s0 H0,GG (X.block scope cl (tgs ++ caps.map (·.1)) ex s0 H0) XE tg bd) (hif:∀ ex s0 H0,PTs (X.block scope cl (tgs ++ caps.map (·.1)) ex s0 H0) ifs (lT XE X.K cond)) (hel:∀ ex s0 H0,GE (X.block scope cl (tgs ++ caps.map (·.1)) ex s0 H0) XE elt f)
    (hs:∀ x,foldedSetIterable iter X.env x = pure x:=by intro _;rfl) :
    GL X XE (.ListComp elt [⟨tg,iter,ifs,0⟩] scope pos) (zaQ ga bd cond f tgs caps):=PE.imp (zkl (tgs:=tgs) (g:=lG XE X.K bd) (tc:=lT XE X.K cond) (te:=lE XE X.K f) cb.hc hi cb.hclos cb.hcell cb.hkind cb.hnames cb.hcl cb.hhas cb.hcap hg hif hel hs) fun σ H Q hh=>zjF hh
theorem zkK:PTs X [] (lT XE X.K qO):=fun pins s σ H Q I h=>zka pins s σ H Q I (zhp h)
end
end FT
namespace FT
open PySem PySem.Spec PyProof.Rows L2
noncomputable def LNL {A AV:Type} (XE:XK) (K:PySem.W.Frag) (RA:Sit->A->AV->Prop) (k:A->Ev->Mem->Out (List T)) (av:AV) (σ:L2.St) (H:Hp) (Q:VK):Prop:=
  ∃ (S:Sit) (στ:Ev) (a:A),S.H = H/\MemOk K S/\EvR K S στ σ/\RA S a av/\FinL XE K S (k a στ S.M) Q
theorem LNL.bind {K:PySem.W.Frag} {XE:XK} {A AV B BV:Type} {RA:Sit->A->AV->Prop} {RB:Sit->B->BV->Prop} [Mo K RA] {f:A->Ev->Mem->Out B} {k:A->B->Ev->Mem->Out (List T)} {av:AV} {σ:L2.St} {H:Hp} {Q:VK}
    (h:LNL XE K RA (fun a σ M=>(f a σ M).bind fun b M1=>k a b σ M1) av σ H Q):LN XE RB K RA f av σ H (fun bv H1=>LNL XE K (PrR RA RB) (fun ab=>k ab.1 ab.2) (av,bv) σ H1 Q):=by
  obtain ⟨S,στ,a,e,m,ev,ra,fin⟩:=h
  refine ⟨S,στ,a,e,m,ev,ra,?_⟩
  replace fin:FinL XE K S ((f a στ S.M).bind fun b M1=>k a b στ M1) Q:=fin
  cases q:f a στ S.M with
  | bad=>rw [q] at fin;exact fin
  | exn C fs M'=>rw [q] at fin;exact fin
  | ok b M1=>
    rw [q] at fin
    intro S1 c e1 s1 r1
    refine ⟨S1,στ,(a,b),rfl,s1.mok,Mo.mo m s1 ev,⟨Mo.mo m s1 ra,r1⟩,?_⟩
    rw [e1]
    exact fin.later s1
noncomputable def L0L {A AV:Type} (XE:XK) (K:PySem.W.Frag) (RA:Sit->A->AV->Prop) (k:A->Mem->Out (List T)) (av:AV) (H:Hp) (Q:VK):Prop:=∃ (S:Sit) (a:A),S.H = H/\MemOk K S/\RA S a av/\FinL XE K S (k a S.M) Q
noncomputable def zjl (XE:XK) (K:PySem.W.Frag) (o:List T->Mem->Out (List T)):List V->Hp->VK->Prop:=fun xs H Q=>L0L XE K (Reps K) o xs H Q
noncomputable def lOp (o:T->T->Mem->Out (List T)) (f g:Ev->Mem->Out T):Ev->Mem->Out (List T):=fun σ M=>(f σ M).bind fun x M1=>(g σ M1).bind fun y M2=>o x y M2
noncomputable def zeP (F:List T->Mem->Out (List T)) (g:Ev->Mem->Out (List T)):Ev->Mem->Out (List T):=fun σ M=>(g σ M).bind fun ts M1=>F ts M1
theorem zfn {XE:XK} {K:PySem.W.Frag} {S:Sit} {xs:List T} {vs:List V} {Q:VK} (m:MemOk K S) (fin:FinL XE K S (.ok xs S.M) Q) (r:Reps K S xs vs):∀ p,S.H p = none->Q (.ref p) (upd S.H p (.lst vs)):=fun p hp=>
  fin (S.hide p vs) p vs rfl (Stp.hide m hp vs) hp (.head _) qf (r.grow m (Stp.hide m hp vs).toGrow)
section
variable {X:Cx} {XE:XK} {a b e:Expr} {es:List Expr} {f g:Ev->Mem->Out T} {pos p:Pos} {ga:Ev->Mem->Out (List T)} {x:Str}
theorem zin {id:String} {F:List T->Mem->Out (List T)} (hc:CallR X (.type id) (zjl XE X.K F)) (hg:Gl X x) (hm:X.mg x = none) (hv:bootBuiltins x = some (.type id)) (ha:GA X XE (e :: es) ga) (hn:x ≠ "__name__":=by decide) (hdb:(x == ("__debug__":Str)) = false:=by decide)
    (he:noStar e = true:=by rfl) (hpl:es.all noStar = true:=by rfl) :
    GL X XE (.Call (.Name x p) (e :: es) [] pos) (zeP F ga):=PE.imp (zaP hc hg hm hv ha hn hdb (yn he) (zao hpl)) fun σ H Q ⟨S,στ,e,m,ev,fin⟩=>
  LN.mono (LNL.bind (f:=fun (_:Unit) σ M=>ga σ M) (k:=fun _ ts σ M1=>F ts M1) (RA:=UnR) (RB:=Reps X.K) ⟨S,στ,(),e,m,ev,trivial,fin⟩) fun vs H1 ⟨S,στ,a,e,m,ev,ra,fin⟩=>⟨S,a.2,e,m,ra.2,fin⟩
end
noncomputable def yI (k:Int->Int->Mem->Out T) (x y:T) (M:Mem):Out T:=match x,y with
  | .int i,.int j=>k i j M
  | _,_=>.bad
noncomputable def Mo64 (i j:Int):Prop:=(i.natAbs < 10 ^ 3000/\j.natAbs < 10 ^ 3000)\/(-(2 ^ 64) < i/\i < 2 ^ 64)\/(-(2 ^ 64) < j/\j < 2 ^ 64)
instance (i j:Int):Decidable (Mo64 i j):=inferInstanceAs (Decidable (_\/_))
theorem Mo64.ok {i j:Int} (h:Mo64 i j):CMulB i j:=by
  rcases h with h | h
  · exact .inl ⟨3000,3000,h.1,h.2,Nat.le_refl _,Nat.le_refl _⟩
  · exact .inr h
noncomputable def zc2:T->T->Mem->Out T:=yI fun i j M=>.ok (.int (i + j)) M
noncomputable def qV:T->T->Mem->Out T:=yI fun i j M=>.ok (.int (i - j)) M
noncomputable def zdZ:T->T->Mem->Out T:=yI fun i j M=>if j ≠ 0/\j.natAbs < 10 ^ 2000 then .ok (.int (i.fdiv j)) M else .bad
noncomputable def zbm:T->T->Mem->Out T:=yI fun i j M=>if j ≠ 0 then .ok (.int (i.fmod j)) M else .bad
noncomputable def zbP:T->T->Mem->Out T:=yI fun i j M=>if 0<=j/\j<=1000000/\i.natAbs < 2 ^ 64 then .ok (.int (i ^ j.toNat)) M else .bad
noncomputable def ltI:T->T->Mem->Out T:=yI fun i j M=>.ok (.bl (decide (i < j))) M
noncomputable def leI:T->T->Mem->Out T:=yI fun i j M=>.ok (.bl (decide (i<=j))) M
noncomputable def gtI:T->T->Mem->Out T:=yI fun i j M=>.ok (.bl (decide (j < i))) M
noncomputable def geI:T->T->Mem->Out T:=yI fun i j M=>.ok (.bl (decide (j<=i))) M
noncomputable def znV:T->Mem->Out T:=fun x M=>match x with
  | .int i=>.ok (.int (-i)) M
  | _=>.bad
section
variable {X:Cx} {XE:XK}
theorem zgs {K:PySem.W.Frag} {S:Sit} {i:Int} {v:V} (r:Rep K S (.int i) v):v = .int i:=by cases r;rfl
theorem zaj {fn:Value->Value->Sem Value} {r:R2} {k:Int->Int->Mem->Out T} (ho:OpR X fn r)
    (h:∀ i j S Q,MemOk X.K S->Fin XE (Rep X.K) X.K S (k i j S.M) Q->r (.int i) (.int j) S.H Q):OpR X fn (lR2 XE X.K (yI k)):=by
  intro pins s σ H x y v u Q I rx ry ⟨S,⟨tx,ty⟩,e,m,⟨r1,r2⟩,fin⟩
  replace fin:Fin XE (Rep X.K) X.K S (yI k tx ty S.M) Q:=fin
  unfold yI at fin
  split at fin
  · have e1:=zgs r1
    have e2:=zgs r2
    dsimp only at e1 e2
    subst e1;subst e2;subst e
    exact ho pins s σ S.H _ _ v u Q I rx ry (h _ _ S Q m fin)
  · exact fin.elim
theorem zag:OpR X (binaryOp .Sub) (lR2 XE X.K qV):=zaj zlN fun i j S Q m fin=>⟨i,j,rfl,rfl,fin S _ rfl (.refl m) (.int _)⟩
theorem zgy:OpR X (binaryOp .FloorDiv) (lR2 XE X.K zdZ):=zaj zjc fun i j S Q m fin=>by
  by_cases h:j ≠ 0/\j.natAbs < 10 ^ 2000
  · rw [if_pos h] at fin
    exact ⟨i,j,rfl,rfl,⟨h.1,2000,h.2,Nat.le_refl _⟩,fin S _ rfl (.refl m) (.int _)⟩
  · rw [if_neg h] at fin;exact fin.elim
theorem zai:OpR X (binaryOp .Mod) (lR2 XE X.K zbm):=zaj zks fun i j S Q m fin=>by
  by_cases h:j ≠ 0
  · rw [if_pos h] at fin
    exact ⟨i,j,rfl,rfl,h,fin S _ rfl (.refl m) (.int _)⟩
  · rw [if_neg h] at fin;exact fin.elim
theorem zah:OpR X (binaryOp .Pow) (lR2 XE X.K zbP):=zaj zlP fun i j S Q m fin=>by
  by_cases h:0<=j/\j<=1000000/\i.natAbs < 2 ^ 64
  · rw [if_pos h] at fin
    exact ⟨i,j,rfl,rfl,h,fin S _ rfl (.refl m) (.int _)⟩
  · rw [if_neg h] at fin;exact fin.elim
theorem zdc:OpR X (compareOp .Lt) (lR2 XE X.K ltI):=zaj zne fun i j S Q m fin=>⟨i,j,rfl,rfl,fin S _ rfl (.refl m) (.bl _)⟩
theorem zfj:OpR X (compareOp .Gt) (lR2 XE X.K gtI):=zaj znf fun i j S Q m fin=>⟨i,j,rfl,rfl,fin S _ rfl (.refl m) (.bl _)⟩
noncomputable def isB:T->T->Mem->Out T:=fun x y M=>match x,y with
  | .bl a,.bl b=>.ok (.bl (a == b)) M
  | _,_=>.bad
noncomputable def znk:T->T->Mem->Out T:=fun x y M=>match x,y with
  | .bl a,.bl b=>.ok (.bl (a != b)) M
  | _,_=>.bad
noncomputable def zjf:T->Bool
  | .non=>true
  | _=>false
noncomputable def isN:T->T->Mem->Out T:=fun x y M=>match y with
  | .non=>.ok (.bl (zjf x)) M
  | _=>.bad
noncomputable def zck:T->T->Mem->Out T:=fun x y M=>match y with
  | .non=>.ok (.bl (!zjf x)) M
  | _=>.bad
theorem zfm {K:PySem.W.Frag} {S:Sit} {t:T} {v:V} (r:Rep K S t v):decide (v = .non) = zjf t:=by
  cases r <;> first | rfl | exact decide_eq_false (by intro z;cases z)
theorem zgx:OpR X (compareOp .Is) (lR2 XE X.K isN):=by
  intro pins s σ H x y v u Q I rx ry ⟨S,⟨tx,ty⟩,e,m,⟨r1,r2⟩,fin⟩
  replace fin:Fin XE (Rep X.K) X.K S (isN tx ty S.M) Q:=fin
  unfold isN at fin
  split at fin
  · cases r2;subst e
    exact zlR pins s σ S.H _ _ v u Q I rx ry ⟨rfl,by rw [zfm r1];exact fin S _ rfl (.refl m) (.bl _)⟩
  · exact fin.elim
theorem zia:OpR X (compareOp .IsNot) (lR2 XE X.K zck):=by
  intro pins s σ H x y v u Q I rx ry ⟨S,⟨tx,ty⟩,e,m,⟨r1,r2⟩,fin⟩
  replace fin:Fin XE (Rep X.K) X.K S (zck tx ty S.M) Q:=fin
  unfold zck at fin
  split at fin
  · cases r2;subst e
    exact zkq pins s σ S.H _ _ v u Q I rx ry ⟨rfl,by rw [zfm r1];exact fin S _ rfl (.refl m) (.bl _)⟩
  · exact fin.elim
noncomputable def zhv (M:Mem):T->T->Option T
  | .tup xs,.int i=>atI xs i
  | .lst xs,.int i=>atI xs i
  | .ref a,.int i=>match M[a]? with
    | some (.lst xs)=>atI xs i
    | _=>none
  | _,_=>none
noncomputable def zcN (o:Option T) (M:Mem):Out T:=match o with
  | some t=>.ok t M
  | none=>.bad
noncomputable def ixT:T->T->Mem->Out T:=fun x y M=>zcN (zhv M x y) M
theorem Reps.atI {K:PySem.W.Frag} {S:Sit} {ts:List T} {vs:List V} (r:Reps K S ts vs) {i:Int} {t:T} (e:L2.atI ts i = some t):∃ v,L2.atI vs i = some v/\Rep K S t v:=by
  unfold L2.atI at e ⊢
  rw [← r.1]
  cases q:ixN ts.length i with
  | none=>rw [q] at e;cases e
  | some j=>
    rw [q] at e
    obtain ⟨v,e2,r2⟩:=r.get (show ts[j]? = some t from e)
    exact ⟨v,e2,r2⟩
theorem zkW {K:PySem.W.Frag} {S:Sit} {tx ty t:T} {x y:V} (m:MemOk K S) (r1:Rep K S tx x) (r2:Rep K S ty y) (e:zhv S.M tx ty = some t) :
    ∃ p vs i v,x = .ref p/\y = .int i/\(SqL K S.H p vs\/SqT K S.H p vs)/\L2.atI vs i = some v/\Rep K S t v:=by
  unfold zhv at e
  split at e
  · cases r2
    cases r1 with
    | @tup _ p vs h l r=>
      obtain ⟨v,e2,r3⟩:=Reps.atI ⟨l,r⟩ e
      exact ⟨p,vs,_,v,rfl,rfl,.inr h,e2,r3⟩
  · cases r2
    cases r1 with
    | @lst _ p vs h l r=>
      obtain ⟨v,e2,r3⟩:=Reps.atI ⟨l,r⟩ e
      exact ⟨p,vs,_,v,rfl,rfl,.inl (za8 h),e2,r3⟩
  · split at e
    · rename_i q
      cases r2
      cases r1 with
      | ref h=>
        obtain ⟨vs,q2,r⟩:=m.cell _ _ q
        obtain ⟨v,e2,r3⟩:=Reps.atI r e
        exact ⟨_,vs,_,v,rfl,rfl,.inl (.inl (.inl q2)),e2,r3⟩
    · cases e
  · cases e
theorem zdN {K:PySem.W.Frag} {S:Sit} {o:Option T} {Q:VK} (fin:Fin XE (Rep K) K S (zcN o S.M) Q):∃ t,o = some t/\Fin XE (Rep K) K S (.ok t S.M) Q:=by
  unfold zcN at fin
  split at fin
  · exact ⟨_,rfl,fin⟩
  · exact fin.elim
theorem zj:IxR X (lR2 XE X.K ixT):=by
  intro va sl pins s σ H x y v u Q I rx ry ⟨S,⟨tx,ty⟩,e,m,⟨r1,r2⟩,fin⟩ hs
  obtain ⟨t,et,fin⟩:=zdN (show Fin XE (Rep X.K) X.K S (zcN (zhv S.M tx ty) S.M) Q from fin)
  obtain ⟨p,vs,i,w,e1,e2,hq,ea,r3⟩:=zkW m r1 r2 et
  dsimp only at e1 e2
  subst e1;subst e2;subst e
  refine zme va sl pins s σ S.H _ _ v u Q I rx ry ?_ hs
  rcases hq with hq | hq
  · exact .inl ⟨p,vs,i,w,rfl,rfl,hq,ea,fin S w rfl (.refl m) r3⟩
  · exact .inr (.inl ⟨p,vs,i,w,rfl,rfl,hq,ea,fin S w rfl (.refl m) r3⟩)
noncomputable def zq (k:T->Mem->Out T) (ts:List T) (M:Mem):Out T:=match ts with
  | [t]=>k t M
  | _=>.bad
noncomputable def call2 (k:T->T->Mem->Out T) (ts:List T) (M:Mem):Out T:=match ts with
  | [t,u]=>k t u M
  | _=>.bad
theorem zaF {F:Value} {k:T->Mem->Out T} (h:∀ (pins:List (Addr × Obj)) (s:Shared) (σ:L2.St) (S:Sit) (t:T) (x:V) (v:Value) (Q:VK),Inv X pins σ S.H s->RelV x v->MemOk X.K S->Rep X.K S t x->Fin XE (Rep X.K) X.K S (k t S.M) Q->wpAny (model X.prog X.w) X.A (call F [v]) (EP X pins σ Q) X.xe s):CallR X F (lRN XE X.K (zq k)):=by
  intro pins s σ H xs us Q I r ⟨S,ts,e,m,rs,fin⟩
  subst e
  replace fin:Fin XE (Rep X.K) X.K S (zq k ts S.M) Q:=fin
  unfold zq at fin
  split at fin
  · obtain ⟨v,vs,rfl,r1,r2⟩:=rs.consT
    rw [r2.nilT] at r
    obtain ⟨u,rfl,rx⟩:=vals1 r
    exact h pins s σ S _ v u Q I rx m r1 fin
  · exact fin.elim
theorem zcY {F:Value} {k:T->T->Mem->Out T} (h:∀ (pins:List (Addr × Obj)) (s:Shared) (σ:L2.St) (S:Sit) (t1 t2:T) (x1 x2:V) (v1 v2:Value) (Q:VK),Inv X pins σ S.H s->RelV x1 v1->RelV x2 v2->MemOk X.K S->Rep X.K S t1 x1->Rep X.K S t2 x2->Fin XE (Rep X.K) X.K S (k t1 t2 S.M) Q->wpAny (model X.prog X.w) X.A (call F [v1,v2]) (EP X pins σ Q) X.xe s):CallR X F (lRN XE X.K (call2 k)):=by
  intro pins s σ H xs us Q I r ⟨S,ts,e,m,rs,fin⟩
  subst e
  replace fin:Fin XE (Rep X.K) X.K S (call2 k ts S.M) Q:=fin
  unfold call2 at fin
  split at fin
  · obtain ⟨v,vs,rfl,r1,r2⟩:=rs.consT
    obtain ⟨v2,vs2,rfl,r3,r4⟩:=r2.consT
    rw [r4.nilT] at r
    obtain ⟨u,w,rfl,rx,ry⟩:=vals2 r
    exact h pins s σ S _ _ v v2 u w Q I rx ry m r1 r3 fin
  · exact fin.elim
noncomputable def zcR:T->Mem->Out T:=fun t M=>match t with
  | .str z=>if z.length<=sizeLine then .ok (.int z.length) M else .bad
  | t=>match zbi t M with
    | some xs=>.ok (.int xs.length) M
    | none=>.bad
theorem zb5:CallR X (.builtin "len") (lRN XE X.K (zq zcR)):=zaF fun pins s σ S t x v Q I rx m r fin=>by
  unfold zcR at fin
  split at fin
  · cases r
    split at fin
    · rename_i hz
      exact zfW pins s σ S.H _ _ Q I (.cons rx .nil) ⟨_,rfl,hz,fin S _ rfl (.refl m) (.int _)⟩
    · exact fin.elim
  · split at fin
    · rename_i xs q
      obtain ⟨p,vs,rfl,hq,rs⟩:=zaK m r q
      exact zfX pins s σ S.H _ _ Q I (.cons rx .nil) ⟨p,vs,rfl,hq,by rw [← rs.1];exact fin S _ rfl (.refl m) (.int _)⟩
    · exact fin.elim
noncomputable def zfs:T->T->Mem->Out T:=yI fun i j M=>.ok (.int (if j > i then j else i)) M
noncomputable def zfq:T->T->Mem->Out T:=yI fun i j M=>.ok (.int (if j < i then j else i)) M
theorem zeu (hc:X.calm = true):CallR X (.builtin "max") (lRN XE X.K (call2 zfs)):=zcY fun pins s σ S t1 t2 x1 x2 v1 v2 Q I rx ry m r1 r2 fin=>by
  unfold zfs yI at fin
  split at fin
  · cases r1;cases r2
    exact ziI hc pins s σ S.H _ _ Q I (.cons rx (.cons ry .nil)) ⟨_,_,rfl,fin S _ rfl (.refl m) (.int _)⟩
  · exact fin.elim
theorem ziG (hc:X.calm = true):CallR X (.builtin "min") (lRN XE X.K (call2 zfq)):=zcY fun pins s σ S t1 t2 x1 x2 v1 v2 Q I rx ry m r1 r2 fin=>by
  unfold zfq yI at fin
  split at fin
  · cases r1;cases r2
    exact ziH hc pins s σ S.H _ _ Q I (.cons rx (.cons ry .nil)) ⟨_,_,rfl,fin S _ rfl (.refl m) (.int _)⟩
  · exact fin.elim
noncomputable def zb7:List T->Option (List Bool)
  | []=>some []
  | .bl b :: r=>(zb7 r).map (b :: ·)
  | _=>none
theorem zf1 {K:PySem.W.Frag} {S:Sit}:∀ {ts:List T} {vs:List V} {bs:List Bool},zb7 ts = some bs->Reps K S ts vs->vs = bs.map V.bl
  | [],vs,bs,e,r=>by cases e;exact r.nilT
  | .bl b :: ts,vs,bs,e,r=>by
    unfold zb7 at e
    obtain ⟨v,vs',rfl,r1,r2⟩:=r.consT
    cases q:zb7 ts with
    | none=>rw [q] at e;cases e
    | some bs'=>
      rw [q] at e
      cases e
      cases r1
      rw [zf1 q r2];rfl
  | .non :: _,_,_,e,_=>by cases e
  | .int _ :: _,_,_,e,_=>by cases e
  | .str _ :: _,_,_,e,_=>by cases e
  | .ty _ :: _,_,_,e,_=>by cases e
  | .tup _ :: _,_,_,e,_=>by cases e
  | .lst _ :: _,_,_,e,_=>by cases e
  | .ref _ :: _,_,_,e,_=>by cases e
noncomputable def zoW:T->Mem->Out T:=fun t M=>match yu t M with
  | some xs=>match zb7 xs with
    | some bs=>.ok (.bl (bs.all id)) M
    | none=>.bad
  | none=>.bad
noncomputable def zd7:T->Mem->Out T:=fun t M=>match yu t M with
  | some xs=>match zb7 xs with
    | some bs=>.ok (.bl (bs.any id)) M
    | none=>.bad
  | none=>.bad
theorem zev (hc:X.calm = true):CallR X (.builtin "any") (lRN XE X.K (zq zd7)):=zaF fun pins s σ S t x v Q I rx m r fin=>by
  unfold zd7 at fin
  split at fin
  · rename_i xs q
    split at fin
    · rename_i bs q2
      obtain ⟨p,vs,rfl,hq,rs⟩:=zo m r q
      rw [zf1 q2 rs] at hq
      exact ziJ hc pins s σ S.H _ _ Q I (.cons rx .nil) ⟨p,bs,rfl,hq,fin S _ rfl (.refl m) (.bl _)⟩
    · exact fin.elim
  · exact fin.elim
noncomputable def zE:T->Mem->Out T:=fun t M=>match zbi t M with
  | some xs=>.ok (.tup xs) M
  | none=>.bad
theorem yz:CallR X (.type "tuple") (lRN XE X.K (zq zE)):=zaF fun pins s σ S t x v Q I rx m r fin=>by
  unfold zE at fin
  split at fin
  · rename_i xs q
    obtain ⟨p,vs,rfl,hq,rs⟩:=zaK m r q
    refine zeK pins s σ S.H _ _ Q I (.cons rx .nil) ⟨p,vs,rfl,?_⟩
    rcases hq with hq | hq
    · refine .inl ⟨hq,fun l hl=>?_⟩
      have s2:=Stp.new m hl (.tup vs)
      exact fin ⟨S.α,S.M,upd S.H l (.tup vs),S.hid⟩ (.ref l) rfl s2 (.tup (.inl (.inl qf)) rs.1 (rs.grow m s2.toGrow).2)
    · exact .inr ⟨hq,fin S _ rfl (.refl m) (.tup hq rs.1 rs.2)⟩
  · exact fin.elim
noncomputable def zbn:List T->Mem->Out (List T):=fun ts M=>match ts with
  | [t]=>match zbi t M with
    | some xs=>.ok xs M
    | none=>.bad
  | _=>.bad
theorem zdr:CallR X (.type "list") (zjl XE X.K zbn):=by
  intro pins s σ H xs us Q I r ⟨S,ts,e,m,rs,fin⟩
  subst e
  replace fin:FinL XE X.K S (zbn ts S.M) Q:=fin
  unfold zbn at fin
  split at fin
  · split at fin
    · rename_i t ys q
      obtain ⟨v,vs,rfl,r1,r2⟩:=rs.consT
      rw [r2.nilT] at r
      obtain ⟨p,ws,rfl,hq,rs2⟩:=zaK m r1 q
      exact zfV pins s σ S.H _ us Q I r ⟨p,ws,rfl,hq,zfn m fin rs2⟩
    · exact fin.elim
  · exact fin.elim
noncomputable def z0 (x:T) (ts:List T) (M:Mem):Out T:=match x,ts with
  | .ref a,[t]=>match M[a]? with
    | some (.lst xs)=>if xs.length < sizeLine then .ok .non (M.set a (.lst (xs ++ [t]))) else .bad
    | _=>.bad
  | _,_=>.bad
noncomputable def zaX (o i t:T) (M:Mem):Out Unit:=match o,i with
  | .ref a,.int k=>match M[a]? with
    | some (.lst xs)=>match ixN xs.length k with
      | some j=>.ok () (M.set a (.lst (xs.set j t)))
      | none=>.bad
    | _=>.bad
  | _,_=>.bad
theorem zgu {K:PySem.W.Frag} {S:Sit} (m:MemOk K S) {a:Nat} {c:Cell} (e:S.M[a]? = some c) {ts:List T} {vs:List V} (r:Reps K S ts vs):Stp K S (S.put a (.lst vs) (.lst ts)):=by
  have ha:a < S.M.length:=(List.getElem?_eq_some_iff.mp e).1
  exact Stp.put m ha _ _ ⟨vs,qf,r.grow m (Grow.put m ha _ _)⟩
theorem zbh:zb9 X (zfu XE X.K zaX):=by
  intro pins s σ H o i v ov iv u Q I ro ri rv ⟨S,⟨⟨to,ti⟩,tv⟩,e,m,⟨⟨r1,r2⟩,r3⟩,fin⟩
  subst e
  replace fin:Fin XE UnR X.K S (zaX to ti tv S.M) (fun _ H'=>Q H'):=fin
  unfold zaX at fin
  split at fin
  · split at fin
    · rename_i a k _ xs q
      split at fin
      · rename_i j qj
        cases r1
        cases r2
        obtain ⟨vs,q2,rs⟩:=m.cell _ _ q
        refine set_list pins s σ S.H _ _ v ov iv u Q I ro ri rv ⟨S.α a,vs,k,j,rfl,rfl,q2,by rw [← rs.1];exact qj,?_⟩
        exact fin (S.put a (.lst (vs.set j v)) (.lst (xs.set j tv))) () rfl (zgu m q (rs.set r3 j)) trivial
      · exact fin.elim
    · exact fin.elim
  · exact fin.elim
theorem zmz {o i:Expr} {f g:Ev->Mem->Out T} {pos:Pos} {st:T->T->T->Mem->Out Unit} (ho:GE X XE o f) (hi:GE X XE i g) (hs:zb9 X (zfu XE X.K st))
    (ha:∀ v,assign (.Subscript o i pos) X.env v = (do
      let ov ← holding [v] (eval o X.env)
      let iv ← holding [v,ov] (eval i X.env)
      standAt pos
      holding [v,ov,iv] (setItem ov iv v)
      release [v,ov,iv] []):=by intro _;rfl):GG X XE (.Subscript o i pos) (zd5 st f g):=PG.imp (zlE ho hi hs ha) fun v σ H Q hh=>by
  have h1:LN XE (EvR X.K) X.K (Rep X.K) (fun t σ M=>(f σ M).bind fun o M1=>(g σ M1).bind fun i M2=>(st o i t M2).bind fun _ M3=>.ok σ M3) v σ H Q:=hh
  refine LN.mono (LN.env (f:=f) (LN.bind (f:=fun _ σ M=>f σ M) (k:=fun t o σ M1=>(g σ M1).bind fun i M2=>(st o i t M2).bind fun _ M3=>.ok σ M3) (RB:=Rep X.K) h1)) fun ov H1 h2=>?_
  refine LN.mono (LN.env (f:=g) (LN.bind (f:=fun _ σ M=>g σ M) (k:=fun (to:T × T) i σ M2=>(st to.2 i to.1 M2).bind fun _ M3=>.ok σ M3) (RB:=Rep X.K) h2)) fun iv H2 h3=>?_
  obtain ⟨S,στ,a,e,m,ev,ra,fin⟩:=h3
  refine ⟨S,((a.1.2,a.2),a.1.1),e,m,⟨⟨ra.1.2,ra.2⟩,ra.1.1⟩,?_⟩
  show Fin XE UnR X.K S (st a.1.2 a.2 a.1.1 S.M) _
  replace fin:Fin XE (EvR X.K) X.K S ((st a.1.2 a.2 a.1.1 S.M).bind fun _ M3=>.ok στ M3) Q:=fin
  cases o:st a.1.2 a.2 a.1.1 S.M with
  | bad=>rw [o] at fin;exact fin
  | exn C fs M'=>rw [o] at fin;exact fin
  | ok b M1=>
    rw [o] at fin
    intro S1 c e1 s1 _
    exact fin S1 σ e1 s1 (Mo.mo m s1 ev)
noncomputable def yJ (x:T) (M:Mem):Out T:=match yu x M with
  | some _=>.ok x M
  | none=>.bad
noncomputable def zcn (F:T->List T->Mem->Out T) (f:Ev->Mem->Out T) (g:Ev->Mem->Out (List T)):Ev->Mem->Out T:=fun σ M=>(f σ M).bind fun x M1=>(g σ M1).bind fun ts M2=>F x ts M2
theorem ge_app {o e:Expr} {f:Ev->Mem->Out T} {ga:Ev->Mem->Out (List T)} {apos cpos:Pos} (h:PE X (.Call (.Attribute o "append" apos) [e] [] cpos) (tBM X.K "list" zdL (lE XE X.K f) (lA XE X.K ga))):GE X XE (.Call (.Attribute o "append" apos) [e] [] cpos) (zcn z0 (eUn yJ f) ga):=PE.imp h fun σ H Q hh=>by
  obtain ⟨S,στ,_,e0,m,ev,_,fin⟩:=hh
  replace fin:Fin XE (Rep X.K) X.K S (((f στ S.M).bind fun x M1=>yJ x M1).bind fun x M1=>(ga στ M1).bind fun ts M2=>z0 x ts M2) Q:=fin
  refine ⟨S,στ,(),e0,m,ev,trivial,?_⟩
  show Fin XE (Rep X.K) X.K S (f στ S.M) _
  cases o1:f στ S.M with
  | bad=>rw [o1] at fin;exact fin
  | exn C fs M'=>rw [o1] at fin;exact fin
  | ok x M1=>
    rw [o1] at fin
    intro S1 v e1 s1 r1
    replace fin:Fin XE (Rep X.K) X.K S ((yJ x M1).bind fun x M1=>(ga στ M1).bind fun ts M2=>z0 x ts M2) Q:=fin
    unfold yJ at fin
    cases q:yu x M1 with
    | none=>rw [q] at fin;exact fin.elim
    | some xs=>
      rw [q] at fin
      replace fin:Fin XE (Rep X.K) X.K S ((ga στ M1).bind fun ts M2=>z0 x ts M2) Q:=fin
      obtain ⟨p,vs,rfl,hq,_⟩:=zo s1.mok r1 (by rw [e1];exact q)
      refine ⟨.inl ⟨rfl,vs,hq⟩,S1,στ,(),rfl,s1.mok,Mo.mo m s1 ev,trivial,?_⟩
      show Fin XE (Reps X.K) X.K S1 (ga στ S1.M) _
      rw [e1]
      cases o2:ga στ M1 with
      | bad=>rw [o2] at fin;exact fin
      | exn C fs M'=>rw [o2] at fin;exact Fin.later s1 fin
      | ok ts M2=>
        rw [o2] at fin
        intro S2 ws e2 s2 r2
        replace fin:Fin XE (Rep X.K) X.K S (z0 x ts M2) Q:=fin
        have fin2:=Fin.later (s1.trans s2) fin
        unfold z0 at fin2
        split at fin2
        · split at fin2
          · rename_i a t _ ys qy
            split at fin2
            · rename_i hz
              obtain ⟨w,ws',rfl,r3,r4⟩:=r2.consT
              rw [r4.nilT]
              have r1':=r1.grow s1.mok s2.toGrow
              cases r1' with
              | ref ha2=>
              obtain ⟨us,q3,rs⟩:=s2.mok.cell a _ (by rw [e2];exact qy)
              refine ⟨S2.α a,us,w,rfl,rfl,q3,by rw [← rs.1];exact hz,?_⟩
              exact fin2 (S2.put a (.lst (us ++ [w])) (.lst (ys ++ [t]))) .non (by show S2.M.set a _ = _;rw [e2]) (zgu s2.mok (by rw [e2];exact qy) (rs.app (.cons r3 .nil))) .non
            · exact fin2.elim
          · exact fin2.elim
        · exact fin2.elim
end
end FT
namespace FT
open PySem PySem.Spec PyProof.Rows L2
noncomputable def z9 (xs:List T) (lo hi:Option Int):List T:=(xs.drop (HT.sIx xs.length 0 lo)).take (HT.sIx xs.length xs.length hi - HT.sIx xs.length 0 lo)
theorem Reps.cutV {K:PySem.W.Frag} {S:Sit} {ts:List T} {vs:List V} (r:Reps K S ts vs) (lo hi:Option Int):Reps K S (z9 ts lo hi) (L2.cutV vs lo hi):=by
  unfold z9 L2.cutV
  rw [← r.1]
  exact r.sub _ _
theorem zhA {xs:List T} {lo hi:Option Int} (h:HT.sIx xs.length 0 lo = 0/\HT.sIx xs.length xs.length hi = xs.length):z9 xs lo hi = xs:=by
  unfold z9
  rw [h.1,h.2]
  simp
theorem zdP {XE:XK} {K:PySem.W.Frag} {S:Sit} {xs:List T} {vs:List V} {Q:VK} (m:MemOk K S) (fin:Fin XE (Rep K) K S (.ok (.tup xs) S.M) Q) (r:Reps K S xs vs):∀ p,S.H p = none->Q (.ref p) (upd S.H p (.tup vs)):=fun p hp=>by
  have s2:=Stp.new m hp (.tup vs)
  exact fin ⟨S.α,S.M,upd S.H p (.tup vs),S.hid⟩ (.ref p) rfl s2 (.tup (.inl (.inl qf)) r.1 (r.grow m s2.toGrow).2)
theorem zgz {XE:XK} {K:PySem.W.Frag} {S:Sit} {xs:List T} {vs:List V} {Q:VK} (m:MemOk K S) (fin:Fin XE (Rep K) K S (.ok (.lst xs) S.M) Q) (r:Reps K S xs vs):∀ p,S.H p = none->Q (.ref p) (upd S.H p (.lst vs)):=fun p hp=>by
  have s2:=Stp.new m hp (.lst vs)
  exact fin ⟨S.α,S.M,upd S.H p (.lst vs),S.hid⟩ (.ref p) rfl s2 (.lst (.inl ⟨.inl qf,m.off_none hp⟩) r.1 (r.grow m s2.toGrow).2)
noncomputable def qC:T->T->Mem->Out T:=fun x y M=>match x,y with
  | .int i,.int j=>.ok (.int (i + j)) M
  | .str a,.str b=>if a.length + b.length<=sizeLine then .ok (.str (a ++ b)) M else .bad
  | .tup xs,.tup ys=>if xs.length + ys.length<=sizeLine then .ok (.tup (xs ++ ys)) M else .bad
  | x,y=>match yu x M,yu y M with
    | some xs,some ys=>if xs.length + ys.length<=sizeLine then .ok (.lst (xs ++ ys)) M else .bad
    | _,_=>.bad
noncomputable def zC:T->T->Mem->Out T:=fun x y M=>match x,y with
  | .int i,.int j=>if Mo64 i j then .ok (.int (i * j)) M else .bad
  | .tup xs,.int k=>if xs ≠ []/\2<=k/\k < 2 ^ 63/\xs.length * k.toNat<=sizeLine then .ok (.tup (List.replicate k.toNat xs).flatten) M else .bad
  | _,_=>.bad
section
variable {X:Cx} {XE:XK}
theorem zB:OpR X (binaryOp .Add) (lR2 XE X.K qC):=by
  intro pins s σ H x y v u Q I rx ry ⟨S,⟨tx,ty⟩,e,m,⟨r1,r2⟩,fin⟩
  subst e
  replace fin:Fin XE (Rep X.K) X.K S (qC tx ty S.M) Q:=fin
  unfold qC at fin
  split at fin
  · cases r1;cases r2
    exact zlT pins s σ S.H _ _ v u Q I rx ry ⟨_,_,rfl,rfl,fin S _ rfl (.refl m) (.int _)⟩
  · cases r1;cases r2
    split at fin
    · rename_i hz
      exact zhk pins s σ S.H _ _ v u Q I rx ry ⟨_,_,rfl,rfl,hz,fin S _ rfl (.refl m) (.str _)⟩
    · exact fin.elim
  · split at fin
    · rename_i hz
      cases r1 with
      | @tup _ p vs h l r=>
      cases r2 with
      | @tup _ p2 vs2 h2 l2 rr2=>
      have r1:Reps X.K S _ vs:=⟨l,r⟩
      have r2:Reps X.K S _ vs2:=⟨l2,rr2⟩
      refine zkv pins s σ S.H _ _ v u Q I rx ry ⟨p,p2,vs,vs2,rfl,rfl,h,h2,by rw [← l,← l2];exact hz,fun e=>?_,fun e1 e2=>?_,fun e1 e2=>zdP m fin (r1.app r2)⟩
      · subst e
        rw [r1.nil_inv,List.nil_append] at fin
        exact fin S _ rfl (.refl m) (.tup h2 l2 rr2)
      · subst e2
        rw [r2.nil_inv,List.append_nil] at fin
        exact fin S _ rfl (.refl m) (.tup h l r)
    · exact fin.elim
  · split at fin
    · rename_i xs ys q1 q2
      split at fin
      · rename_i hz
        obtain ⟨p,vs,e1,h1,s1⟩:=zo m r1 q1
        obtain ⟨p2,vs2,e2,h2,s2⟩:=zo m r2 q2
        dsimp only at e1 e2
        subst e1;subst e2
        exact zku pins s σ S.H _ _ v u Q I rx ry ⟨p,p2,vs,vs2,rfl,rfl,h1,h2,by rw [← s1.1,← s2.1];exact hz,zgz m fin (s1.app s2)⟩
      · exact fin.elim
    · exact fin.elim
theorem Reps.rep {K:PySem.W.Frag} {S:Sit} {ts:List T} {vs:List V} (r:Reps K S ts vs) (n:Nat):Reps K S (List.replicate n ts).flatten (List.replicate n vs).flatten:=by
  induction n with
  | zero=>exact .nil
  | succ n ih=>rw [List.replicate_succ,List.replicate_succ,List.flatten_cons,List.flatten_cons];exact r.app ih
theorem qX:OpR X (binaryOp .Mult) (lR2 XE X.K zC):=by
  intro pins s σ H x y v u Q I rx ry ⟨S,⟨tx,ty⟩,e,m,⟨r1,r2⟩,fin⟩
  subst e
  replace fin:Fin XE (Rep X.K) X.K S (zC tx ty S.M) Q:=fin
  unfold zC at fin
  split at fin
  · cases r1;cases r2
    split at fin
    · rename_i h
      exact zkr pins s σ S.H _ _ v u Q I rx ry ⟨_,_,rfl,rfl,h.ok,fin S _ rfl (.refl m) (.int _)⟩
    · exact fin.elim
  · split at fin
    · rename_i h
      cases r2
      cases r1 with
      | @tup _ p vs hq l r=>
      have r1:Reps X.K S _ vs:=⟨l,r⟩
      exact zkp pins s σ S.H _ _ v u Q I rx ry ⟨p,_,vs,rfl,rfl,hq,fun z=>h.1 (by subst z;exact r1.nil_inv),h.2.1,h.2.2.1,by rw [← l];exact h.2.2.2,zdP m fin (r1.rep _)⟩
    · exact fin.elim
  · exact fin.elim
noncomputable def lO (XE:XK) (K:PySem.W.Frag) (f:Ev->Mem->Out (Option Int)):TO:=fun σ H Q=>LN XE EqR K UnR (fun _ σ M=>f σ M) () σ H Q
noncomputable def GO (X:Cx) (XE:XK) (e:Option Expr) (f:Ev->Mem->Out (Option Int)):Prop:=PO X e (lO XE X.K f)
noncomputable def zeO:Ev->Mem->Out (Option Int):=fun _ M=>.ok none M
noncomputable def zjo (x:T) (M:Mem):Out (Option Int):=match x with
  | .int i=>.ok (some i) M
  | _=>.bad
noncomputable def zeN (f:Ev->Mem->Out T):Ev->Mem->Out (Option Int):=fun σ M=>(f σ M).bind zjo
theorem PO.imp {e:Option Expr} {t t':TO} (h:PO X e t) (i:∀ σ H Q,t' σ H Q->t σ H Q):PO X e t':=fun pins s σ H Q I q=>h pins s σ H Q I (i σ H Q q)
theorem zkR:GO X XE none zeO:=PO.imp zki fun σ H Q h9=>by
  obtain ⟨S,στ,_,e,m,ev,_,fin⟩:=h9
  show Q none H
  rw [← e];exact fin S none rfl (.refl m) rfl
theorem zkQ {e:Expr} {f:Ev->Mem->Out T} (h:GE X XE e f):GO X XE (some e) (zeN f):=PO.imp (zkh h) fun σ H Q hh=>
  LN.mono (LN.bind (f:=fun _ σ M=>f σ M) (k:=fun _ x σ M1=>zjo x M1) (RB:=Rep X.K) hh) fun v H1 h9=>by
    obtain ⟨S,στ,a,e,m,ev,ra,fin⟩:=h9
    obtain ⟨u,t⟩:=a
    have r:Rep X.K S t v:=ra.2
    replace fin:Fin XE EqR X.K S (zjo t S.M) Q:=fin
    cases r with
    | int i=>exact ⟨i,rfl,by rw [← e];exact fin S (some i) rfl (.refl m) rfl⟩
    | _=>exact fin.elim
noncomputable def zd0 (x:T) (lo hi:Option Int) (M:Mem):Out T:=match x with
  | .tup xs=>.ok (.tup (z9 xs lo hi)) M
  | x=>match yu x M with
    | some xs=>.ok (.lst (z9 xs lo hi)) M
    | none=>.bad
noncomputable def eSl (f:Ev->Mem->Out T) (p q:Ev->Mem->Out (Option Int)):Ev->Mem->Out T:=fun σ M=>(f σ M).bind fun x M1=>(p σ M1).bind fun lo M2=>(q σ M2).bind fun hi M3=>zd0 x lo hi M3
noncomputable def zn2 (XE:XK) (K:PySem.W.Frag):V->Option Int->Option Int->Hp->VK->Prop:=fun x lo hi H Q=>∃ S t,S.H = H/\MemOk K S/\Rep K S t x/\Fin XE (Rep K) K S (zd0 t lo hi S.M) Q
theorem znM:SlR X (zn2 XE X.K):=by
  intro pins s σ H x v vl vu lo hi sl Q I rx hs pl pu ⟨S,t,e,m,r,fin⟩
  subst e
  unfold zd0 at fin
  split at fin
  · cases r with
    | @tup _ p vs h l r=>
    have r1:Reps X.K S _ vs:=⟨l,r⟩
    refine zj7 pins s σ S.H _ v vl vu lo hi sl Q I rx hs pl pu ⟨p,vs,rfl,h,fun w=>?_,fun w=>zdP m fin (r1.cutV lo hi)⟩
    rw [zhA (by rw [l];exact w)] at fin
    exact fin S _ rfl (.refl m) (.tup h l r)
  · split at fin
    · rename_i xs q
      obtain ⟨p,vs,e1,h1,s1⟩:=zo m r q
      subst e1
      exact zj8 pins s σ S.H _ v vl vu lo hi sl Q I rx hs pl pu ⟨p,vs,rfl,h1,zgz m fin (s1.cutV lo hi)⟩
    · exact fin.elim
theorem znq {e:Expr} {lo hi:Option Expr} {f:Ev->Mem->Out T} {p q:Ev->Mem->Out (Option Int)} {p2 pos:Pos} (he:GE X XE e f) (hl:GO X XE lo p) (hu:GO X XE hi q):GE X XE (.Subscript e (.Slice lo hi none p2) pos) (eSl f p q):=PE.imp (zjb znM he hl hu) fun σ H Q hh=>
  LN.mono (LN.bind (f:=fun _ σ M=>f σ M) (k:=fun _ x σ M1=>(p σ M1).bind fun lo M2=>(q σ M2).bind fun hi M3=>zd0 x lo hi M3) (RB:=Rep X.K) hh) fun v H1 h1=>
    LN.mono (LN.env (f:=p) (LN.bind (f:=fun _ σ M=>p σ M) (k:=fun (ax:Unit × T) lo σ M2=>(q σ M2).bind fun hi M3=>zd0 ax.2 lo hi M3) (RB:=EqR) h1)) fun l H2 h2=>
      LN.mono (LN.env (f:=q) (LN.bind (f:=fun _ σ M=>q σ M) (k:=fun (ax:(Unit × T) × Option Int) hi σ M3=>zd0 ax.1.2 ax.2 hi M3) (RB:=EqR) h2)) fun w H3 h9=>by
        obtain ⟨S,στ,a,e,m,ev,ra,fin⟩:=h9
        have e1:a.1.2 = l:=ra.1.2
        have e2:a.2 = w:=ra.2
        exact ⟨S,a.1.1.2,e,m,ra.1.1.2,by rw [← e1,← e2];exact fin⟩
noncomputable def zl6 (T U:String):Option Bool:=if (Value.type T == Value.type U) = true then some true else if PySem.W.kitMeta U = true then (PySem.fastBuiltinMro T).map (·.contains (.type U)) else none
noncomputable def tyN (t:T) (M:Mem):Option String:=match t with
  | .non=>some "NoneType" | .bl _=>some "bool" | .int _=>some "int" | .str _=>some "str" | .tup _=>some "tuple" | .lst _=>some "list"
  | .ref a=>match M[a]? with
    | some (.lst _)=>some "list"
    | some (.dic _)=>some "dict"
    | _=>none
  | _=>none
noncomputable def zjM (n U:String):Bool:=n == U || (n == "bool" && U == "int")
noncomputable def zeL:List String:=["NoneType","bool","int","str","tuple","list","dict"]
theorem zkE:∀ n ∈ zeL,∀ U ∈ zeL,U ≠ "NoneType"->zl6 n U = some (zjM n U):=by decide +kernel
noncomputable def zcl:T->T->Mem->Out T:=fun t u M=>match u with
  | .ty U=>match tyN t M with
    | some n=>if U ∈ zeL/\U ≠ "NoneType" then .ok (.bl (zjM n U)) M else .bad
    | none=>.bad
  | _=>.bad
theorem zj3 {t:T} {M:Mem} {n:String} (h:tyN t M = some n):n ∈ zeL:=by
  unfold tyN at h
  split at h <;> first | (cases h;decide) | (split at h <;> first | (cases h;decide) | (cases h)) | cases h
theorem zjn {pins:List (Addr × Obj)} {s:Shared} {σ:L2.St} {S:Sit} {t:T} {x:V} {u:Value} {U n:String} {b:Bool} {Q:Value->Shared->Prop} {E:Value->Shared->Prop} (I:L2.Inv X pins σ S.H s) (m:MemOk X.K S) (rx:RelV x u) (r:Rep X.K S t x) (hn:tyN t S.M = some n) (e:zl6 n U = some b) (h:∀ tk,Q (.bool b) { s with toks:=tk }) :
    wpAny (model X.prog X.w) X.A (call (.builtin "isinstance") [u,.type U]) Q E s:=by
  have e':PySem.W.kitOne X.K (.type n) (.type U) = some b:=e
  cases r with
  | non=>cases hn;cases (show u = Value.none from rx);exact PySem.W.kia_one PySem.W.kitx_none I.kIn True.intro e' (fun z=>nomatch z) h
  | bl y=>cases hn;cases (show u = Value.bool y from rx);exact PySem.W.kia_one PySem.W.kitx_bool I.kIn True.intro e' (fun z=>nomatch z) h
  | int i=>cases hn;obtain ⟨t,q⟩:=(show ∃ t,u = Value.int i t from rx);cases q;exact PySem.W.kia_one PySem.W.kitx_int I.kIn True.intro e' (fun z=>nomatch z) h
  | str y=>cases hn;obtain ⟨t,q⟩:=(show ∃ t,u = Value.str y t from rx);cases q;exact PySem.W.kia_one PySem.W.kitx_str I.kIn True.intro e' (fun z=>nomatch z) h
  | ty y=>cases hn
  | @tup ts p vs hq l r=>
    cases hn
    cases (show u = Value.ref p from rx)
    obtain ⟨its,_,pl,_⟩:=I.tuple hq
    obtain ⟨o,h1,h2,_⟩:=pl
    exact PySem.W.kia_one PySem.W.kitx_tuple I.kIn ⟨o,h1,h2⟩ e' (fun z=>nomatch z) h
  | @lst ts p vs hq l r=>
    cases hn
    cases (show u = Value.ref p from rx)
    obtain ⟨its,_,pl,_⟩:=I.list (za8 hq)
    obtain ⟨o,h1,h2⟩:=pl.isList
    exact PySem.W.kia_one PySem.W.kitx_list I.kIn ⟨o,h1,h2.1⟩ e' (fun z=>nomatch z) h
  | @ref a ha=>
    cases (show u = Value.ref _ from rx)
    unfold tyN at hn
    dsimp only at hn
    split at hn
    · rename_i ts q
      cases hn
      obtain ⟨vs,q2,_⟩:=m.cell a _ q
      obtain ⟨_,_,n,_,h1⟩:=(show ObjOk X.prog X.w S.H s.heap (S.α a) (.lst vs) from I.hok _ _ q2)
      exact PySem.W.kia_one PySem.W.kitx_list I.kIn ⟨_,h1,rfl⟩ e' (fun z=>nomatch z) h
    · rename_i ts q
      cases hn
      obtain ⟨vs,q2,_⟩:=m.cell a _ q
      obtain ⟨_,_,vs2,_,p⟩:=(show ObjOk X.prog X.w S.H s.heap (S.α a) (.dK vs) from I.hok _ _ q2)
      obtain ⟨o,es,ep,h1,h2,_⟩:=p
      exact PySem.W.kia_one PySem.W.kitx_dict I.kIn ⟨o,h1,h2.1⟩ e' (fun z=>nomatch z) h
    · cases hn
  | dct h l r=>cases hn
  | exc h hd l r=>cases hn
theorem zfY:CallR X (.builtin "isinstance") (lRN XE X.K (call2 zcl)):=zcY fun pins s σ S t1 t2 x1 x2 v1 v2 Q I rx ry m r1 r2 fin=>by
  unfold zcl at fin
  split at fin
  · rename_i U
    split at fin
    · rename_i n hn
      split at fin
      · rename_i hU
        cases r2
        cases ry
        exact zjn I m rx r1 hn (zkE n (zj3 hn) U hU.1 hU.2) fun tk=>⟨.bl _,S.H,I.tok tk,rfl,fin S _ rfl (.refl m) (.bl _)⟩
      · exact fin.elim
    · exact fin.elim
  · exact fin.elim
end
end FT
namespace FT
open PySem PySem.Spec PyProof.Rows L2
noncomputable def zaq:T->Bool
  | .non=>true
  | .bl _=>true
  | .int _=>true
  | .str _=>true
  | _=>false
noncomputable def eqS:T->T->Bool
  | .non,.non=>true
  | .bl a,.bl b=>a == b
  | .bl a,.int b=>(if a then 1 else 0) == b
  | .int a,.bl b=>a == (if b then 1 else 0)
  | .int a,.int b=>a == b
  | .str a,.str b=>a == b
  | _,_=>false
noncomputable def eqL (f:T->T->Option Bool):List T->List T->Option Bool
  | [],[]=>some true
  | [],_ :: _=>some false
  | _ :: _,[]=>some false
  | x :: xs,y :: ys=>match f x y,eqL f xs ys with
    | some a,some b=>some (a && b)
    | _,_=>none
noncomputable def eqD (M:Mem):Nat->T->T->Option Bool
  | d,.tup xs,.tup ys=>match d with
    | 0=>none
    | d + 1=>eqL (eqD M d) xs ys
  | d,x,y=>if (zaq x && zaq y) = true then some (eqS x y) else match d,yu x M,yu y M with
    | d + 1,some xs,some ys=>if xs.length = ys.length then eqL (eqD M d) xs ys else some false
    | _,_,_=>none
noncomputable def eqA:T->T->Mem->Out T:=fun x y M=>match eqD M 20 x y with
  | some b=>.ok (.bl b) M
  | none=>.bad
noncomputable def neA:T->T->Mem->Out T:=fun x y M=>match eqD M 20 x y with
  | some b=>.ok (.bl (!b)) M
  | none=>.bad
theorem zbw {f:T->T->Option Bool}:∀ {xs ys:List T} {b:Bool},eqL f xs ys = some b->
    ∃ e:Nat->Bool,(∀ j x y,xs[j]? = some x->ys[j]? = some y->f x y = some (e j))/\b = ((List.range (min xs.length ys.length)).all e && xs.length == ys.length)
  | [],[],b,h=>by cases h;exact ⟨fun _=>true,fun j x y e1=>by simp at e1,by simp⟩
  | [],_ :: _,b,h=>by cases h;exact ⟨fun _=>true,fun j x y e1=>by simp at e1,by simp⟩
  | _ :: _,[],b,h=>by cases h;exact ⟨fun _=>true,fun j x y _ e1=>by simp at e1,by simp⟩
  | x :: xs,y :: ys,b,h=>by
    unfold eqL at h
    cases q1:f x y with
    | none=>rw [q1] at h;cases h
    | some a=>
      cases q2:eqL f xs ys with
      | none=>rw [q1,q2] at h;cases h
      | some c=>
        rw [q1,q2] at h
        cases h
        obtain ⟨e,h1,h2⟩:=zbw q2
        refine ⟨fun j=>match j with | 0=>a | j + 1=>e j,fun j u v e1 e2=>?_,?_⟩
        · cases j with
          | zero=>simp at e1 e2;subst e1;subst e2;exact q1
          | succ j=>exact h1 j u v (by simpa using e1) (by simpa using e2)
        · rw [h2]
          have:min (x :: xs).length (y :: ys).length = min xs.length ys.length + 1:=by simp only [List.length_cons];omega
          rw [this,List.range_succ_eq_map,List.all_cons,List.all_map]
          simp [Bool.and_assoc,Function.comp_def]
section
variable {X:Cx} {XE:XK} {pins:List (Addr × Obj)} {s:Shared} {σ:L2.St} {S:Sit}
theorem qz {K:PySem.W.Frag} {t:T} {v:V} (r:Rep K S t v) (h:zaq t = true):yF v = true:=by
  cases r <;> first | rfl | (exact absurd (show false = true from h) Bool.false_ne_true)
theorem zdm {K:PySem.W.Frag} {t u:T} {v w:V} (r:Rep K S t v) (q:Rep K S u w) (h:zaq t = true) (h2:zaq u = true):eqS t u = eqV v w:=by
  cases r <;> first | (exact absurd (show false = true from h) Bool.false_ne_true) | (cases q <;> first | rfl | (exact absurd (show false = true from h2) Bool.false_ne_true))
theorem zgq {K:PySem.W.Frag} {t u:T} {v:V} (r:Rep K S t v) (q:Rep K S u v) (h:zaq t = true) (h2:zaq u = true):eqS t u = true:=by
  rw [zdm r q h h2]
  exact zjC v (qz r h)
theorem zjD (I:L2.Inv X pins σ S.H s) (m:MemOk X.K S):∀ (d:Nat) {t u:T} {v:V} {b:Bool},Rep X.K S t v->Rep X.K S u v->eqD S.M d t u = some b->b = true:=by
  intro d
  induction d with
  | zero=>
    intro t u v b r q h
    unfold eqD at h
    split at h
    · cases h
    · split at h
      · rename_i hs
        rw [Bool.and_eq_true] at hs
        cases h
        exact zgq r q hs.1 hs.2
      · cases h
  | succ d ih=>
    have key:∀ {xs ys:List T} {vs:List V} {b:Bool},Reps X.K S xs vs->Reps X.K S ys vs->eqL (eqD S.M d) xs ys = some b->b = true:=by
      intro xs ys vs b r q h
      obtain ⟨e,h1,h2⟩:=zbw h
      rw [h2,r.1,q.1]
      simp only [Nat.min_self,beq_self_eq_true,Bool.and_true,List.all_eq_true,List.mem_range]
      intro j hj
      have hx:j < xs.length:=by rw [r.1];exact hj
      have hy:j < ys.length:=by rw [q.1];exact hj
      have ex:xs[j]? = some xs[j]:=by simp [hx]
      have ey:ys[j]? = some ys[j]:=by simp [hy]
      have ev:vs[j]? = some vs[j]:=by simp [hj]
      exact ih (r.2 j _ _ ex ev) (q.2 j _ _ ey ev) (h1 j _ _ ex ey)
    intro t u v b r q h
    unfold eqD at h
    split at h
    · cases r with
      | @tup _ p vs h1 l1 r1=>
      cases q with
      | @tup _ _ vs2 h2 l2 r2=>
      have:=I.tuple_inj h1 h2
      subst this
      exact key ⟨l1,r1⟩ ⟨l2,r2⟩ h
    · split at h
      · rename_i hs
        rw [Bool.and_eq_true] at hs
        cases h
        exact zgq r q hs.1 hs.2
      · split at h
        · rename_i d' xs ys hd q1 q2
          cases hd
          obtain ⟨p,vs,e1,hq1,s1⟩:=zo m r q1
          obtain ⟨p2,vs2,e2,hq2,s2⟩:=zo m q q2
          rw [e1] at e2
          cases e2
          have:=I.list_inj hq1 hq2
          subst this
          rw [if_pos (by rw [s1.1,s2.1])] at h
          exact key s1 s2 h
        · cases h
theorem zmM (I:L2.Inv X pins σ S.H s) (m:MemOk X.K S):∀ (d:Nat) {A:Around} {t u:T} {v w:V} {x y:Value} {b:Bool},A.units + d < cLine->RelV v x->RelV w y->Rep X.K S t v->Rep X.K S u w->eqD S.M d t u = some b->SeqAt.EqAt A s x y b:=by
  intro d
  induction d with
  | zero=>
    intro A t u v w x y b hu rx ry r q h
    unfold eqD at h
    split at h
    · cases h
    · split at h
      · rename_i hs
        rw [Bool.and_eq_true] at hs
        cases h
        rw [zdm r q hs.1 hs.2]
        exact zfK rx ry (qz r hs.1) (qz q hs.2)
      · cases h
  | succ d ih=>
    have key:∀ {A:Around} {xs ys:List T} {vs ws:List V} {us zs:List Value} {b:Bool},A.units + d < cLine->Reps X.K S xs vs->Reps X.K S ys ws->Vals vs us->Vals ws zs->eqL (eqD S.M d) xs ys = some b->
        ∃ e:Nat->Bool,(∀ j (h1:j < us.toArray.size) (h2:j < zs.toArray.size),SeqAt.EqAt A s us.toArray[j] zs.toArray[j] (e j))/\b = ((List.range (min us.toArray.size zs.toArray.size)).all e && us.toArray.size == zs.toArray.size):=by
      intro A xs ys vs ws us zs b hu r q hv hw h
      obtain ⟨e,h1,h2⟩:=zbw h
      have l1:us.length = xs.length:=by rw [← hv.length,r.1]
      have l2:zs.length = ys.length:=by rw [← hw.length,q.1]
      refine ⟨e,fun j g1 g2=>?_,by rw [h2,List.size_toArray,List.size_toArray,l1,l2]⟩
      have g1':j < us.length:=by simpa using g1
      have g2':j < zs.length:=by simpa using g2
      have ex:xs[j]? = some (xs[j]'(by omega)):=List.getElem?_eq_getElem (by omega)
      have ey:ys[j]? = some (ys[j]'(by omega)):=List.getElem?_eq_getElem (by omega)
      obtain ⟨v,ev,rv⟩:=r.get ex
      obtain ⟨w,ew,rw'⟩:=q.get ey
      obtain ⟨a,ea,ra⟩:=Vals.get hv ev
      obtain ⟨c,ec,rc⟩:=Vals.get hw ew
      have:us.toArray[j] = a:=by
        rw [List.getElem_toArray];rw [List.getElem?_eq_getElem g1'] at ea;exact Option.some.inj ea
      rw [this]
      have:zs.toArray[j] = c:=by
        rw [List.getElem_toArray];rw [List.getElem?_eq_getElem g2'] at ec;exact Option.some.inj ec
      rw [this]
      exact ih hu ra rc rv rw' (h1 j _ _ ex ey)
    intro A t u v w x y b hu rx ry r q h
    have hsame:v = w->b = true:=fun z=>by subst z;exact zjD I m (d + 1) r q h
    unfold eqD at h
    split at h
    · cases r with
      | @tup _ p vs h1 l1 r1=>
      cases q with
      | @tup _ p2 vs2 h2 l2 r2=>
      cases rx
      cases ry
      by_cases hp:p = p2
      · subst hp
        rw [hsame rfl]
        exact SeqAt.EqAt.same _
      · obtain ⟨its,ri,pl,_⟩:=I.tuple h1
        obtain ⟨its2,ri2,pl2,_⟩:=I.tuple h2
        obtain ⟨e,he,eb⟩:=key (A:=A.in1) (by show A.units + 1 + d < cLine;omega) ⟨l1,r1⟩ ⟨l2,r2⟩ ri ri2 h
        rw [eb]
        exact SeqAt.EqAt.of_refs hp (SeqAt.RcAt.tuples pl pl2 (by omega) he)
    · split at h
      · rename_i hs
        rw [Bool.and_eq_true] at hs
        cases h
        rw [zdm r q hs.1 hs.2]
        exact zfK rx ry (qz r hs.1) (qz q hs.2)
      · split at h
        · rename_i d' xs ys hd q1 q2
          cases hd
          obtain ⟨p,vs,e1,hq1,s1⟩:=zo m r q1
          obtain ⟨p2,vs2,e2,hq2,s2⟩:=zo m q q2
          subst e1
          subst e2
          cases rx
          cases ry
          by_cases hp:p = p2
          · subst hp
            rw [hsame rfl]
            exact SeqAt.EqAt.same _
          · obtain ⟨its,ri,pl,_⟩:=I.list hq1
            obtain ⟨its2,ri2,pl2,_⟩:=I.list hq2
            have lz:its.length = xs.length:=by rw [← ri.length,s1.1]
            have lz2:its2.length = ys.length:=by rw [← ri2.length,s2.1]
            by_cases hl:xs.length = ys.length
            · rw [if_pos hl] at h
              obtain ⟨e,he,eb⟩:=key (A:=A.in1) (by show A.units + 1 + d < cLine;omega) s1 s2 ri ri2 h
              have hsz:its.toArray.size = its2.toArray.size:=by simp [lz,lz2,hl]
              rw [eb,hsz,Nat.min_self,beq_self_eq_true,Bool.and_true,← hsz]
              exact SeqAt.EqAt.of_refs hp (SeqAt.RcAt.lists pl.isList pl2.isList hsz (by omega) he)
            · rw [if_neg hl] at h
              cases h
              exact SeqAt.EqAt.of_refs hp (SeqAt.RcAt.lists_lengths pl.isList pl2.isList (by simp [lz,lz2,hl]) (by omega))
        · cases h
theorem zlr {A:Around} {y x:V} {u v:Value} (ry:RelV y u) (rx:RelV x v) (fy:yF y = true) (fx:yF x = true):SeqAt.RcAt A s u v (eqV y x):=by
  cases y with
  | non=>
    cases ry
    cases x with
    | non=>cases rx;exact SeqAt.RcAt.none_none
    | bl b=>cases rx;exact SeqAt.RcAt.none_bool b
    | int b=>obtain ⟨t,rfl⟩:=rx;exact SeqAt.RcAt.none_int b t
    | str b=>obtain ⟨t,rfl⟩:=rx;exact SeqAt.RcAt.none_str b t
    | _=>exact absurd (show false = true from fx) Bool.false_ne_true
  | bl a=>
    cases ry
    cases x with
    | non=>cases rx;exact SeqAt.RcAt.bool_none a
    | bl b=>cases rx;exact SeqAt.RcAt.bool_bool a b
    | int b=>obtain ⟨t,rfl⟩:=rx;exact SeqAt.RcAt.bool_int a b t
    | str b=>obtain ⟨t,rfl⟩:=rx;exact SeqAt.RcAt.bool_str a b t
    | _=>exact absurd (show false = true from fx) Bool.false_ne_true
  | int a=>
    obtain ⟨t',rfl⟩:=ry
    cases x with
    | non=>cases rx;exact SeqAt.RcAt.int_none a t'
    | bl b=>cases rx;exact SeqAt.RcAt.int_bool a t' b
    | int b=>obtain ⟨t,rfl⟩:=rx;exact SeqAt.RcAt.int_int a t' b t
    | str b=>obtain ⟨t,rfl⟩:=rx;exact SeqAt.RcAt.int_str a t' b t
    | _=>exact absurd (show false = true from fx) Bool.false_ne_true
  | str a=>
    obtain ⟨t',rfl⟩:=ry
    cases x with
    | non=>cases rx;exact SeqAt.RcAt.str_none a t'
    | bl b=>cases rx;exact SeqAt.RcAt.str_bool a t' b
    | int b=>obtain ⟨t,rfl⟩:=rx;exact SeqAt.RcAt.str_int a t' b t
    | str b=>obtain ⟨t,rfl⟩:=rx;exact SeqAt.RcAt.str_str a t' b t
    | _=>exact absurd (show false = true from fx) Bool.false_ne_true
  | _=>exact absurd (show false = true from fy) Bool.false_ne_true
theorem zi1 {A:Around} {y x:V} {u v:Value} (ry:RelV y u) (rx:RelV x v) (fy:yF y = true) (fx:yF x = true):SeqAt.RcNeAt A s u v (!eqV y x):=by
  cases y with
  | non=>
    cases ry
    cases x with
    | non=>cases rx;exact SeqAt.RcNeAt.none_none
    | bl b=>cases rx;exact SeqAt.RcNeAt.none_bool b
    | int b=>obtain ⟨t,rfl⟩:=rx;exact SeqAt.RcNeAt.none_int b t
    | str b=>obtain ⟨t,rfl⟩:=rx;exact SeqAt.RcNeAt.none_str b t
    | _=>exact absurd (show false = true from fx) Bool.false_ne_true
  | bl a=>
    cases ry
    cases x with
    | non=>cases rx;exact SeqAt.RcNeAt.bool_none a
    | bl b=>cases rx;exact SeqAt.RcNeAt.bool_bool a b
    | int b=>obtain ⟨t,rfl⟩:=rx;exact SeqAt.RcNeAt.bool_int a b t
    | str b=>obtain ⟨t,rfl⟩:=rx;exact SeqAt.RcNeAt.bool_str a b t
    | _=>exact absurd (show false = true from fx) Bool.false_ne_true
  | int a=>
    obtain ⟨t',rfl⟩:=ry
    cases x with
    | non=>cases rx;exact SeqAt.RcNeAt.int_none a t'
    | bl b=>cases rx;exact SeqAt.RcNeAt.int_bool a t' b
    | int b=>obtain ⟨t,rfl⟩:=rx;exact SeqAt.RcNeAt.int_int a t' b t
    | str b=>obtain ⟨t,rfl⟩:=rx;exact SeqAt.RcNeAt.int_str a t' b t
    | _=>exact absurd (show false = true from fx) Bool.false_ne_true
  | str a=>
    obtain ⟨t',rfl⟩:=ry
    cases x with
    | non=>cases rx;exact SeqAt.RcNeAt.str_none a t'
    | bl b=>cases rx;exact SeqAt.RcNeAt.str_bool a t' b
    | int b=>obtain ⟨t,rfl⟩:=rx;exact SeqAt.RcNeAt.str_int a t' b t
    | str b=>obtain ⟨t,rfl⟩:=rx;exact SeqAt.RcNeAt.str_str a t' b t
    | _=>exact absurd (show false = true from fx) Bool.false_ne_true
  | _=>exact absurd (show false = true from fy) Bool.false_ne_true
theorem ziy (I:L2.Inv X pins σ S.H s) (m:MemOk X.K S) (d:Nat) {t u:T} {v w:V} {x y:Value} {b:Bool} {A:Around} (hu:A.units + d < cLine) (rx:RelV v x) (ry:RelV w y) (r:Rep X.K S t v) (q:Rep X.K S u w) (h:eqD S.M d t u = some b):SeqAt.RcAt A s x y b/\SeqAt.RcNeAt A s x y (!b):=by
  have at_:∀ {A:Around} {d:Nat} {xs ys:List T} {vs ws:List V} {us zs:List Value} {b:Bool},A.units + d < cLine->Reps X.K S xs vs->Reps X.K S ys ws->Vals vs us->Vals ws zs->eqL (eqD S.M d) xs ys = some b->
        ∃ e:Nat->Bool,(∀ j (h1:j < us.toArray.size) (h2:j < zs.toArray.size),SeqAt.EqAt A s us.toArray[j] zs.toArray[j] (e j))/\b = ((List.range (min us.toArray.size zs.toArray.size)).all e && us.toArray.size == zs.toArray.size):=by
    intro A d xs ys vs ws us zs b hu r q hv hw h
    obtain ⟨e,h1,h2⟩:=zbw h
    have l1:us.length = xs.length:=by rw [← hv.length,r.1]
    have l2:zs.length = ys.length:=by rw [← hw.length,q.1]
    refine ⟨e,fun j g1 g2=>?_,by rw [h2,List.size_toArray,List.size_toArray,l1,l2]⟩
    have g1':j < us.length:=by simpa using g1
    have g2':j < zs.length:=by simpa using g2
    have ex:xs[j]? = some (xs[j]'(by omega)):=List.getElem?_eq_getElem (by omega)
    have ey:ys[j]? = some (ys[j]'(by omega)):=List.getElem?_eq_getElem (by omega)
    obtain ⟨v,ev,rv⟩:=r.get ex
    obtain ⟨w,ew,rw'⟩:=q.get ey
    obtain ⟨a,ea,ra⟩:=Vals.get hv ev
    obtain ⟨c,ec,rc⟩:=Vals.get hw ew
    have:us.toArray[j] = a:=by
      rw [List.getElem_toArray];rw [List.getElem?_eq_getElem g1'] at ea;exact Option.some.inj ea
    rw [this]
    have:zs.toArray[j] = c:=by
      rw [List.getElem_toArray];rw [List.getElem?_eq_getElem g2'] at ec;exact Option.some.inj ec
    rw [this]
    exact zmM I m d hu ra rc rv rw' (h1 j _ _ ex ey)
  unfold eqD at h
  split at h
  · split at h
    · cases h
    · rename_i d
      cases r with
      | @tup _ p vs h1 l1 r1=>
      cases q with
      | @tup _ p2 vs2 h2 l2 r2=>
      cases rx
      cases ry
      obtain ⟨its,ri,pl,_⟩:=I.tuple h1
      obtain ⟨its2,ri2,pl2,_⟩:=I.tuple h2
      obtain ⟨e,he,eb⟩:=at_ (A:=A.in1) (by show A.units + 1 + d < cLine;omega) ⟨l1,r1⟩ ⟨l2,r2⟩ ri ri2 h
      rw [eb]
      exact ⟨SeqAt.RcAt.tuples pl pl2 (by omega) he,SeqAt.RcNeAt.tuples pl pl2 (by omega) he⟩
  · split at h
    · rename_i hs
      rw [Bool.and_eq_true] at hs
      cases h
      rw [zdm r q hs.1 hs.2]
      exact ⟨zlr rx ry (qz r hs.1) (qz q hs.2),zi1 rx ry (qz r hs.1) (qz q hs.2)⟩
    · split at h
      · rename_i d' xs ys q1 q2
        obtain ⟨p,vs,e1,hq1,s1⟩:=zo m r q1
        obtain ⟨p2,vs2,e2,hq2,s2⟩:=zo m q q2
        subst e1
        subst e2
        cases rx
        cases ry
        obtain ⟨its,ri,pl,_⟩:=I.list hq1
        obtain ⟨its2,ri2,pl2,_⟩:=I.list hq2
        have lz:its.length = xs.length:=by rw [← ri.length,s1.1]
        have lz2:its2.length = ys.length:=by rw [← ri2.length,s2.1]
        by_cases hl:xs.length = ys.length
        · rw [if_pos hl] at h
          obtain ⟨e,he,eb⟩:=at_ (A:=A.in1) (by show A.units + 1 + d' < cLine;omega) s1 s2 ri ri2 h
          have hsz:its.toArray.size = its2.toArray.size:=by simp [lz,lz2,hl]
          rw [eb,hsz,Nat.min_self,beq_self_eq_true,Bool.and_true,← hsz]
          exact ⟨SeqAt.RcAt.lists pl.isList pl2.isList hsz (by omega) he,SeqAt.RcNeAt.lists pl.isList pl2.isList hsz (by omega) he⟩
        · rw [if_neg hl] at h
          cases h
          exact ⟨SeqAt.RcAt.lists_lengths pl.isList pl2.isList (by simp [lz,lz2,hl]) (by omega),SeqAt.RcNeAt.lists_lengths pl.isList pl2.isList (by simp [lz,lz2,hl]) (by omega)⟩
      · cases h
theorem zfk (hu:X.A.units + 64 < cLine):OpR X (compareOp .Eq) (lR2 XE X.K eqA):=by
  intro pins s σ H x y v u Q I rx ry ⟨S,⟨tx,ty⟩,e,m,⟨r1,r2⟩,fin⟩
  subst e
  replace fin:Fin XE (Rep X.K) X.K S (eqA tx ty S.M) Q:=fin
  unfold eqA at fin
  split at fin
  · rename_i b q
    exact (ziy I m 20 (A:=X.A) (by omega) rx ry r1 r2 q).1 _ _ _ _ ⟨.bl b,S.H,I,rfl,fin S _ rfl (.refl m) (.bl _)⟩
  · exact fin.elim
theorem zbR (hu:X.A.units + 64 < cLine):OpR X (compareOp .NotEq) (lR2 XE X.K neA):=by
  intro pins s σ H x y v u Q I rx ry ⟨S,⟨tx,ty⟩,e,m,⟨r1,r2⟩,fin⟩
  subst e
  replace fin:Fin XE (Rep X.K) X.K S (neA tx ty S.M) Q:=fin
  unfold neA at fin
  split at fin
  · rename_i b q
    exact (ziy I m 20 (A:=X.A) (by omega) rx ry r1 r2 q).2 _ _ _ _ ⟨.bl (!b),S.H,I,rfl,fin S _ rfl (.refl m) (.bl _)⟩
  · exact fin.elim
noncomputable def inA:T->T->Mem->Out T:=fun x y M=>match zbi y M with
  | some ys=>if (zaq x && ys.all zaq) = true then .ok (.bl (ys.any fun y=>eqS y x)) M else .bad
  | none=>.bad
theorem zjQ {K:PySem.W.Frag} {x:T} {v:V} (rx:Rep K S x v) (hx:zaq x = true):∀ {ys:List T} {vs:List V},Reps K S ys vs->ys.all zaq = true->vs.all yF = true/\inV v vs = ys.any fun y=>eqS y x
  | [],vs,r,_=>by rw [r.nilT];exact ⟨rfl,rfl⟩
  | y :: ys,vs,r,h=>by
    obtain ⟨w,ws,rfl,r1,r2⟩:=r.consT
    rw [List.all_cons,Bool.and_eq_true] at h
    obtain ⟨h1,h2⟩:=zjQ rx hx r2 h.2
    refine ⟨by rw [List.all_cons,qz r1 h.1,h1];rfl,?_⟩
    unfold inV at h2 ⊢
    rw [List.any_cons,List.any_cons,h2,zdm r1 rx h.1 hx]
theorem zlS:OpR X (compareOp .In) (lR2 XE X.K inA):=by
  intro pins s σ H x y v u Q I rx ry ⟨S,⟨tx,ty⟩,e,m,⟨r1,r2⟩,fin⟩
  subst e
  replace fin:Fin XE (Rep X.K) X.K S (inA tx ty S.M) Q:=fin
  unfold inA at fin
  split at fin
  · rename_i ys q
    split at fin
    · rename_i hs
      rw [Bool.and_eq_true] at hs
      obtain ⟨p,vs,e1,hq,rs⟩:=zaK m r2 q
      dsimp only at e1
      subst e1
      obtain ⟨a1,a2⟩:=zjQ r1 hs.1 rs hs.2
      exact zib pins s σ S.H _ _ v u Q I rx ry ⟨p,vs,rfl,hq,qz r1 hs.1,a1,by rw [a2];exact fin S _ rfl (.refl m) (.bl _)⟩
    · exact fin.elim
  · exact fin.elim
end
section
variable {X:Cx} {XE:XK}
noncomputable def zcT:List T->Option (List Int)
  | []=>some []
  | .int b :: r=>(zcT r).map (b :: ·)
  | _=>none
theorem zfw {K:PySem.W.Frag} {S:Sit}:∀ {ts:List T} {vs:List V} {bs:List Int},zcT ts = some bs->Reps K S ts vs->vs = bs.map V.int
  | [],vs,bs,e,r=>by cases e;exact r.nilT
  | .int b :: ts,vs,bs,e,r=>by
    unfold zcT at e
    obtain ⟨v,vs',rfl,r1,r2⟩:=r.consT
    cases q:zcT ts with
    | none=>rw [q] at e;cases e
    | some bs'=>
      rw [q] at e
      cases e
      cases r1
      rw [zfw q r2];rfl
  | .non :: _,_,_,e,_=>by cases e
  | .bl _ :: _,_,_,e,_=>by cases e
  | .str _ :: _,_,_,e,_=>by cases e
  | .ty _ :: _,_,_,e,_=>by cases e
  | .tup _ :: _,_,_,e,_=>by cases e
  | .lst _ :: _,_,_,e,_=>by cases e
  | .ref _ :: _,_,_,e,_=>by cases e
noncomputable def getL:T->T->Mem->Out T:=fun x y M=>match y,yu x M with
  | .int i,some xs=>zcN (atI xs i) M
  | _,_=>.bad
theorem zhu:zf8 X (lR2 XE X.K getL):=by
  intro pins s σ H x y v u Q I rx ry ⟨S,⟨tx,ty⟩,e,m,⟨r1,r2⟩,fin⟩
  subst e
  replace fin:Fin XE (Rep X.K) X.K S (getL tx ty S.M) Q:=fin
  unfold getL at fin
  split at fin
  · rename_i i xs q
    obtain ⟨t,et,fin⟩:=zdN fin
    obtain ⟨p,vs,e1,hq,rs⟩:=zo m r1 q
    dsimp only at e1
    subst e1
    cases r2
    obtain ⟨w,ew,rw'⟩:=rs.atI et
    exact zjx pins s σ S.H _ _ v u Q I rx ry ⟨p,vs,i,w,rfl,rfl,hq,ew,fin S w rfl (.refl m) rw'⟩
  · exact fin.elim
theorem zgH:PIp X .Add (lR2 XE X.K zc2):=by
  intro pins s σ H x y v u Q I rx ry ⟨S,⟨tx,ty⟩,e,m,⟨r1,r2⟩,fin⟩
  subst e
  replace fin:Fin XE (Rep X.K) X.K S (zc2 tx ty S.M) Q:=fin
  unfold zc2 yI at fin
  split at fin
  · cases r1;cases r2
    exact zmg pins s σ S.H _ _ v u Q I rx ry ⟨_,_,rfl,rfl,fin S _ rfl (.refl m) (.int _)⟩
  · exact fin.elim
theorem zkH:PIp X .Sub (lR2 XE X.K qV):=by
  intro pins s σ H x y v u Q I rx ry ⟨S,⟨tx,ty⟩,e,m,⟨r1,r2⟩,fin⟩
  subst e
  replace fin:Fin XE (Rep X.K) X.K S (qV tx ty S.M) Q:=fin
  unfold qV yI at fin
  split at fin
  · cases r1;cases r2
    exact zmf pins s σ S.H _ _ v u Q I rx ry ⟨_,_,rfl,rfl,fin S _ rfl (.refl m) (.int _)⟩
  · exact fin.elim
theorem zkP {o i e:Expr} {f g h:Ev->Mem->Out T} {get op:T->T->Mem->Out T} {st:T->T->T->Mem->Out Unit} {bop:Operator} {tpos pos:Pos} (ho:GE X XE o f) (hi:GE X XE i g) (hg:zf8 X (lR2 XE X.K get)) (he:GE X XE e h) (hp:PIp X bop (lR2 XE X.K op)) (hs:zb9 X (zfu XE X.K st))
    (ha:∀ ov iv new,augStore i ov iv new = (do holding [new,ov,iv] (setItem ov iv new);release [new,ov,iv] [];pure .next):=by intros;rfl):GS X XE (.AugAssign (.Subscript o i tpos) bop e pos) (zaO get op st f g h):=PS.imp (zkg ho hi hg he hp hs ha) fun D σ H hh=>by
  refine LN.mono (LN.bind (f:=fun _ σ M=>f σ M) (k:=fun _ o σ M1=>(g σ M1).bind fun i M2=>(get o i M2).bind fun x M3=>(h σ M3).bind fun y M4=>(op x y M4).bind fun z M5=>(st o i z M5).bind fun _ M6=>.ok (Fl.nx σ) M6) (RB:=Rep X.K) hh) fun ov H1 h1=>?_
  refine LN.mono (LN.env (f:=g) (LN.bind (f:=fun _ σ M=>g σ M) (k:=fun (a:Unit × T) i σ M2=>(get a.2 i M2).bind fun x M3=>(h σ M3).bind fun y M4=>(op x y M4).bind fun z M5=>(st a.2 i z M5).bind fun _ M6=>.ok (Fl.nx σ) M6) (RB:=Rep X.K) h1)) fun iv H2 h2=>?_
  have h3:=LN.bind (f:=fun (a:(Unit × T) × T) _ M=>get a.1.2 a.2 M) (k:=fun a x σ M3=>(h σ M3).bind fun y M4=>(op x y M4).bind fun z M5=>(st a.1.2 a.2 z M5).bind fun _ M6=>.ok (Fl.nx σ) M6) (RB:=Rep X.K) h2
  obtain ⟨S,a,e,m,ra,fin⟩:=LN.l0 (k:=fun (a:(Unit × T) × T) M=>get a.1.2 a.2 M) h3
  refine ⟨S,(a.1.2,a.2),e,m,⟨ra.1.2,ra.2⟩,fin.mono fun xv H3 h4=>?_⟩
  refine LN.mono (LN.env (f:=h) (LN.bind (f:=fun _ σ M=>h σ M) (k:=fun (a:((Unit × T) × T) × T) y σ M4=>(op a.2 y M4).bind fun z M5=>(st a.1.1.2 a.1.2 z M5).bind fun _ M6=>.ok (Fl.nx σ) M6) (RB:=Rep X.K) h4)) fun yv H4 h5=>?_
  have h6:=LN.bind (f:=fun (a:(((Unit × T) × T) × T) × T) _ M=>op a.1.2 a.2 M) (k:=fun a z σ M5=>(st a.1.1.1.2 a.1.1.2 z M5).bind fun _ M6=>.ok (Fl.nx σ) M6) (RB:=Rep X.K) h5
  obtain ⟨S5,a5,e5,m5,ra5,fin5⟩:=LN.l0 (k:=fun (a:(((Unit × T) × T) × T) × T) M=>op a.1.2 a.2 M) h6
  refine ⟨S5,(a5.1.2,a5.2),e5,m5,⟨ra5.1.2,ra5.2⟩,fin5.mono fun zv H5 h7=>?_⟩
  obtain ⟨S6,στ,a6,e6,m6,ev6,ra6,fin6⟩:=h7
  refine ⟨S6,((a6.1.1.1.1.2,a6.1.1.1.2),a6.2),e6,m6,⟨⟨ra6.1.1.1.1.2,ra6.1.1.1.2⟩,ra6.2⟩,?_⟩
  show Fin XE UnR X.K S6 (st a6.1.1.1.1.2 a6.1.1.1.2 a6.2 S6.M) _
  replace fin6:Fin XE (FlR X.K) X.K S6 ((st a6.1.1.1.1.2 a6.1.1.1.2 a6.2 S6.M).bind fun _ M6=>.ok (Fl.nx στ) M6) (zp D):=fin6
  cases q:st a6.1.1.1.1.2 a6.1.1.1.2 a6.2 S6.M with
  | bad=>rw [q] at fin6;exact fin6
  | exn C fs M'=>rw [q] at fin6;exact fin6
  | ok b M1=>
    rw [q] at fin6
    intro S7 c e7 s7 _
    exact fin6 S7 (.nx σ) e7 s7 (.nx (Mo.mo m6 s7 ev6))
end
end FT
namespace FT
open PySem L2
noncomputable def zi0 (o:Out Fl):Out T:=match o with
  | .ok (.rt t) M'=>.ok t M'
  | .ok (.nx _) M'=>.ok .non M'
  | _=>.bad
theorem zh4 {p n:Nat} {g:Ev->Mem->Out Fl} {ts:List T} {M:Mem} (h:ts.length = p):zl p n g ts M = zi0 (g (startT n ts) M):=by
  unfold zl
  rw [if_pos h]
  rfl
theorem zok {t:T} {M:Mem}:zi0 (.ok (.rt t) M) = .ok t M:=rfl
theorem zol {σ:Ev} {M:Mem}:zi0 (.ok (.nx σ) M) = .ok .non M:=rfl
theorem zoH {β:Type} {b:Bool} {M:Mem} {k:Bool->Mem->Out β}:blT (.bl b) M k = k b M:=rfl
theorem znA {k:Ev->Mem->Out Fl} {σ:Ev} {M:Mem}:zcf k (.nx σ) M = k σ M:=rfl
theorem znz {k:Ev->Mem->Out Fl} {t:T} {M:Mem}:zcf k (.rt t) M = .ok (.rt t) M:=rfl
theorem znC {k:Ev->Mem->Out Fl} {σ:Ev} {M:Mem}:zcf k (.bk σ) M = .ok (.bk σ) M:=rfl
theorem znB {k:Ev->Mem->Out Fl} {σ:Ev} {M:Mem}:zcf k (.ct σ) M = .ok (.ct σ) M:=rfl
theorem znX {k:Ev->Mem->Out Fl} {σ:Ev} {M:Mem}:zy k (.nx σ) M = k σ M:=rfl
theorem znW {k:Ev->Mem->Out Fl} {t:T} {M:Mem}:zy k (.rt t) M = .ok (.rt t) M:=rfl
theorem znZ {k:Ev->Mem->Out Fl} {σ:Ev} {M:Mem}:zy k (.bk σ) M = .ok (.nx σ) M:=rfl
theorem znY {k:Ev->Mem->Out Fl} {σ:Ev} {M:Mem}:zy k (.ct σ) M = k σ M:=rfl
theorem zaR {bd:T->Ev->Mem->Out Ev} {body:Ev->Mem->Out Fl} {x:T} {xs:List T} {σ:Ev} {M:Mem}:forL bd body (x :: xs) σ M = (bd x σ M).bind fun σ1 M1=>(body σ1 M1).bind (zy (forL bd body xs)):=rfl
theorem zoq {k:T->Mem->Out T} {t:T} {M:Mem}:zq k [t] M = k t M:=rfl
theorem zop {k:T->T->Mem->Out T} {t u:T} {M:Mem}:call2 k [t,u] M = k t u M:=rfl
theorem zot {i j:Int} {M:Mem}:qC (.int i) (.int j) M = .ok (.int (i + j)) M:=rfl
theorem zoh {i j:Int} {M:Mem}:qV (.int i) (.int j) M = .ok (.int (i - j)) M:=rfl
theorem zgA {i j:Int} {M:Mem} (h:Mo64 i j):zC (.int i) (.int j) M = .ok (.int (i * j)) M:=if_pos h
theorem zgN {i j:Int} {M:Mem} (h:j ≠ 0/\j.natAbs < 10 ^ 2000):zdZ (.int i) (.int j) M = .ok (.int (i.fdiv j)) M:=if_pos h
theorem zkz {i j:Int} {M:Mem} (h:j ≠ 0):zbm (.int i) (.int j) M = .ok (.int (i.fmod j)) M:=if_pos h
theorem zom {i j:Int} {M:Mem} (h:0<=j/\j<=1000000/\i.natAbs < 2 ^ 64):zbP (.int i) (.int j) M = .ok (.int (i ^ j.toNat)) M:=if_pos h
theorem zoz {i j:Int} {M:Mem}:ltI (.int i) (.int j) M = .ok (.bl (decide (i < j))) M:=rfl
theorem zoA {i j:Int} {M:Mem}:leI (.int i) (.int j) M = .ok (.bl (decide (i<=j))) M:=rfl
theorem zoC {i j:Int} {M:Mem}:gtI (.int i) (.int j) M = .ok (.bl (decide (j < i))) M:=rfl
theorem zoD {i j:Int} {M:Mem}:geI (.int i) (.int j) M = .ok (.bl (decide (j<=i))) M:=rfl
theorem zow {i:Int} {M:Mem}:znV (.int i) M = .ok (.int (-i)) M:=rfl
theorem zon {i j:Int} {M:Mem}:zfs (.int i) (.int j) M = .ok (.int (if j > i then j else i)) M:=rfl
theorem zoE {i j:Int} {M:Mem}:eqA (.int i) (.int j) M = .ok (.bl (i == j)) M:=rfl
theorem zox {i j:Int} {M:Mem}:neA (.int i) (.int j) M = .ok (.bl (!(i == j))) M:=rfl
theorem zoB {a b:Bool} {M:Mem}:isB (.bl a) (.bl b) M = .ok (.bl (a == b)) M:=rfl
theorem zn3 {a b:Bool} {M:Mem}:znk (.bl a) (.bl b) M = .ok (.bl (a != b)) M:=rfl
theorem yM {α:Type} {xs:List α} {n:Nat}:atI xs (n:Int) = xs[n]?:=by
  unfold atI ixN
  by_cases h:n < xs.length
  · simp [h]
  · simp [h]
theorem zoT {α:Type} {x:α} {l:List α}:atI (x :: l) 0 = some x:=by have:=yM (xs:=x :: l) (n:=0);exact this
theorem zoS {α:Type} {x y:α} {l:List α}:atI (x :: y :: l) 1 = some y:=by have:=yM (xs:=x :: y :: l) (n:=1);exact this
theorem zoR {α:Type} {x y z:α} {l:List α}:atI (x :: y :: z :: l) 2 = some z:=by have:=yM (xs:=x :: y :: z :: l) (n:=2);exact this
theorem zoQ {α:Type} {x y z w:α} {l:List α}:atI (x :: y :: z :: w :: l) 3 = some w:=by have:=yM (xs:=x :: y :: z :: w :: l) (n:=3);exact this
theorem zoN {n:Nat}:ixN (n + 1) 0 = some 0:=by unfold ixN;simp
theorem zoM {n:Nat}:ixN (n + 2) 1 = some 1:=by unfold ixN;simp;omega
theorem zoL {n:Nat}:ixN (n + 3) 2 = some 2:=by unfold ixN;simp;omega
theorem zbA {a:Nat} {xs:List T} {t:T} {M:Mem} (e:M[a]? = some (.lst xs)) (h:xs.length < sizeLine):z0 (.ref a) [t] M = .ok .non (M.set a (.lst (xs ++ [t]))):=by
  unfold z0
  simp only [e,if_pos h]
theorem zac {a:Nat} {xs:List T} {M:Mem} (e:M[a]? = some (.lst xs)):yJ (.ref a) M = .ok (.ref a) M:=by
  unfold yJ yu
  simp only [e]
theorem zM {a:Nat} {xs:List T} {M:Mem} (e:M[a]? = some (.lst xs)):zE (.ref a) M = .ok (.tup xs) M:=by
  unfold zE zbi yu
  simp only [e]
theorem zlp {j:Int} {M:Mem} (h:-(2 ^ 62)<=j/\j < 2 ^ 62):zdI [.int j] M = .ok (zbN 0 j.toNat) M:=if_pos h
theorem zoG {i:Int} {M:Mem}:zdZ (.int i) (.int 8) M = .ok (.int (i.fdiv 8)) M:=zgN ⟨by decide,Nat.lt_of_lt_of_le (show (8:Int).natAbs < 10 ^ 1 by decide) (Nat.pow_le_pow_right (by decide) (by decide))⟩
theorem zfp {i j:Int} {M:Mem} (h:-(2 ^ 64) < i/\i < 2 ^ 64):zC (.int i) (.int j) M = .ok (.int (i * j)) M:=zgA (.inr (.inl h))
theorem zfo {i j:Int} {M:Mem} (h:-(2 ^ 64) < j/\j < 2 ^ 64):zC (.int i) (.int j) M = .ok (.int (i * j)) M:=zgA (.inr (.inr h))
theorem znw {j:Int} (n:Nat) (hn:n<=2000) (h0:j ≠ 0) (h:j.natAbs < 10 ^ n):j ≠ 0/\j.natAbs < 10 ^ 2000:=⟨h0,Nat.lt_of_lt_of_le h (Nat.pow_le_pow_right (by decide) hn)⟩
structure Po where
  a:Int
  b:Int
  c:Int
noncomputable def Po.cell (p:Po):Cell:=.lst [.int p.a,.int p.b,.int p.c]
noncomputable def Po.dig (p:Po) (base:Int):Int:=if 0 < p.a then p.a % base else
  let mixed:=(p.b + 7919 * (p.c + 1)) % 1000000007
  let stir:=(mixed + 11) * (mixed + 48271) % 998244353
  (stir * stir % 2147483647 / 8) % base
noncomputable def Po.nxt (p:Po) (base:Int):Po:=if 0 < p.a then ⟨p.a / base,p.b,p.c⟩ else ⟨p.a,p.b,p.c + 1⟩
noncomputable def Po.new (cell:Int):Po:=⟨if cell - 10 ^ 18 > 0 then cell - 10 ^ 18 else 0,cell % 10 ^ 18,0⟩
theorem Po.dig_lo (p:Po) {base:Int} (h:0 < base):0<=p.dig base:=by
  unfold Po.dig
  split
  · exact Int.emod_nonneg _ (by omega)
  · exact Int.emod_nonneg _ (by omega)
theorem Po.dig_hi (p:Po) {base:Int} (h:0 < base):p.dig base < base:=by
  unfold Po.dig
  split
  · exact Int.emod_lt_of_pos _ h
  · exact Int.emod_lt_of_pos _ h
end FT
namespace FT
open PySem L2
theorem zf2 {α:Type} (f:α->Bool):∀ xs:List α,zb7 (xs.map fun x=>T.bl (f x)) = some (xs.map f)
  | []=>rfl
  | x :: xs=>by
    show (zb7 (xs.map fun x=>T.bl (f x))).map (f x :: ·) = _
    rw [zf2 f xs]
    rfl
theorem zf7 {α:Type} (f:α->Bool) (xs:List α) (M:Mem):zd7 (.lst (xs.map fun x=>T.bl (f x))) M = .ok (.bl (xs.any f)) M:=by
  unfold zd7 yu
  simp only [zf2]
  rw [List.any_map]
  rfl
theorem zn0 {xs:List T} {M:Mem}:zcR (.tup xs) M = .ok (.int xs.length) M:=rfl
theorem zn1 {xs:List T} {M:Mem}:zcR (.lst xs) M = .ok (.int xs.length) M:=rfl
theorem zmR {α:Type} {xs:List α} {i:Int} (h0:0<=i) (h1:i < xs.length):∃ x,atI xs i = some x/\x ∈ xs:=by
  obtain ⟨n,rfl⟩:∃ n:Nat,i = n:=⟨i.toNat,by omega⟩
  have hn:n < xs.length:=by omega
  exact ⟨xs[n],by rw [yM];simp [hn],List.getElem_mem hn⟩
theorem zos {xs ys:List T} {M:Mem} (h:xs.length + ys.length<=sizeLine):qC (.tup xs) (.tup ys) M = .ok (.tup (xs ++ ys)) M:=if_pos h
end FT
namespace FT
open PySem PySem.Spec PyProof.Rows L2
noncomputable def zcS:T->Option Key
  | .int i=>some (.inl i)
  | .str x=>some (.inr x)
  | _=>none
noncomputable def qU (t:T) (M:Mem):Option (List (Key × T)):=match t with
  | .ref a=>match M[a]? with
    | some (.dic kvs)=>some kvs
    | _=>none
  | .dct kvs=>some kvs
  | _=>none
noncomputable def yp (kvs:List (Key × T)) (k:Key):Option T:=(kvs.find? fun kv=>decide (kv.1 = k)).map (·.2)
noncomputable def zcW (kvs:List (Key × T)) (k:Key) (t:T):List (Key × T):=
  if (kvs.any fun kv=>decide (kv.1 = k)) = true then kvs.map (fun kv=>if kv.1 = k then (kv.1,t) else kv) else kvs ++ [(k,t)]
section
variable {K:PySem.W.Frag} {S:Sit}
theorem zay {t:T} {v:V} {k:Key} (r:Rep K S t v) (e:zcS t = some k):v = kV k:=by
  cases r with
  | int i=>have e':some (Sum.inl i) = some k:=e;cases e';rfl
  | str i=>have e':some (Sum.inr i) = some k:=e;cases e';rfl
  | non=>cases e
  | bl b=>cases e
  | ty b=>cases e
  | tup _ _ _=>cases e
  | lst _ _ _=>cases e
  | ref _=>cases e
  | dct _ _ _=>cases e
  | exc _ _ _ _=>cases e
theorem RepK.nilT {us:List (Key × V)} (r:RepK K S [] us):us = []:=by
  have:=r.1
  simpa using this.symm
theorem RepK.nil:RepK K S [] []:=⟨rfl,.nil⟩
theorem RepK.consT {p:Key × T} {kvs:List (Key × T)} {us:List (Key × V)} (r:RepK K S (p :: kvs) us):∃ u us',us = (p.1,u) :: us'/\Rep K S p.2 u/\RepK K S kvs us':=by
  cases us with
  | nil=>have:=r.1;simp at this
  | cons q us=>
    obtain ⟨h1,h2⟩:=r
    rw [List.map_cons,List.map_cons] at h1 h2
    injection h1 with e1 e2
    obtain ⟨v,vs,e3,r1,r2⟩:=h2.consT
    injection e3 with e3 e4
    refine ⟨q.2,us,?_,?_,e2,?_⟩
    · rw [e1]
    · rw [e3];exact r1
    · rw [e4];exact r2
theorem RepK.cons {k:Key} {t:T} {u:V} {kvs:List (Key × T)} {us:List (Key × V)} (q:Rep K S t u) (r:RepK K S kvs us):RepK K S ((k,t) :: kvs) ((k,u) :: us):=
  ⟨by rw [List.map_cons,List.map_cons,r.1],by rw [List.map_cons,List.map_cons];exact r.2.cons q⟩
theorem RepK.look (k:Key):∀ {kvs:List (Key × T)} {us:List (Key × V)},RepK K S kvs us->(yp kvs k = none/\zF us k = none)\/∃ t v,yp kvs k = some t/\zF us k = some v/\Rep K S t v
  | [],us,r=>by rw [r.nilT];exact .inl ⟨rfl,rfl⟩
  | p :: kvs,us,r=>by
    obtain ⟨u,us',rfl,r1,r2⟩:=r.consT
    by_cases h:p.1 = k
    · refine .inr ⟨p.2,u,?_,?_,r1⟩
      · simp [yp,List.find?_cons,h]
      · simp [zF,List.find?_cons,h]
    · have e1:yp (p :: kvs) k = yp kvs k:=by simp [yp,List.find?_cons,h]
      have e2:zF ((p.1,u) :: us') k = zF us' k:=by simp [zF,List.find?_cons,h]
      rw [e1,e2]
      exact RepK.look k r2
theorem RepK.any (k:Key):∀ {kvs:List (Key × T)} {us:List (Key × V)},RepK K S kvs us->(kvs.any fun kv=>decide (kv.1 = k)) = us.any fun kv=>decide (kv.1 = k)
  | [],us,r=>by rw [r.nilT];rfl
  | p :: kvs,us,r=>by
    obtain ⟨u,us',rfl,r1,r2⟩:=r.consT
    rw [List.any_cons,List.any_cons,RepK.any k r2]
theorem RepK.repl (k:Key) {t:T} {v:V} (q:Rep K S t v):∀ {kvs:List (Key × T)} {us:List (Key × V)},RepK K S kvs us->RepK K S (kvs.map (fun kv=>if kv.1 = k then (kv.1,t) else kv)) (us.map (fun kv=>if kv.1 = k then (kv.1,v) else kv))
  | [],us,r=>by rw [r.nilT];exact .nil
  | p :: kvs,us,r=>by
    obtain ⟨u,us',rfl,r1,r2⟩:=r.consT
    rw [List.map_cons,List.map_cons]
    by_cases h:p.1 = k
    · rw [if_pos h,if_pos h]
      exact (RepK.repl k q r2).cons q
    · rw [if_neg h,if_neg h]
      exact (RepK.repl k q r2).cons r1
theorem RepK.snoc (k:Key) {t:T} {v:V} (q:Rep K S t v):∀ {kvs:List (Key × T)} {us:List (Key × V)},RepK K S kvs us->RepK K S (kvs ++ [(k,t)]) (us ++ [(k,v)])
  | [],us,r=>by rw [r.nilT];exact RepK.nil.cons q
  | p :: kvs,us,r=>by
    obtain ⟨u,us',rfl,r1,r2⟩:=r.consT
    exact (RepK.snoc k q r2).cons r1
theorem RepK.put (k:Key) {t:T} {v:V} (q:Rep K S t v) {kvs:List (Key × T)} {us:List (Key × V)} (r:RepK K S kvs us):RepK K S (zcW kvs k t) (putK us k v):=by
  unfold zcW putK
  rw [r.any k]
  split
  · exact r.repl k q
  · exact r.snoc k q
theorem yK (m:MemOk K S) {t:T} {x:V} {kvs:List (Key × T)} (r:Rep K S t x) (e:qU t S.M = some kvs):∃ p us,x = .ref p/\Rd S.H p (.dK us)/\RepK K S kvs us:=by
  unfold qU at e
  split at e
  · split at e
    · rename_i a _ kvs' q
      cases e
      cases r
      obtain ⟨us,h1,h2⟩:=m.cell _ _ q
      exact ⟨_,us,rfl,.inl h1,h2⟩
    · cases e
  · cases e
    cases r with
    | dct h l rr=>
      refine ⟨_,_,rfl,.inr ⟨_,h⟩,l,?_,rr⟩
      have:=congrArg List.length l
      simpa using this
  · cases e
theorem _root_.L2.DGet.r {H:Hp} {a:Addr} {us:List (Key × V)} {k:Key} (e:Rd H a (.dK us)):DGet H a (kV k) (zF us k):=.inl ⟨us,k,e,rfl,rfl⟩
theorem RepK.isSome (k:Key) {kvs:List (Key × T)} {us:List (Key × V)} (r:RepK K S kvs us):(zF us k).isSome = (yp kvs k).isSome:=by
  rcases r.look k with ⟨a,b⟩ | ⟨t,v,a,b,_⟩
  · rw [a,b];rfl
  · rw [a,b];rfl
end
section
variable {X:Cx} {XE:XK}
noncomputable def inD:T->T->Mem->Out T:=fun x y M=>match qU y M with
  | some kvs=>match zcS x with
    | some k=>.ok (.bl (yp kvs k).isSome) M
    | none=>.bad
  | none=>inA x y M
theorem zov (hu:X.A.units + 64 < cLine):OpR X (compareOp .In) (lR2 XE X.K inD):=by
  intro pins s σ H x y v u Q I rx ry ⟨S,⟨tx,ty⟩,e,m,⟨r1,r2⟩,fin⟩
  replace fin:Fin XE (Rep X.K) X.K S (inD tx ty S.M) Q:=fin
  unfold inD at fin
  split at fin
  · subst e
    rename_i kvs q
    split at fin
    · rename_i k qk
      obtain ⟨p,us,e3,e4,rk⟩:=yK m r2 q
      dsimp only at e3
      subst e3
      cases (show u = Value.ref p from ry)
      have ek:=zay r1 qk
      dsimp only at ek
      subst ek
      refine zn9 (by omega) I (.r e4) rx fun s' I'=>⟨.bl _,S.H,I',rfl,?_⟩
      rw [rk.isSome k]
      exact fin S _ rfl (.refl m) (.bl _)
    · exact fin.elim
  · exact zlS pins s σ H x y v u Q I rx ry ⟨S,⟨tx,ty⟩,e,m,⟨r1,r2⟩,fin⟩
noncomputable def ixD:T->T->Mem->Out T:=fun x y M=>match qU x M with
  | some kvs=>match zcS y with
    | some k=>zcN (yp kvs k) M
    | none=>.bad
  | none=>ixT x y M
theorem zhs (hu:X.A.units + 64 < cLine):IxR X (lR2 XE X.K ixD):=by
  intro va sl pins s σ H x y v u Q I rx ry ⟨S,⟨tx,ty⟩,e,m,⟨r1,r2⟩,fin⟩ hs
  replace fin:Fin XE (Rep X.K) X.K S (ixD tx ty S.M) Q:=fin
  unfold ixD at fin
  split at fin
  · subst e
    rename_i kvs q
    split at fin
    · rename_i k qk
      obtain ⟨t,et,fin⟩:=zdN fin
      obtain ⟨p,us,e3,e4,rk⟩:=yK m r1 q
      dsimp only at e3
      subst e3
      cases (show v = Value.ref p from rx)
      have ek:=zay r2 qk
      dsimp only at ek
      subst ek
      rcases rk.look k with ⟨a1,_⟩ | ⟨t',w,a1,b1,rw'⟩
      · rw [a1] at et;cases et
      · rw [a1] at et
        cases et
        have hT:=zgj I (DGet.r (k:=k) e4)
        have h2:wpAny (model X.prog X.w) X.A (getItem (.ref p) u) (EP X pins σ Q) X.xe s:=ziB (by omega) I (b1 ▸ DGet.r e4) ry fun w' s3 I3 rw2=>⟨w,S.H,I3,rw2,fin S w rfl (.refl m) rw'⟩
        unfold subscriptTail
        refine wpAny_bind ?_
        rw [getitemInPython_of_ne hT.not_modules]
        refine wpAny_bind (wpAny_specialOf hT PySem.F.slot_dict_getitem.lookup ?_)
        have f2:wpAny (model X.prog X.w) X.A (subscripted sl false (.ref p) u) (fun r s₃=>wpAny (model X.prog X.w) X.A (letTemporaryGo va (.ref p) r >>= fun _=>pure r) (EP X pins σ Q) X.xe s₃) X.xe s:=by
          rw [hs]
          exact wpAny_operating (wpAny_mono h2 (fun r s₃ h₃=>wpAny_bind (wpAny_letTemporaryGo (wpAny_pure h₃))) fun _ _ x=>x)
        first
          | exact wpAny_pure (wpAny_bind f2)
          | exact wpAny_bind (wpAny_pure (wpAny_bind f2))
          | exact wpAny_bind f2
    · exact fin.elim
  · exact zj va sl pins s σ H x y v u Q I rx ry ⟨S,⟨tx,ty⟩,e,m,⟨r1,r2⟩,fin⟩ hs
noncomputable def lMt (XE:XK) (K:PySem.W.Frag) (F:T->List T->Mem->Out T):V->List V->Hp->VK->Prop:=fun x xs H Q=>L0 XE (Rep K) K (PrR (Rep K) (Reps K)) (fun a M=>F a.1 a.2 M) (x,xs) H Q
noncomputable def zaD (chk:T->Mem->Bool) (F:T->List T->Mem->Out T) (f:Ev->Mem->Out T) (g:Ev->Mem->Out (List T)):Ev->Mem->Out T:=fun σ M=>(f σ M).bind fun x M1=>if chk x M1 = true then (g σ M1).bind fun ts M2=>F x ts M2 else .bad
noncomputable def zbp (t:T) (M:Mem):Bool:=(qU t M).isSome
theorem zhV {K:PySem.W.Frag} {S:Sit} (m:MemOk K S) {t:T} {x:V} (r:Rep K S t x) (h:zbp t S.M = true):tyV K "dict" x S.H:=by
  unfold zbp at h
  cases q:qU t S.M with
  | none=>rw [q] at h;cases h
  | some kvs=>
    obtain ⟨p,us,rfl,e4,_⟩:=yK m r q
    exact .inr (.inr (.inl ⟨rfl,.inl ⟨us,e4⟩⟩))
theorem zkX {o e:Expr} {es:List Expr} {n:Str} {Ty:String} {f:Ev->Mem->Out T} {ga:Ev->Mem->Out (List T)} {chk:T->Mem->Bool} {F:T->List T->Mem->Out T} {apos cpos:Pos}
    (hc:∀ {K:PySem.W.Frag} {S:Sit},MemOk K S->∀ {t:T} {x:V},Rep K S t x->chk t S.M = true->tyV K Ty x S.H)
    (h:PE X (.Call (.Attribute o n apos) (e :: es) [] cpos) (tBM X.K Ty (lMt XE X.K F) (lE XE X.K f) (lA XE X.K ga))):GE X XE (.Call (.Attribute o n apos) (e :: es) [] cpos) (zaD chk F f ga):=PE.imp h fun σ H Q hh=>by
  obtain ⟨S,στ,_,e0,m,ev,_,fin⟩:=hh
  replace fin:Fin XE (Rep X.K) X.K S ((f στ S.M).bind fun x M1=>if chk x M1 = true then (ga στ M1).bind fun ts M2=>F x ts M2 else .bad) Q:=fin
  refine ⟨S,στ,(),e0,m,ev,trivial,?_⟩
  show Fin XE (Rep X.K) X.K S (f στ S.M) _
  cases o1:f στ S.M with
  | bad=>rw [o1] at fin;exact fin
  | exn C fs M'=>rw [o1] at fin;exact fin
  | ok x M1=>
    rw [o1] at fin
    intro S1 v e1 s1 r1
    replace fin:Fin XE (Rep X.K) X.K S (if chk x M1 = true then (ga στ M1).bind fun ts M2=>F x ts M2 else .bad) Q:=fin
    split at fin
    · rename_i hk
      refine ⟨hc s1.mok r1 (by rw [e1];exact hk),S1,στ,(),rfl,s1.mok,Mo.mo m s1 ev,trivial,?_⟩
      show Fin XE (Reps X.K) X.K S1 (ga στ S1.M) _
      rw [e1]
      cases o2:ga στ M1 with
      | bad=>rw [o2] at fin;exact fin
      | exn C fs M'=>rw [o2] at fin;exact Fin.later s1 fin
      | ok ts M2=>
        rw [o2] at fin
        intro S2 ws e2 s2 r2
        replace fin:Fin XE (Rep X.K) X.K S (F x ts M2) Q:=fin
        have fin2:=Fin.later (s1.trans s2) fin
        exact ⟨S2,(x,ts),rfl,s2.mok,⟨r1.grow s1.mok s2.toGrow,r2⟩,by show Fin XE (Rep X.K) X.K S2 (F x ts S2.M) Q;rw [e2];exact fin2⟩
    · exact fin.elim
noncomputable def zad:T->List T->Mem->Out T:=fun d ts M=>match qU d M,ts with
  | some kvs,[y]=>match zcS y with
    | some k=>.ok ((yp kvs k).getD .non) M
    | none=>.bad
  | some kvs,[y,z]=>match zcS y with
    | some k=>.ok ((yp kvs k).getD z) M
    | none=>.bad
  | _,_=>.bad
theorem RepK.getD {K:PySem.W.Frag} {S:Sit} {kvs:List (Key × T)} {us:List (Key × V)} (r:RepK K S kvs us) (k:Key) {z:T} {w:V} (q:Rep K S z w):Rep K S ((yp kvs k).getD z) ((zF us k).getD w):=by
  rcases r.look k with ⟨a,b⟩ | ⟨t,v,a,b,h⟩
  · rw [a,b];exact q
  · rw [a,b];exact h
theorem zgB (hu:X.A.units + 64 < cLine):MtR X "dict.get" (lMt XE X.K zad):=by
  intro pins s σ H x xs v us Q I rx rs ⟨S,⟨tx,ts⟩,e,m,⟨r1,r2⟩,fin⟩
  subst e
  replace r1:Rep X.K S tx x:=r1
  replace r2:Reps X.K S ts xs:=r2
  replace fin:Fin XE (Rep X.K) X.K S (zad tx ts S.M) Q:=fin
  unfold zad at fin
  split at fin
  · rename_i kvs y q
    split at fin
    · rename_i k qk
      obtain ⟨p,ks,rfl,e4,rk⟩:=yK m r1 q
      obtain ⟨w1,ws,rfl,h1,h2⟩:=r2.consT
      cases h2.nilT
      cases rs with | cons a1 a2=>
      cases a2
      cases (show v = Value.ref p from rx)
      cases zay h1 qk
      exact zmO (by omega) I (.r e4) a1 fun w' s' I' rw'=>⟨_,S.H,I',rw',fin S _ rfl (.refl m) (rk.getD k .non)⟩
    · exact fin.elim
  · rename_i kvs y z q
    split at fin
    · rename_i k qk
      obtain ⟨p,ks,rfl,e4,rk⟩:=yK m r1 q
      obtain ⟨w1,ws,rfl,h1,h2⟩:=r2.consT
      obtain ⟨w2,ws,rfl,h3,h4⟩:=h2.consT
      cases h4.nilT
      cases rs with | cons a1 a2=>
      cases a2 with | cons a2 a3=>
      cases a3
      cases (show v = Value.ref p from rx)
      cases zay h1 qk
      exact zmN (by omega) I (.r e4) a1 a2 fun w' s' I' rw'=>⟨_,S.H,I',rw',fin S _ rfl (.refl m) (rk.getD k h3)⟩
    · exact fin.elim
  · exact fin.elim
end
end FT
namespace L2
open PySem PySem.Spec PySem.W PyProof.Rows
theorem zel:∀ {ns:List Int} {us:List Value},Vals (ns.map V.int) us->IntsAre us ns
  | [],_,r=>by cases r;exact .nil
  | n :: ns,_,r=>by
    rw [List.map_cons] at r
    cases r with
    | cons h t=>
      obtain ⟨k,rfl⟩:=h
      exact .cons n k (zel t)
theorem zc6:∀ {us:List Value} {ns:List Int},IntsAre us ns->Vals (ns.map V.int) us
  | _,_,.nil=>.nil
  | _,_,.cons n t h=>.cons ⟨t,rfl⟩ (zc6 h)
theorem zcv:∀ {xs:List V} {us:List Value},xs.length = us.length->(∀ (i:Nat) v w,xs[i]? = some v->us[i]? = some w->RelV v w)->Vals xs us
  | [],[],_,_=>.nil
  | [],_ :: _,h,_=>by simp at h
  | _ :: _,[],h,_=>by simp at h
  | x :: xs,u :: us,h,g=>.cons (g 0 x u rfl rfl) (zcv (by simpa using h) fun i v w e1 e2=>g (i + 1) v w (by simpa using e1) (by simpa using e2))
end L2
namespace FT
open PySem PySem.Spec PyProof.Rows L2
noncomputable def insI (x:Int):List Int->List Int
  | []=>[x]
  | y :: ys=>if x<=y then x :: y :: ys else y :: insI x ys
theorem insI_perm (x:Int):∀ ys,(insI x ys).Perm (x :: ys)
  | []=>.refl _
  | y :: ys=>by
    unfold insI
    split
    · exact .refl _
    · exact ((insI_perm x ys).cons y).trans (.swap x y ys)
theorem Reps.ints {K:PySem.W.Frag} {S:Sit}:∀ ns:List Int,Reps K S (ns.map T.int) (ns.map V.int)
  | []=>.nil
  | n :: ns=>(Reps.ints ns).cons (.int n)
noncomputable def tK:Key->T
  | .inl i=>.int i
  | .inr x=>.str x
theorem zlj {K:PySem.W.Frag} {S:Sit} (k:Key):Rep K S (tK k) (kV k):=by
  cases k with
  | inl i=>exact .int i
  | inr x=>exact .str x
theorem Reps.keys {K:PySem.W.Frag} {S:Sit}:∀ ks:List Key,Reps K S (ks.map tK) (ks.map kV)
  | []=>.nil
  | k :: ks=>(Reps.keys ks).cons (zlj k)
end FT
namespace FT
open PySem PySem.Spec PyProof.Rows L2
noncomputable def SubL (m:List (Str × Addr)):List (Str × Addr)->Prop
  | []=>True
  | c :: l=>m.lookup c.1 = some c.2/\SubL m l
theorem zft:∀ {l m:List (Str × Addr)},SubL m l->∀ x a,l.lookup x = some a->m.lookup x = some a
  | [],_,_,_,_,h=>by cases h
  | (y,b) :: l,m,g,x,a,h=>by
    rw [List.lookup_cons] at h
    split at h
    · rename_i e
      cases h
      rw [eq_of_beq e]
      exact g.1
    · exact zft g.2 x a h
end FT
namespace L2
open PySem PySem.Spec
open PySem.Sem (wp)
theorem zb0 {prog:Program} {w:World} {A:Around} {E:Value->Shared->Prop} {s:Shared} {a:Addr} {o:Obj} {xs:Array Value} {k:Nat} {name:Str} {Q:Option Value->Shared->Prop}
    (hx:s.heap.get? a = some o) (hc:o.cls = .type "list") (hdat:o.data = .seq xs k) (hd:o.dict = none) (hmiss:typeLookup (.type "list") name = pure none) (hname:(["__module__","__name__","__qualname__","__doc__","__annotations__"]:List Str).contains name = false) (hA:A.handled = none)
    (h:∀ h' tk e,Heap.NewExcOf s.heap h' e "AttributeError"->Q none { s with heap:=h',toks:=tk }) (hsz:name.length + 100<=sizeLine:=by size_fits) :
    wpAny (model prog w) A (getAttr? (.ref a) name) Q E s:=by
  obtain ⟨c,dct,dat,sl⟩:=o
  simp only at hc hdat hd
  subst hc hdat hd
  obtain ⟨hp,g,d,tk,os⟩:=s
  have hT:∀ tk',(⟨hp,g,d,tk',os⟩:Shared).TypeIs (.ref a) "list":=fun _=>⟨_,hx,rfl⟩
  have f1:=sub_AttributeError
  have f3:=F.slot_list_getattribute.lookup
  have f4:=F.slot_list_getattribute.bind (.ref a)
  have f5:=am_list_getattr_none
  unfold getAttr? getAttrBy? getAttrBy
  repeat (any_goals (first | assumption | exact hT _ | ((with_reducible show wpAny _ _ (call (Value.builtin "list.__getattribute__") _ _) _ _ _);refine call_meets F.slot_list_getattribute (hT _) am_entry_list_getattribute (F.args_list_getattribute_2 _ _) (meets_getattribute_miss_list a xs k sl name _ hmiss hname hsz) ⟨hx,hA,fun h' tk' e hx'=>?_⟩) | wp_step))
  obtain ⟨t',u',he⟩:=hx'.there
  show wpAny _ _ (getattributeRaised _ _ _ _ _ _ _) _ _ _
  unfold getattributeRaised
  repeat (any_goals (first | assumption | wp_step))
  exact h _ _ _ hx'.of
end L2
namespace L2
open PySem PySem.Spec
open PySem.Sem (wp)
theorem qN:entryFor table "dict.update.loop" = some Builtin.«dict.update.loop»:=entryFor_of_tree (by kernel_rfl)
theorem qo:plainId "dict.update.loop" = true:=by decide +kernel
section
variable {prog:Program} {w:World} {K:Type} [DecidableEq K] {knd:KeyKind prog w K} {A:Around} {I:Addr} {fp wr:List Addr} {G:Array GenState->Array GenState->Prop} {n:Nat} {St:Nat->Shared->Prop} {R:Result->Shared->Prop}
noncomputable def PairsAt (knd:KeyKind prog w K) (D:Addr) (wr:List Addr) (its:List Value) (prs:List (K × Value)) (h:Heap):Prop:=
  ∀ (i:Nat) v,its[i]? = some v->∃ b key p,prs[i]? = some p/\v = .ref b/\b ∉ D :: wr/\knd.is p.1 key = true/\h.IsTuple b #[key,p.2]
theorem PairsAt.kept {D:Addr} {its:List Value} {prs:List (K × Value)} {h h':Heap} (x:PairsAt knd D wr its prs h) (k:∀ b o,b ∉ D :: wr->h.get? b = some o->h'.get? b = some o):PairsAt knd D wr its prs h':=fun i v e=>by
  obtain ⟨b,key,p,e1,e2,e3,e4,o,e5,e6⟩:=x i v e
  exact ⟨b,key,p,e1,e2,e3,e4,o,k b o e3 e5,e6⟩
theorem zaE {its:List Value} {prs:List (K × Value)} (W:WalksS prog w A.in1 I fp wr G its.length (fun i v=>its[i]? = some v) St) (hn:its.length<=sizeLine) (D:Addr) (hDf:D ∉ fp) (res:Value) :
    ∀ (k i:Nat) (s:Shared) (tk:Tok),its.length - i = k->i<=its.length->St i s->s.heap.DictOf knd D (merged [] (prs.take i))->(merged [] (prs.take i)).length<=i->PairsAt knd D wr its prs s.heap->
    (∀ s',Moved (D :: wr) G s s'->s'.heap.DictOf knd D (merged [] (prs.take its.length))->R (.ok (.ret res)) s')->
    codeAny (model prog w) A (.builtin "dict.update.loop" ⟨[.ref D,.ref I,.int i tk,res],[]⟩) R s:=by
  have hDw:D ∉ wr:=fun h=>hDf (W.sub _ h)
  have hsub:∀ b ∈ wr,b ∈ D :: wr:=fun b hb=>List.mem_cons_of_mem _ hb
  intro k
  induction k with
  | zero=>
    intro i s tk hk hi hst hD hlen hP hR
    have hin:i = its.length:=by omega
    subst hin
    refine codeAny_builtin qN ?_
    rw [Around.under_plainId qo _]
    show wpAny _ A.in1 (pyNext (.ref I) >>= _) _ _ s
    refine wpAny_bind (W.done s _ _ hst fun s' hm=>?_)
    show wpAny _ A.in1 (Builtin.Dict.addKeywords D [] >>= _) _ _ s'
    refine wpAny_bind (wpAny_pure (wpAny_pure (hR s' (hm.mono hsub) ?_)))
    obtain ⟨od,es,ep,g1,g2⟩:=hD
    exact ⟨od,es,ep,hm.heap D _ hDw g1,g2⟩
  | succ k ih=>
    intro i s tk hk hi hst hD hlen hP hR
    have hlt:i < its.length:=by omega
    refine codeAny_builtin qN ?_
    rw [Around.under_plainId qo _]
    show wpAny _ A.in1 (pyNext (.ref I) >>= _) _ _ s
    refine wpAny_bind (W.item i s _ _ hlt hst fun v s' hPv hst' hm=>?_)
    obtain ⟨b,key,p,e1,rfl,e3,e4,o,e5,e6,e7⟩:=(hP.kept fun b o hb e=>hm.heap b o (fun h=>hb (hsub _ h)) e) i v hPv
    obtain ⟨nn,e7⟩:=e7
    have hD':s'.heap.DictOf knd D (merged [] (prs.take i)):=by
      obtain ⟨od,es,ep,g1,g2⟩:=hD
      exact ⟨od,es,ep,hm.heap D _ hDw g1,g2⟩
    dsimp only
    refine wpAny_bind ?_
    refine wpAny_holding (wpAny_bind ?_)
    refine wpAny_tryCatch ?_
    unfold Builtin.Dict.pairItems
    refine wpAny_bind (wpAny_typeOf (T:="tuple") ⟨o,e5,e6⟩ ?_)
    rw [if_pos (by decide)]
    refine wpAny_bind (wpAny_seqItems e5 e7 ?_)
    refine wpAny_pure ?_
    show wpAny _ A.in1 (holding [key,p.2] (dictSet D key p.2)) _ _ s'
    refine wpAny_holding (wpAny_dictSet_pairs (hsz:=by omega) e4 hD' fun h' hD2 hs=>?_)
    have kp:∀ b o,b ∉ D :: wr->s'.heap.get? b = some o->h'.get? b = some o:=fun b o hb e=>(hs.2 b fun z=>hb (z ▸ List.mem_cons_self)).trans e
    have em:=merged_take_succ [] prs i p e1
    refine wpAny_pure ⟨plainId_quiet qo _,?_⟩
    have q:=ih (i + 1) { s' with heap:=h',toks:=s'.toks + 1 } 0 (by omega) hlt (W.frame _ s' _ _ hst' (Nat.le_succ _) fun b hb o e=>(hs.2 b fun z=>hDf (z ▸ hb)).trans e) (by rw [em];exact hD2) (by rw [em];have:=stored_length_le (merged [] (prs.take i)) p.1 p.2;omega)
      ((hP.kept fun b o hb e=>hm.heap b o (fun h=>hb (hsub _ h)) e).kept kp) fun s2 hm2 hD3=>?_
    · exact q
    · exact hR s2 (Moved.trans W.gtrans ((hm.mono hsub).then_heap (Nat.le_succ _) kp) hm2) hD3
theorem zdQ:typeLookup (.type "list") "keys" = pure none:=by rw [typeLookup_type,builtinLookup_eq_fast];kernel_rfl
theorem zds {A:Around} {E:Value->Shared->Prop} {s:Shared} {l:Addr} {ob:Obj} {c:Nat} {its:List Value} {prs:List (K × Value)} {Q:Value->Shared->Prop} (hh:A.handled = none)
    (hl:s.heap.get? l = some ob) (hc:ob.cls = .type "list") (hdat:ob.data = .seq its.toArray c) (hdc:ob.dict = none) (hn:its.length<=sizeLine) (hlen:prs.length = its.length)
    (hP:∀ (i:Nat) v,its[i]? = some v->∃ b key p,prs[i]? = some p/\v = .ref b/\knd.is p.1 key = true/\s.heap.IsTuple b #[key,p.2])
    (h:∀ h' tk,h'.DictOf knd s.heap.objs.size (merged [] prs)->(∀ b o,s.heap.get? b = some o->h'.get? b = some o)->Q (.ref s.heap.objs.size) { s with heap:=h',toks:=tk }) :
    wpAny (model prog w) A (call (.type "dict") [.ref l]) Q E s:=by
  refine callType_codes (Q₁:=fun obj s₁=>obj = .ref s.heap.objs.size/\s₁ = { s with heap:=s.heap.push { cls:=.type "dict",data:=.dict #[] } }) F.kt_called_dict (F.kt_typeCall_dict_1 _) F.entry_dict_init (kt_code_dict_new _ ⟨rfl,rfl⟩) ?_
  rintro obj s₁ ⟨rfl,rfl⟩
  have hnew:(s.heap.push { cls:=.type "dict",data:=.dict #[] }).DictOf knd s.heap.objs.size []:=Heap.DictOf.new s.heap
  have hl1:(s.heap.push { cls:=.type "dict",data:=.dict #[] }).get? l = some ob:=Heap.get?_push_of_some _ hl
  refine ⟨hnew.typeIs,F.args_dict_init_2 _ _,?_⟩
  unfold Builtin.«dict.__init__»
  refine wpAny_bind ?_
  unfold Builtin.Dict.selfAndRest
  refine wpAny_bind (wpAny_notOrdered_dict hnew.typeIs ?_)
  show wpAny _ _ (pure (s.heap.objs.size,[Value.ref l])) _ _ _
  refine wpAny_pure ?_
  show wpAny _ _ (Builtin.Dict.updateFrom "dict.__init__" s.heap.objs.size (.ref l) [] .none) _ _ _
  unfold Builtin.Dict.updateFrom
  refine wpAny_bind (wpAny_typeOf (T:="list") ⟨ob,hl1,hc⟩ ?_)
  rw [if_pos (by decide)]
  refine wpAny_bind (zb0 hl1 hc hdat hdc zdQ (by decide) hh (fun h1 tk1 e1 ne=>?_) (by rw [sizeLine_eq];decide))
  rw [if_pos (show (none:Option Value).isNone = true from rfl)]
  refine wpAny_bind (wpAny_rule ?_)
  have kp1:∀ b o,s.heap.get? b = some o->h1.get? b = some o:=fun b o e=>ne.keeps b o (Heap.get?_push_of_some _ e)
  have hl2:h1.get? l = some ob:=kp1 _ _ hl
  have isl:h1.IsList l its.toArray:=⟨ob,hl2,hc,c,hdat⟩
  refine wpAny_bind (wpAny_pyIter_list isl ?_)
  have hd1:h1.DictOf knd s.heap.objs.size []:=by
    obtain ⟨od,es,ep,g1,g2⟩:=hnew
    exact ⟨od,es,ep,ne.keeps _ _ g1,g2⟩
  have hDlt:s.heap.objs.size < h1.objs.size:=by
    obtain ⟨od,es,ep,g1,g2⟩:=hd1
    exact Heap.lt_size g1
  have hllt:l < h1.objs.size:=Heap.lt_size hl2
  have hlD:l ≠ s.heap.objs.size:=Nat.ne_of_lt (Heap.lt_size hl)
  have W:=(Walks.list (prog:=prog) (w:=w) (A:=A.in1.in1) hh h1.objs.size l (Nat.ne_of_lt hllt) its.toArray).toS
  refine wpAny_pure ⟨plainId_quiet qo _,?_⟩
  have q:=zaE (R:=wants (fun r s₂=>r = Value.none/\Q (Value.ref s.heap.objs.size) s₂) E) (knd:=knd) (prs:=prs) (its:=its) (A:=A.in1) (I:=h1.objs.size) (by simpa using W) hn s.heap.objs.size (by
      intro z
      rcases List.mem_cons.mp z with z | z
      · exact absurd z (Nat.ne_of_lt hDlt)
      · exact hlD (List.mem_singleton.mp z).symm) .none
  refine q (its.length) 0 ⟨h1.push { cls:=.type "list_iterator",data:=.fields #[.ref l,.int 0 0] },s.gens,s.drawn,tk1,s.os⟩ _ (by omega) (Nat.zero_le _) ⟨⟨_,Heap.get?_push_size _ rfl,rfl,rfl⟩,?_⟩ ?_ (Nat.le_refl _) ?_ fun s' hm hd=>?_
  · obtain ⟨o,ho,c⟩:=isl
    exact ⟨o,Heap.get?_push_of_some _ ho,c⟩
  · obtain ⟨od,es,ep,g1,g2⟩:=hd1
    exact ⟨od,es,ep,Heap.get?_push_of_some _ g1,g2⟩
  · intro i v e
    obtain ⟨b,key,p,g1,g2,g3,o,g4,g5⟩:=hP i v e
    refine ⟨b,key,p,g1,g2,fun z=>?_,g3,o,Heap.get?_push_of_some _ (kp1 _ _ g4),g5⟩
    have hb:=Heap.lt_size g4
    rcases List.mem_cons.mp z with z | z
    · exact absurd z (Nat.ne_of_lt hb)
    · exact absurd (List.mem_singleton.mp z) (Nat.ne_of_lt (Nat.lt_trans hb hDlt))
  · refine ⟨rfl,?_⟩
    obtain ⟨h',g',d',tk',o'⟩:=s'
    have x1:g' = s.gens:=hm.gens
    have x2:d' = s.drawn:=hm.drawn
    have x3:o' = s.os:=hm.os
    subst x1 x2 x3
    refine h h' tk' ?_ fun b o e=>hm.heap b o (fun z=>?_) (Heap.get?_push_of_some _ (kp1 _ _ e))
    · rw [← hlen,List.take_length] at hd;exact hd
    · have hb:=Heap.lt_size e
      rcases List.mem_cons.mp z with z | z
      · exact absurd z (Nat.ne_of_lt hb)
      · exact absurd (List.mem_singleton.mp z) (Nat.ne_of_lt (Nat.lt_trans hb hDlt))
end
end L2
namespace L2
open PySem PySem.Spec PySem.W PyProof.Rows
section
variable {X:Cx}
theorem pairs_at {pins:List (Addr × Obj)} {σ:St} {H:Hp} {s:Shared} (I:Inv X pins σ H s):∀ {vs:List V} {its:List Value} {prs:List (Key × V)},Vals vs its->vs.length = prs.length->
    (∀ (i:Nat) v,vs[i]? = some v->∃ b q,v = .ref b/\prs[i]? = some q/\SqT X.K H b [kV q.1,q.2])->
    ∃ pv:List (Key × Value),KV prs pv/\∀ (i:Nat) v,its[i]? = some v->∃ b key p,pv[i]? = some p/\v = .ref b/\(yo X.prog X.w).is p.1 key = true/\s.heap.IsTuple b #[key,p.2]
  | [],_,[],r,_,_=>by cases r;exact ⟨[],.nil,fun i v e=>by simp at e⟩
  | [],_,_ :: _,_,h,_=>by simp at h
  | _ :: _,_,[],_,h,_=>by simp at h
  | v :: vs,_,q :: prs,r,h,g=>by
    cases r with
    | cons r1 r2=>
      rename_i u us
      obtain ⟨pv,k1,k2⟩:=pairs_at I r2 (by simpa using h) fun i v e=>g (i + 1) v (by simpa using e)
      obtain ⟨b,q',rfl,e2,e3⟩:=g 0 v rfl
      cases (show some q = some q' from e2)
      cases (show u = Value.ref b from r1)
      obtain ⟨its2,t1,t2,_⟩:=I.tuple e3
      cases t1 with | cons a1 a2=>
      cases a2 with | cons a2 a3=>
      cases a3
      rename_i key val
      refine ⟨(q.1,val) :: pv,.cons ⟨rfl,a2⟩ k1,fun i v e=>?_⟩
      cases i with
      | zero=>cases (show some (Value.ref b) = some v from e);exact ⟨b,key,(q.1,val),rfl,rfl,zcj a1,t2⟩
      | succ i=>exact k2 i v (by simpa using e)
theorem zhJ (hc:X.calm = true):CallR X (.type "dict") (fun xs H Q=>∃ (p:Addr) (vs:List V) (prs:List (Key × V)),xs = [.ref p]/\SqL X.K H p vs/\vs.length = prs.length /\
    (∀ (i:Nat) v,vs[i]? = some v->∃ b q,v = .ref b/\prs[i]? = some q/\SqT X.K H b [kV q.1,q.2])/\∀ l,H l = none->Q (.ref l) (upd H l (.dK (zav [] prs)))):=by
  intro pins s σ H xs us Q I r h
  obtain ⟨p,vs,prs,rfl,hq,hlen,hp,q⟩:=h
  obtain ⟨u,rfl,rx⟩:=vals1 r
  cases rx
  obtain ⟨its,r',⟨o,n,ho,hcl,hdc,hdt⟩,hz⟩:=I.list hq
  obtain ⟨pv,k1,k2⟩:=pairs_at I r' hlen hp
  have hl1:=r'.length
  have hl2:=k1.length
  refine zds (knd:=yo X.prog X.w) (I.ok.hd hc) ho hcl hdt hdc (by omega) (by omega) k2 fun h' tk dd kp=>?_
  have hsm:(s.heap.objs.size == sysModules) = false:=beq_eq_false_iff_ne.mpr (Nat.ne_of_gt I.big)
  have hle:=z7 prs []
  exact ⟨.ref s.heap.objs.size,_,I.laid (t':=tk) kp (Nat.le_refl _) (ziA (by simp at hle;omega) hsm (k1.merge .nil) dd),rfl,q _ (I.hok.fresh (Nat.le_refl _))⟩
end
end L2
namespace FT
open PySem PySem.Spec PyProof.Rows L2
noncomputable def zbO:List T->Option (List (Key × T))
  | []=>some []
  | .tup [a,b] :: r=>match zcS a,zbO r with
    | some k,some ps=>some ((k,b) :: ps)
    | _,_=>none
  | _=>none
noncomputable def zbd (kvs prs:List (Key × T)):List (Key × T):=prs.foldl (fun acc kv=>zcW acc kv.1 kv.2) kvs
theorem RepK.merge {K:PySem.W.Frag} {S:Sit}:∀ {prs:List (Key × T)} {us:List (Key × V)} {kvs:List (Key × T)} {ws:List (Key × V)},RepK K S prs us->RepK K S kvs ws->RepK K S (zbd kvs prs) (zav ws us)
  | [],us,kvs,ws,r,q=>by rw [r.nilT];exact q
  | p :: prs,us,kvs,ws,r,q=>by
    obtain ⟨u,us',rfl,r1,r2⟩:=r.consT
    show RepK K S (zbd (zcW kvs p.1 p.2) prs) (zav (putK ws p.1 u) us')
    exact RepK.merge r2 (q.put p.1 r1)
theorem zcM {K:PySem.W.Frag} {S:Sit}:∀ {xs:List T} {prs:List (Key × T)} {vs:List V},zbO xs = some prs->Reps K S xs vs->
    ∃ us:List (Key × V),RepK K S prs us/\vs.length = us.length/\∀ (i:Nat) v,vs[i]? = some v->∃ b q,v = .ref b/\us[i]? = some q/\SqT K S.H b [kV q.1,q.2]
  | [],prs,vs,e,r=>by
    cases (show some [] = some prs from e)
    rw [r.nilT]
    exact ⟨[],.nil,rfl,fun i v e=>by simp at e⟩
  | x :: xs,prs,vs,e,r=>by
    unfold zbO at e
    split at e
    · rename_i e0;cases e0
    · rename_i a b rr e0
      cases e0
      split at e
      · rename_i k ps ek ep
        cases e
        obtain ⟨v,vs',rfl,r1,r2⟩:=r.consT
        obtain ⟨us,k1,k2,k3⟩:=zcM ep r2
        cases r1 with
        | @tup _ p ws h l rr=>
          obtain ⟨w1,ws1,rfl,q1,q2⟩:=Reps.consT (K:=K) (S:=S) (ts:=[b]) (t:=a) ⟨l,rr⟩
          obtain ⟨w2,ws2,rfl,q3,q4⟩:=q2.consT
          cases q4.nilT
          cases zay q1 ek
          refine ⟨(k,w2) :: us,k1.cons q3,by simp [k2],fun i v e=>?_⟩
          cases i with
          | zero=>cases (show some (V.ref p) = some v from e);exact ⟨p,(k,w2),rfl,rfl,h⟩
          | succ i=>exact k3 i v (by simpa using e)
      · cases e
    · cases e
end FT
namespace L2
open PySem PySem.Spec
open PySem.Sem (wp)
theorem zbE {prog:Program} {w:World} {A:Around} {E:Value->Shared->Prop} {s:Shared} {a:Addr} {o:Obj} {xs:Array Value} {k:Nat} {name:Str} {Q:Option Value->Shared->Prop}
    (hx:s.heap.get? a = some o) (hc:o.cls = .type "tuple") (hdat:o.data = .seq xs k) (hd:o.dict = none) (hmiss:typeLookup (.type "tuple") name = pure none) (hname:(["__module__","__name__","__qualname__","__doc__","__annotations__"]:List Str).contains name = false) (hA:A.handled = none)
    (h:∀ h' tk e,Heap.NewExcOf s.heap h' e "AttributeError"->Q none { s with heap:=h',toks:=tk }) (hsz:name.length + 100<=sizeLine:=by size_fits) :
    wpAny (model prog w) A (getAttr? (.ref a) name) Q E s:=by
  obtain ⟨c,dct,dat,sl⟩:=o
  simp only at hc hdat hd
  subst hc hdat hd
  obtain ⟨hp,g,d,tk,os⟩:=s
  have hT:∀ tk',(⟨hp,g,d,tk',os⟩:Shared).TypeIs (.ref a) "tuple":=fun _=>⟨_,hx,rfl⟩
  have f1:=sub_AttributeError
  have f3:=F.slot_tuple_getattribute.lookup
  have f4:=F.slot_tuple_getattribute.bind (.ref a)
  have f5:=am_tuple_getattr_none
  unfold getAttr? getAttrBy? getAttrBy
  repeat (any_goals (first | assumption | exact hT _ | ((with_reducible show wpAny _ _ (call (Value.builtin "tuple.__getattribute__") _ _) _ _ _);refine call_meets F.slot_tuple_getattribute (hT _) am_entry_tuple_getattribute (F.args_tuple_getattribute_2 _ _) (meets_getattribute_miss_tuple a xs k sl name _ hmiss hname hsz) ⟨hx,hA,fun h' tk' e hx'=>?_⟩) | wp_step))
  obtain ⟨t',u',he⟩:=hx'.there
  show wpAny _ _ (getattributeRaised _ _ _ _ _ _ _) _ _ _
  unfold getattributeRaised
  repeat (any_goals (first | assumption | wp_step))
  exact h _ _ _ hx'.of
end L2
namespace L2
open PySem PySem.Spec
open PySem.Sem (wp)
section
variable {prog:Program} {w:World} {K:Type} [DecidableEq K] {knd:KeyKind prog w K}
theorem zdf:typeLookup (.type "tuple") "keys" = pure none:=by rw [typeLookup_type,builtinLookup_eq_fast];kernel_rfl
theorem zcX {A:Around} {E:Value->Shared->Prop} {s:Shared} {l:Addr} {ob:Obj} {c:Nat} {its:List Value} {prs:List (K × Value)} {Q:Value->Shared->Prop} (hh:A.handled = none)
    (hl:s.heap.get? l = some ob) (hc:ob.cls = .type "tuple") (hdat:ob.data = .seq its.toArray c) (hdc:ob.dict = none) (hn:its.length<=sizeLine) (hlen:prs.length = its.length)
    (hP:∀ (i:Nat) v,its[i]? = some v->∃ b key p,prs[i]? = some p/\v = .ref b/\knd.is p.1 key = true/\s.heap.IsTuple b #[key,p.2])
    (h:∀ h' tk,h'.DictOf knd s.heap.objs.size (merged [] prs)->(∀ b o,s.heap.get? b = some o->h'.get? b = some o)->Q (.ref s.heap.objs.size) { s with heap:=h',toks:=tk }) :
    wpAny (model prog w) A (call (.type "dict") [.ref l]) Q E s:=by
  refine callType_codes (Q₁:=fun obj s₁=>obj = .ref s.heap.objs.size/\s₁ = { s with heap:=s.heap.push { cls:=.type "dict",data:=.dict #[] } }) F.kt_called_dict (F.kt_typeCall_dict_1 _) F.entry_dict_init (kt_code_dict_new _ ⟨rfl,rfl⟩) ?_
  rintro obj s₁ ⟨rfl,rfl⟩
  have hnew:(s.heap.push { cls:=.type "dict",data:=.dict #[] }).DictOf knd s.heap.objs.size []:=Heap.DictOf.new s.heap
  have hl1:(s.heap.push { cls:=.type "dict",data:=.dict #[] }).get? l = some ob:=Heap.get?_push_of_some _ hl
  refine ⟨hnew.typeIs,F.args_dict_init_2 _ _,?_⟩
  unfold Builtin.«dict.__init__»
  refine wpAny_bind ?_
  unfold Builtin.Dict.selfAndRest
  refine wpAny_bind (wpAny_notOrdered_dict hnew.typeIs ?_)
  show wpAny _ _ (pure (s.heap.objs.size,[Value.ref l])) _ _ _
  refine wpAny_pure ?_
  show wpAny _ _ (Builtin.Dict.updateFrom "dict.__init__" s.heap.objs.size (.ref l) [] .none) _ _ _
  unfold Builtin.Dict.updateFrom
  refine wpAny_bind (wpAny_typeOf (T:="tuple") ⟨ob,hl1,hc⟩ ?_)
  rw [if_pos (by decide)]
  refine wpAny_bind (zbE hl1 hc hdat hdc zdf (by decide) hh (fun h1 tk1 e1 ne=>?_) (by rw [sizeLine_eq];decide))
  rw [if_pos (show (none:Option Value).isNone = true from rfl)]
  refine wpAny_bind (wpAny_rule ?_)
  have kp1:∀ b o,s.heap.get? b = some o->h1.get? b = some o:=fun b o e=>ne.keeps b o (Heap.get?_push_of_some _ e)
  have hl2:h1.get? l = some ob:=kp1 _ _ hl
  have isl:h1.IsTuple l its.toArray:=⟨ob,hl2,hc,c,hdat⟩
  refine wpAny_bind (wpAny_pyIter_tuple isl ?_)
  have hd1:h1.DictOf knd s.heap.objs.size []:=by
    obtain ⟨od,es,ep,g1,g2⟩:=hnew
    exact ⟨od,es,ep,ne.keeps _ _ g1,g2⟩
  have hDlt:s.heap.objs.size < h1.objs.size:=by
    obtain ⟨od,es,ep,g1,g2⟩:=hd1
    exact Heap.lt_size g1
  have hllt:l < h1.objs.size:=Heap.lt_size hl2
  have hlD:l ≠ s.heap.objs.size:=Nat.ne_of_lt (Heap.lt_size hl)
  have W:=(Walks.tuple (prog:=prog) (w:=w) (A:=A.in1.in1) hh h1.objs.size l (Nat.ne_of_lt hllt) its.toArray).toS
  refine wpAny_pure ⟨plainId_quiet qo _,?_⟩
  have q:=zaE (R:=wants (fun r s₂=>r = Value.none/\Q (Value.ref s.heap.objs.size) s₂) E) (knd:=knd) (prs:=prs) (its:=its) (A:=A.in1) (I:=h1.objs.size) (by simpa using W) hn s.heap.objs.size (by
      intro z
      rcases List.mem_cons.mp z with z | z
      · exact absurd z (Nat.ne_of_lt hDlt)
      · exact hlD (List.mem_singleton.mp z).symm) .none
  refine q (its.length) 0 ⟨h1.push { cls:=.type "tuple_iterator",data:=.fields #[.ref l,.int 0 0] },s.gens,s.drawn,tk1,s.os⟩ _ (by omega) (Nat.zero_le _) ⟨⟨_,Heap.get?_push_size _ rfl,rfl,rfl⟩,?_⟩ ?_ (Nat.le_refl _) ?_ fun s' hm hd=>?_
  · obtain ⟨o,ho,c⟩:=isl
    exact ⟨o,Heap.get?_push_of_some _ ho,c⟩
  · obtain ⟨od,es,ep,g1,g2⟩:=hd1
    exact ⟨od,es,ep,Heap.get?_push_of_some _ g1,g2⟩
  · intro i v e
    obtain ⟨b,key,p,g1,g2,g3,o,g4,g5⟩:=hP i v e
    refine ⟨b,key,p,g1,g2,fun z=>?_,g3,o,Heap.get?_push_of_some _ (kp1 _ _ g4),g5⟩
    have hb:=Heap.lt_size g4
    rcases List.mem_cons.mp z with z | z
    · exact absurd z (Nat.ne_of_lt hb)
    · exact absurd (List.mem_singleton.mp z) (Nat.ne_of_lt (Nat.lt_trans hb hDlt))
  · refine ⟨rfl,?_⟩
    obtain ⟨h',g',d',tk',o'⟩:=s'
    have x1:g' = s.gens:=hm.gens
    have x2:d' = s.drawn:=hm.drawn
    have x3:o' = s.os:=hm.os
    subst x1 x2 x3
    refine h h' tk' ?_ fun b o e=>hm.heap b o (fun z=>?_) (Heap.get?_push_of_some _ (kp1 _ _ e))
    · rw [← hlen,List.take_length] at hd;exact hd
    · have hb:=Heap.lt_size e
      rcases List.mem_cons.mp z with z | z
      · exact absurd z (Nat.ne_of_lt hb)
      · exact absurd (List.mem_singleton.mp z) (Nat.ne_of_lt (Nat.lt_trans hb hDlt))
end
end L2
namespace L2
open PySem PySem.Spec PySem.W PyProof.Rows
section
variable {X:Cx}
theorem zgk (hc:X.calm = true):CallR X (.type "dict") (fun xs H Q=>∃ (p:Addr) (vs:List V) (prs:List (Key × V)),xs = [.ref p]/\SqT X.K H p vs/\vs.length = prs.length /\
    (∀ (i:Nat) v,vs[i]? = some v->∃ b q,v = .ref b/\prs[i]? = some q/\SqT X.K H b [kV q.1,q.2])/\∀ l,H l = none->Q (.ref l) (upd H l (.dK (zav [] prs)))):=by
  intro pins s σ H xs us Q I r h
  obtain ⟨p,vs,prs,rfl,hq,hlen,hp,q⟩:=h
  obtain ⟨u,rfl,rx⟩:=vals1 r
  cases rx
  obtain ⟨its,r',⟨o,ho,hcl,n,hdt⟩,hz⟩:=I.tuple hq
  have hdc:=I.tuple_nd hq o ho
  obtain ⟨pv,k1,k2⟩:=pairs_at I r' hlen hp
  have hl1:=r'.length
  have hl2:=k1.length
  refine zcX (knd:=yo X.prog X.w) (I.ok.hd hc) ho hcl hdt hdc (by omega) (by omega) k2 fun h' tk dd kp=>?_
  have hsm:(s.heap.objs.size == sysModules) = false:=beq_eq_false_iff_ne.mpr (Nat.ne_of_gt I.big)
  have hle:=z7 prs []
  exact ⟨.ref s.heap.objs.size,_,I.laid (t':=tk) kp (Nat.le_refl _) (ziA (by simp at hle;omega) hsm (k1.merge .nil) dd),rfl,q _ (I.hok.fresh (Nat.le_refl _))⟩
end
end L2
namespace FT
open PySem PySem.Spec PyProof.Rows L2
noncomputable def forR (bd:T->Ev->Mem->Out Ev) (body:Ev->Mem->Out Fl) (a:Nat):Nat->Nat->Ev->Mem->Out Fl
  | 0,i,σ,M=>match M[a]? with
    | some (.lst xs)=>if xs.length<=i then .ok (.nx σ) M else .bad
    | _=>.bad
  | n + 1,i,σ,M=>match M[a]? with
    | some (.lst xs)=>match xs[i]? with
      | some x=>(bd x σ M).bind fun σ1 M1=>(body σ1 M1).bind (zy (forR bd body a n (i + 1)))
      | none=>.ok (.nx σ) M
    | _=>.bad
noncomputable def zoI (bd:T->Ev->Mem->Out Ev) (body:Ev->Mem->Out Fl) (t:T) (σ:Ev) (M:Mem):Out Fl:=match t with
  | .ref a=>match M[a]? with
    | some (.lst xs)=>forR bd body a xs.length 0 σ M
    | _=>.bad
  | _=>.bad
theorem zjA {bd:T->Ev->Mem->Out Ev} {body:Ev->Mem->Out Fl} {a:Nat} {xs:List T} (P:Nat->Ev->Mem->Prop) (hP:∀ k σ M,P k σ M->M[a]? = some (.lst xs))
    (t:∀ k x σ M,xs[k]? = some x->P k σ M->∃ σ' M',((bd x σ M).bind fun σ1 M1=>body σ1 M1) = .ok (.nx σ') M'/\P (k + 1) σ' M'):∀ n i,i + n = xs.length->∀ σ M,P i σ M->∃ σ' M',forR bd body a n i σ M = .ok (.nx σ') M'/\P xs.length σ' M'
  | 0,i,hi,σ,M,h=>by
    have hM:=hP i σ M h
    refine ⟨σ,M,?_,by rw [← hi];exact h⟩
    unfold forR
    rw [hM]
    exact if_pos (by omega)
  | n + 1,i,hi,σ,M,h=>by
    have hM:=hP i σ M h
    have hx:xs[i]? = some xs[i]:=by simp [show i < xs.length by omega]
    obtain ⟨σ1,M1,e1,h1⟩:=t i _ σ M hx h
    obtain ⟨σ2,M2,e2,h2⟩:=zjA P hP t n (i + 1) (by omega) σ1 M1 h1
    refine ⟨σ2,M2,?_,h2⟩
    unfold forR
    rw [hM]
    simp only [hx]
    cases q:bd xs[i] σ M with
    | bad=>rw [q] at e1;cases e1
    | exn C fs M'=>rw [q] at e1;cases e1
    | ok σ3 M3=>
      rw [q] at e1
      replace e1:body σ3 M3 = .ok (.nx σ1) M1:=e1
      show (body σ3 M3).bind (zy (forR bd body a n (i + 1))) = _
      rw [e1]
      exact e2
end FT
namespace L2
open PySem PySem.Spec PySem.W PyProof.Rows
noncomputable def mxI (ns:List Int):Int:=ns.getD (argBest (fun i j=>decide (ns.getD i 0 > ns.getD j 0)) (ns.length - 1)) 0
noncomputable def mnI (ns:List Int):Int:=ns.getD (argBest (fun i j=>decide (ns.getD i 0 < ns.getD j 0)) (ns.length - 1)) 0
theorem zdx (bt:Nat->Nat->Bool):∀ k,argBest bt k<=k
  | 0=>Nat.le_refl _
  | k + 1=>by
    unfold argBest
    split
    · exact Nat.le_refl _
    · exact Nat.le_succ_of_le (zdx bt k)
theorem getD_mem {ns:List Int} {i:Nat} (h:i < ns.length):ns.getD i 0 ∈ ns:=by
  rw [List.getD_eq_getElem?_getD,List.getElem?_eq_getElem h]
  exact List.getElem_mem h
theorem mem_getD {ns:List Int} {x:Int} (h:x ∈ ns):∃ i,i < ns.length/\ns.getD i 0 = x:=by
  obtain ⟨i,hi,e⟩:=List.getElem_of_mem h
  exact ⟨i,hi,by rw [List.getD_eq_getElem?_getD,List.getElem?_eq_getElem hi];exact e⟩
theorem zgT (f:Nat->Int):∀ k j,j<=k->f j<=f (argBest (fun i j=>decide (f i > f j)) k)
  | 0,j,hj=>by rw [show j = 0 by omega];exact Int.le_refl _
  | k + 1,j,hj=>by
    have ih:=zgT f k
    unfold argBest
    by_cases hb:f (k + 1) > f (argBest (fun i j=>decide (f i > f j)) k)
    · rw [if_pos (decide_eq_true hb)]
      by_cases hj2:j<=k
      · exact Int.le_trans (ih j hj2) (Int.le_of_lt hb)
      · rw [show j = k + 1 by omega];exact Int.le_refl _
    · rw [if_neg (by simpa using hb)]
      by_cases hj2:j<=k
      · exact ih j hj2
      · rw [show j = k + 1 by omega];omega
theorem zgS (f:Nat->Int):∀ k j,j<=k->f (argBest (fun i j=>decide (f i < f j)) k)<=f j
  | 0,j,hj=>by rw [show j = 0 by omega];exact Int.le_refl _
  | k + 1,j,hj=>by
    have ih:=zgS f k
    unfold argBest
    by_cases hb:f (k + 1) < f (argBest (fun i j=>decide (f i < f j)) k)
    · rw [if_pos (decide_eq_true hb)]
      by_cases hj2:j<=k
      · exact Int.le_trans (Int.le_of_lt hb) (ih j hj2)
      · rw [show j = k + 1 by omega];exact Int.le_refl _
    · rw [if_neg (by simpa using hb)]
      by_cases hj2:j<=k
      · exact ih j hj2
      · rw [show j = k + 1 by omega];omega
theorem zkA {ns:List Int} (h:ns ≠ []):mnI ns ∈ ns:=getD_mem (by have:=zdx (fun i j=>decide (ns.getD i 0 < ns.getD j 0)) (ns.length - 1);have:=List.length_pos_iff.mpr h;omega)
theorem zoy {ns:List Int} {x:Int} (h:x ∈ ns):x<=mxI ns:=by
  obtain ⟨i,hi,e⟩:=mem_getD h
  rw [← e]
  exact zgT (fun i=>ns.getD i 0) (ns.length - 1) i (by omega)
theorem zlY {ns:List Int} {x:Int} (h:x ∈ ns):mnI ns<=x:=by
  obtain ⟨i,hi,e⟩:=mem_getD h
  rw [← e]
  exact zgS (fun i=>ns.getD i 0) (ns.length - 1) i (by omega)
theorem KV.get_val {κ:Type}:∀ {kvs:List (κ × V)} {vs:List (κ × Value)} {i:Nat} {k:κ} {v:Value},KV kvs vs->vs[i]? = some (k,v)->∃ u,(kvs.map (·.2))[i]? = some u/\RelV u v
  | _,_,_,_,_,.nil,e=>by simp at e
  | _,_,0,_,_,.cons r _,e=>by simp at e;subst e;exact ⟨_,rfl,r.2⟩
  | _,_,i + 1,k,v,.cons _ t,e=>by
    obtain ⟨u,h1,h2⟩:=KV.get_val (i:=i) (k:=k) (v:=v) t (by simpa using e)
    exact ⟨u,by simpa using h1,h2⟩
end L2
namespace L2
open PySem PySem.Spec PySem.W PyProof.Rows
section
variable {prog:Program} {w:World} {A:Around} {E:Value->Shared->Prop} {s:Shared}
theorem zeZ {q t:Addr} {i:Nat} {items:Array Value} {x:Value} {Q:Value->Shared->Prop} (hit:s.heap.IsTupleIter q t i) (ht:s.heap.IsTuple t items) (hx:items[i]? = some x)
    (hQ:∀ k,k.IsTupleIter q t (i + 1)->Heap.SameBut q s.heap k->Q x { s with heap:=k }):wpAny (model prog w) A (Builtin.SmallTypes.nextOf (.ref q)) Q E s:=by
  obtain ⟨o,ho,cc,dd⟩:=id hit
  obtain ⟨o2,ho2,_,n2,dd2⟩:=ht
  unfold Builtin.SmallTypes.nextOf
  refine wpAny_bind (wpAny_callSpecial?_slot (name:=Str.ofString "__next__") hit.typeIs PySem.F.slot_tuple_iterator_next (wpAny_call_entry PySem.F.slot_tuple_iterator_next hit.typeIs PySem.F.entry_tuple_iterator_next ?_ (PySem.F.args_tuple_iterator_next_1 _)))
  refine (show wpAny _ _ (field (.ref q) 0 >>= _) _ _ s from wpAny_bind (wpAny_field ho dd (x:=.ref t) rfl ?_))
  refine (show wpAny _ _ (if (Value.ref t == Value.none) = true then _ else _) _ _ s from ?_)
  rw [if_neg (show ¬ (Value.ref t == Value.none) = true from Bool.false_ne_true)]
  refine (show wpAny _ _ (field (.ref q) 1 >>= _) _ _ s from wpAny_bind (wpAny_field ho dd (x:=.int i 0) rfl ?_))
  refine (show wpAny _ _ (seqItems? (.ref t) >>= _) _ _ s from wpAny_bind (wpAny_seqItems ho2 dd2 ?_))
  simp only [hx,Int.toNat_natCast]
  refine wpAny_bind (wpAny_setField ho dd (by simp) (wpAny_pure ⟨_,rfl,wpAny_pure (hQ _ ⟨_,Heap.get?_update_self _ ho (Obj.isFreed_of_fields (Obj.data_mapFields dd _)),(Obj.cls_mapFields ..).trans cc,?_⟩ (Heap.SameBut.update ..))⟩))
  rw [Obj.data_mapFields dd]
  simp [rawInt]
theorem zcw {q t:Addr} {i:Nat} {items:Array Value} {Q:Value->Shared->Prop} (hh:A.handled = none) (hit:s.heap.IsTupleIter q t i) (ht:s.heap.IsTuple t items) (hx:items[i]? = none)
    (hE:∀ k e,Heap.ExtBut q s.heap k->(∃ o,k.get? e = some o/\o.cls = .type "StopIteration")->E (.ref e) { s with heap:=k }):wpAny (model prog w) A (Builtin.SmallTypes.nextOf (.ref q)) Q E s:=by
  obtain ⟨o,ho,cc,dd⟩:=id hit
  obtain ⟨o2,ho2,_,n2,dd2⟩:=ht
  unfold Builtin.SmallTypes.nextOf
  refine wpAny_bind (wpAny_callSpecial?_slot (name:=Str.ofString "__next__") hit.typeIs PySem.F.slot_tuple_iterator_next (wpAny_call_entry PySem.F.slot_tuple_iterator_next hit.typeIs PySem.F.entry_tuple_iterator_next ?_ (PySem.F.args_tuple_iterator_next_1 _)))
  refine (show wpAny _ _ (field (.ref q) 0 >>= _) _ _ s from wpAny_bind (wpAny_field ho dd (x:=.ref t) rfl ?_))
  refine (show wpAny _ _ (if (Value.ref t == Value.none) = true then _ else _) _ _ s from ?_)
  rw [if_neg (show ¬ (Value.ref t == Value.none) = true from Bool.false_ne_true)]
  refine (show wpAny _ _ (field (.ref q) 1 >>= _) _ _ s from wpAny_bind (wpAny_field ho dd (x:=.int i 0) rfl ?_))
  refine (show wpAny _ _ (seqItems? (.ref t) >>= _) _ _ s from wpAny_bind (wpAny_seqItems ho2 dd2 ?_))
  simp only [hx,Int.toNat_natCast]
  refine wpAny_bind (wpAny_rule (wpAny_bind (wpAny_setField ho dd (by simp) ?_)))
  refine (show wpAny _ _ (newExc (.type "StopIteration") [] >>= _) _ _ _ from wpAny_bind ?_)
  simp only [newTuple,newExc]
  refine wpAny_bind (wpAny_newObj_type (wpAny_bind (m:=firstArgMember _ _) (wpAny_of_eq (a:=Value.none) (by first | rfl | (simp only [firstArgMember];rfl)) (wpAny_newObj_type ?_ (by size_fits)))) (by size_fits))
  simp only [raiseNew]
  refine wpAny_bind (wpAny_handled ?_)
  first | rw [show A.in1.handled = none from hh] | rw [hh]
  exact wpAny_bind (wpAny_pure (wpAny_throw (hE _ _ (((Heap.SameBut.update ..).extBut.push _).push _) ⟨_,Heap.get?_push_size _ rfl,rfl⟩)))
theorem zgh (hh:A.handled = none) (q t:Addr) (hne:t ≠ q) (items:Array Value):Draws prog w A q [q,t] items.size (fun i v=>items[i]? = some v) (fun i h=>h.IsTupleIter q t i/\h.IsTuple t items) where
  live:=fun _ _ st=>let ⟨o,ho,_⟩:=st.1;⟨o,ho⟩
  frame:=fun _ _ _ st hk=>⟨st.1.at fun o e=>hk q (by simp) o e,let ⟨o,ho,r⟩:=st.2;⟨o,hk t (by simp) o ho,r⟩⟩
  item:=fun i s Q E hi st hQ=>zeZ st.1 st.2 (x:=items[i]) (by simp [hi]) fun k a b=>hQ _ k s.toks (by simp [hi]) ⟨a,let ⟨o,ho,r⟩:=st.2;⟨o,(b.2 t hne).trans ho,r⟩⟩ b
  done:=fun s Q E st hE=>zcw hh st.1 st.2 (by simp) hE
end
end L2
namespace L2
open PySem PySem.Spec PySem.W PyProof.Rows
noncomputable abbrev zeM (l:Addr):Obj:={ cls:=.type "tuple_iterator",data:=.fields #[.ref l,.int 0 0] }
noncomputable abbrev zjP (q:Addr):Obj:={ cls:=.type "enumerate",data:=.fields #[.none,.bool false,.ref q,rawInt 0,.none,.none] }
theorem zgd (l:Addr) (items:Array Value):Meets (Builtin.«enumerate.__new__» ⟨[.type "enumerate",.ref l],[]⟩) (fun _ R s=>s.heap.IsTuple l items/\R (.ok (.ret (.ref (s.heap.push (zeM l)).objs.size))) { s with heap:=(s.heap.push (zeM l)).push (zjP s.heap.objs.size) }):=
  .of_wp fun prog w A R s h=>by
    obtain ⟨hp,g,d,tk,os⟩:=s
    obtain ⟨ht,h⟩:=h
    have se:=sub_enumerate
    obtain ⟨⟨cl,di,da,sl⟩,ho,hc,n,hd⟩:=id ht
    simp only at hc hd
    subst hc hd
    wp_walk using AutoSeq1.wpAny_loadPart' ho
    refine wpAny_stack_any fun st=>wpAny_pure ?_
    split
    · rename_i c _ _ _ _ _
      cases (c == Value.type "enumerate") <;> (wp_walk using AutoSeq1.wpAny_loadPart' ho,wpAny_pyIter_tuple ht;exact ⟨_,rfl,h⟩)
    · wp_walk using AutoSeq1.wpAny_loadPart' ho,wpAny_pyIter_tuple ht
      exact ⟨_,rfl,h⟩
section
variable {prog:Program} {w:World} {A:Around} {E:Value->Shared->Prop} {s:Shared}
theorem zhH {l:Addr} {items:Array Value} {Q:Value->Shared->Prop} (hl:s.heap.IsTuple l items)
    (h:∀ k,IsEnum k (s.heap.objs.size + 1) s.heap.objs.size 0 .none->k.IsTupleIter s.heap.objs.size l 0->k.objs.size = s.heap.objs.size + 2->(∀ b o,s.heap.get? b = some o->k.get? b = some o)->Q (.ref (s.heap.objs.size + 1)) { s with heap:=k }) :
    wpAny (model prog w) A (call (.type "enumerate") [.ref l]) Q E s:=by
  have hz:(s.heap.push (zeM l)).objs.size = s.heap.objs.size + 1:=Heap.size_push ..
  have he:IsEnum ((s.heap.push (zeM l)).push (zjP s.heap.objs.size)) (s.heap.objs.size + 1) s.heap.objs.size 0 .none:=by
    rw [← hz];exact Heap.get?_push_size _ rfl
  refine callType_new PySem.F.called_enumerate (by decide) (PySem.F.typeCall_enumerate_1 _) (PySem.F.newCall_enumerate_1 _) (fun obj=>PySem.F.args_object_init_2 obj _) PySem.F.entry_enumerate_new (zgd l items) ⟨hl,?_⟩
  show _/\_
  rw [hz]
  exact ⟨⟨_,he,rfl⟩,h _ he ⟨_,Heap.get?_push_of_some _ (Heap.get?_push_size _ rfl),rfl,rfl⟩ (by rw [Heap.size_push,hz]) fun b o e=>Heap.get?_push_of_some _ (Heap.get?_push_of_some _ e)⟩
end
end L2
namespace L2
open PySem PySem.Spec PySem.W PyProof.Rows
section
variable {X:Cx} {pins:List (Addr × Obj)} {σ:St} {H:Hp} {s:Shared} {h':Heap}
theorem Inv.turned2 {t':Nat} {e it:Addr} (I:Inv X pins σ H s) (k:∀ b o,b ≠ e->b ≠ it->s.heap.get? b = some o->h'.get? b = some o) (fe:zbC X pins H e) (fi:zbC X pins H it):Inv X pins σ H { s with heap:=h',toks:=t' }:=by
  have ne:∀ b u,H b = some u->b ≠ e:=fun b u q z=>by rw [z,fe.1] at q;cases q
  have ni:∀ b u,H b = some u->b ≠ it:=fun b u q z=>by rw [z,fi.1] at q;cases q
  have kk:∀ b o,b ∉ [e,it]->s.heap.get? b = some o->h'.get? b = some o:=fun b o hc q=>k b o (fun z=>hc (by simp [z])) (fun z=>hc (by simp [z])) q
  refine I.step (g':=s.gens) (d':=s.drawn) (ch:=[e,it]) (fun b hb=>?_) (fun b o _ _ hc q _=>kk b o hc q) (fun b o _ _ hc q _=>⟨o.slots,kk b o hc q⟩) (fun _ _ _ _ n=>n)
    (fun b o hc q=>⟨o,kk b o hc q⟩) (fun _ _ q=>q) (fun _ _ _ q=>q) (fun b ps q=>⟨#[],by rw [q];simp⟩) (fun m hm=>?_) (fun b u q=>?_) I.bare
  · rcases List.mem_cons.mp hb with z | z
    · subst z;exact ⟨fe.2.2.2.1,fe.2.1,fe.2.2.2.2.1,fe.2.2.2.2.2⟩
    · have z:=List.mem_singleton.mp z
      subst z;exact ⟨fi.2.2.2.1,fi.2.1,fi.2.2.2.2.1,fi.2.2.2.2.2⟩
  · obtain ⟨o,es,ep,ho,r⟩:=hm
    exact ⟨o,es,ep,k _ o (Ne.symm fe.2.1) (Ne.symm fi.2.1) ho,r⟩
  · refine (I.hok b u q).stay (fun c v hc z=>k c v ?_ ?_ z) (fun _ z=>z) fun _ _ z=>z
    · rcases hc with z | z
      · rw [z];exact ne b u q
      · exact ne c _ z
    · rcases hc with z | z
      · rw [z];exact ni b u q
      · exact ni c _ z
end
noncomputable def Ite (K:PySem.W.Frag) (a:Addr):It:=
  ⟨fun i H=>∃ xs x,SqT K H a xs/\xs[i]? = some x,fun i H y H'=>∃ p x,H p = none/\y = .ref p/\H' = upd H p (.tup [.int (i:Int),x])/\∀ xs,SqT K H a xs->xs[i]? = some x,fun i H=>∃ xs,SqT K H a xs/\xs.length<=i⟩
theorem zg4 {P:Program} {w:World} {K:PySem.W.Frag} {elts:List Expr} {x1} {pos:Pos} (a e it:Addr) (hne:e ≠ it) (hae:a ≠ e) (hai:a ≠ it) :
    Turn P w K (.Tuple elts x1 pos) (Ite K a) [e,it] e (fun i h=>(∃ old,IsEnum h e it i old)/\h.IsTupleIter it a i) where
  mem:=by simp
  obj:=fun i h st b hb=>by
    rcases List.mem_cons.mp hb with z | z
    · subst z
      obtain ⟨old,q⟩:=st.1
      exact ⟨_,q,fun v z=>by cases z⟩
    · have z:=List.mem_singleton.mp z
      subst z
      obtain ⟨o,q,c,d⟩:=st.2
      exact ⟨o,q,fun v z=>by rw [d] at z;cases z⟩
  keep:=fun i h k st kk=>⟨let ⟨old,q⟩:=st.1;⟨old,kk e (by simp) _ q⟩,st.2.at fun o q=>kk it (by simp) o q⟩
  item:=by
    intro X hP hw hK hc i pins s σ H E I hf st hg
    subst hP hw hK
    obtain ⟨xs,x,hq,hx⟩:=hg
    obtain ⟨its,rv,p,hz⟩:=I.tuple hq
    obtain ⟨u,hu,ru⟩:=rv.get hx
    obtain ⟨⟨old,he⟩,hi⟩:=st
    have hl:i < its.toArray.size:=by simpa using (List.getElem?_eq_some_iff.mp hu).1
    have D:=zgh (prog:=X.prog) (w:=X.w) (A:=X.A.in1) (by exact I.ok.hd hc) it a hai its.toArray
    refine wpAny_pyNext_enum_itemD D he ⟨hi,show s.heap.IsTuple a its.toArray from p⟩ hl hne (by simp [hne,Ne.symm hae]) fun y k tk hy out st' htup hsz hk=>?_
    have hy':y = u:=by
      have:its[i]? = some y:=by simpa using hy
      rw [hu] at this
      exact (Option.some.inj this).symm
    subst hy'
    refine ⟨.ref s.heap.objs.size,rfl,wpAny_letOwnedTupleGo_enum (s:={ s with heap:=k,toks:=tk + 1 }) out fun k2 en2 sb=>?_⟩
    have fe:=hf e (by simp)
    have fi:=hf it (by simp)
    have eS:e ≠ s.heap.objs.size:=Nat.ne_of_lt (Heap.lt_size he)
    have iS:it ≠ s.heap.objs.size:=by
      obtain ⟨o,q,_⟩:=hi
      exact Nat.ne_of_lt (Heap.lt_size q)
    have IA:=I.laid (h':=s.heap.push { cls:=.type "tuple",data:=.seq #[.int i tk,y] }) (t':=tk + 1) (a:=s.heap.objs.size) (o:=.tup [.int (i:Int),x]) (fun b o q=>Heap.get?_push_of_some _ q) (Nat.le_refl _) (show ObjOk X.prog X.w _ _ _ (.tup [.int (i:Int),x]) from ⟨by show 2<=sizeLine;rw [sizeLine_eq];omega,[.int i tk,y],.cons ⟨tk,rfl⟩ (.cons ru .nil),by have:=IsTup.new s.heap #[.int i tk,y];simpa using this,NoDict.new⟩)
    have up:∀ b,b ≠ s.heap.objs.size->(upd H s.heap.objs.size (.tup [.int (i:Int),x])) b = H b:=fun b hb=>if_neg hb
    have IB:=IA.turned2 (t':=tk + 1) (h':=k2) (e:=e) (it:=it) (fun b o hbe hbi q=>by
      rcases Heap.get?_push_cases q with ⟨z1,z2⟩ | q
      · subst z1;subst z2
        exact (sb.2 _ (Ne.symm eS)).trans htup
      · exact (sb.2 b hbe).trans (hk b o hbe hbi q)) ⟨by rw [up e eS];exact fe.1,fe.2⟩ ⟨by rw [up it iS];exact fi.1,fi.2⟩
    refine ⟨.ref s.heap.objs.size,_,IB,rfl,⟨s.heap.objs.size,x,I.hok.fresh (Nat.le_refl _),rfl,rfl,fun ys hys=>by rw [I.tuple_inj hys hq];exact hx⟩,⟨⟨_,by push_cast at en2 ⊢;exact en2⟩,?_⟩,fun b hb=>?_⟩
    · obtain ⟨o,q,r⟩:=st'.1
      exact ⟨o,(sb.2 it (Ne.symm hne)).trans q,r⟩
    · rcases List.mem_cons.mp hb with z | z
      · subst z;rw [up _ eS];exact fe.1
      · have z:=List.mem_singleton.mp z
        subst z;rw [up _ iS];exact fi.1
  done:=by
    intro X hP hw hK hc i pins s σ H E I hf st hg
    subst hP hw hK
    obtain ⟨xs,hq,hx⟩:=hg
    obtain ⟨its,rv,p,hz⟩:=I.tuple hq
    obtain ⟨⟨old,he⟩,hi⟩:=st
    obtain ⟨f0,f1,f2,f3,f4,f5⟩:=hf it (by simp)
    have hl:=rv.length
    have D:Draws X.prog X.w X.A.in1 it [it,a] i (fun _ _=>True) (fun j h=>j = i/\h.IsTupleIter it a i/\h.IsTuple a its.toArray):={
      live:=fun _ _ st=>let ⟨o,ho,_⟩:=st.2.1;⟨o,ho⟩
      frame:=fun _ _ _ st hk=>⟨st.1,st.2.1.at fun o q=>hk it (by simp) o q,let ⟨o,ho,r⟩:=st.2.2;⟨o,hk a (by simp) o ho,r⟩⟩
      item:=fun j s Q E hj st hQ=>absurd st.1 (Nat.ne_of_lt hj)
      done:=fun s Q E st hE=>zcw (by exact I.ok.hd hc) st.2.1 st.2.2 (by simp;omega) hE }
    exact wpAny_pyNext_enum_endD D he ⟨rfl,hi,show s.heap.IsTuple a its.toArray from p⟩ fun k eb=>⟨rfl,I.turned (t':=s.toks) (fun b o hb q=>eb b o hb q) f0 f1 f3 f4 f5⟩
  self:=fun _ _ _ _ _ st h=>let ⟨_,q⟩:=st.1;wpAny_pyIter_enum q h
section
variable {X:Cx}
noncomputable def zn6 (K:PySem.W.Frag) (tl:TE):TI:=fun σ H R=>tl σ H fun x H1=>∃ a,x = .ref a/\(∃ xs,SqT K H1 a xs)/\R (Ite K a) H1
theorem zja {l:Expr} {tl:TE} {elts:List Expr} {x1} {tp p pos:Pos} (hg:Gl X "enumerate") (hm:X.mg "enumerate" = none) (hl:PE X l tl) (hs:starEach [l] X.env = [(false,eval l X.env)]:=by rfl) :
    PI X (.Tuple elts x1 tp) (.Call (.Name "enumerate" p) [l] [] pos) (zn6 X.K tl):=by
  intro pins s σ H R I h
  refine Call_ (za9 I hg hm (show bootBuiltins "enumerate" = some (.type "enumerate") by decide +kernel) (PyProof.Rows.callWith_type1 ?_ hs rfl))
  rw [hs]
  refine Calls.spliced_cons (thn (hl pins s σ H _ I h) fun v s1 ⟨x,H1,I1,r1,q1⟩=>Calls.spliced_nil ?_)
  obtain ⟨a,e,⟨xs,hq⟩,q⟩:=q1
  subst e
  cases r1
  obtain ⟨its,rv,pt,hz⟩:=I1.tuple hq
  have ha:a < s1.heap.objs.size:=by
    obtain ⟨o,ho,_⟩:=pt
    exact Heap.lt_size ho
  refine zhH (show s1.heap.IsTuple a its.toArray from pt) fun k en ti hsz hk=>?_
  refine wpAny_pyIter_enum en ?_
  refine ⟨s1.heap.objs.size + 1,[s1.heap.objs.size + 1,s1.heap.objs.size],_,_,H1,rfl,I1.kept (t':=s1.toks) hk,zg4 a _ _ (Nat.ne_of_gt (Nat.lt_succ_self _)) (Nat.ne_of_lt (Nat.lt_succ_of_lt ha)) (Nat.ne_of_lt ha),⟨⟨_,en⟩,ti⟩,fun b hb=>?_,q⟩
  rcases List.mem_cons.mp hb with z | z
  · subst z;exact I1.fpOk (Nat.le_succ _) (I1.hok.fresh (Nat.le_succ _))
  · have z:=List.mem_singleton.mp z
    subst z;exact I1.fpOk (Nat.le_refl _) (I1.hok.fresh (Nat.le_refl _))
end
end L2
namespace FT
open PySem PySem.Spec PyProof.Rows L2
noncomputable def enT (ts:List T):List T:=ts.mapIdx fun i t=>.tup [.int (i:Int),t]
end FT
namespace FT
open PySem PySem.Spec PyProof.Rows L2
noncomputable def rpL (xs:List T) (y:T) (M:Mem):Out (List T):=match y with
  | .int k=>@ite _ ((-(2 ^ 63)<=k/\k < 2 ^ 63)/\xs.length * k.toNat<=sizeLine) (Classical.propDecidable _) (.ok (List.replicate k.toNat xs).flatten M) .bad
  | _=>.bad
noncomputable def zhq (f:Ev->Mem->Out (List T)) (g:Ev->Mem->Out T):Ev->Mem->Out (List T):=fun σ M=>(f σ M).bind fun xs M1=>(g σ M1).bind fun y M2=>rpL xs y M2
section
variable {X:Cx} {XE:XK}
theorem zmw {a b:Expr} {f:Ev->Mem->Out (List T)} {g:Ev->Mem->Out T} {pos:Pos} (ha:GL X XE a f) (hb:GE X XE b g):GL X XE (.BinOp a .Mult b pos) (zhq f g):=PE.imp (zhj zlO ha hb) fun σ H Q h9=>by
  obtain ⟨S,στ,e,m,ev,fin⟩:=h9
  replace fin:FinL XE X.K S ((f στ S.M).bind fun xs M1=>(g στ M1).bind fun y M2=>rpL xs y M2) Q:=fin
  refine ⟨S,στ,e,m,ev,?_⟩
  show FinL XE X.K S (f στ S.M) _
  cases q:f στ S.M with
  | bad=>rw [q] at fin;exact fin
  | exn C fs M'=>rw [q] at fin;exact fin
  | ok xs M1=>
    rw [q] at fin
    intro S1 p vs e1 s1 hn hp hv rs
    refine ⟨S1,στ,(),rfl,s1.mok,Mo.mo m s1 ev,trivial,?_⟩
    show Fin XE (Rep X.K) X.K S1 (g στ S1.M) _
    replace fin:FinL XE X.K S ((g στ M1).bind fun y M2=>rpL xs y M2) Q:=fin
    rw [e1]
    cases q2:g στ M1 with
    | bad=>rw [q2] at fin;exact fin
    | exn C fs M'=>
      rw [q2] at fin
      exact fun S2 od e2 s2 x=>fin S2 od e2 (s1.trans s2) x
    | ok y M2=>
      rw [q2] at fin
      intro S2 w e2 s2 r2
      replace fin:FinL XE X.K S (rpL xs y M2) Q:=fin
      unfold rpL at fin
      split at fin
      · rename_i k
        split at fin
        · rename_i hk
          cases r2
          obtain ⟨hp2,hv2⟩:=s2.hk p hp
          rw [hv] at hv2
          have rs2:=rs.grow s1.mok s2.toGrow
          refine ⟨p,k,vs,rfl,rfl,hv2,hk.1.1,hk.1.2,by rw [← rs.1];exact hk.2,fun l hl=>?_⟩
          have s3:=Stp.hide s2.mok hl (List.replicate k.toNat vs).flatten
          exact (fin.later (s1.trans s2)) (S2.hide l (List.replicate k.toNat vs).flatten) l _ e2 s3 hl (.head _) qf ((rs2.rep _).grow s2.mok s3.toGrow)
        · exact fin.elim
      · exact fin.elim
end
end FT
namespace L2
open PySem PySem.Spec PySem.W PyProof.Rows PySem.Calls
section
variable {prog:Program} {w:World} {A:Around} {E:Value->Shared->Prop} {s:Shared} {T:String} {r d:Addr} {n:Nat} {P:Nat->Value->Prop} {OK:Heap->Prop}
theorem zhB {R:List Value->Shared->Prop} (K:KdlSrc prog w T r d n P OK) (hh:A.handled = none) (hok:OK s.heap) (hn:n<=sizeLine)
    (go:∀ (g:Heap) (tk:Nat) (acc:Array Value),(∀ b o,s.heap.get? b = some o->g.get? b = some o)->s.heap.objs.size<=g.objs.size->ItemsOf P acc n->R acc.toList { s with heap:=g,toks:=tk }) :
    wpAny (model prog w) A (collect (.ref r)) R E s:=by
  have lt2:=K.there _ hok
  unfold collect
  refine wpAny_bind (wpAny_runValue (codeAny_builtin entry_proto_collect' (?go)))
  case go=>
    rw [Around.under_plainId PySem.F.plain_proto_collect _];show wpAny _ A.in1 (newList [] >>= fun l=>again (.builtin "list.__iadd__" ⟨[l,.ref r],[]⟩)) _ _ s;refine wpAny_bind (wpAny_newObj_type (wpAny_pure ⟨plainId_quiet PySem.F.plain_list_iadd _,codeAny_builtin entry_list_iadd' (?_)⟩))
    rw [Around.under_plainId PySem.F.plain_list_iadd _];show wpAny _ A.in1 (Builtin.List.listExtendWith (.ref s.heap.objs.size) (.ref r) (.ref s.heap.objs.size)) _ _ _
    have at0:(s.heap.push { cls:=.type "list",data:=.seq ([]:List Value).toArray }).get? s.heap.objs.size = some { cls:=.type "list",data:=.seq #[] }:=Heap.get?_push_size _ rfl
    have ext:=kdl_extend (A:=A) (s:={ s with heap:=s.heap.push { cls:=.type "list",data:=.seq ([]:List Value).toArray } }) (R:=fun (q:Result) (s':Shared)=>∃ (g:Heap) (tk:Nat) (acc:Array Value) (c:Nat),q = .ok (.ret (.ref s.heap.objs.size))/\s' = { s with heap:=g,toks:=tk }/\(∀ b o,s.heap.get? b = some o->g.get? b = some o)/\g.get? s.heap.objs.size = some { cls:=.type "list",dict:=none,data:=.seq acc c,slots:=#[] }/\ItemsOf P acc n) K hh (K.keep _ _ hok fun b _ o e=>Heap.get?_push_of_some _ e) s.heap.objs.size (Nat.ne_of_gt lt2.1) (Nat.ne_of_gt lt2.2) (.ref s.heap.objs.size) 0 at0 (fun g tk acc c hk hS hacc=>⟨g,tk,acc,c,rfl,rfl,fun b o e=>hk b o (Nat.ne_of_lt (Heap.lt_size e)) (Heap.get?_push_of_some _ e),hS,hacc⟩) hn
    refine wpAny_mono ext (fun fin s' x=>?_) fun e s' x=>(by obtain ⟨_,_,_,_,e',_⟩:=x;cases e')
    cases fin with
    | done f=>
      obtain ⟨g,tk,acc,c,e,rfl,hk,hS,hacc⟩:=x;cases e
      show wpAny _ A (load s.heap.objs.size >>= _) _ _ _;exact wpAny_bind (wpAny_load hS (wpAny_pure (go g tk acc hk (Nat.le_of_lt (Heap.lt_size hS)) hacc)))
    | again c₁=>
      refine ⟨x.1,codeAny_mono x.2 fun q s₂ y=>?_⟩;obtain ⟨g,tk,acc,c,rfl,rfl,hk,hS,hacc⟩:=y
      show wpAny _ A (load s.heap.objs.size >>= _) _ _ _;exact wpAny_bind (wpAny_load hS (wpAny_pure (go g tk acc hk (Nat.le_of_lt (Heap.lt_size hS)) hacc)))
end
end L2
namespace L2
open PySem PySem.Spec PySem.W PyProof.Rows
section
variable {X:Cx} {pins:List (Addr × Obj)} {σ:St} {H:Hp} {s:Shared} {l:Addr} {us:List (Key × V)}
theorem Inv.freeze (I:Inv X pins σ H s) (e:H l = some (.dK us)):∃ ob,Inv X pins σ (upd H l (.frz ob (.dK us))) s:=by
  obtain ⟨z,hs,vs,rel,o,es,ep,ho,r⟩:=(show ObjOk X.prog X.w H s.heap l (.dK us) from I.hok l _ e)
  exact ⟨o,I.write (x:=l) (e:=l) (o:=.frz o (.dK us)) (h':=s.heap) (t':=s.toks) (by rw [e];trivial) (.inl rfl) (fun b u _ q=>q) ⟨o,ho⟩ ⟨ho,z,hs,vs,rel,o,es,ep,ho,r⟩⟩
end
noncomputable def zmJ (Q:VK):VK:=fun v H'=>∃ l us,v = .ref l/\H' l = some (.dK us)/\∀ ob,Q v (upd H' l (.frz ob (.dK us)))
theorem CallR.frz {X:Cx} {f:Value} {r:List V->Hp->VK->Prop} (h:CallR X f r):CallR X f (fun xs H Q=>r xs H (zmJ Q)):=by
  intro pins s σ H xs us Q I rv hr
  refine wpAny_mono (h pins s σ H xs us _ I rv hr) (fun v s' ⟨x,H',I',r',l,us',ex,e,q⟩=>?_) fun _ _ z=>z
  obtain ⟨ob,I2⟩:=I'.freeze e
  exact ⟨x,_,I2,r',q ob⟩
end L2
namespace FT
open PySem PySem.Spec PyProof.Rows L2
section
variable {X:Cx} {XE:XK}
theorem zgK {K:PySem.W.Frag} {S:Sit} {l:Addr} {us:List (Key × V)} {kvs:List (Key × T)} {Q:VK} (m:MemOk K S) (hl:S.H l = none) (rk:RepK K S kvs us) (fin:Fin XE (Rep K) K S (.ok (.dct kvs) S.M) Q):zmJ Q (.ref l) (upd S.H l (.dK us)):=by
  refine ⟨l,us,rfl,qf,fun ob=>?_⟩
  rw [zj1]
  have s1:=Stp.new m hl (.frz ob (.dK us))
  exact fin ⟨S.α,S.M,upd S.H l (.frz ob (.dK us)),S.hid⟩ (.ref l) rfl s1 (.dct qf rk.1 (rk.2.grow m s1.toGrow).2)
noncomputable def zcp:T->Mem->Out T:=fun t M=>match t with
  | .tup xs=>match zbO xs with
    | some prs=>.ok (.dct (zbd [] prs)) M
    | none=>.bad
  | _=>match yu t M with
    | some xs=>match zbO xs with
      | some prs=>.ok (.dct (zbd [] prs)) M
      | none=>.bad
    | none=>.bad
theorem zdt (hc:X.calm = true):CallR X (.type "dict") (lRN XE X.K (zq zcp)):=zaF fun pins s σ S t x v Q I rx m r fin=>by
  unfold zcp at fin
  split at fin
  · rename_i xs
    split at fin
    · rename_i prs qp
      obtain ⟨p,ws,rfl,hq,rs2⟩:∃ p ws,x = .ref p/\SqT X.K S.H p ws/\Reps X.K S xs ws:=by
        cases r with | @tup _ p ws h l rr=>exact ⟨p,ws,rfl,h,l,rr⟩
      obtain ⟨us,k1,k2,k3⟩:=zcM qp rs2
      exact (zgk hc).frz pins s σ S.H _ _ Q I (.cons rx .nil) ⟨p,ws,us,rfl,hq,k2,k3,fun l hl=>zgK m hl (RepK.merge k1 .nil) fin⟩
    · exact fin.elim
  · split at fin
    · rename_i xs q
      split at fin
      · rename_i prs qp
        obtain ⟨p,ws,rfl,hq,rs2⟩:=zo m r q
        obtain ⟨us,k1,k2,k3⟩:=zcM qp rs2
        exact (zhJ hc).frz pins s σ S.H _ _ Q I (.cons rx .nil) ⟨p,ws,us,rfl,hq,k2,k3,fun l hl=>zgK m hl (RepK.merge k1 .nil) fin⟩
      · exact fin.elim
    · exact fin.elim
end
end FT
namespace FT
open PySem PySem.Spec PyProof.Rows L2
noncomputable def zi5 (f:Str) (v:T):List (Str × T)->List (Str × T)
  | []=>[(f,v)]
  | (g,x) :: r=>if g = f then (g,v) :: r else (g,x) :: zi5 f v r
section
variable {K:PySem.W.Frag} {S:Sit}
theorem RepF.nil:RepF K S [] []:=⟨rfl,.nil⟩
theorem RepF.nilT {us:List (Str × V)} (r:RepF K S [] us):us = []:=by
  have:=r.1
  simpa using this.symm
theorem RepF.consT {p:Str × T} {fs:List (Str × T)} {us:List (Str × V)} (r:RepF K S (p :: fs) us):∃ u us',us = (p.1,u) :: us'/\Rep K S p.2 u/\RepF K S fs us':=by
  cases us with
  | nil=>have:=r.1;simp at this
  | cons q us'=>
    have h1:=r.1
    simp only [List.map_cons,List.cons.injEq] at h1
    obtain ⟨v,vs,e,r1,r2⟩:=(show Reps K S (p.2 :: fs.map (·.2)) (q.2 :: us'.map (·.2)) from r.2).consT
    cases e
    exact ⟨q.2,us',by rw [h1.1],r1,h1.2,r2⟩
theorem RepF.cons {g:Str} {t:T} {u:V} {fs:List (Str × T)} {us:List (Str × V)} (q:Rep K S t u) (r:RepF K S fs us):RepF K S ((g,t) :: fs) ((g,u) :: us):=⟨by simp [r.1],r.2.cons q⟩
theorem RepF.look (f:Str):∀ {fs:List (Str × T)} {us:List (Str × V)},RepF K S fs us->∀ {t:T},fs.lookup f = some t->∃ v,us.lookup f = some v/\Rep K S t v
  | [],us,r,t,e=>by cases e
  | (g,x) :: fs,us,r,t,e=>by
    obtain ⟨u,us',rfl,r1,r2⟩:=r.consT
    rw [List.lookup_cons] at e ⊢
    cases h:f == g with
    | true=>rw [h] at e;cases e;exact ⟨u,rfl,r1⟩
    | false=>rw [h] at e;exact RepF.look f r2 e
theorem RepF.put (f:Str) {t:T} {v:V} (q:Rep K S t v):∀ {fs:List (Str × T)} {us:List (Str × V)},RepF K S fs us->RepF K S (zi5 f t fs) (zi6 f v us)
  | [],us,r=>by rw [r.nilT];exact RepF.cons q .nil
  | (g,x) :: fs,us,r=>by
    obtain ⟨u,us',rfl,r1,r2⟩:=r.consT
    unfold zi5 zi6
    by_cases h:g = f
    · rw [if_pos h,if_pos h];exact RepF.cons q r2
    · rw [if_neg h,if_neg h];exact RepF.cons r1 (RepF.put f q r2)
end
noncomputable def zoU (Cs:List Addr) (f:Str) (x:T) (M:Mem):Out T:=match x with
  | .ref a=>match M[a]? with
    | some (.ins C fs)=>if C ∈ Cs then zcN (fs.lookup f) M else .bad
    | _=>.bad
  | _=>.bad
structure MakT (P:Program) (w:World) (K:PySem.W.Frag) (mg:Str->Option Value) (base:Heap) (k:Nat) (x:Str) (C:Addr) (ps:List Str) (f:List T->Mem->Out T):Prop where
  ex:∃ (fI:Addr) (fd:FuncData),Mk K C fI/\FnOk P w K mg base CX0 k fI fd ps (spT K f)/\Binds K fd ps []/\mg x = some (.ref C)
  nox:∀ ts M C fs M',f ts M ≠ .exn C fs M'
structure Di (K:PySem.W.Frag) (mg:Str->Option Value) (x qual:Str) (C:Addr) (st:Stmt) (ps:List Str):Prop where
  ex:∃ (fI:Addr) (fd:FuncData),Mk K C fI/\Fun K "__init__" qual st fI fd/\Binds K fd ps []/\mg x = some (.ref C)
end FT
namespace FT
open PySem PySem.Spec PyProof.Rows L2
noncomputable def zd1 (K:PySem.W.Frag) (x:Str):Addr:=match PySem.W.nsIn K mainGlobals x with
  | some (some (.ref a))=>a
  | _=>0
theorem zk5 {K:PySem.W.Frag} {x:Str} {C:Addr} (a:PySem.W.nsIn K mainGlobals x = some (some (.ref C))):zd1 K x = C:=by
  unfold zd1
  rw [a]
end FT
namespace L2
open PySem PySem.Spec PySem.W PyProof.Rows
section
variable {prog:Program} {w:World} {A:Around} {E:Value->Shared->Prop} {s:Shared}
theorem zgi (hh:A.handled = none) (q t:Addr) (hne:t ≠ q) (items:Array Value):Draws prog w A q [q,t] items.size (fun i v=>items[i]? = some v) (fun i h=>h.IsListIter q t i/\h.IsList t items) where
  live:=fun _ _ st=>let ⟨o,ho,_⟩:=st.1;⟨o,ho⟩
  frame:=fun _ _ _ st hk=>⟨st.1.at fun o e=>hk q (by simp) o e,let ⟨o,ho,r⟩:=st.2;⟨o,hk t (by simp) o ho,r⟩⟩
  item:=fun i s Q E hi st hQ=>wpAny_nextOf_list_item st.1 st.2 (x:=items[i]) (by simp [hi]) fun k a b=>hQ _ k s.toks (by simp [hi]) ⟨a,let ⟨o,ho,r⟩:=st.2;⟨o,(b.2 t hne).trans ho,r⟩⟩ b
  done:=fun s Q E st hE=>wpAny_nextOf_list_end hh st.1 st.2 (by simp) hE
end
section
variable {prog:Program} {w:World} {A:Around} {E:Value->Shared->Prop} {s:Shared}
theorem zhI {l:Addr} {items:Array Value} {Q:Value->Shared->Prop} (hl:s.heap.IsList l items)
    (h:∀ k,IsEnum k (s.heap.objs.size + 1) s.heap.objs.size 0 .none->k.IsListIter s.heap.objs.size l 0->k.objs.size = s.heap.objs.size + 2->(∀ b o,s.heap.get? b = some o->k.get? b = some o)->Q (.ref (s.heap.objs.size + 1)) { s with heap:=k }) :
    wpAny (model prog w) A (call (.type "enumerate") [.ref l]) Q E s:=call_enumerate_list hl h
end
noncomputable def ItL (K:PySem.W.Frag) (a:Addr):It:=
  ⟨fun i H=>∃ xs x,SqL K H a xs/\xs[i]? = some x,fun i H y H'=>∃ p x,H p = none/\y = .ref p/\H' = upd H p (.tup [.int (i:Int),x])/\∀ xs,SqL K H a xs->xs[i]? = some x,fun i H=>∃ xs,SqL K H a xs/\xs.length<=i⟩
theorem zg5 {P:Program} {w:World} {K:PySem.W.Frag} {elts:List Expr} {x1} {pos:Pos} (a e it:Addr) (hne:e ≠ it) (hae:a ≠ e) (hai:a ≠ it) :
    Turn P w K (.Tuple elts x1 pos) (ItL K a) [e,it] e (fun i h=>(∃ old,IsEnum h e it i old)/\h.IsListIter it a i) where
  mem:=by simp
  obj:=fun i h st b hb=>by
    rcases List.mem_cons.mp hb with z | z
    · subst z
      obtain ⟨old,q⟩:=st.1
      exact ⟨_,q,fun v z=>by cases z⟩
    · have z:=List.mem_singleton.mp z
      subst z
      obtain ⟨o,q,c,d⟩:=st.2
      exact ⟨o,q,fun v z=>by rw [d] at z;cases z⟩
  keep:=fun i h k st kk=>⟨let ⟨old,q⟩:=st.1;⟨old,kk e (by simp) _ q⟩,st.2.at fun o q=>kk it (by simp) o q⟩
  item:=by
    intro X hP hw hK hc i pins s σ H E I hf st hg
    subst hP hw hK
    obtain ⟨xs,x,hq,hx⟩:=hg
    obtain ⟨its,rv,p,hz⟩:=I.list hq
    obtain ⟨u,hu,ru⟩:=rv.get hx
    obtain ⟨⟨old,he⟩,hi⟩:=st
    have hl:i < its.toArray.size:=by simpa using (List.getElem?_eq_some_iff.mp hu).1
    have D:=zgi (prog:=X.prog) (w:=X.w) (A:=X.A.in1) (by exact I.ok.hd hc) it a hai its.toArray
    refine wpAny_pyNext_enum_itemD D he ⟨hi,p.isList⟩ hl hne (by simp [hne,Ne.symm hae]) fun y k tk hy out st' htup hsz hk=>?_
    have hy':y = u:=by
      have:its[i]? = some y:=by simpa using hy
      rw [hu] at this
      exact (Option.some.inj this).symm
    subst hy'
    refine ⟨.ref s.heap.objs.size,rfl,wpAny_letOwnedTupleGo_enum (s:={ s with heap:=k,toks:=tk + 1 }) out fun k2 en2 sb=>?_⟩
    have fe:=hf e (by simp)
    have fi:=hf it (by simp)
    have eS:e ≠ s.heap.objs.size:=Nat.ne_of_lt (Heap.lt_size he)
    have iS:it ≠ s.heap.objs.size:=by
      obtain ⟨o,q,_⟩:=hi
      exact Nat.ne_of_lt (Heap.lt_size q)
    have IA:=I.laid (h':=s.heap.push { cls:=.type "tuple",data:=.seq #[.int i tk,y] }) (t':=tk + 1) (a:=s.heap.objs.size) (o:=.tup [.int (i:Int),x]) (fun b o q=>Heap.get?_push_of_some _ q) (Nat.le_refl _) (show ObjOk X.prog X.w _ _ _ (.tup [.int (i:Int),x]) from ⟨by show 2<=sizeLine;rw [sizeLine_eq];omega,[.int i tk,y],.cons ⟨tk,rfl⟩ (.cons ru .nil),by have:=IsTup.new s.heap #[.int i tk,y];simpa using this,NoDict.new⟩)
    have up:∀ b,b ≠ s.heap.objs.size->(upd H s.heap.objs.size (.tup [.int (i:Int),x])) b = H b:=fun b hb=>if_neg hb
    have IB:=IA.turned2 (t':=tk + 1) (h':=k2) (e:=e) (it:=it) (fun b o hbe hbi q=>by
      rcases Heap.get?_push_cases q with ⟨z1,z2⟩ | q
      · subst z1;subst z2
        exact (sb.2 _ (Ne.symm eS)).trans htup
      · exact (sb.2 b hbe).trans (hk b o hbe hbi q)) ⟨by rw [up e eS];exact fe.1,fe.2⟩ ⟨by rw [up it iS];exact fi.1,fi.2⟩
    refine ⟨.ref s.heap.objs.size,_,IB,rfl,⟨s.heap.objs.size,x,I.hok.fresh (Nat.le_refl _),rfl,rfl,fun ys hys=>by rw [I.list_inj hys hq];exact hx⟩,⟨⟨_,by push_cast at en2 ⊢;exact en2⟩,?_⟩,fun b hb=>?_⟩
    · obtain ⟨o,q,r⟩:=st'.1
      exact ⟨o,(sb.2 it (Ne.symm hne)).trans q,r⟩
    · rcases List.mem_cons.mp hb with z | z
      · subst z;rw [up _ eS];exact fe.1
      · have z:=List.mem_singleton.mp z
        subst z;rw [up _ iS];exact fi.1
  done:=by
    intro X hP hw hK hc i pins s σ H E I hf st hg
    subst hP hw hK
    obtain ⟨xs,hq,hx⟩:=hg
    obtain ⟨its,rv,p,hz⟩:=I.list hq
    obtain ⟨⟨old,he⟩,hi⟩:=st
    obtain ⟨f0,f1,f2,f3,f4,f5⟩:=hf it (by simp)
    have hl:=rv.length
    have D:Draws X.prog X.w X.A.in1 it [it,a] i (fun _ _=>True) (fun j h=>j = i/\h.IsListIter it a i/\h.IsList a its.toArray):={
      live:=fun _ _ st=>let ⟨o,ho,_⟩:=st.2.1;⟨o,ho⟩
      frame:=fun _ _ _ st hk=>⟨st.1,st.2.1.at fun o q=>hk it (by simp) o q,let ⟨o,ho,r⟩:=st.2.2;⟨o,hk a (by simp) o ho,r⟩⟩
      item:=fun j s Q E hj st hQ=>absurd st.1 (Nat.ne_of_lt hj)
      done:=fun s Q E st hE=>wpAny_nextOf_list_end (by exact I.ok.hd hc) st.2.1 st.2.2 (by simp;omega) hE }
    exact wpAny_pyNext_enum_endD D he ⟨rfl,hi,p.isList⟩ fun k eb=>⟨rfl,I.turned (t':=s.toks) (fun b o hb q=>eb b o hb q) f0 f1 f3 f4 f5⟩
  self:=fun _ _ _ _ _ st h=>let ⟨_,q⟩:=st.1;wpAny_pyIter_enum q h
section
variable {X:Cx}
noncomputable def zmh (K:PySem.W.Frag) (tl:TE):TI:=fun σ H R=>tl σ H fun x H1=>∃ a,x = .ref a/\(∃ xs,SqL K H1 a xs)/\R (ItL K a) H1
theorem zfg {l:Expr} {tl:TE} {elts:List Expr} {x1} {tp p pos:Pos} (hg:Gl X "enumerate") (hm:X.mg "enumerate" = none) (hl:PE X l tl) (hs:starEach [l] X.env = [(false,eval l X.env)]:=by rfl) :
    PI X (.Tuple elts x1 tp) (.Call (.Name "enumerate" p) [l] [] pos) (zmh X.K tl):=by
  intro pins s σ H R I h
  refine Call_ (za9 I hg hm (show bootBuiltins "enumerate" = some (.type "enumerate") by decide +kernel) (PyProof.Rows.callWith_type1 ?_ hs rfl))
  rw [hs]
  refine Calls.spliced_cons (thn (hl pins s σ H _ I h) fun v s1 ⟨x,H1,I1,r1,q1⟩=>Calls.spliced_nil ?_)
  obtain ⟨a,e,⟨xs,hq⟩,q⟩:=q1
  subst e
  cases r1
  obtain ⟨its,rv,pt,hz⟩:=I1.list hq
  have ha:a < s1.heap.objs.size:=by
    obtain ⟨o,ho,_⟩:=pt.isList
    exact Heap.lt_size ho
  refine zhI pt.isList fun k en ti hsz hk=>?_
  refine wpAny_pyIter_enum en ?_
  refine ⟨s1.heap.objs.size + 1,[s1.heap.objs.size + 1,s1.heap.objs.size],_,_,H1,rfl,I1.kept (t':=s1.toks) hk,zg5 a _ _ (Nat.ne_of_gt (Nat.lt_succ_self _)) (Nat.ne_of_lt (Nat.lt_succ_of_lt ha)) (Nat.ne_of_lt ha),⟨⟨_,en⟩,ti⟩,fun b hb=>?_,q⟩
  rcases List.mem_cons.mp hb with z | z
  · subst z;exact I1.fpOk (Nat.le_succ _) (I1.hok.fresh (Nat.le_succ _))
  · have z:=List.mem_singleton.mp z
    subst z;exact I1.fpOk (Nat.le_refl _) (I1.hok.fresh (Nat.le_refl _))
end
end L2
namespace FT
open PySem PySem.Spec PyProof.Rows L2
noncomputable def zdk (f:Ev->Mem->Out T):Ev->Mem->Out (List T):=fun σ M=>(f σ M).bind fun t M1=>match t with
  | .lst ts=>.ok (enT ts) M1
  | _=>.bad
section
variable {X:Cx} {XE:XK}
theorem zjv {l:Expr} {f:Ev->Mem->Out T} {elts:List Expr} {x1} {tp p pos:Pos} (hg:Gl X "enumerate") (hm:X.mg "enumerate" = none) (he:GE X XE l f) (hs:noStar l = true:=by rfl) :
    GI X XE (.Tuple elts x1 tp) (.Call (.Name "enumerate" p) [l] [] pos) (zdk f):=PI.imp (zfg hg hm he (yn hs)) fun σ H R h9=>by
  obtain ⟨S,στ,_,e,m,ev,_,fin⟩:=h9
  replace fin:Fin XE (za1 X.K) X.K S ((f στ S.M).bind fun t M1=>match t with | .lst ts=>.ok (enT ts) M1 | _=>.bad) R:=fin
  refine ⟨S,στ,(),e,m,ev,trivial,?_⟩
  show Fin XE (Rep X.K) X.K S (f στ S.M) _
  cases o:f στ S.M with
  | bad=>rw [o] at fin;exact fin.elim
  | exn C fs M'=>rw [o] at fin;exact fin
  | ok t M1=>
    rw [o] at fin
    cases t with
    | lst ts=>
      intro S1 v e1 s1 r1
      cases r1 with
      | @lst _ p vs h l r=>
        have r1:Reps X.K S1 ts vs:=⟨l,r⟩
        refine ⟨p,rfl,⟨vs,za8 h⟩,fin S1 _ e1 s1 fun S3 s3=>?_⟩
        have g3:SqL X.K S3.H p vs:=by
          rcases h with ⟨h2,f2⟩ | h2
          · exact .inl (s3.toGrow.rd h2 f2).1
          · exact .inr h2
        refine ⟨fun i t et=>?_,fun i hi=>⟨vs,g3,by rw [← l];simpa [enT] using hi⟩⟩
        unfold enT at et
        rw [List.getElem?_mapIdx] at et
        obtain ⟨t0,et0,rfl⟩:=Option.map_eq_some_iff.mp et
        obtain ⟨v2,ev3,r3⟩:=r1.get et0
        refine ⟨⟨vs,v2,g3,ev3⟩,fun x H' hy=>?_⟩
        obtain ⟨q,y,hq,rfl,rfl,hy⟩:=hy
        have:=hy vs g3
        rw [ev3] at this
        cases this
        have s4:=Stp.new s3.mok hq (.tup [.int (i:Int),v2])
        have r4:=(r3.grow s1.mok s3.toGrow).grow s3.mok s4.toGrow
        refine ⟨⟨S3.α,S3.M,upd S3.H q (.tup [.int (i:Int),v2]),S3.hid⟩,rfl,rfl,s4,?_⟩
        have rr:Reps X.K ⟨S3.α,S3.M,upd S3.H q (.tup [.int (i:Int),v2]),S3.hid⟩ [.int (i:Int),t0] [.int (i:Int),v2]:=.cons (.int _) (.cons r4 .nil)
        exact .tup (.inl (.inl qf)) rr.1 rr.2
    | _=>exact fin.elim
end
end FT
namespace FT
open PySem PySem.Spec PyProof.Rows L2
section
variable {X:Cx} {XE:XK}
theorem zie {K:PySem.W.Frag} {S1 S3:Sit} (s3:Stp K S1 S3) {p:Addr} {vs:List V} (h:(Rd S1.H p (.lst vs)/\S1.off p)\/KL K p vs):SqL K S3.H p vs:=by
  rcases h with ⟨h2,f2⟩ | h2
  · exact .inl (s3.toGrow.rd h2 f2).1
  · exact .inr h2
end
end FT
namespace FT
open PySem PySem.Spec PyProof.Rows L2
noncomputable abbrev Gd:=List (Nat × List T)
noncomputable def zbt (G:Gd) (M:Mem):Prop:=∀ g ∈ G,M[g.1]? = some (.lst g.2)
noncomputable def gdK {β:Type} (G:Gd) (M:Mem) (o:Out β):Out β:=@ite _ (zbt G M) (Classical.propDecidable _) o .bad
theorem zb1 {β:Type} {G:Gd} {M:Mem} {o:Out β} (h:zbt G M):gdK G M o = o:=if_pos h
theorem zfy (M:Mem):zbt [] M:=fun g h=>by simp at h
noncomputable def ItG (K:PySem.W.Frag) (S:Sit) (items:List T × Gd) (J:It):Prop:=∀ S',Stp K S S'->zbt items.2 S'.M->
  (∀ (i:Nat) t,items.1[i]? = some t->J.go i S'.H/\∀ x H',J.yld i S'.H x H'->∃ S'',S''.H = H'/\S''.M = S'.M/\Stp K S' S''/\Rep K S'' t x)/\∀ i,items.1.length<=i->J.stop i S'.H
instance (K):Mo K (ItG K):=⟨fun _ s r=>fun S' s'=>r S' (s.trans s')⟩
noncomputable def lIG (XE:XK) (K:PySem.W.Frag) (f:Ev->Mem->Out (List T × Gd)):TI:=fun σ H R=>LN XE (ItG K) K UnR (fun _ σ M=>f σ M) () σ H R
noncomputable def GIG (X:Cx) (XE:XK) (tg iter:Expr) (f:Ev->Mem->Out (List T × Gd)):Prop:=PI X tg iter (lIG XE X.K f)
noncomputable def qJ (G:Gd) (bd:T->Ev->Mem->Out Ev) (body:Ev->Mem->Out Fl):List T->Ev->Mem->Out Fl
  | [],σ,M=>gdK G M (.ok (.nx σ) M)
  | x :: xs,σ,M=>gdK G M ((bd x σ M).bind fun σ1 M1=>(body σ1 M1).bind (zy (qJ G bd body xs)))
noncomputable def zc9 (it:Ev->Mem->Out (List T × Gd)) (bd:T->Ev->Mem->Out Ev) (body:Ev->Mem->Out Fl):Ev->Mem->Out Fl:=fun σ M=>(it σ M).bind fun xs M1=>qJ xs.2 bd body xs.1 σ M1
theorem Fin.gd {β γ:Type} {XE:XK} {R:Sit->β->γ->Prop} {K:PySem.W.Frag} {S:Sit} {G:Gd} {M:Mem} {o:Out β} {Q:γ->Hp->Prop} (h:Fin XE R K S (gdK G M o) Q):zbt G M/\Fin XE R K S o Q:=by
  by_cases g:zbt G M
  · rw [zb1 g] at h;exact ⟨g,h⟩
  · rw [show gdK G M o = .bad from if_neg g] at h;exact h.elim
theorem zis {XE:XK} {K:PySem.W.Frag} {S:Sit} {G:Gd} {bd:T->Ev->Mem->Out Ev} {p:Ev->Mem->Out Fl} {xs:List T} {σ:Ev} {M:Mem} {Q:FlV->Hp->Prop} (h:Fin XE (FlR K) K S (qJ G bd p xs σ M) Q):zbt G M:=by
  cases xs with
  | nil=>exact (Fin.gd h).1
  | cons x xs=>exact (Fin.gd h).1
section
variable {X:Cx} {XE:XK} {a b c e iter tg:Expr} {es:List Expr} {pos pp:Pos} {sts:List Stmt} {p:Ev->Mem->Out Fl} {ga:Ev->Mem->Out (List T × Gd)}
theorem zkO {bd:T->Ev->Mem->Out Ev} (hp:PassesOwn (model X.prog X.w) X.A X.env X.xe) (hc:X.calm = true) (hi:GIG X XE tg iter ga) (hg:GG X XE tg bd) (hb:GSs X XE sts p)
    (hs:∀ x,foldedSetIterable iter X.env x = pure x:=by intro _;rfl):GS X XE (.For tg iter sts [] pos) (zc9 ga bd p):=PS.imp (zh7 hp hc hi hg hb hs) fun D σ H hh=>by
  refine LN.mono (LN.bind (f:=fun _ σ M=>ga σ M) (k:=fun _ xs σ M1=>qJ xs.2 bd p xs.1 σ M1) (RB:=ItG X.K) hh) fun J H1 h1=>?_
  obtain ⟨S,στ,a,e,m,ev,ra,fin⟩:=h1
  refine ⟨fun i n σ H=>∃ S στ,S.H = H/\MemOk X.K S/\EvR X.K S στ σ/\ItG X.K S a.2 J/\n = a.2.1.length - i/\i<=a.2.1.length/\Fin XE (FlR X.K) X.K S (qJ a.2.2 bd p (a.2.1.drop i) στ S.M) (zp D),⟨_,S,στ,e,m,ev,ra.2,rfl,Nat.zero_le _,fin⟩,?_⟩
  rintro i n σ1 H2 ⟨S1,στ1,e1,m1,ev1,it1,en,hi1,fin1⟩
  subst e1
  have hgd:=zis fin1
  obtain ⟨it2,it3⟩:=it1 S1 (.refl m1) hgd
  by_cases hl:i < a.2.1.length
  · have eq:a.2.1.drop i = a.2.1[i] :: a.2.1.drop (i + 1):=List.drop_eq_getElem_cons hl
    rw [eq] at fin1
    replace fin1:=(Fin.gd fin1).2
    obtain ⟨go,yl⟩:=it2 i a.2.1[i] (by simp [hl])
    refine .inr ⟨go,fun σ' H'=>∃ S στ,S.H = H'/\MemOk X.K S/\EvR X.K S στ σ'/\ItG X.K S a.2 J/\Fin XE (FlR X.K) X.K S (qJ a.2.2 bd p (a.2.1.drop (i + 1)) στ S.M) (zp D),?_,fun x H' hy=>?_⟩
    · rintro σ' H' ⟨S2,στ2,e2,m2,ev2,it4,fin2⟩
      exact ⟨a.2.1.length - (i + 1),by omega,S2,στ2,e2,m2,ev2,it4,rfl,hl,fin2⟩
    · obtain ⟨S2,e2,eM,s2,r2⟩:=yl x H' hy
      replace fin1:Fin XE (FlR X.K) X.K S1 ((bd a.2.1[i] στ1 S1.M).bind fun σ1 M1=>(p σ1 M1).bind (zy (qJ a.2.2 bd p (a.2.1.drop (i + 1))))) (zp D):=fin1
      refine ⟨S2,στ1,a.2.1[i],e2,s2.mok,Mo.mo m1 s2 ev1,r2,?_⟩
      rw [eM]
      cases o:bd a.2.1[i] στ1 S1.M with
      | bad=>rw [o] at fin1;exact fin1
      | exn C fs M'=>rw [o] at fin1;exact Fin.later s2 fin1
      | ok σ3 M3=>
        rw [o] at fin1
        intro S3 σ3v e3 s3 ev3
        have s13:=s2.trans s3
        refine ⟨S3,σ3,(),rfl,s3.mok,ev3,trivial,?_⟩
        show Fin XE (FlR X.K) X.K S3 (p σ3 S3.M) _
        rw [e3]
        replace fin1:Fin XE (FlR X.K) X.K S1 ((p σ3 M3).bind (zy (qJ a.2.2 bd p (a.2.1.drop (i + 1))))) (zp D):=fin1
        cases o2:p σ3 M3 with
        | bad=>rw [o2] at fin1;exact fin1
        | exn C fs M'=>rw [o2] at fin1;exact Fin.later s13 fin1
        | ok fl M4=>
          rw [o2] at fin1
          intro S4 fv e4 s4 r4
          have s14:=s13.trans s4
          cases r4 with
          | nx r4=>exact ⟨S4,_,rfl,s4.mok,r4,Mo.mo m1 s14 it1,by rw [e4];exact Fin.later s14 fin1⟩
          | ct r4=>exact ⟨S4,_,rfl,s4.mok,r4,Mo.mo m1 s14 it1,by rw [e4];exact Fin.later s14 fin1⟩
          | bk r4=>exact fin1 S4 (.nx _) e4 s14 (.nx r4)
          | rt r4=>exact fin1 S4 (.rt _) e4 s14 (.rt r4)
  · rw [List.drop_eq_nil_of_le (by omega)] at fin1
    replace fin1:=(Fin.gd fin1).2
    refine .inl ⟨it3 i (by omega),?_⟩
    exact fin1 S1 (.nx σ1) rfl (.refl m1) (.nx ev1)
end
end FT
namespace FT
open PySem PySem.Spec PyProof.Rows L2
noncomputable def zdR (t:T) (M:Mem):Option (List T × Gd):=match t with
  | .lst xs=>some (xs,[])
  | .ref a=>match M[a]? with
    | some (.lst xs)=>some (xs,[(a,xs)])
    | _=>none
  | _=>none
theorem zkB {K:PySem.W.Frag} {S:Sit} (m:MemOk K S) {t:T} {v:V} (r:Rep K S t v) {xs:List T} {G:Gd} (e:zdR t S.M = some (xs,G)):∃ p vs,v = .ref p/\SqL K S.H p vs/\∀ S3,Stp K S S3->zbt G S3.M->∃ vs3,SqL K S3.H p vs3/\Reps K S3 xs vs3:=by
  unfold zdR at e
  split at e
  · cases e
    cases r with
    | @lst _ p vs h l rr=>
      refine ⟨p,vs,rfl,za8 h,fun S3 s3 _=>⟨vs,zie s3 h,?_⟩⟩
      exact (show Reps K S xs vs from ⟨l,rr⟩).grow m s3.toGrow
  · rename_i a
    split at e
    · rename_i ys q
      cases e
      cases r with
      | ref ha=>
        obtain ⟨vs,h1,r1⟩:=m.cell a _ q
        refine ⟨S.α a,vs,rfl,.inl (.inl h1),fun S3 s3 g=>?_⟩
        obtain ⟨vs3,h3,r3⟩:=s3.mok.cell a _ (g (a,xs) (.head _))
        rw [s3.al a ha] at h3
        exact ⟨vs3,.inl (.inl h3),r3⟩
    · cases e
  · cases e
end FT
namespace L2
open PySem PySem.Spec PySem.W PyProof.Rows
noncomputable def SI (b:Bool) (h:Heap) (q t:Addr) (k:Nat):Prop:=match b with
  | true=>h.IsTupleIter q t k
  | false=>h.IsListIter q t k
noncomputable def SS (b:Bool) (h:Heap) (t:Addr) (xs:Array Value):Prop:=match b with
  | true=>h.IsTuple t xs
  | false=>h.IsList t xs
end L2
namespace L2
open PySem PySem.Spec PySem.W PyProof.Rows
noncomputable def SqX (K:PySem.W.Frag) (H:Hp) (b:Bool) (a:Addr) (xs:List V):Prop:=match b with
  | true=>SqT K H a xs
  | false=>SqL K H a xs
end L2
namespace FT
open PySem PySem.Spec PyProof.Rows L2
noncomputable def zbH (t:T) (M:Mem):Option (List T × Gd):=match t with
  | .tup xs=>some (xs,[])
  | t=>zdR t M
end FT
namespace FT
open PySem PySem.Spec PyProof.Rows L2
noncomputable def zoO (f:Ev->Mem->Out T):Ev->Mem->Out (List T × Gd):=fun σ M=>(f σ M).bind fun t M1=>match zbH t M1 with
  | some g=>.ok g M1
  | none=>.bad
noncomputable def zbZ (f:Ev->Mem->Out T):Ev->Mem->Out (List T × Gd):=fun σ M=>(f σ M).bind fun t M1=>match zbH t M1 with
  | some g=>.ok (enT g.1,g.2) M1
  | none=>.bad
section
variable {X:Cx} {XE:XK}
theorem zju {l:Expr} {f:Ev->Mem->Out T} {elts:List Expr} {x1} {tp p pos:Pos} (hg:Gl X "enumerate") (hm:X.mg "enumerate" = none) (he:GE X XE l f) (hs:noStar l = true:=by rfl) :
    GIG X XE (.Tuple elts x1 tp) (.Call (.Name "enumerate" p) [l] [] pos) (zbZ f):=PI.imp (PI.or (zfg hg hm he (yn hs)) (zja hg hm he (yn hs))) fun σ H R h9=>by
  obtain ⟨S,στ,_,e,m,ev,_,fin⟩:=h9
  replace fin:Fin XE (ItG X.K) X.K S ((f στ S.M).bind fun t M1=>match zbH t M1 with | some g=>.ok (enT g.1,g.2) M1 | none=>.bad) R:=fin
  have lists:(∀ t M1 g,f στ S.M = .ok t M1->zbH t M1 = some g->zdR t M1 = some g)->zmh X.K (lE XE X.K f) σ H R:=fun hgg=>by
    refine ⟨S,στ,(),e,m,ev,trivial,?_⟩
    show Fin XE (Rep X.K) X.K S (f στ S.M) _
    cases o:f στ S.M with
    | bad=>rw [o] at fin;exact fin.elim
    | exn C fs M'=>rw [o] at fin;exact fin
    | ok t M1=>
      rw [o] at fin
      replace fin:Fin XE (ItG X.K) X.K S (match zbH t M1 with | some g=>.ok (enT g.1,g.2) M1 | none=>.bad) R:=fin
      intro S1 v e1 s1 r1
      cases q:zbH t M1 with
      | none=>rw [q] at fin;exact fin.elim
      | some g=>
        rw [q] at fin
        obtain ⟨xs,G⟩:=g
        obtain ⟨p,vs,rfl,h1,h2⟩:=zkB s1.mok r1 (by rw [e1];exact hgg _ _ _ o q)
        refine ⟨p,rfl,⟨vs,h1⟩,fin S1 _ e1 s1 fun S3 s3 gd=>?_⟩
        obtain ⟨vs3,g3,r3⟩:=h2 S3 s3 gd
        refine ⟨fun i t et=>?_,fun i hi=>⟨vs3,g3,by rw [← r3.1];simpa [enT] using hi⟩⟩
        unfold enT at et
        rw [List.getElem?_mapIdx] at et
        obtain ⟨t0,et0,rfl⟩:=Option.map_eq_some_iff.mp et
        obtain ⟨v2,ev3,rv⟩:=r3.get et0
        refine ⟨⟨vs3,v2,g3,ev3⟩,fun x H' hy=>?_⟩
        obtain ⟨q,y,hq,rfl,rfl,hy⟩:=hy
        have:=hy vs3 g3
        rw [ev3] at this
        cases this
        have s4:=Stp.new s3.mok hq (.tup [.int (i:Int),v2])
        refine ⟨⟨S3.α,S3.M,upd S3.H q (.tup [.int (i:Int),v2]),S3.hid⟩,rfl,rfl,s4,?_⟩
        have rr:Reps X.K ⟨S3.α,S3.M,upd S3.H q (.tup [.int (i:Int),v2]),S3.hid⟩ [.int (i:Int),t0] [.int (i:Int),v2]:=.cons (.int _) (.cons (rv.grow s3.mok s4.toGrow) .nil)
        exact .tup (.inl (.inl qf)) rr.1 rr.2
  cases o:f στ S.M with
  | bad=>rw [o] at fin;exact fin.elim
  | exn C fs M'=>exact .inl (lists fun t M1 g h=>by rw [o] at h;cases h)
  | ok t M1=>
    cases t with
    | tup ts=>
      rw [o] at fin
      refine .inr ⟨S,στ,(),e,m,ev,trivial,?_⟩
      show Fin XE (Rep X.K) X.K S (f στ S.M) _
      rw [o]
      intro S1 v e1 s1 r1
      cases r1 with
      | @tup _ p vs h l r=>
        have r1:Reps X.K S1 ts vs:=⟨l,r⟩
        replace fin:Fin XE (ItG X.K) X.K S (.ok (enT ts,[]) M1) R:=fin
        refine ⟨p,rfl,⟨vs,h⟩,fin S1 _ e1 s1 fun S3 s3 gd=>?_⟩
        have g3:SqT X.K S3.H p vs:=s3.toGrow.tup s1.mok h
        refine ⟨fun i t et=>?_,fun i hi=>⟨vs,g3,by rw [← l];simpa [enT] using hi⟩⟩
        unfold enT at et
        rw [List.getElem?_mapIdx] at et
        obtain ⟨t0,et0,rfl⟩:=Option.map_eq_some_iff.mp et
        obtain ⟨v2,ev3,r3⟩:=r1.get et0
        refine ⟨⟨vs,v2,g3,ev3⟩,fun x H' hy=>?_⟩
        obtain ⟨q,y,hq,rfl,rfl,hy⟩:=hy
        have:=hy vs g3
        rw [ev3] at this
        cases this
        have s4:=Stp.new s3.mok hq (.tup [.int (i:Int),v2])
        have r4:=(r3.grow s1.mok s3.toGrow).grow s3.mok s4.toGrow
        refine ⟨⟨S3.α,S3.M,upd S3.H q (.tup [.int (i:Int),v2]),S3.hid⟩,rfl,rfl,s4,?_⟩
        have rr:Reps X.K ⟨S3.α,S3.M,upd S3.H q (.tup [.int (i:Int),v2]),S3.hid⟩ [.int (i:Int),t0] [.int (i:Int),v2]:=.cons (.int _) (.cons r4 .nil)
        exact .tup (.inl (.inl qf)) rr.1 rr.2
    | _=>exact .inl (lists fun t M1 g h h2=>by rw [o] at h;cases h;exact h2)
end
end FT
namespace L2
open PySem PySem.Spec PyProof.Rows
noncomputable abbrev TSl:=V->Option Int->Option Int->V->Hp->(Hp->Prop)->Prop
end L2
namespace FT
open PySem PySem.Spec PyProof.Rows L2
noncomputable def y0 (f:List T->Mem->Out T):List T->Mem->Out T:=fun ts M=>match f ts M with
  | .ok v M'=>@ite _ (M'.take M.length = M/\T.lt 0 v) (Classical.propDecidable _) (.ok v M) .bad
  | _=>.bad
theorem zbx (f:List T->Mem->Out T):zeb (y0 f) f:=by
  intro ts M t' M1 _ e
  unfold y0 at e
  split at e
  · rename_i v M' q
    split at e
    · rename_i hc
      cases e
      have hl:M.length<=M'.length:=by
        have:=congrArg List.length hc.1
        rw [List.length_take] at this
        omega
      exact ⟨_,_,q,Nat.le_refl _,hl,hc.1.symm,fun i c e=>.inl e,.same (hc.2.mono (Nat.zero_le _))⟩
    · cases e
  · cases e
theorem zby (f:List T->Mem->Out T):∀ ts M C fs M',y0 f ts M ≠ .exn C fs M':=by
  intro ts M C fs M' e
  unfold y0 at e
  split at e
  · split at e <;> cases e
  · cases e
end FT
namespace FT
open PySem PySem.Spec PyProof.Rows L2
noncomputable def znP (o:Out Fl):Out T:=match o with
  | .ok (.rt t) M'=>.ok t M'
  | .ok (.nx _) M'=>.ok .non M'
  | .exn C fs M'=>.exn C fs M'
  | _=>.bad
noncomputable def qG (p n:Nat) (g:Ev->Mem->Out Fl):List T->Mem->Out T:=fun ts M=>if ts.length = p then znP (g (startT n ts) M) else .bad
structure CalX (P:Program) (w:World) (K:PySem.W.Frag) (mg:Str->Option Value) (base:Heap) (k:Nat) (x:Str) (ps:List Str) (f:List T->Mem->Out T):Prop where
  ex:∃ (fa:Addr) (fd:FuncData),FnOk P w K mg base (CXX P w) k fa fd ps (spT K f)/\PySem.W.keepIn K (.ref fa) = true/\Binds K fd ps []/\mg x = some (.ref fa)
section
variable {P:Program} {w:World} {K:PySem.W.Frag} {mg:Str->Option Value} {base:Heap}
theorem ziK {X:Cx} {st:List Stmt} {g:Ev->Mem->Out Fl} {p n:Nat} {N:List Str} (hn:N.length = n) {E:XK} {vs:List V} {H:Hp} {Q:VK} (hX:X.K = K) (h:spT K (qG p n g) vs H Q E) (hb:GSs X E st g) :
    ∃ t,PSs X st t/\t { nx:=fun _ H'=>Q .non H',rt:=Q } (start N vs) H:=by
  subst hX
  refine ⟨_,hb,?_⟩
  obtain ⟨S,ts,e,m,r,fin⟩:=h
  refine ⟨S,startT n ts,(),e,m,EvR.start r hn,trivial,?_⟩
  show Fin E (FlR X.K) X.K S (g (startT n ts) S.M) _
  unfold qG at fin
  by_cases hp:ts.length = p
  · rw [if_pos hp] at fin
    cases o:g (startT n ts) S.M with
    | bad=>rw [o] at fin;exact fin
    | exn C fs M'=>rw [o] at fin;exact fin
    | ok fl M1=>
      rw [o] at fin
      cases fl with
      | nx σ1=>
        intro S1 c e1 s1 r1
        cases r1 with
        | nx r1=>exact fin S1 .non e1 s1 .non
      | rt t=>
        intro S1 c e1 s1 r1
        cases r1 with
        | rt r1=>exact fin S1 _ e1 s1 r1
      | bk σ1=>exact fin.elim
      | ct σ1=>exact fin.elim
  · rw [if_neg hp] at fin;exact fin.elim
theorem zj6 {p n:Nat} {g:Ev->Mem->Out Fl} {ps:List Str} (hp:ps.length = p):∀ vs H Q E,spT K (qG p n g) vs H Q E->vs.length = ps.length:=by
  intro vs H Q E ⟨S,ts,e,m,r,fin⟩
  rw [← r.1,hp]
  unfold qG at fin
  by_cases h:ts.length = p
  · exact h
  · rw [if_neg h] at fin;exact fin.elim
theorem zk9 {x:Str} {st:Stmt} {N ps:List Str} {k p n:Nat} {g:Ev->Mem->Out Fl} (D:Df K mg x st ps) (Sc:FnScope N ps (zd st)) (hp:ps.length = p) (hn:N.length = n)
    (hb:∀ (f:Addr) (cdv:Value) (A:Around) (outer:List PySem.Env) (s:Shared) (H:Hp) (E:XK),Room k (A.deeper (envOfC x (zd st) s.heap.objs.size f cdv))->GSs (qY (CXX P w) P w K mg base N x (zd st) f cdv A outer s H E) E (zn st) g) :
    CalX P w K mg base (k + 1) x ps (qG p n g):=by
  obtain ⟨f,fd,F,b,gg⟩:=D.ex
  obtain ⟨oc,od,kV,doc,pm,an,cdv,ct,osl,rfl,lk,hcd⟩:=F.ex
  exact ⟨⟨f,_,zjO lk hcd Sc (zj6 hp) fun A outer s H vs Q E hr hsp=>ziK hn rfl hsp (hb f cdv A outer s H E hr),F.kp,b,gg⟩⟩
end
section
variable {X:Cx} {XE:XK} {k i j:Nat} {ps:List Str} {x y v nm:Str} {p pos pos2 np hp tp vp cpos:Pos} {e:Expr} {es:List Expr} {ga:Ev->Mem->Out (List T)} {F:List T->Mem->Out T} {C:Addr} {b0:Stmt} {suite sts:List Stmt} {g gs:Ev->Mem->Out Fl}
noncomputable def za4 (r:List T->Mem->Out Fl) (ga:Ev->Mem->Out (List T)):Ev->Mem->Out Fl:=fun σ M=>(ga σ M).bind fun ts M1=>r ts M1
structure XcF (P:Program) (w:World) (K:PySem.W.Frag) (mg:Str->Option Value) (base:Heap) (x:Str) (C:Addr):Prop where
  ex:∃ f fd,XcAt K mg x C f/\FnOk P w K mg base CX0 1 f fd ["self","at"] (fun vs H Q E=>(∃ e t v,vs = [.ref e,v]/\H e = some (.ext (ExN e C t none))/\∀ d,H d = none->d ≠ e->Q .non (upd (upd H e (.ext (ExN e C t (some d)))) d (.xd [("at",v)]))))/\Binds K fd ["self","at"] []
theorem XcF.at {P:Program} {w:World} {K:PySem.W.Frag} {mg:Str->Option Value} {base:Heap} {x:Str} {C:Addr} (O:XcF P w K mg base x C):∃ nm fI,XcAt K mg nm C fI:=let ⟨f,_,h,_⟩:=O.ex;⟨x,f,h⟩
noncomputable def zT (C:Addr) (ts:List T) (M:Mem):Out Fl:=match ts with
  | [t]=>.exn C [("at",t)] M
  | _=>.bad
theorem zim (O:XcF X.prog X.w X.K X.mg X.base x C) (hr:Room 2 X.A) (hg:Gl X x) (hst:X.stack = X.env :: X.outer) (hf:X.env.frame = some X.env.locals) (hex:X.ex = [])
    (hxe:X.xe = fun ev s'=>wpAny (model X.prog X.w) X.A (leaving X.env ev) (fun _ s''=>CXX X.prog X.w X.outer X.H₀ X.s₀ XE ev s'') (fun e' s''=>CXX X.prog X.w X.outer X.H₀ X.s₀ XE e' s'') s')
    (ha:GA X XE [e] ga) (hd:(x == ("__debug__":Str)) = false:=by decide) (he:noStar e = true:=by rfl):GS X XE (.Raise (some (.Call (.Name x np) [e] [] cpos)) none pos) (za4 (zT C) ga):=by
  obtain ⟨f,fd,O1,Fo,hbd⟩:=O.ex
  exact PS.imp (zh6 O1 Fo hbd hr hg hst hf hex hxe ha hd (yn he)) fun D σ H hh=>
    LN.mono (LN.bind (f:=fun _ σ M=>ga σ M) (k:=fun _ ts σ M1=>zT C ts M1) (RB:=Reps X.K) hh) fun vs H1 h9=>by
      obtain ⟨S,στ,a,e,m,ev,ra,fin⟩:=h9
      obtain ⟨u,ts⟩:=a
      have r:Reps X.K S ts vs:=ra.2
      replace fin:Fin XE (FlR X.K) X.K S (zT C ts S.M) (zp D):=fin
      unfold zT at fin
      split at fin
      · rename_i t
        obtain ⟨w,vs1,rfl,r1,r2⟩:=r.consT
        have:=r2.nilT
        subst this
        refine ⟨w,rfl,fun d hd=>?_⟩
        subst e
        have s1:=Stp.new m hd (.xd [("at",w)])
        exact fin ⟨S.α,S.M,upd S.H d (.xd [("at",w)]),S.hid⟩ (some d) rfl s1 (.inr ⟨d,_,rfl,qf,rfl,.cons (r1.grow m s1.toGrow) .nil⟩)
      · exact fin.elim
noncomputable def GX (X:Cx) (sts:List Stmt) (g:Ev->Mem->Out Fl):Prop:=PX X sts fun E=>lS E X.K g
theorem zmk (hN:X.N.Nodup) (hi:X.N[i]? = some v) (hv:X.env.scope.names.lookup v = some .local) (c:CalX X.prog X.w X.K X.mg X.base k x ps F) (hr:Room k X.A) (hg:Gl X x) (ha:∀ E1 XE,GA (X.wish E1) XE (e :: es) ga)
    (hdb:(x == ("__debug__":Str)) = false:=by decide) (he:noStar e = true:=by rfl) (hpl:es.all noStar = true:=by rfl) (hsw:swapsWith (.Call (.Name x p) (e :: es) [] pos) (some (.Name v vp)) pos2.line X.env = pure false:=by rfl) :
    GX X [.Assign [.Name v vp] (.Call (.Name x p) (e :: es) [] pos) pos2] (yj i (ze F ga)):=by
  obtain ⟨fa,fd,Fo,kp,b,gg⟩:=c.ex
  intro E
  have hp:=zlv (pos2:=pos2) (vp:=vp) (p:=p) (pos:=pos) (e:=e) (es:=es) (ta:=lA E X.K ga) hN hi hv Fo hr hg gg kp b (fun E'=>ha E' E) hdb (yn he) (zao hpl) hsw
  intro pins s σ H D I q
  refine hp E pins s σ H D I ?_
  have h1:=LN.bind (f:=fun _ σ M=>ga σ M) (k:=fun _ ts σ M1=>(F ts M1).bind fun t M2=>.ok (Fl.nx (σ.set i (some t))) M2) (RB:=Reps X.K) (XE:=E) (K:=X.K) (R:=FlR X.K) (RA:=UnR) (av:=()) (σ:=σ) (H:=H) (Q:=zp D) (by
    obtain ⟨S,στ,a,e,m,ev,ra,fin⟩:=q
    refine ⟨S,στ,a,e,m,ev,ra,?_⟩
    have:(yj i (ze F ga) στ S.M) = ((ga στ S.M).bind fun ts M1=>(F ts M1).bind fun t M2=>.ok (Fl.nx (στ.set i (some t))) M2):=by
      unfold yj ze
      cases ga στ S.M <;> rfl
    show Fin E (FlR X.K) X.K S ((ga στ S.M).bind fun ts M1=>(F ts M1).bind fun t M2=>.ok (Fl.nx (στ.set i (some t))) M2) (zp D)
    rw [← this]
    exact fin)
  refine LN.mono h1 fun vs H1 ⟨S,στ,a,e,m,ev,ra,fin⟩=>?_
  refine ⟨S,a.2,e,m,ra.2,?_⟩
  show Fin E (Rep X.K) X.K S (F a.2 S.M) _
  replace fin:Fin E (FlR X.K) X.K S ((F a.2 S.M).bind fun t M2=>.ok (Fl.nx (στ.set i (some t))) M2) (zp D):=fin
  cases o:F a.2 S.M with
  | bad=>rw [o] at fin;exact fin
  | exn C fs M'=>rw [o] at fin;exact fin
  | ok t M1=>
    rw [o] at fin
    intro S1 w e1 s1 r1
    exact fin S1 (.nx (σ.set i (some w))) e1 s1 (.nx ((Mo.mo m s1 ev).set r1 i))
noncomputable def noX (o:Out Fl):Out Fl:=match o with
  | .exn _ _ _=>.bad
  | o=>o
theorem zkx {K:PySem.W.Frag} {S:Sit} {o:Out Fl} {Q:FlV->Hp->Prop} (h:Fin XE (FlR K) K S (noX o) Q):Fin E0 (FlR K) K S o Q:=by
  cases o with
  | ok b M'=>exact h
  | exn C fs M'=>exact h.elim
  | bad=>exact h
noncomputable def zfa (cs:List Addr) (g gs:Ev->Mem->Out Fl):Ev->Mem->Out Fl:=fun σ M=>match g σ M with
  | .exn C _ M'=>if cs.contains C = true then noX (gs σ M') else .bad
  | o=>o
theorem zmp {cs:List Addr} (hb:GX X sts g) (hS:∀ C' ∈ cs,Sup X.K X.mg y C C') (hgy:Gl X y) (hst:X.stack = X.env :: X.outer) (hf:X.env.frame = some X.env.locals) (hex:X.ex = []) (hs:∀ ev,GSs (X.suite ev) E0 (b0 :: suite) gs) (hdy:(y == ("__debug__":Str)) = false:=by decide) :
    GS X XE (.Try sts [.ExceptHandler (some (.Name y np)) none (b0 :: suite) hp] [] [] tp) (zfa cs g gs):=PS.imp (zke (th:=lS E0 X.K gs) hb hgy hst hf hex hs hdy) fun D σ H h9=>by
  obtain ⟨S,στ,a,e,m,ev,ra,fin⟩:=h9
  refine ⟨S,στ,a,e,m,ev,ra,?_⟩
  show Fin _ (FlR X.K) X.K S (g στ S.M) (zp D)
  replace fin:Fin XE (FlR X.K) X.K S (match g στ S.M with | .exn C _ M'=>if cs.contains C = true then noX (gs στ M') else .bad | o=>o) (zp D):=fin
  cases o:g στ S.M with
  | bad=>rw [o] at fin;exact fin
  | ok fl M1=>rw [o] at fin;exact fin
  | exn C' fs M'=>
    rw [o] at fin
    intro S1 od e1 s1 xr
    by_cases hc:cs.contains C' = true
    · replace fin:Fin XE (FlR X.K) X.K S (if cs.contains C' = true then noX (gs στ M') else .bad) (zp D):=fin
      rw [if_pos hc] at fin
      refine ⟨C',rfl,hS C' (List.contains_iff_mem.mp hc),S1,στ,(),rfl,s1.mok,Mo.mo m s1 ev,trivial,?_⟩
      show Fin E0 (FlR X.K) X.K S1 (gs στ S1.M) _
      rw [e1]
      exact (zkx fin).later s1
    · replace fin:Fin XE (FlR X.K) X.K S (if cs.contains C' = true then noX (gs στ M') else .bad) (zp D):=fin
      rw [if_neg hc] at fin
      exact fin.elim
noncomputable def clr (j:Nat) (fl:Fl) (M:Mem):Out Fl:=match fl with
  | .nx σ=>.ok (.nx (σ.set j none)) M
  | .rt t=>.ok (.rt t) M
  | .bk σ=>.ok (.bk (σ.set j none)) M
  | .ct σ=>.ok (.ct (σ.set j none)) M
noncomputable def zc8 (j:Nat) (cs:List Addr) (g gs:Ev->Mem->Out Fl):Ev->Mem->Out Fl:=fun σ M=>match g σ M with
  | .exn C fs M'=>if cs.contains C = true then (noX (gs (σ.set j (some (.exc C fs))) M')).bind (clr j) else .bad
  | o=>o
theorem EvR.clr {K:PySem.W.Frag} {S:Sit} {στ:Ev} {σ:L2.St} (r:EvR K S στ σ) (j:Nat):EvR K S (στ.set j none) (σ.set j none):=by
  refine ⟨by simp [r.1],fun i t e=>?_⟩
  rw [List.getElem?_set] at e ⊢
  by_cases h:j = i
  · subst h
    rw [if_pos rfl] at e
    split at e <;> cases e
  · rw [if_neg h] at e ⊢
    exact r.2 i t e
theorem zkN {cs:List Addr} (hb:GX X sts g) (hS:∀ C' ∈ cs,Sup X.K X.mg y C C') (hgy:Gl X y) (hst:X.stack = X.env :: X.outer) (hf:X.env.frame = some X.env.locals) (hex:X.ex = []) (hN:X.N.Nodup) (hj:X.N[j]? = some nm) (hk:X.env.scope.names.lookup nm = some .local)
    (hs:∀ ev,GSs (X.suite ev) E0 (b0 :: suite) gs) (hdy:(y == ("__debug__":Str)) = false:=by decide) :
    GS X XE (.Try sts [.ExceptHandler (some (.Name y np)) (some nm) (b0 :: suite) hp] [] [] tp) (zc8 j cs g gs):=PS.imp (zkd (th:=lS E0 X.K gs) hb hgy hst hf hex hN hj hk hs hdy) fun D σ H h9=>by
  obtain ⟨S,στ,a,e,m,ev,ra,fin⟩:=h9
  refine ⟨S,στ,a,e,m,ev,ra,?_⟩
  show Fin _ (FlR X.K) X.K S (g στ S.M) (zp D)
  replace fin:Fin XE (FlR X.K) X.K S (match g στ S.M with | .exn C fs M'=>if cs.contains C = true then (noX (gs (στ.set j (some (.exc C fs))) M')).bind (clr j) else .bad | o=>o) (zp D):=fin
  cases o:g στ S.M with
  | bad=>rw [o] at fin;exact fin
  | ok fl M1=>rw [o] at fin;exact fin
  | exn C' fs M'=>
    rw [o] at fin
    intro S1 od e1 s1 xr
    subst e1
    replace fin:Fin XE (FlR X.K) X.K S (if cs.contains C' = true then (noX (gs (στ.set j (some (.exc C' fs))) S1.M)).bind (clr j) else .bad) (zp D):=fin
    by_cases hc:cs.contains C' = true
    · rw [if_pos hc] at fin
      refine ⟨C',rfl,hS C' (List.contains_iff_mem.mp hc),fun ex hx=>?_⟩
      have s2:=Stp.new s1.mok hx (.ext (ExO ex C' od))
      have rx:Rep X.K ⟨S1.α,S1.M,upd S1.H ex (.ext (ExO ex C' od)),S1.hid⟩ (.exc C' fs) (.ref ex):=by
        rcases xr with ⟨rfl,rfl⟩ | ⟨d,us,rfl,hd,l,rr⟩
        · exact .exc (us:=[]) qf (.inl ⟨rfl,rfl⟩) rfl fun i t v z=>by simp at z
        · exact .exc (us:=us) qf (.inr ⟨d,rfl,(qd (zk hd hx)).trans hd⟩) l (rr.grow s1.mok s2.toGrow).2
      refine ⟨_,στ.set j (some (.exc C' fs)),(),rfl,s2.mok,(Mo.mo s1.mok s2 (Mo.mo m s1 ev)).set rx j,trivial,?_⟩
      show Fin E0 (FlR X.K) X.K _ (gs (στ.set j (some (.exc C' fs))) S1.M) _
      cases o2:gs (στ.set j (some (.exc C' fs))) S1.M with
      | bad=>rw [o2] at fin;exact fin
      | exn C2 fs2 M2=>rw [o2] at fin;exact fin.elim
      | ok fl M2=>
        rw [o2] at fin
        intro S3 c e3 s3 r3
        have st:=(s1.trans s2).trans s3
        cases r3 with
        | nx r=>exact fin S3 (.nx _) e3 st (.nx (r.clr j))
        | rt r=>exact fin S3 (.rt _) e3 st (.rt r)
        | bk r=>exact fin S3 (.bk _) e3 st (.bk (r.clr j))
        | ct r=>exact fin S3 (.ct _) e3 st (.ct (r.clr j))
    · rw [if_neg hc] at fin
      exact fin.elim
noncomputable def xat (cs:List Addr) (t:T) (M:Mem):Out T:=match t with
  | .exc C fs=>if cs.contains C = true then match fs.lookup ("at":Str) with
    | some v=>.ok v M
    | none=>.bad else .bad
  | _=>.bad
theorem zeh {K:PySem.W.Frag} {S:Sit} {f:Str} {t:T}:∀ {fs:List (Str × T)} {us:List (Str × V)},fs.map (·.1) = us.map (·.1)->(∀ (i:Nat) t v,(fs.map (·.2))[i]? = some t->(us.map (·.2))[i]? = some v->Rep K S t v)->fs.lookup f = some t->∃ v,us.lookup f = some v/\Rep K S t v
  | [],_,_,_,h=>by simp at h
  | (a,x) :: fs,[],l,_,_=>by simp at l
  | (a,x) :: fs,(b,y) :: us,l,r,h=>by
    simp only [List.map_cons,List.cons.injEq] at l
    obtain ⟨rfl,l⟩:=l
    rw [List.lookup_cons] at h ⊢
    by_cases hf:(f == a) = true
    · rw [hf] at h ⊢
      cases h
      exact ⟨y,rfl,r 0 _ _ rfl rfl⟩
    · have hf:(f == a) = false:=by simpa using hf
      rw [hf] at h ⊢
      exact zeh l (fun i t v e1 e2=>r (i + 1) t v (by simpa using e1) (by simpa using e2)) h
theorem zmA {cs:List Addr} {f:Ev->Mem->Out T} (hS:∀ C' ∈ cs,∃ nm fI,XcAt X.K X.mg nm C' fI) (h:GE X XE e f) (hb:attributeBase e "at" X.env (eval e X.env) = eval e X.env:=by rfl):GE X XE (.Attribute e "at" pos) (eUn (xat cs) f):=PE.imp (zlF h hb) fun σ H Q hh=>
  LN.mono (LN.bind (f:=fun _ σ M=>f σ M) (k:=fun _ x σ M1=>xat cs x M1) (RB:=Rep X.K) hh) fun v H1 h9=>by
    obtain ⟨S,στ,a,e,m,ev,ra,fin⟩:=h9
    obtain ⟨u,t⟩:=a
    have r:Rep X.K S t v:=ra.2
    replace fin:Fin XE (Rep X.K) X.K S (xat cs t S.M) Q:=fin
    cases r with
    | @exc C fs us p od h hd l rr=>
      unfold xat at fin
      dsimp only at fin
      by_cases hc:cs.contains C = true
      · rw [if_pos hc] at fin
        split at fin
        · rename_i w q
          obtain ⟨v,lv,rv⟩:=zeh l rr q
          obtain ⟨nm,fI,O⟩:=hS C (List.contains_iff_mem.mp hc)
          rcases hd with ⟨rfl,rfl⟩ | ⟨d,rfl,hd⟩
          · simp at lv
          · subst e
            exact ⟨p,C,d,us,v,nm,fI,rfl,h,hd,O,lv,fin S v rfl (.refl m) rv⟩
        · exact fin.elim
      · rw [if_neg hc] at fin;exact fin.elim
    | _=>exact fin.elim
end
end FT
namespace FT
open PySem PySem.Spec PyProof.Rows L2
theorem zid {K:PySem.W.Frag} {h:Heap} (X:K.In h) {N:Addr} {c:Value} {d:Option Addr} {es:Array DictEntry} {ep:Nat} {sl:Array (Option Value)} (l:K.lookup N = some ⟨c,d,.dict es ep,sl⟩) (sk:zbg es = true) :
    h.Ns N (h.nsMap N)/\∀ (n:Str) r,PySem.W.nsIn K N n = some r->h.nsMap N n = r:=by
  have ho:=X _ _ l
  have hi:h.isNs N = true:=by
    unfold Heap.isNs
    rw [ho]
    unfold zbg at sk
    rw [Array.all_toList] at sk
    exact sk
  refine ⟨Heap.Ns.of_isNs hi,fun n r q=>?_⟩
  obtain ⟨o,es',ep',ho',hd',_,hf⟩:=Heap.Ns.of_isNs hi
  rw [← hf n]
  rw [ho] at ho'
  cases ho'
  cases hd'
  unfold PySem.W.nsIn at q
  rw [l] at q
  dsimp only at q
  unfold nsFind findBy
  cases e:es.toList.find? (·.key.isStr n) with
  | some e'=>
    rw [e] at q
    have:es.find? (fun e=>e.key.isStr n) = some e':=by rw [← Array.find?_toList];exact e
    rw [this]
    exact Option.some.inj q
  | none=>
    rw [e] at q
    have:es.find? (fun e=>e.key.isStr n) = none:=by rw [← Array.find?_toList];exact e
    rw [this]
    dsimp only at q
    split at q
    · cases q
    · exact Option.some.inj q
noncomputable def zau (K:PySem.W.Frag) (N:Addr) (ns:List Str):Bool:=ns.all fun n=>PySem.W.nsIn K N n == some none
theorem zdd {K:PySem.W.Frag} {h:Heap} {N:Addr} {ns:List Str} (v:∀ (n:Str) r,PySem.W.nsIn K N n = some r->h.nsMap N n = r) (e:zau K N ns = true):∀ n ∈ ns,h.nsMap N n = none:=fun n hn=>v n none (eq_of_beq (List.all_eq_true.mp e n hn))
theorem zfl {K:PySem.W.Frag} {N:Addr}:zau K N [] = true:=rfl
theorem yB {K:PySem.W.Frag} {N:Addr} {n:Str} {ns:List Str} (a:PySem.W.nsIn K N n = some none) (b:zau K N ns = true):zau K N (n :: ns) = true:=by unfold zau at *;rw [List.all_cons,b,a];rfl
theorem zmU {P:Program} {w:World} {K:PySem.W.Frag} {mg:Str->Option Value} {base h:Heap} (X:K.In h) (G:h.Ns mainGlobals mg) {x qual nm q:Str} {st:Stmt} {C N W fI:Addr} {bs:List Value} {sn:List Str} {sub:List Value} {ab:Bool} {col:Option Bool} {dd od an:Option Addr} {k0 k1 k2 k3 k5:Option Value}
    {c1 c2 c3 kV dc pm cd ct:Value} {d1 d2 d3:Option Addr} {es es':Array DictEntry} {ep ep':Nat} {s1 s2 s3 sl:Array (Option Value)} {cdw:ClassData} {p1 p2 p3 p4:Pos}
    (a:PySem.W.nsIn K mainGlobals x = some (some (.ref C)))
    (l:K.lookup C = some (excClassObj nm q C N bs (.ref W :: y9) true sn sub ab col dd k0 k1 k2 k3 k5 "ValueError.__new__"))
    (ln:K.lookup N = some ⟨c1,d1,.dict es ep,s1⟩) (sk:zbg es = true) (q0:PySem.W.nsIn K N "__init__" = some (some (.ref fI))) (n0:zau K N xns = true)
    (lw:K.lookup W = some ⟨c2,d2,.cls cdw,s2⟩) (lwn:K.lookup cdw.ns = some ⟨c3,d3,.dict es' ep',s3⟩) (sk':zbg es' = true) (n1:zau K cdw.ns ("__init__" :: xns) = true)
    (lf:K.lookup fI = some ⟨.type "function",od,.func (PySem.W.fnOf "__init__" qual (zI st) (zn st) (zd st) .none kV dc pm an cd ct),sl⟩) (cc:PySem.W.codeIn K cd qual = true) (kk:PySem.W.keepIn K (.ref fI) = true)
    (Sc:FnScope ["self","at"] ["self","at"] (zd st)) (hb:zn st = [.Assign [.Attribute (.Name "self" p1) "at" p2] (.Name "at" p3) p4]) (l1:(zd st).names.lookup ("self":Str) = some NameKind.local) (l2:(zd st).names.lookup ("at":Str) = some NameKind.local)
    (bd:∀ (kV doc pm:Value) (an:Option Addr) (cdv ct:Value) (us:List Value),us.length = 2->bindArgs (PySem.W.fnOf "__init__" qual (zI st) (zn st) (zd st) .none kV doc pm an cdv ct) ⟨us,[]⟩ = pure ((["self","at"]:List Str).zip us)) :
    XcF P w K mg base x (zd1 K x):=by
  rw [zk5 a]
  have F:=zfH (st:=st) lf cc kk
  have O:XcAt K mg x C fI:=by
    refine ⟨PySem.W.mg_of X G a,fun h' X'=>?_,_,lf,rfl⟩
    obtain ⟨hN,v1⟩:=zid X' ln sk
    obtain ⟨hW,v2⟩:=zid X' lwn sk'
    exact ⟨_,N,nm,q,bs,sn,sub,ab,col,dd,k0,k1,k2,k3,k5,_,X' _ _ l,hN,v1 _ _ q0,zdd v1 n0,.own (X' _ _ lw) hW (zdd v2 n1) .base⟩
  exact ⟨fI,_,O,zkI O F Sc hb l1 l2,F.binds bd⟩
theorem ziV {K:PySem.W.Frag} {mg:Str->Option Value} {x:Str} {C f:Addr} (O:XcAt K mg x C f):Sup K mg x C C:=⟨O.bound,fun h X=>by
  obtain ⟨bm,N,nm,q,bs,sn,sub,ab,col,dd,k0,k1,k2,k3,k5,mN,hC,_,_,_,T⟩:=O.obj h X
  exact ⟨⟨bm,N,nm,q,bs,true,sn,sub,ab,col,dd,k0,k1,k2,k3,k5,hC,(T.tail (by decide)).hasType PySem.F.excBase_ValueError.hasBase⟩,bm,N,nm,q,bs,true,sn,sub,ab,col,dd,k0,k1,k2,k3,k5,hC,by simp⟩⟩
theorem XcF.sup {P:Program} {w:World} {K:PySem.W.Frag} {mg:Str->Option Value} {base:Heap} {x:Str} {C:Addr} (O:XcF P w K mg base x C):Sup K mg x C C:=let ⟨_,_,h,_⟩:=O.ex;ziV h
end FT
namespace L2
open PySem
noncomputable def subs:Nat->List (List Nat)
  | 0=>[[]]
  | n + 1=>subs n ++ (subs n).map (· ++ [n])
theorem za3:∀ (n:Nat) (ks:List Nat),ks ∈ subs n->ks.Pairwise (· < ·)/\∀ k ∈ ks,k < n
  | 0,ks,h=>by rw [show ks = [] from List.mem_singleton.mp h];exact ⟨.nil,fun _ h=>by cases h⟩
  | n + 1,ks,h=>by
    unfold subs at h
    rcases List.mem_append.mp h with h | h
    · have:=za3 n ks h
      exact ⟨this.1,fun k hk=>Nat.lt_succ_of_lt (this.2 k hk)⟩
    · obtain ⟨l,hl,rfl⟩:=List.mem_map.mp h
      have:=za3 n l hl
      refine ⟨List.pairwise_append.mpr ⟨this.1,List.pairwise_singleton _ _,fun a ha b hb=>by rw [List.mem_singleton.mp hb];exact this.2 a ha⟩,fun k hk=>?_⟩
      rcases List.mem_append.mp hk with hk | hk
      · exact Nat.lt_succ_of_lt (this.2 k hk)
      · rw [List.mem_singleton.mp hk];exact Nat.lt_succ_self _
noncomputable def zoe:Bool:=(subs 6).all fun ks=>(List.range 7).all fun h=>SetTable.below ks.toArray h == (ks.filter (· < h)).length
theorem zlb:zoe = true:=by decide +kernel
theorem zf4 {ks:List Nat} (hk:ks ∈ subs 6) {h:Nat} (hh:h < 7):SetTable.below ks.toArray h = (ks.filter (· < h)).length:=by
  have:=List.all_eq_true.mp (List.all_eq_true.mp zlb ks hk) h (List.mem_range.mpr hh)
  exact eq_of_beq this
noncomputable def zl2 (mask:Nat) (hashes:Array Int):Option (List Nat × List Nat):=(SetTable.layClean mask hashes).map fun owner=>
  let live:=(List.range (mask + 1)).filterMap fun j=>(owner.getD j none).map (j,·)
  (live.map (·.1),live.map (·.2))
noncomputable def hsh (ks:List Nat):List Int:=ks.map fun k:Nat=>(k:Int)
noncomputable def layB:Bool:=(subs 6).all fun ks=>[7,15,31].all fun m=>zl2 m (hsh ks).toArray == some (ks,List.range ks.length)
theorem zkC:layB = true:=by decide +kernel
theorem zdS {ks:List Nat} (hk:ks ∈ subs 6) {m:Nat} (hm:m ∈ [7,15,31]) (f mv:Nat) (l p:Bool) :
    SetTable.laid m f mv l p (hsh ks).toArray = some ({ mask:=m,place:=ks.toArray,dummies:=#[],finger:=f,led:=l,moves:=mv,plain:=p },(List.range ks.length).toArray):=by
  have:=eq_of_beq (List.all_eq_true.mp (List.all_eq_true.mp zkC ks hk) m hm)
  unfold zl2 at this
  unfold SetTable.laid
  cases q:SetTable.layClean m (hsh ks).toArray with
  | none=>rw [q] at this;cases this
  | some owner=>
    rw [q] at this
    have h:=Prod.mk.inj (Option.some.inj this)
    show some _ = some _
    rw [h.1,h.2]
end L2
namespace L2
open PySem PySem.Spec
noncomputable def yA (w:World):Bool:=w.params.followText "set-order"
structure DTab (w:World) (es:Array (Int × Value)) (t:SetTable) (ks:List Nat) (m:Nat):Prop where
  keys:es.toList.map (·.1) = hsh ks
  vals:∀ e ∈ es.toList,∃ tk,e.2 = .int e.1 tk
  mask:t.mask = m
  place:t.place = ks.toArray
  dumm:t.dummies = #[]
  plain:t.plain = true
  led:yA w = true\/t.led = true
  sub:ks ∈ subs 6
  ms:m ∈ [7,15,31]
noncomputable def DSet (w:World) (h:Heap) (a:Addr) (ks:List Nat) (m:Nat):Prop:=
  ∃ o es ep t,h.get? a = some o/\o.ExactSet/\o.data = .set es ep t/\DTab w es t ks m
theorem DTab.size {w:World} {es:Array (Int × Value)} {t:SetTable} {ks:List Nat} {m:Nat} (d:DTab w es t ks m):es.size = ks.length:=by
  have:=congrArg List.length d.keys
  unfold hsh at this
  simpa using this
theorem zP {ks:List Nat} (h:ks ∈ subs 6):ks.length<=6:=by
  have:((subs 6).all fun ks=>ks.length<=6) = true:=by decide +kernel
  simpa using List.all_eq_true.mp this ks h
theorem DTab.fits {w:World} {es:Array (Int × Value)} {t:SetTable} {ks:List Nat} {m:Nat} (d:DTab w es t ks m):t.fits es.size = true:=by
  have:=zP d.sub
  have hm:=d.ms
  unfold SetTable.fits SetTable.fill
  rw [d.size,d.place,d.dumm,d.mask]
  simp at hm ⊢
  omega
theorem y8 {k:Nat} (h:k < 6):hashInt (k:Int) = k:=by
  have:((List.range 6).all fun k:Nat=>hashInt (k:Int) == (k:Int)) = true:=by decide +kernel
  exact eq_of_beq (List.all_eq_true.mp this k (List.mem_range.mpr h))
section
variable {prog:Program} {w:World} {A:Around} {E:Value->Shared->Prop} {s:Shared} {a:Addr} {ks:List Nat} {m:Nat}
theorem DTab.elems {es:Array (Int × Value)} {t:SetTable} (d:DTab w es t ks m):ElemsOf (intKind prog w) es.toList:=fun e he=>by
  obtain ⟨tk,ht⟩:=d.vals e he
  have hk:e.1 ∈ hsh ks:=d.keys ▸ List.mem_map_of_mem (f:=(·.1)) he
  obtain ⟨k,hk,ek⟩:=List.mem_map.mp hk
  refine ⟨⟨e.1,?_,?_⟩,by rw [ht];rfl⟩
  · rw [ht];show (e.1 == e.1) = true;exact beq_self_eq_true _
  · show e.1 = hashInt e.1
    rw [← ek,y8 ((za3 6 ks d.sub).2 k hk)]
theorem yU {o:Obj} {es es':Array (Int × Value)} {ep:Nat} {t t':SetTable} {ks':List Nat} {m':Nat} {Q:Unit->Shared->Prop} (ho:s.heap.get? a = some o) (hx:o.ExactSet) (hd:o.data = .set es ep t) (d':DTab w es' t' ks' m')
    (h:∀ h',Heap.SameBut a s.heap h'->DSet w h' a ks' m'->Q () { s with heap:=h' }):wpAny (model prog w) A (storeSet a es' t') Q E s:=by
  have hz:=zP d'.sub
  refine wpAny_storeSet_of ho hd ?_ (by rw [d'.size];exact Nat.le_trans hz (by decide))
  refine h _ (Heap.SameBut.update _ a _) ⟨{ o with data:=.set es' (ep + 1) t' },es',ep + 1,t',?_,?_,rfl,d'⟩
  · have:=Heap.get?_update_self (Obj.putSet es' t') ho (by rw [putSet_of es' t' hd];rfl)
    rw [putSet_of es' t' hd] at this;exact this
  · exact hx
theorem zhy {wanted m':Nat} {Q:Unit->Shared->Prop} (hs:DSet w s.heap a ks m) (hm':SetTable.sizeAbove wanted - 1 = m') (hms:m' ∈ [7,15,31]) (hz:SetTable.sizeAbove wanted<=sizeLine)
    (h:∀ h',Heap.SameBut a s.heap h'->DSet w h' a ks m'->Q () { s with heap:=h' }):wpAny (model prog w) A (setRelay a wanted) Q E s:=by
  obtain ⟨o,es,ep,t,ho,hx,hd,d⟩:=hs
  unfold setRelay
  refine wpAny_bind (wpAny_setState_of ho hd d.fits ?_)
  dsimp only
  rw [if_neg (Nat.not_lt.mpr hz)]
  have e1:es.map (·.1) = (hsh ks).toArray:=by
    rw [← d.keys]
    apply Array.toList_inj.mp
    rw [Array.toList_map]
  have e2:t.relaid (es.map (·.1)) wanted = some ({ mask:=m',place:=ks.toArray,dummies:=#[],finger:=t.finger,led:=t.led,moves:=t.movedTo m',plain:=t.plain },(List.range ks.length).toArray):=by
    unfold SetTable.relaid
    rw [e1,hm',zdS d.sub hms]
  rw [e2]
  refine wpAny_bind ?_
  wp_delta
  have e3:Array.filterMap (fun x=>es[x]?) (List.range ks.length).toArray = es:=by
    apply Array.toList_inj.mp
    rw [← d.size]
    simpa using filterMap_getElem?_range es
  rw [e3,if_neg (by simp)]
  exact wpAny_pure (yU ho hx hd ⟨d.keys,d.vals,rfl,rfl,rfl,d.plain,d.led,d.sub,hms⟩ h)
theorem zeq {more:Nat} {Q:Unit->Shared->Prop} (hs:DSet w s.heap a ks m) (hl:ks.length + more<=12) (h:∀ h' m',Heap.SameBut a s.heap h'->DSet w h' a ks m'->Q () { s with heap:=h' }):wpAny (model prog w) A (setRoomFor a more) Q E s:=by
  obtain ⟨o,es,ep,t,ho,hx,hd,d⟩:=id hs
  unfold setRoomFor
  refine wpAny_bind (wpAny_setState_of ho hd d.fits ?_)
  dsimp only
  have hp:t.place.size = ks.length:=by rw [d.place];simp
  unfold SetTable.roomFor
  rw [hp]
  by_cases hf:(t.fill + more) * 5 ≥ t.mask * 3
  · rw [if_pos hf]
    have hw:∀ n,n<=12->SetTable.sizeAbove (n * 2) - 1 ∈ [7,15,31]/\SetTable.sizeAbove (n * 2)<=100:=by decide +kernel
    obtain ⟨w1,w2⟩:=hw _ hl
    exact zhy hs rfl w1 (Nat.le_trans w2 (by rw [sizeLine_eq];decide)) fun h'=>h h' _
  · rw [if_neg hf]
    exact wpAny_pure (h _ m (Heap.SameBut.refl _ _) hs)
noncomputable def z8 (k:Nat) (ks:List Nat):List Nat:=if k ∈ ks then ks else ks.take (ks.filter (· < k)).length ++ k :: ks.drop (ks.filter (· < k)).length
theorem zjp {k:Nat} (hk:k < 6) {ks:List Nat} (h:ks ∈ subs 6):z8 k ks ∈ subs 6:=by
  have:((List.range 6).all fun k=>(subs 6).all fun ks=>(subs 6).contains (z8 k ks)) = true:=by decide +kernel
  have:=List.all_eq_true.mp (List.all_eq_true.mp this k (List.mem_range.mpr hk)) ks h
  simpa using this
theorem zfv {k x:Nat} {ks:List Nat}:x ∈ z8 k ks ↔ x ∈ ks\/x = k:=by
  unfold z8
  split
  · rename_i h;exact ⟨.inl,fun z=>z.elim id fun e=>e ▸ h⟩
  · have:=List.take_append_drop (ks.filter (· < k)).length ks
    rw [List.mem_append,List.mem_cons]
    constructor
    · rintro (h | rfl | h)
      · exact .inl (List.mem_of_mem_take h)
      · exact .inr rfl
      · exact .inl (List.mem_of_mem_drop h)
    · rintro (h | rfl)
      · rw [← this,List.mem_append] at h
        exact h.elim .inl fun h=>.inr (.inr h)
      · exact .inr (.inl rfl)
theorem zgg {t:SetTable} {ks:List Nat} {k:Nat} (hp:t.place = ks.toArray) (hd:t.dummies = #[]) (hm:k<=t.mask) (hs:k < 2 ^ 64) (hn:k ∉ ks):t.freeSlot (k:Int) = some (k,false):=by
  have hb:SetTable.bits (k:Int) = k:=by
    unfold SetTable.bits
    rw [Int.emod_eq_of_lt (by omega) (by omega)]
    rfl
  have hsl:t.slot k = .empty:=by
    unfold SetTable.slot SetTable.has
    rw [hp,hd]
    dsimp only
    rw [if_neg (by
      intro e
      have e:=eq_of_beq e
      rw [List.getElem?_toArray] at e
      exact hn (List.mem_of_getElem? e)),if_neg (by simp)]
  have hj:(t.probeStart (k:Int)).j = k/\(t.probeStart (k:Int)).dummy = none:=by
    unfold SetTable.probeStart
    rw [hb]
    exact ⟨Nat.mod_eq_of_lt (by omega),rfl⟩
  unfold SetTable.freeSlot SetTable.probe
  rw [show 10 * SetTable.turns t.mask = (10 * t.mask + 149) + 1 by unfold SetTable.turns;omega]
  unfold SetTable.probe.go
  rw [hj.1,hsl,hj.2]
  rfl
theorem DTab.ins {w:World} {es:Array (Int × Value)} {t:SetTable} {ks:List Nat} {m k:Nat} {tk:Tok} (d:DTab w es t ks m) (hk:k < 6) (hn:k ∉ ks):DTab w (SetTable.insertAt es (t.put k).2 ((k:Int),.int (k:Int) tk)) (t.put k).1 (z8 k ks) m:=by
  have hp:(t.put k).2 = (ks.filter (· < k)).length:=by
    unfold SetTable.put
    rw [d.place]
    exact zf4 d.sub (by omega)
  have hi:z8 k ks = ks.take (ks.filter (· < k)).length ++ k :: ks.drop (ks.filter (· < k)).length:=if_neg hn
  refine ⟨?_,?_,d.mask,?_,?_,d.plain,d.led,zjp hk d.sub,d.ms⟩
  · rw [hp,SetTable.toList_insertAt,hi]
    unfold hsh
    rw [List.map_append,List.map_cons,List.map_append,List.map_cons,List.map_take,List.map_take,List.map_drop,List.map_drop]
    have:=d.keys
    unfold hsh at this
    rw [this]
  · intro e he
    rw [SetTable.toList_insertAt] at he
    rcases List.mem_append.mp he with he | he
    · exact d.vals e (List.mem_of_mem_take he)
    · rcases List.mem_cons.mp he with rfl | he
      · exact ⟨tk,rfl⟩
      · exact d.vals e (List.mem_of_mem_drop he)
  · show SetTable.insertAt t.place (SetTable.below t.place k) k = _
    rw [d.place,zf4 d.sub (by omega),hi]
    apply Array.toList_inj.mp
    rw [SetTable.toList_insertAt]
  · show (if SetTable.has t.dummies k then _ else t.dummies) = #[]
    rw [d.dumm]
    rfl
theorem DTab.lay {w:World} {es:Array (Int × Value)} {t:SetTable} {ks:List Nat} {m k:Nat} {tk:Tok} (d:DTab w es t ks m) (hk:k < 6) (hn:k ∉ ks):layNew t es (k:Int) (.int (k:Int) tk) = (SetTable.insertAt es (t.put k).2 ((k:Int),.int (k:Int) tk),(t.put k).1,false,false):=by
  have hm:=d.ms
  have hf:=(d.ins (tk:=tk) hk hn).fits
  unfold layNew
  rw [zgg d.place d.dumm (by rw [d.mask];simp at hm;omega) (by omega) hn]
  dsimp only
  unfold SetTable.orStandIn
  rw [if_pos hf,hf]
  rfl
theorem DTab.full {w:World} {es:Array (Int × Value)} {t:SetTable} {ks:List Nat} {m:Nat} (d:DTab w es t ks m):∃ t' m',relayAll t es (SetTable.grown es.size) = (es,t',false)/\DTab w es t' ks m':=by
  have h6:=zP d.sub
  have hw:∀ n,n<=6->SetTable.sizeAbove (SetTable.grown n) - 1 ∈ [7,15,31]:=by decide +kernel
  have hms:=hw _ h6
  have e1:es.map (·.1) = (hsh ks).toArray:=by
    rw [← d.keys]
    apply Array.toList_inj.mp
    rw [Array.toList_map]
  have e3:Array.filterMap (fun x=>es[x]?) (List.range ks.length).toArray = es:=by
    apply Array.toList_inj.mp
    rw [← d.size]
    simpa using filterMap_getElem?_range es
  have hc:∀ n,n<=6->coversAll (List.range n).toArray n = true:=by decide +kernel
  have d':DTab w es { mask:=SetTable.sizeAbove (SetTable.grown es.size) - 1,place:=ks.toArray,dummies:=#[],finger:=t.finger,led:=t.led,moves:=t.movedTo (SetTable.sizeAbove (SetTable.grown es.size) - 1),plain:=t.plain } ks (SetTable.sizeAbove (SetTable.grown es.size) - 1):=⟨d.keys,d.vals,rfl,rfl,rfl,d.plain,d.led,d.sub,by rw [d.size];exact hms⟩
  refine ⟨_,_,?_,d'⟩
  unfold relayAll SetTable.relaid
  rw [e1,zdS d.sub (by rw [d.size];exact hms)]
  dsimp only
  rw [e3,d'.fits,d.size,hc _ h6]
  rfl
theorem zfO {k:Nat} {tk:Tok} {Q:Bool->Shared->Prop} (hs:DSet w s.heap a ks m) (hk:k < 6) (h:∀ b h' m',Heap.SameBut a s.heap h'->DSet w h' a (z8 k ks) m'->Q b { s with heap:=h' }):wpAny (model prog w) A (setAddHashed a (.int (k:Int) tk) (k:Int)) Q E s:=by
  obtain ⟨o,es,ep,t,ho,hx,hd,d⟩:=id hs
  have key:(intKind prog w).is (k:Int) (.int (k:Int) tk) = true:=by show ((k:Int) == (k:Int)) = true;exact beq_self_eq_true _
  have h6:=zP d.sub
  have hb:es.size < scanBound:=by rw [d.size];exact Nat.lt_of_le_of_lt h6 (by decide)
  unfold setAddHashed setAddHashedIn
  refine wpAny_holding (wpAny_bind (wpAny_setState_of ho hd d.fits ?_))
  dsimp only
  rw [byScan_of (knd:=intKind prog w) rfl hb d.elems]
  simp only [↓reduceIte]
  refine wpAny_bind ?_
  unfold setAddByScan
  refine wpAny_bind (wpAny_rule ?_)
  have sc:=fun Q h=>wpAny_setScan_of (prog:=prog) (w:=w) (A:=A) (E:=E) (s:=s) (x:=.int (k:Int) tk) (adding:=true) (Q:=Q) key ho hd d.fits d.elems h
  rw [show (intKind prog w).hash (k:Int) = (k:Int) from y8 hk] at sc
  refine wpAny_bind (sc _ ?_)
  by_cases hin:k ∈ ks
  · have:∃ j,List.findIdx? (fun e=>(intKind prog w).is (k:Int) e.2) es.toList = some j:=by
      cases q:List.findIdx? (fun e=>(intKind prog w).is (k:Int) e.2) es.toList with
      | some j=>exact ⟨j,rfl⟩
      | none=>
        have hm:(k:Int) ∈ es.toList.map (·.1):=by rw [d.keys];exact List.mem_map.mpr ⟨k,hin,rfl⟩
        obtain ⟨e,he,ek⟩:=List.mem_map.mp hm
        have:=List.findIdx?_eq_none_iff.mp q e he
        obtain ⟨tk',ht⟩:=d.vals e he
        rw [ht,ek] at this
        simp [intKind,Value.isInt] at this
    obtain ⟨j,hj⟩:=this
    rw [hj]
    refine wpAny_pure (wpAny_pure (h false s.heap m (Heap.SameBut.refl _ _) ?_))
    rw [show z8 k ks = ks from if_pos hin]
    exact hs
  · have hno:List.findIdx? (fun e=>(intKind prog w).is (k:Int) e.2) es.toList = none:=by
      refine List.findIdx?_eq_none_iff.mpr fun e he=>?_
      obtain ⟨tk',ht⟩:=d.vals e he
      have hm:e.1 ∈ hsh ks:=d.keys ▸ List.mem_map_of_mem (f:=(·.1)) he
      obtain ⟨x,hx,ex⟩:=List.mem_map.mp hm
      rw [ht,← ex]
      show ((x:Int) == (k:Int)) = false
      exact beq_eq_false_iff_ne.mpr fun z=>hin (by rw [show k = x by omega];exact hx)
    rw [hno]
    dsimp only
    rw [d.lay hk hin]
    dsimp only
    have d2:=d.ins (tk:=tk) hk hin
    refine wpAny_bind (show wpAny (model prog w) A (pure ()) _ E s from wpAny_pure ?_)
    rw [d2.plain]
    simp only [↓reduceIte]
    refine wpAny_bind ?_
    rw [hashByValue_scannable 8 rfl]
    refine wpAny_pure ?_
    simp only [plainKind,↓reduceIte]
    refine wpAny_bind (yU ho hx hd d2 fun h1 sb1 ds1=>?_)
    obtain ⟨t',m',er,d3⟩:=d2.full
    rw [er]
    split
    · refine wpAny_bind (show wpAny (model prog w) A (pure ()) _ E _ from wpAny_pure ?_)
      obtain ⟨o1,es1,ep1,t1,ho1,hx1,hd1,_⟩:=ds1
      refine wpAny_bind (yU ho1 hx1 hd1 d3 fun h2 sb2 ds2=>?_)
      exact wpAny_pure (wpAny_pure (h true h2 m' (sb1.trans sb2) ds2))
    · exact wpAny_pure (wpAny_pure (h true h1 m sb1 ds1))
end
end L2
namespace L2
open PySem PySem.Spec PyProof.Rows
section
variable {prog:Program} {w:World} {A:Around} {E:Value->Shared->Prop} {s:Shared} {a:Addr} {ks:List Nat} {m:Nat}
theorem DSet.keep {h h':Heap} (x:DSet w h a ks m) (k:∀ o,h.get? a = some o->h'.get? a = some o):DSet w h' a ks m:=by
  obtain ⟨o,es,ep,t,ho,r⟩:=x
  exact ⟨o,es,ep,t,k _ ho,r⟩
theorem DSet.lt {h:Heap} (x:DSet w h a ks m):a < h.objs.size:=by
  obtain ⟨o,es,ep,t,ho,r⟩:=x
  exact Heap.lt_size ho
theorem DSet.typeIs {ks:List Nat} {m:Nat} (x:DSet w s.heap a ks m):s.TypeIs (.ref a) "set":=by
  obtain ⟨o,es,ep,t,ho,hx,_⟩:=x
  exact ⟨o,ho,hx.1⟩
theorem zfN (h:Heap):DSet w (h.push { cls:=.type "set",dict:=none,data:=.set #[] 0 (.fresh 0 0 (!yA w)) }) h.objs.size [] 7:=by
  refine ⟨_,#[],0,_,Heap.get?_push_size _ rfl,⟨rfl,rfl,rfl⟩,rfl,rfl,fun e he=>by simp at he,rfl,rfl,rfl,rfl,?_,by decide +kernel,by decide⟩
  cases q:yA w with
  | true=>exact .inl rfl
  | false=>exact .inr rfl
noncomputable def zG (ks ns:List Nat):List Nat:=ns.foldl (fun a k=>z8 k a) ks
theorem zbq {x:Nat}:∀ {ns ks:List Nat},x ∈ zG ks ns ↔ x ∈ ks\/x ∈ ns
  | [],ks=>by simp [zG]
  | n :: ns,ks=>by
    show x ∈ zG (z8 n ks) ns ↔ _
    rw [zbq,zfv,List.mem_cons,or_assoc]
theorem zgf {ks ns:List Nat} {i n:Nat} (h:ns[i]? = some n):zG ks (ns.take (i + 1)) = z8 n (zG ks (ns.take i)):=by
  unfold zG
  rw [List.take_succ,h,List.foldl_append]
  rfl
structure DictN (prog:Program) (w:World) (h:Heap) (d:Addr) (ns:List Nat) (od:Obj) (es:Array DictEntry) (ep:Nat):Prop where
  at_:h.get? d = some od
  exact_:od.ExactDict
  data:od.data = .dict es ep
  size:es.size = ns.length
  keys:∀ (i:Nat) n,ns[i]? = some n->∃ e tk,es[i]? = some e/\e.key = .int (n:Int) tk/\e.hash = (n:Int)
  small:∀ n ∈ ns,n < 6
theorem sub_dict_set:isSubtype (.type "dict") (.type "set") = pure false:=by rw [isSubtype_type];kernel_rfl
theorem zeF:isSubtype (.type "dict") (.type "frozenset") = pure false:=by rw [isSubtype_type];kernel_rfl
theorem zhL {v:Value} {Q:Bool->Shared->Prop} (hT:s.TypeIs v "dict") (h:Q false s):wpAny (model prog w) A (Builtin.Frozenset.isAnySet v) Q E s:=by
  unfold Builtin.Frozenset.isAnySet
  refine wpAny_bind (wpAny_isInstance hT sub_dict_set ?_)
  exact wpAny_isInstance hT zeF h
theorem ziz {d:Addr} {ns:List Nat} {od:Obj} {es:Array DictEntry} {ep:Nat} {id:String} {Q:Unit->Shared->Prop} (D:DictN prog w s.heap d ns od es ep) (hds:(d == sysModules) = false) (hs:DSet w s.heap a [] m) (hl:ns.length<=6)
    (h:∀ h' m',Heap.SameBut a s.heap h'->DSet w h' a (zG [] ns) m'->Q () { s with heap:=h' }):wpAny (model prog w) A (Builtin.Frozenset.updateFrom id a (.ref d)) Q E s:=by
  have hda:d ≠ a:=by
    rintro rfl
    obtain ⟨o,es',ep',t,ho,hx,hd,_⟩:=hs
    rw [D.at_] at ho
    cases ho
    rw [D.data] at hd
    cases hd
  have hT:∀ h',h'.get? d = some od->({ s with heap:=h' }:Shared).TypeIs (.ref d) "dict":=fun h' e=>⟨od,e,D.exact_.1⟩
  have hT0:s.TypeIs (.ref d) "dict":=⟨od,D.at_,D.exact_.1⟩
  unfold Builtin.Frozenset.updateFrom
  refine wpAny_bind (zhL hT0 ?_)
  rw [if_neg (by simp)]
  refine wpAny_bind (wpAny_typeOf hT0 ?_)
  rw [if_pos (by decide)]
  refine wpAny_bind (wpAny_rule ?_)
  refine wpAny_bind (show wpAny _ _ (pure d) _ _ _ from wpAny_pure ?_)
  dsimp only
  rw [if_neg (by rw [hds];exact Bool.false_ne_true)]
  refine wpAny_bind (wpAny_dictEpoch D.at_ D.data ?_)
  refine wpAny_bind (wpAny_dictEntries D.at_ D.data ?_)
  refine wpAny_bind (zeq hs (by rw [D.size];simp only [List.length_nil];omega) fun h1 m1 sb1 ds1=>?_)
  have hd1:h1.get? d = some od:=(sb1.2 d hda).trans D.at_
  refine wpAny_bind (wpAny_dictEntries (s:={ s with heap:=h1 }) hd1 D.data ?_)
  refine wpAny_bind ?_
  rw [Std.Legacy.Range.forIn_eq_forIn_range']
  simp only [Std.Legacy.Range.size,Nat.sub_zero,Nat.add_sub_cancel,Nat.div_one]
  refine wpAny_forIn_list _
    (fun rest _ s'=>∃ h' i mm,s' = { s with heap:=h' }/\rest = List.range' i (es.size - i)/\i<=es.size/\DSet w h' a (zG [] (ns.take i)) mm/\h'.get? d = some od/\Heap.SameBut a s.heap h')
    _ ?_ ?_ _ _ ⟨h1,0,m1,rfl,by simp,Nat.zero_le _,by simpa [zG] using ds1,hd1,sb1⟩
  · rintro x rest b s' ⟨h',i,mm,rfl,hr,hi,ds,hd',sb⟩
    have hlt:i < es.size:=by
      rcases Nat.lt_or_ge i es.size with h | h
      · exact h
      · rw [Nat.sub_eq_zero_of_le h] at hr;simp at hr
    obtain ⟨rfl,hrest⟩:x = i/\rest = List.range' (i + 1) (es.size - (i + 1)):=by
      have e:es.size - i = (es.size - (i + 1)) + 1:=by omega
      rw [e,List.range'_succ] at hr
      injection hr with h1 h2
      exact ⟨h1,h2⟩
    refine wpAny_bind (wpAny_dictEntries (s:={ s with heap:=h' }) hd' D.data ?_)
    obtain ⟨n,hn⟩:∃ n,ns[x]? = some n:=⟨ns[x]'(by rw [← D.size];exact hlt),List.getElem?_eq_getElem _⟩
    obtain ⟨e,tk,he,hk,hh⟩:=D.keys x n hn
    rw [he]
    dsimp only
    rw [hk,hh]
    refine wpAny_bind (wpAny_holding (zfO (s:={ s with heap:=h' }) ds (D.small n (List.mem_of_getElem? hn)) fun b h2 m2 sb2 ds2=>?_))
    have hd2:h2.get? d = some od:=(sb2.2 d hda).trans hd'
    refine wpAny_bind (wpAny_dictEpoch (s:={ s with heap:=h2 }) hd2 D.data ?_)
    rw [if_neg (by simp)]
    exact wpAny_pure ⟨h2,x + 1,m2,rfl,hrest,hlt,by rw [zgf hn];exact ds2,hd2,sb.trans sb2⟩
  · rintro b s' ⟨h',i,mm,rfl,hr,hi,ds,hd',sb⟩
    have hin:i = es.size:=by
      rcases Nat.lt_or_ge i es.size with h | h
      · have e:es.size - i = (es.size - (i + 1)) + 1:=by omega
        rw [e,List.range'_succ] at hr
        cases hr
      · omega
    subst hin
    rw [D.size,List.take_length] at ds
    exact wpAny_pure (h h' mm sb ds)
noncomputable abbrev yH (w:World):Obj:={ cls:=.type "set",dict:=none,data:=.set #[] 0 (.fresh 0 0 (!yA w)) }
set_option maxRecDepth 100000 in
theorem zhC (x:Value) {Q₁:Value->Shared->Prop} (h:Q₁ (.ref s.heap.objs.size) { s with heap:=s.heap.push (yH w) }) :
    codeAny (model prog w) A (.call (.builtin "set.__new__") ⟨[.type "set",x],[]⟩) (wants Q₁ E) s:=by
  refine codeAny_of_tree ?_
  show wpAny _ A.in1 (do checkBuiltinCall "set.__new__" ⟨[.type "set",x],[]⟩;again (.builtin "set.__new__" ⟨[.type "set",x],[]⟩)) _ _ s
  refine wpAny_bind (wpAny_of_eq (PySem.F.newCall_set_1 x) (wpAny_pure ⟨plainId_quiet PySem.F.plain_set_new _,codeAny_builtin PySem.F.entry_set_new ?_⟩))
  rw [Around.under_plainId PySem.F.plain_set_new _]
  unfold Builtin.«set.__new__» Builtin.Frozenset.newClass
  have hsub:=PySem.sub_set_self
  obtain ⟨hp,g,d,tk,os⟩:=s
  dsimp only
  wp_walk
  refine wpAny_askSetting (wpAny_pure ?_)
  dsimp only
  simp only [newObj]
  refine wpAny_bind (wpAny_alloc (wpAny_pure ?_))
  exact wpAny_pure h
set_option maxRecDepth 100000 in
set_option maxHeartbeats 3200000 in
theorem ziF {d:Addr} {ns:List Nat} {od:Obj} {es:Array DictEntry} {ep:Nat} {Q:Value->Shared->Prop} (D:DictN prog w s.heap d ns od es ep) (hds:(d == sysModules) = false) (hl:ns.length<=6)
    (h:∀ h' tk m',(∀ b o,s.heap.get? b = some o->h'.get? b = some o)->s.heap.objs.size + 1<=h'.objs.size->DSet w h' s.heap.objs.size (zG [] ns) m'->Q (.ref s.heap.objs.size) { s with heap:=h',toks:=tk }) :
    wpAny (model prog w) A (call (.type "set") [.ref d]) Q E s:=by
  obtain ⟨c,tl,hmro⟩:=PySem.F.called_set.mro
  have hmade:=PySem.F.called_set.made
  have hsub:=PySem.F.called_set.sub
  refine wpAny_call (codeAny_of_tree ?_)
  show wpAny _ _ (callAny (.type "set") _) _ _ _
  refine wpAny_pure ⟨Code.quiet_builtin _ (by decide +kernel),codeAny_builtin PySem.F.entry_type_call ?_⟩
  rw [Around.under_plain (weight_type_call_type "set" [.ref d] []) rfl]
  have h1:=PySem.F.called_set.notType
  have h2:=PySem.F.called_set.canCreate
  have hct:=PySem.F.typeCall_set_1 (.ref d)
  repeat (any_goals (first | assumption | wp_step))
  refine codeAny_mono (zhC (.ref d) (E:=E) (Q₁:=fun obj s₁=>obj = .ref s.heap.objs.size/\s₁ = { s with heap:=s.heap.push (yH w) }) ⟨rfl,rfl⟩) fun r s₁ hr=>?_
  cases r with
  | error e=>exact hr
  | ok fl=>
    cases fl with
    | ret obj=>
      obtain ⟨rfl,rfl⟩:=hr
      have hS:(s.heap.push (yH w)).get? s.heap.objs.size = some (yH w):=Heap.get?_push_size _ rfl
      have hT:Shared.TypeIs { s with heap:=s.heap.push (yH w) } (.ref s.heap.objs.size) "set":=⟨_,hS,rfl⟩
      have hli:=PySem.F.called_set.init.lookup
      have hbi:=PySem.F.called_set.init.bind (.ref s.heap.objs.size)
      repeat (any_goals (first | assumption | wp_step))
      refine codeAny_mono (codeAny_call_builtin (R:=wants (fun r s₂=>r = .none/\∃ h' tk m',s₂ = { s with heap:=h',toks:=tk }/\(∀ b o,s.heap.get? b = some o->h'.get? b = some o)/\s.heap.objs.size + 1<=h'.objs.size/\DSet w h' s.heap.objs.size (zG [] ns) m') E) PySem.F.called_set.init.plain PySem.F.entry_set_init (check_set_init_1 hT ?_)) fun r₂ s₂ hr₂=>?_
      · have D':DictN prog w (s.heap.push (yH w)) d ns od es ep:=⟨Heap.get?_push_of_some _ D.at_,D.exact_,D.data,D.size,D.keys,D.small⟩
        unfold Builtin.«set.__init__» noKeywords
        have hU:=fun A' Q' E' h'=>ziz (prog:=prog) (w:=w) (A:=A') (E:=E') (s:={ s with heap:=s.heap.push (yH w) }) (a:=s.heap.objs.size) (id:="set.__init__") (Q:=Q') D' hds (zfN s.heap) hl h'
        generalize Builtin.Frozenset.updateFrom = U at hU ⊢
        wp_walk
        refine hU _ _ _ fun h' m' sb ds=>wpAny_pure ⟨rfl,h',s.toks,m',rfl,fun b o e=>(sb.2 b (Nat.ne_of_lt (Heap.lt_size e))).trans (Heap.get?_push_of_some _ e),ds.lt,ds⟩
      · cases r₂ with
        | error e=>exact hr₂
        | ok fl₂=>
          cases fl₂ with
          | ret r=>
            obtain ⟨rfl,h',tk,m',rfl,k1,k2,k3⟩:=hr₂
            repeat (any_goals (first | assumption | wp_step))
            exact h _ _ _ k1 k2 k3
          | _=>exact hr₂.elim
    | _=>exact hr.elim
end
end L2
namespace L2
open PySem PySem.Spec PyProof.Rows
theorem zei {α:Type} (next:Nat->Nat):∀ (fuel k:Nat) (left:List α) (out:Array α),left.length = fuel->(pickOrder.go next fuel k left out).toList.Perm (out.toList ++ left)
  | 0,_,left,out,h=>by rw [List.length_eq_zero_iff.mp h];unfold pickOrder.go;simp
  | fuel + 1,k,left,out,h=>by
    have hl:next k % left.length < left.length:=Nat.mod_lt _ (by omega)
    unfold pickOrder.go
    rw [List.getElem?_eq_getElem hl]
    refine (zei next fuel (k + 1) _ _ (by rw [List.length_eraseIdx_of_lt hl];omega)).trans ?_
    rw [Array.toList_push,List.append_assoc]
    refine List.Perm.append_left _ ?_
    rw [List.eraseIdx_eq_take_drop_succ]
    have e:left = left.take (next k % left.length) ++ left[next k % left.length] :: left.drop (next k % left.length + 1):=by
      rw [← List.drop_eq_getElem_cons hl,List.take_append_drop]
    conv=>rhs;rw [e]
    rw [List.singleton_append]
    exact (List.perm_middle).symm
theorem zdM {α:Type} (next:Nat->Nat) (xs:Array α):(pickOrder next xs).toList.Perm xs.toList:=by
  have:=zei next xs.size 0 xs.toList #[] (by simp)
  simpa [pickOrder] using this
section
variable {prog:Program} {w:World} {A:Around} {E:Value->Shared->Prop} {s:Shared} {a:Addr} {ks:List Nat} {m:Nat}
noncomputable def qu (w:World) (a:Addr) (ep:Nat) (es:Array (Int × Value)):Array (Int × Value):=if yA w = true then pickOrder (w.params.setOrder a ep) es else es
theorem yG {ep:Nat} {es:Array (Int × Value)}:(qu w a ep es).toList.Perm es.toList:=by
  unfold qu
  split
  · exact zdM _ _
  · exact .refl _
theorem zb3 {o:Obj} {es:Array (Int × Value)} {ep:Nat} {t:SetTable} {Q:Array (Int × Value)->Shared->Prop} (ho:s.heap.get? a = some o) (hd:o.data = .set es ep t) (d:DTab w es t ks m) (h:Q (qu w a ep es) s) :
    wpAny (model prog w) A (setWalk a) Q E s:=by
  unfold setWalk
  refine wpAny_bind (wpAny_setState_of ho hd d.fits ?_)
  dsimp only
  unfold setsByText
  refine wpAny_bind (wpAny_bind (wpAny_askSetting (wpAny_pure ?_)))
  unfold qu yA at h
  show wpAny _ _ (if w.params.followText "set-order" = true then _ else _) _ _ _
  by_cases q:w.params.followText "set-order" = true
  · rw [if_pos q] at h ⊢
    exact wpAny_bind (wpAny_askSetting (wpAny_pure h))
  · rw [if_neg q] at h ⊢
    have hl:t.led = true:=d.led.resolve_left q
    refine wpAny_ite_split (fun hab=>?_) fun _=>?_
    · have hab:(!t.plain && decide (es.size > 1)) = true:=hab
      rw [d.plain] at hab
      cases hab
    · refine wpAny_bind ?_
      wp_delta
      rw [if_neg (by rw [hl];simp)]
      exact wpAny_pure (wpAny_pure h)
theorem zhx {o:Obj} {es:Array (Int × Value)} {ep:Nat} {t:SetTable} {os:List Addr} {f:Option Addr} {Q:Array (Int × Value)->Shared->Prop} (ho:s.heap.get? a = some o) (hd:o.data = .set es ep t) (d:DTab w es t ks m) (h:Q (qu w a ep es) s) :
    wpAny (model prog w) A (setWalkUnseen a os f) Q E s:=by
  unfold setWalkUnseen
  refine wpAny_bind (wpAny_setState_of ho hd d.fits ?_)
  dsimp only
  unfold setsByText
  refine wpAny_bind (wpAny_bind (wpAny_askSetting (wpAny_pure ?_)))
  rw [if_pos (by
    have:=d.led
    unfold yA at this
    show (w.params.followText "set-order" || (t.led && t.plain) || decide (es.size<=1)) = true
    rw [d.plain,Bool.and_true]
    rcases this with e | e <;> simp [e])]
  exact zb3 ho hd d h
theorem zee {es:Array (Int × Value)} {ep:Nat} {t:SetTable} (d:DTab w es t ks m) {e:Int × Value} (he:e ∈ (qu w a ep es).toList):∃ (k:Nat) (tk:Tok),e = ((k:Int),.int (k:Int) tk)/\k ∈ ks/\k < 6:=by
  have he:=yG.mem_iff.mp he
  obtain ⟨tk,ht⟩:=d.vals e he
  have hk:e.1 ∈ hsh ks:=d.keys ▸ List.mem_map_of_mem (f:=(·.1)) he
  obtain ⟨k,hk,ek⟩:=List.mem_map.mp hk
  refine ⟨k,tk,?_,hk,(za3 6 ks d.sub).2 k hk⟩
  obtain ⟨x,y⟩:=e
  dsimp only at ht ek
  subst ek
  rw [ht]
theorem zdo {o:Addr} {kb:List Nat} {mb:Nat} {each:Sem Unit} {Q:Unit->Shared->Prop} (hao:a ≠ o) (hs:DSet w s.heap a ks m) (hb:DSet w s.heap o kb mb)
    (hE:∀ (h':Heap) (Q':Unit->Shared->Prop),(∀ ob,s.heap.get? o = some ob->h'.get? o = some ob)->Q' () { s with heap:=h' }->wpAny (model prog w) A each Q' E { s with heap:=h' })
    (h:∀ h' ks' m',Heap.SameBut a s.heap h'->(∀ x,x ∈ ks' ↔ x ∈ ks\/x ∈ kb)->DSet w h' a ks' m'->Q () { s with heap:=h' }):wpAny (model prog w) A (setMerge a o each) Q E s:=by
  obtain ⟨ob,eb,epb,tb,hob,hxb,hdb,db⟩:=id hb
  obtain ⟨oa,ea,epa,ta,hoa,hxa,hda,da⟩:=id hs
  have l1:=zP da.sub
  have l2:=zP db.sub
  unfold setMerge
  rw [if_neg (by simpa using hao)]
  refine wpAny_bind (wpAny_setState_of hob hdb db.fits ?_)
  dsimp only
  by_cases hem:eb.isEmpty = true
  · rw [if_pos hem]
    have:kb = []:=by
      have:=db.size
      rw [Array.isEmpty_iff_size_eq_zero.mp hem] at this
      exact List.length_eq_zero_iff.mp this.symm
    subst this
    exact wpAny_pure (h s.heap ks m (Heap.SameBut.refl _ _) (fun x=>by simp) hs)
  · rw [if_neg hem]
    refine wpAny_bind (zeq hs (by rw [db.size];omega) fun h1 m1 sb1 ds1=>?_)
    obtain ⟨o1,e1,ep1,t1,ho1,hx1,hd1,d1⟩:=id ds1
    have hob1:h1.get? o = some ob:=(sb1.2 o (Ne.symm hao)).trans hob
    refine wpAny_bind (wpAny_setState_of (s:={ s with heap:=h1 }) ho1 hd1 d1.fits ?_)
    dsimp only
    cases hr:t1.road tb with
    | slotForSlot=>
      have hf:t1.fill = 0:=by
        unfold SetTable.road at hr
        split at hr
        · cases hr
        · rename_i z;simpa using z
      have hk:ks = []:=by
        unfold SetTable.fill at hf
        rw [d1.place] at hf
        simp at hf
        exact hf.1
      subst hk
      refine yU (s:={ s with heap:=h1 }) ho1 hx1 hd1 ⟨db.keys,db.vals,db.mask,db.place,db.dumm,by show (t1.plain && tb.plain) = true;rw [d1.plain,db.plain];rfl,?_,db.sub,db.ms⟩ fun h2 sb2 ds2=>h h2 kb _ (sb1.trans sb2) (fun x=>by simp) ds2
      rcases d1.led with e | e
      · exact .inl e
      · rcases db.led with e' | e'
        · exact .inl e'
        · exact .inr (by show (t1.led && tb.led) = true;rw [e,e'];rfl)
    | clean=>
      have hf:t1.fill = 0:=by
        unfold SetTable.road at hr
        split at hr
        · cases hr
        · rename_i z;simpa using z
      have hk:ks = []:=by
        unfold SetTable.fill at hf
        rw [d1.place] at hf
        simp at hf
        exact hf.1
      subst hk
      have g1:eb.map (·.1) = (hsh kb).toArray:=by
        rw [← db.keys]
        apply Array.toList_inj.mp
        rw [Array.toList_map]
      dsimp only
      rw [g1,zdS db.sub (by rw [d1.mask];exact d1.ms)]
      refine wpAny_bind ?_
      wp_delta
      have e3:Array.filterMap (fun x=>eb[x]?) (List.range kb.length).toArray = eb:=by
        apply Array.toList_inj.mp
        rw [← db.size]
        simpa using filterMap_getElem?_range eb
      rw [e3,if_neg (by simp)]
      refine wpAny_pure (yU (s:={ s with heap:=h1 }) ho1 hx1 hd1 ⟨db.keys,db.vals,rfl,rfl,rfl,by show (t1.plain && tb.plain) = true;rw [d1.plain,db.plain];rfl,?_,db.sub,by rw [d1.mask];exact d1.ms⟩ fun h2 sb2 ds2=>h h2 kb _ (sb1.trans sb2) (fun x=>by simp) ds2)
      rcases d1.led with e | e
      · exact .inl e
      · rcases db.led with e' | e'
        · exact .inl e'
        · exact .inr (by show (t1.led && tb.led) = true;rw [e,e'];rfl)
    | oneByOne=>
      dsimp only
      refine wpAny_bind (zhx (s:={ s with heap:=h1 }) hob1 hdb db ?_)
      refine wpAny_bind ?_
      rw [← Array.forIn_toList]
      refine wpAny_forIn_list _
        (fun rest _ s'=>∃ h' kk mm dn,s' = { s with heap:=h' }/\dn ++ rest = (qu w o epb eb).toList/\DSet w h' a kk mm/\h'.get? o = some ob/\Heap.SameBut a s.heap h'/\∀ x:Nat,x ∈ kk ↔ x ∈ ks\/(x:Int) ∈ dn.map (·.1))
        _ ?_ ?_ _ _ ⟨h1,ks,m1,[],rfl,rfl,ds1,hob1,sb1,fun x=>by simp⟩
      · rintro ⟨hx,vx⟩ rest b s' ⟨h',kk,mm,dn,rfl,hr,ds,ho',sb,mem⟩
        obtain ⟨k,tk,ek,hk,hk6⟩:=zee db (a:=o) (ep:=epb) (e:=(hx,vx)) (by rw [← hr];simp)
        cases ek
        refine wpAny_bind (wpAny_holding (zfO (s:={ s with heap:=h' }) ds hk6 fun b h2 m2 sb2 ds2=>?_))
        have ho2:h2.get? o = some ob:=(sb2.2 o (Ne.symm hao)).trans ho'
        refine wpAny_bind (hE h2 _ (fun ob' e=>by rw [hob] at e;cases e;exact ho2) ?_)
        refine wpAny_bind (wpAny_setState_of (s:={ s with heap:=h2 }) ho2 hdb db.fits ?_)
        rw [if_neg (by simp)]
        refine wpAny_pure ⟨h2,z8 k kk,m2,dn ++ [((k:Int),.int (k:Int) tk)],rfl,by rw [← hr];simp,ds2,ho2,sb.trans sb2,fun x=>?_⟩
        rw [zfv,mem,List.map_append,List.mem_append,or_assoc,List.map_cons,List.map_nil,List.mem_singleton]
        have e:x = k ↔ (x:Int) = (k:Int):=by omega
        rw [e]
      · rintro b s' ⟨h',kk,mm,dn,rfl,hr,ds,ho',sb,mem⟩
        refine wpAny_pure (h h' kk mm sb (fun x=>?_) ds)
        rw [mem]
        rw [List.append_nil] at hr
        rw [hr,(yG.map (·.1)).mem_iff,db.keys]
        unfold hsh
        rw [List.mem_map]
        constructor
        · rintro (z | ⟨y,hy,e⟩)
          · exact .inl z
          · exact .inr ((show y = x by omega) ▸ hy)
        · rintro (z | z)
          · exact .inl z
          · exact .inr ⟨x,z,rfl⟩
end
end L2
namespace L2
open PySem PySem.Spec PyProof.Rows
theorem zfL:entryFor table "set.__or__" = some Builtin.«frozenset.__or__»:=
  entryFor_alias (id':="frozenset.__or__") (by kernel_rfl) rfl (by decide +kernel) (by kernel_rfl)
theorem sub_set_set:isSubtype (.type "set") (.type "set") = pure true:=by rw [isSubtype_type];kernel_rfl
section
variable {prog:Program} {w:World} {A:Around} {E:Value->Shared->Prop} {s:Shared} {a b:Addr} {ks kb:List Nat} {m mb:Nat}
theorem zbB {v:Value} {Q:Bool->Shared->Prop} (hT:s.TypeIs v "set") (h:Q true s):wpAny (model prog w) A (Builtin.Frozenset.isAnySet v) Q E s:=by
  unfold Builtin.Frozenset.isAnySet
  refine wpAny_bind (wpAny_isInstance hT sub_set_set ?_)
  exact wpAny_pure h
theorem zjh {Q:Value->Shared->Prop} (h:Q (.ref s.heap.objs.size) { s with heap:=s.heap.push (yH w) }):wpAny (model prog w) A (newSet (.type "set")) Q E s:=by
  unfold newSet setsByText
  refine wpAny_bind (wpAny_bind (wpAny_askSetting (wpAny_pure ?_)))
  dsimp only
  simp only [newObj]
  exact wpAny_bind (wpAny_alloc (wpAny_pure h))
theorem zmP {Q:Value->Shared->Prop} (hs:DSet w s.heap a ks m) (h:∀ h' m',(∀ b o,s.heap.get? b = some o->h'.get? b = some o)->s.heap.objs.size + 1<=h'.objs.size->(∃ kc,DSet w h' s.heap.objs.size kc m'/\∀ x,x ∈ kc ↔ x ∈ ks)->Q (.ref s.heap.objs.size) { s with heap:=h' }) :
    wpAny (model prog w) A (Builtin.Frozenset.copyOf a) Q E s:=by
  unfold Builtin.Frozenset.copyOf Builtin.Frozenset.baseOf
  refine wpAny_bind (wpAny_bind (wpAny_isInstance hs.typeIs sub_set_set (wpAny_pure ?_)))
  rw [if_pos rfl]
  refine wpAny_bind (zjh ?_)
  refine wpAny_bind (show wpAny _ _ (pure s.heap.objs.size) _ _ _ from wpAny_pure ?_)
  have hs1:DSet w (s.heap.push (yH w)) a ks m:=hs.keep fun o e=>Heap.get?_push_of_some _ e
  refine wpAny_bind (zdo (s:={ s with heap:=s.heap.push (yH w) }) (Nat.ne_of_gt hs.lt) (zfN s.heap) hs1 (fun _ _ _ q=>wpAny_pure q) fun h' kc m' sb mem ds=>?_)
  exact wpAny_pure (h h' m' (fun b o e=>(sb.2 b (Nat.ne_of_lt (Heap.lt_size e))).trans (Heap.get?_push_of_some _ e)) ds.lt ⟨kc,ds,fun x=>by rw [mem];simp⟩)
theorem ziT {nm:String} {Q:Unit->Shared->Prop} (hab:a ≠ b) (hs:DSet w s.heap a ks m) (hb:DSet w s.heap b kb mb) (h:∀ h' ks' m',Heap.SameBut a s.heap h'->(∀ x,x ∈ ks' ↔ x ∈ ks\/x ∈ kb)->DSet w h' a ks' m'->Q () { s with heap:=h' }) :
    wpAny (model prog w) A (Builtin.Frozenset.updateFrom nm a (.ref b)) Q E s:=by
  unfold Builtin.Frozenset.updateFrom
  refine wpAny_bind (zbB hb.typeIs ?_)
  rw [if_pos rfl]
  refine wpAny_bind (show wpAny _ _ (pure b) _ _ _ from wpAny_pure ?_)
  unfold Builtin.Frozenset.merge
  obtain ⟨ob,eb,epb,tb,hob,hxb,hdb,db⟩:=id hb
  refine wpAny_bind (wpAny_setEpoch_of hob hdb db.fits ?_)
  refine zdo hab hs hb (fun h' Q' k q=>?_) h
  unfold Builtin.Frozenset.unchanged
  refine wpAny_bind (wpAny_setEpoch_of (s:={ s with heap:=h' }) (k _ hob) hdb db.fits ?_)
  rw [if_neg (by simp)]
  exact wpAny_pure q
theorem znU {Q:Value->Shared->Prop} (hab:a ≠ b) (hs:DSet w s.heap a ks m) (hb:DSet w s.heap b kb mb) (h:∀ h' ks' m',(∀ b o,s.heap.get? b = some o->h'.get? b = some o)->s.heap.objs.size + 1<=h'.objs.size->(∀ x,x ∈ ks' ↔ x ∈ ks\/x ∈ kb)->DSet w h' s.heap.objs.size ks' m'->Q (.ref s.heap.objs.size) { s with heap:=h' }) :
    wpAny (model prog w) A (binaryOp .BitOr (.ref a) (.ref b)) Q E s:=by
  refine wpAny_binaryOp_same (id:="set.__or__") hs.typeIs hb.typeIs PySem.F.fills_set_or PySem.F.slot_set_or (wpAny_call_entry PySem.F.slot_set_or hs.typeIs zfL ?_ (PySem.F.args_set_or_2 _ _))
  unfold Builtin.«frozenset.__or__»
  wp_delta
  refine wpAny_bind (show wpAny _ _ (pure (Value.ref a,Value.ref b)) _ _ _ from wpAny_pure ?_)
  dsimp only
  rw [if_neg (by simp)]
  dsimp only
  refine wpAny_bind (wpAny_bind (zbB hs.typeIs ?_))
  refine zbB hb.typeIs ?_
  rw [if_neg (by simp)]
  refine wpAny_bind (show wpAny _ _ (pure a) _ _ _ from wpAny_pure ?_)
  refine wpAny_bind ?_
  wp_delta
  refine wpAny_bind (zmP hs fun h1 m1 k1 z1 ⟨kc,ds,mem⟩=>?_)
  have hne:s.heap.objs.size ≠ b:=Nat.ne_of_gt hb.lt
  have hb1:DSet w h1 b kb mb:=hb.keep fun o e=>k1 b o e
  rw [if_pos (by simpa using Ne.symm hab)]
  refine wpAny_bind (show wpAny _ _ (pure s.heap.objs.size) _ _ _ from wpAny_pure ?_)
  refine wpAny_bind (wpAny_holding ?_)
  refine ziT (s:={ s with heap:=h1 }) hne ds hb1 fun h2 k2 m2 sb mem2 ds2=>?_
  refine wpAny_pure (wpAny_pure ⟨_,rfl,by simp,h h2 k2 m2 (fun x o e=>(sb.2 x (Nat.ne_of_lt (Heap.lt_size e))).trans (k1 x o e)) ds2.lt (fun x=>by rw [mem2,mem]) ds2⟩)
end
end L2
namespace L2
open PySem PySem.Spec PyProof.Rows PySem.W
theorem yx:Slot "set_iterator" "__next__" "set_iterator.__next__":=
  .of (owner:="set_iterator") (n:="__next__") (by rw [typeLookup_type,builtinLookup_eq_fast];kernel_rfl) (by decide +kernel) (by decide +kernel) (by decide +kernel)
    (by first | exact .inl (by decide +kernel) | exact .inr (by decide +kernel)) (by rw [isSubtype_type];kernel_rfl)
theorem zaJ:Slot "set_iterator" "__iter__" "set_iterator.__iter__":=
  .of (owner:="set_iterator") (n:="__iter__") (by rw [typeLookup_type,builtinLookup_eq_fast];kernel_rfl) (by decide +kernel) (by decide +kernel) (by decide +kernel)
    (by first | exact .inl (by decide +kernel) | exact .inr (by decide +kernel)) (by rw [isSubtype_type];kernel_rfl)
theorem zaC:entryFor table "set_iterator.__next__" = some Builtin.«set_iterator.__next__»:=entryFor_of_tree (by kernel_rfl)
theorem zcx:Manifest.owners.lookup (String.ofList ['r','o','t','a','r','e','t','i','_','t','e','s'].reverse) = some Manifest.sig_set_iterator:=by kernel_rfl
theorem zaV (a:Value):argsOk "set_iterator.__next__" ⟨[a],[]⟩:=by
  unfold argsOk;rw [signature?_of (id:="set_iterator.__next__") (n:=['_','_','t','x','e','n','_','_']) (o:=['r','o','t','a','r','e','t','i','_','t','e','s']) (by kernel_rfl) zcx];kernel_rfl
theorem zcV:entryFor table "set_iterator.__iter__" = some Builtin.«dict_keyiterator.__iter__»:=
  entryFor_alias (id':="dict_keyiterator.__iter__") (by kernel_rfl) rfl (by decide +kernel) (by kernel_rfl)
theorem zdw (a:Value):argsOk "set_iterator.__iter__" ⟨[a],[]⟩:=by
  unfold argsOk;rw [signature?_of (id:="set_iterator.__iter__") (n:=['_','_','r','e','t','i','_','_']) (o:=['r','o','t','a','r','e','t','i','_','t','e','s']) (by kernel_rfl) zcx];kernel_rfl
theorem zdY:entryFor table "set.__iter__" = some Builtin.«frozenset.__iter__»:=
  entryFor_alias (id':="frozenset.__iter__") (by kernel_rfl) rfl (by decide +kernel) (by kernel_rfl)
noncomputable def IsSetIter (h:Heap) (it a:Addr) (sl i n ep:Nat):Prop:=∃ o,h.get? it = some o/\o.cls = .type "set_iterator"/\o.data = .fields #[.int sl 0,.int i 0,.ref a,.int n 0,.int ep 0]
theorem IsSetIter.typeIs {s:Shared} {it a:Addr} {sl i n ep:Nat} (x:IsSetIter s.heap it a sl i n ep):s.TypeIs (.ref it) "set_iterator":=let ⟨o,ho,hc,_⟩:=x;⟨o,ho,hc⟩
theorem IsSetIter.keep {h h':Heap} {it a:Addr} {sl i n ep:Nat} (x:IsSetIter h it a sl i n ep) (k:∀ o,h.get? it = some o->h'.get? it = some o):IsSetIter h' it a sl i n ep:=let ⟨o,ho,r⟩:=x;⟨o,k _ ho,r⟩
noncomputable def slN (ks:List Nat) (i:Nat):Nat:=if i = 0 then 0 else ks.getD (i - 1) 0 + 1
theorem zf3 {ks:List Nat} (h:ks ∈ subs 6) {i:Nat} (hi:i<=ks.length):SetTable.below ks.toArray (slN ks i) = i:=by
  have:((subs 6).all fun ks=>(List.range (ks.length + 1)).all fun i=>SetTable.below ks.toArray (slN ks i) == i) = true:=by decide +kernel
  exact eq_of_beq (List.all_eq_true.mp (List.all_eq_true.mp this ks h) i (List.mem_range.mpr (by omega)))
section
variable {prog:Program} {w:World} {A:Around} {E:Value->Shared->Prop} {s:Shared} {a it:Addr} {ks:List Nat} {m:Nat} {o:Obj} {es:Array (Int × Value)} {ep:Nat} {t:SetTable}
theorem ze4 {sl i:Nat} {e:Int × Value} {Q:Option (Value × Nat)->Shared->Prop} (ho:s.heap.get? a = some o) (hd:o.data = .set es ep t) (d:DTab w es t ks m) (hs:yA w = true\/sl = slN ks i) (he:(qu w a ep es)[i]? = some e)
    (h:∀ sl',yA w = true\/sl' = slN ks (i + 1)->Q (some (e.2,sl')) s):wpAny (model prog w) A (setNext a sl i ep) Q E s:=by
  unfold setNext
  refine wpAny_bind (wpAny_setState_of ho hd d.fits ?_)
  dsimp only
  unfold setsByText
  refine wpAny_bind (wpAny_bind (wpAny_askSetting (wpAny_pure ?_)))
  show wpAny _ _ (if w.params.followText "set-order" = true then _ else _) _ _ _
  by_cases q:w.params.followText "set-order" = true
  · rw [if_pos q,if_neg (by simp)]
    refine wpAny_bind (zb3 ho hd d ?_)
    rw [he]
    exact wpAny_pure (h sl (.inl q))
  · have hsl:=hs.resolve_left q
    have hl:t.led = true:=d.led.resolve_left q
    unfold qu yA at he
    rw [if_neg q] at he
    have hi:i < es.size:=by
      rcases Nat.lt_or_ge i es.size with z | z
      · exact z
      · rw [Array.getElem?_eq_none z] at he;cases he
    rw [if_neg q]
    refine wpAny_ite_split (fun hab=>?_) fun _=>?_
    · have hab:(!t.plain && decide (es.size > 1)) = true:=hab
      rw [d.plain] at hab
      cases hab
    · refine wpAny_bind ?_
      wp_delta
      rw [if_neg (by rw [hl];simp)]
      refine wpAny_pure ?_
      have hb:SetTable.below t.place sl = i:=by rw [d.place,hsl];exact zf3 d.sub (by rw [← d.size];omega)
      obtain ⟨k,hk⟩:∃ k,ks[i]? = some k:=⟨ks[i]'(by rw [← d.size];exact hi),List.getElem?_eq_getElem _⟩
      rw [hb,he,d.place,List.getElem?_toArray,hk]
      refine wpAny_pure (h (k + 1) (.inr ?_))
      unfold slN
      rw [if_neg (by omega),Nat.add_sub_cancel,List.getD_eq_getElem?_getD,hk]
      rfl
theorem ze5 {sl i:Nat} {Q:Option (Value × Nat)->Shared->Prop} (ho:s.heap.get? a = some o) (hd:o.data = .set es ep t) (d:DTab w es t ks m) (hs:yA w = true\/sl = slN ks i) (hi:i = es.size) (h:Q none s):wpAny (model prog w) A (setNext a sl i ep) Q E s:=by
  unfold setNext
  refine wpAny_bind (wpAny_setState_of ho hd d.fits ?_)
  dsimp only
  unfold setsByText
  refine wpAny_bind (wpAny_bind (wpAny_askSetting (wpAny_pure ?_)))
  show wpAny _ _ (if w.params.followText "set-order" = true then _ else _) _ _ _
  by_cases q:w.params.followText "set-order" = true
  · rw [if_pos q,if_neg (by simp)]
    refine wpAny_bind (zb3 ho hd d ?_)
    have hn:(qu w a ep es)[i]? = none:=Array.getElem?_eq_none (by
      have:=(yG (w:=w) (a:=a) (ep:=ep) (es:=es)).length_eq
      simp only [Array.length_toList] at this
      omega)
    rw [hn]
    exact wpAny_pure h
  · have hsl:=hs.resolve_left q
    have hl:t.led = true:=d.led.resolve_left q
    rw [if_neg q]
    refine wpAny_ite_split (fun hab=>?_) fun _=>?_
    · have hab:(!t.plain && decide (es.size > 1)) = true:=hab
      rw [d.plain] at hab
      cases hab
    · refine wpAny_bind ?_
      wp_delta
      rw [if_neg (by rw [hl];simp)]
      refine wpAny_pure ?_
      have hb:SetTable.below t.place sl = i:=by rw [d.place,hsl];exact zf3 d.sub (by rw [← d.size];omega)
      rw [hb,Array.getElem?_eq_none (show es.size<=i by omega)]
      exact wpAny_pure h
theorem zg8 {sl i:Nat} {e:Int × Value} {Q:Option Value->Shared->Prop} (hit:IsSetIter s.heap it a sl i es.size ep) (ho:s.heap.get? a = some o) (hd:o.data = .set es ep t) (d:DTab w es t ks m) (hs:yA w = true\/sl = slN ks i) (he:(qu w a ep es)[i]? = some e)
    (hQ:∀ sl' h',(yA w = true\/sl' = slN ks (i + 1))->IsSetIter h' it a sl' (i + 1) es.size ep->Heap.SameBut it s.heap h'->Q (some e.2) { s with heap:=h' }):wpAny (model prog w) A (pyNext (.ref it)) Q E s:=by
  obtain ⟨oi,hoi,hci,hdi⟩:=id hit
  unfold pyNext
  refine wpAny_bind (wpAny_attempt (wpAny_callSpecial?_slot (name:=Str.ofString "__next__") hit.typeIs yx
    (wpAny_call_entry yx hit.typeIs zaC ?_ (zaV _))))
  unfold Builtin.«set_iterator.__next__»
  refine wpAny_bind (show wpAny _ _ (pure (Value.ref it,([]:List Value))) _ _ _ from wpAny_pure ?_)
  refine wpAny_bind (wpAny_fieldsOf hoi hdi ?_)
  dsimp only
  refine wpAny_bind (wpAny_setEntries_of ho hd d.fits ?_)
  rw [if_neg (by simp)]
  refine wpAny_bind ?_
  rw [Int.toNat_natCast,Int.toNat_natCast,Int.toNat_natCast]
  refine ze4 ho hd d hs he fun sl' hsl'=>?_
  dsimp only
  refine wpAny_bind (wpAny_setField hoi hdi (by simp) ?_)
  have g1:=Heap.get?_update_self (Obj.mapFields (·.setIfInBounds 0 (rawInt (sl':Int)))) hoi (Obj.isFreed_of_fields (Obj.data_mapFields hdi _))
  have g1d:=Obj.data_mapFields hdi (·.setIfInBounds 0 (rawInt (sl':Int)))
  refine wpAny_bind (wpAny_setField (s:={ s with heap:=_ }) g1 g1d (by simp) ?_)
  have g2:=Heap.get?_update_self (Obj.mapFields (·.setIfInBounds 1 (rawInt ((i:Int) + 1)))) g1 (Obj.isFreed_of_fields (Obj.data_mapFields g1d _))
  have g2d:=Obj.data_mapFields g1d (·.setIfInBounds 1 (rawInt ((i:Int) + 1)))
  refine wpAny_pure ⟨_,rfl,wpAny_pure (hQ sl' _ hsl' ⟨_,g2,?_,?_⟩ ((Heap.SameBut.update ..).trans (Heap.SameBut.update ..)))⟩
  · rw [Obj.cls_mapFields,Obj.cls_mapFields];exact hci
  · rw [g2d];simp [rawInt]
theorem zhZ {sl i:Nat} {Q:Option Value->Shared->Prop} (hh:A.handled = none) (hit:IsSetIter s.heap it a sl i es.size ep) (ho:s.heap.get? a = some o) (hd:o.data = .set es ep t) (d:DTab w es t ks m) (hs:yA w = true\/sl = slN ks i) (hi:i = es.size)
    (hQ:∀ h',Heap.ExtBut it s.heap h'->Q none { s with heap:=h' }):wpAny (model prog w) A (pyNext (.ref it)) Q E s:=by
  obtain ⟨oi,hoi,hci,hdi⟩:=id hit
  unfold pyNext
  refine wpAny_bind (wpAny_attempt (wpAny_callSpecial?_slot (name:=Str.ofString "__next__") hit.typeIs yx
    (wpAny_call_entry yx hit.typeIs zaC ?_ (zaV _))))
  unfold Builtin.«set_iterator.__next__»
  refine wpAny_bind (show wpAny _ _ (pure (Value.ref it,([]:List Value))) _ _ _ from wpAny_pure ?_)
  refine wpAny_bind (wpAny_fieldsOf hoi hdi ?_)
  dsimp only
  refine wpAny_bind (wpAny_setEntries_of ho hd d.fits ?_)
  rw [if_neg (by simp)]
  refine wpAny_bind ?_
  rw [Int.toNat_natCast,Int.toNat_natCast,Int.toNat_natCast]
  refine ze5 ho hd d hs hi ?_
  dsimp only
  refine wpAny_bind (wpAny_setField hoi hdi (by simp) ?_)
  refine wpAny_bind ?_
  simp only [newExc,newTuple]
  refine wpAny_bind (wpAny_newObj_type ?_ (by size_fits))
  refine wpAny_bind (m:=firstArgMember _ _) (wpAny_of_eq (a:=Value.none) (by first | rfl | (simp only [firstArgMember];rfl)) ?_)
  refine wpAny_newObj_type ?_ (by size_fits)
  simp only [raiseNew]
  refine wpAny_bind (wpAny_handled ?_)
  rw [show A.in1.handled = none from hh]
  refine wpAny_bind (wpAny_pure (wpAny_throw ?_))
  refine wpAny_bind (wpAny_isInstance (T:="StopIteration") (b:=true) ⟨_,Heap.get?_push_size _ rfl,rfl⟩ isSubtype_stop ?_)
  exact wpAny_pure (hQ _ (((Heap.SameBut.update ..).extBut.push _).push _))
theorem zhh {Q:Value->Shared->Prop} (ho:s.heap.get? a = some o) (hx:o.ExactSet) (hd:o.data = .set es ep t) (d:DTab w es t ks m)
    (hQ:Q (.ref s.heap.objs.size) { s with heap:=s.heap.push { cls:=.type "set_iterator",data:=.fields #[.int 0 0,.int 0 0,.ref a,.int es.size 0,.int ep 0] } }):wpAny (model prog w) A (pyIter (.ref a)) Q E s:=by
  have hT:s.TypeIs (.ref a) "set":=⟨o,ho,hx.1⟩
  refine wpAny_pyIter_slot hT PySem.F.slot_set_iter (wpAny_call_entry PySem.F.slot_set_iter hT zdY ?_ (PySem.F.args_set_iter_1 _))
  unfold Builtin.«frozenset.__iter__»
  refine wpAny_bind (show wpAny _ _ (pure a) _ _ _ from wpAny_pure ?_)
  unfold Builtin.Frozenset.sizeOf
  refine wpAny_bind (wpAny_bind (wpAny_setEntries_of ho hd d.fits (wpAny_pure ?_)))
  unfold setDrawn
  refine wpAny_bind (wpAny_bind (wpAny_setState_of ho hd d.fits ?_))
  unfold setsByText
  refine wpAny_bind (wpAny_bind (wpAny_askSetting (wpAny_pure (wpAny_pure ?_))))
  refine wpAny_ite_split (fun hab=>?_) fun _=>?_
  · have hab:(!(w.params.followText "set-order") && (!t.plain && decide (es.size > 1))) = true:=hab
    rw [d.plain,Bool.not_true,Bool.false_and,Bool.and_false] at hab
    cases hab
  · refine wpAny_bind (wpAny_pure ?_)
    refine wpAny_bind (wpAny_setEpoch_of ho hd d.fits ?_)
    refine wpAny_bind (wpAny_newObj_type ?_)
    exact wpAny_pure ⟨_,rfl,"set_iterator",_,⟨_,Heap.get?_push_size _ rfl,rfl⟩,yx.lookup,hQ⟩
theorem zff {sl i n:Nat} {Q:Value->Shared->Prop} (hit:IsSetIter s.heap it a sl i n ep) (hQ:Q (.ref it) s):wpAny (model prog w) A (pyIter (.ref it)) Q E s:=by
  refine wpAny_pyIter_slot hit.typeIs zaJ (wpAny_call_entry zaJ hit.typeIs zcV ?_ (zdw _))
  show wpAny _ _ (ret (.ref it)) _ _ s
  exact wpAny_pure ⟨_,rfl,"set_iterator",_,hit.typeIs,yx.lookup,hQ⟩
theorem zjq {Q:Bool->Shared->Prop} (hT:s.TypeIs (.ref a) "set") (h:Q false s):wpAny (model prog w) A (Builtin.List.listLengthHint (.ref a)) Q E s:=by
  unfold Builtin.List.listLengthHint
  refine wpAny_bind (wpAny_specialOf hT PySem.F.slot_set_len.lookup ?_)
  generalize hid:("set.__len__":String) = id0
  wp_delta
  rw [show splitId id0 = some ("set","__len__") from by subst hid;decide +kernel]
  subst hid
  refine wpAny_bind (wpAny_isInstance (T:="set") (b:=true) hT sub_set_set ?_)
  refine wpAny_ite_split (fun hab=>absurd hab (by decide)) (fun _=>?_)
  refine wpAny_ite_split (fun _=>?_) (fun hab=>absurd (by decide +kernel) hab)
  refine wpAny_bind (wpAny_typeOf hT ?_)
  exact wpAny_pure h
theorem zhT (hh:A.handled = none) (I:Addr) (hne:a ≠ I) (hx:o.ExactSet) (hd:o.data = .set es ep t) (d:DTab w es t ks m) :
    Walks prog w A I [I,a] [I] es.size (fun i v=>∃ e,(qu w a ep es)[i]? = some e/\e.2 = v) (fun i h=>h.get? a = some o/\∃ sl,IsSetIter h I a sl i es.size ep/\(yA w = true\/sl = slN ks i)) where
  sub:=fun b hb=>by simp at hb;simp [hb]
  frame:=fun _ _ _ st hk=>⟨hk a (by simp) _ st.1,let ⟨sl,x,y⟩:=st.2;⟨sl,x.keep fun o e=>hk I (by simp) o e,y⟩⟩
  item:=fun i s Q E hi st hQ=>by
    obtain ⟨ho,sl,hit,hs⟩:=st
    have hz:(qu w a ep es).size = es.size:=by
      have:=(yG (w:=w) (a:=a) (ep:=ep) (es:=es)).length_eq
      simpa only [Array.length_toList] using this
    obtain ⟨e,he⟩:∃ e,(qu w a ep es)[i]? = some e:=⟨_,Array.getElem?_eq_getElem (by rw [hz];exact hi)⟩
    refine zg8 hit ho hd d hs he fun sl' h' hsl' hit' sb=>?_
    exact hQ e.2 h' s.toks ⟨e,he,rfl⟩ ⟨(sb.2 a hne).trans ho,sl',hit',hsl'⟩ fun b o hb e=>(sb.2 b fun h=>hb (by simp [h])).trans e
  done:=fun s Q E st hQ=>by
    obtain ⟨ho,sl,hit,hs⟩:=st
    exact zhZ hh hit ho hd d hs rfl fun h' he'=>hQ h' s.toks fun b o hb e=>he' b o (fun h=>hb (by simp [h])) e
  self:=fun _ _ _ _ st hQ=>by
    obtain ⟨ho,sl,hit,hs⟩:=st
    exact zff hit hQ
theorem zkF (hx:o.ExactSet) (hd:o.data = .set es ep t) (d:DTab w es t ks m):KdlSrc prog w "set" a a es.size (fun i v=>∃ e,(qu w a ep es)[i]? = some e/\e.2 = v) (fun h=>h.get? a = some o) where
  type:=fun s ho=>⟨o,ho,hx.1⟩
  there:=fun _ ho=>⟨Heap.lt_size ho,Heap.lt_size ho⟩
  keep:=fun _ _ ho hk=>hk a (.inl rfl) _ ho
  notList:=by decide
  notTuple:=by decide
  hint:=fun _ _ s _ ho hq=>zjq ⟨o,ho,hx.1⟩ hq
  iter:=fun _ _ hh ho=>⟨_,_,(fun _ _ hq=>zhh ho hx hd d hq),zhT hh _ (Nat.ne_of_lt (Heap.lt_size ho)) hx hd d,⟨Heap.get?_push_of_some _ ho,0,⟨_,Heap.get?_push_size _ rfl,rfl,rfl⟩,.inr rfl⟩⟩
end
end L2
namespace L2
open PySem PySem.Spec PySem.W PyProof.Rows PySem.Calls
noncomputable def zaf (w:World) (a:Addr) (ks:List Nat):HO:=.ext fun h=>∃ m,DSet w h a ks m
theorem ze6 {P:Program} {w:World} {H:Hp} {h:Heap} {a:Addr} {ks:List Nat} {m:Nat} (d:DSet w h a ks m):ObjOk P w H h a (zaf w a ks):=by
  obtain ⟨o,es,ep,t,ho,r⟩:=id d
  exact ⟨⟨m,d⟩,⟨o,ho⟩,fun h1 h2 ⟨m',x⟩ k=>⟨m',x.keep k⟩⟩
theorem zmi {ns:List Nat} {i:Nat}:(hsh ns)[i]? = (ns[i]?).map fun n:Nat=>(n:Int):=by unfold hsh;rw [List.getElem?_map]
theorem zhr {w:World} {n:Nat} (h:n < 6):zmb w (.inl (n:Int)) = (n:Int):=y8 h
section
variable {X:Cx}
theorem Inv.letEq {pins:List (Addr × Obj)} {σ:St} {H H':Hp} {s:Shared} {e:Addr} {φ:Heap->Prop} (I:Inv X pins σ H s) (he:H e = some (.ext φ)) (q:qA H e = H'):Inv X pins σ H' s:=q ▸ I.let he
noncomputable def znN (w:World):List V->Hp->VK->Prop:=fun xs H Q=>∃ (d:Addr) (kvs:List (Key × V)) (ns:List Nat),xs = [.ref d]/\Rd H d (.dK kvs)/\kvs.map (·.1) = (hsh ns).map Sum.inl/\(∀ n ∈ ns,n < 6)/\ns.length<=6 /\
  ∀ c,H c = none->Q (.ref c) (upd H c (zaf w c (zG [] ns)))
theorem zet:CallR X (.type "set") (znN X.w):=by
  intro pins s σ H xs us Q I r h
  obtain ⟨d,kvs,ns,rfl,hq,hns,hsm,hl,q⟩:=h
  obtain ⟨u,rfl,rx⟩:=vals1 r
  cases rx
  obtain ⟨z,hd,vs,rel,od,es,ep,ho,hx,hdat,hk,hp,hnd⟩:=zco I.hok hq
  have hlen:=rel.length
  have hlk:kvs.length = ns.length:=by
    have:=congrArg List.length hns
    unfold hsh at this
    simpa using this
  have D:DictN X.prog X.w s.heap d ns od es ep:=by
    refine ⟨ho,hx,hdat,?_,?_,hsm⟩
    · have:=hp.length
      rw [Array.length_toList] at this
      omega
    · intro i n hn
      have hiv:i < vs.length:=by
        have:=(List.getElem?_eq_some_iff.mp hn).1
        omega
      have hie:i < es.size:=by
        have:=hp.length
        rw [Array.length_toList] at this
        omega
      obtain ⟨kv,h1⟩:∃ kv,vs[i]? = some kv:=⟨vs[i],List.getElem?_eq_getElem hiv⟩
      have h2:es.toList[i]? = some es[i]:=by rw [Array.getElem?_toList];exact Array.getElem?_eq_getElem hie
      obtain ⟨hkey,hval⟩:=hp.get? (e:=es[i]) (by simp [hie]) h1
      have hky:kv.1 = .inl (n:Int):=by
        have e5:(vs.map (·.1))[i]? = some kv.1:=by rw [List.getElem?_map,h1];rfl
        rw [← rel.keys,hns,List.getElem?_map,zmi,hn] at e5
        exact (Option.some.inj e5).symm
      rw [hky] at hkey
      obtain ⟨k',hkey',hhash⟩:=hk es[i] (Array.getElem_mem hie)
      have:k' = .inl (n:Int):=(yo X.prog X.w).inj _ _ _ hkey' hkey
      subst this
      rcases yr (show zbo (.inl (n:Int)) es[i].key = true from hkey) with ⟨j,tk,e1,e2⟩ | ⟨x,tk,e1,e2⟩
      · cases e1
        exact ⟨es[i],tk,Array.getElem?_eq_getElem hie,e2,by rw [hhash];exact zhr (w:=X.w) (hsm n (List.mem_of_getElem? hn))⟩
      · cases e1
  refine ziF D hd hl fun h' tk m' k1 k2 ds=>?_
  exact ⟨.ref s.heap.objs.size,_,I.laid (t':=tk) k1 (Nat.le_refl _) (ze6 ds),rfl,q _ I.fresh⟩
noncomputable def orR (w:World):R2:=fun x y H Q=>∃ (a b:Addr) (ka kb:List Nat),x = .ref a/\y = .ref b/\a ≠ b/\H a = some (zaf w a ka)/\H b = some (zaf w b kb) /\
  ∀ (c:Addr) (kc:List Nat),H c = none->kc ∈ subs 6->(∀ x,x ∈ kc ↔ x ∈ ka\/x ∈ kb)->Q (.ref c) (upd (qA (qA H a) b) c (zaf w c kc))
theorem zlQ:OpR X (binaryOp .BitOr) (orR X.w):=by
  intro pins s σ H x y u v Q I rx ry h
  obtain ⟨a,b,ka,kb,rfl,rfl,hab,ha,hb,q⟩:=h
  cases rx
  cases ry
  obtain ⟨⟨ma,da⟩,_⟩:=I.hok a _ ha
  obtain ⟨⟨mb,db⟩,_⟩:=I.hok b _ hb
  refine znU hab da db fun h' kc m' k1 k2 mem ds=>?_
  have I1:=I.laid (t':=s.toks) k1 (Nat.le_refl _) (ze6 ds)
  have nf:=I.fresh
  have hca:s.heap.objs.size ≠ a:=fun e=>by rw [e,ha] at nf;cases nf
  have hcb:s.heap.objs.size ≠ b:=fun e=>by rw [e,hb] at nf;cases nf
  have I2:=I1.let (e:=a) (by rw [qd (Ne.symm hca)];exact ha)
  have I3:=I2.let (e:=b) (by
    show (if b = a then none else upd H _ _ b) = _
    rw [if_neg (Ne.symm hab),qd (Ne.symm hcb)];exact hb)
  have eH:qA (qA (upd H s.heap.objs.size (zaf X.w s.heap.objs.size kc)) a) b = upd (qA (qA H a) b) s.heap.objs.size (zaf X.w s.heap.objs.size kc):=by
    funext z
    unfold qA upd
    by_cases e:z = s.heap.objs.size
    · subst e
      rw [if_pos rfl,if_neg hcb,if_neg hca,if_pos rfl]
    · rw [if_neg e,if_neg e]
  rw [eH] at I3
  obtain ⟨o,es,ep,t,ho,hx,hd,dt⟩:=ds
  exact ⟨.ref s.heap.objs.size,_,I3,rfl,q _ kc nf dt.sub mem⟩
noncomputable def znL (w:World):List V->Hp->VK->Prop:=fun xs H Q=>∃ (a:Addr) (ks:List Nat),xs = [.ref a]/\H a = some (zaf w a ks)/\∀ l,H l = none->Q (.ref l) (upd (qA H a) l (.lst ((hsh ks).map V.int)))
theorem zeG:∀ {xs ys:List Int},xs.Pairwise (·<=·)->ys.Pairwise (· < ·)->xs.Perm ys->xs = ys:=fun h1 h2 p=>
  p.eq_of_pairwise (le:=(·<=·)) (fun a b _ _ h h'=>Int.le_antisymm h h') h1 (h2.imp fun h=>Int.le_of_lt h)
theorem ziE (hc:X.calm = true):CallR X (.builtin "sorted") (znL X.w):=by
  intro pins s σ H xs us Q I r h
  obtain ⟨a,ks,rfl,ha,q⟩:=h
  obtain ⟨u,rfl,rx⟩:=vals1 r
  cases rx
  obtain ⟨⟨m,o,es,ep,t,ho,hx,hd,dt⟩,_⟩:=I.hok a _ ha
  have h6:=zP dt.sub
  have hz:es.size<=sizeLine:=by rw [dt.size];exact Nat.le_trans h6 (by decide)
  refine PySem.Calls.call_function_entry kind_sorted plain_sorted entry_sorted (args_sorted1 _) (show wpAny _ _ (Builtin.«sorted» _) _ _ _ from ?_)
  unfold Builtin.«sorted»
  refine wpAny_bind (m:=checkCount "sorted" 1 1 _) (wpAny_pure (wpAny_bind (zhB (zkF hx hd dt) (I.ok.hd hc) ho hz fun h' tk acc hk hsz hacc=>?_)))
  have hla:acc.toList.length = ks.length:=by rw [Array.length_toList,hacc.1,dt.size]
  refine wpAny_bind (wpAny_newList ?_ (by rw [hla];exact Nat.le_trans h6 (by decide)))
  have hwl:(qu X.w a ep es).toList.length = ks.length:=by rw [yG.length_eq,Array.length_toList,dt.size]
  have hI:IntsAre acc.toList ((qu X.w a ep es).toList.map (·.1)):=by
    refine zel (zcv (by rw [List.length_map,List.length_map,hla,hwl]) fun i v w' e1 e2=>?_)
    obtain ⟨e,e3,e4⟩:=hacc.2 i w' (by simpa using e2)
    rw [List.getElem?_map,List.getElem?_map,Array.getElem?_toList,e3] at e1
    cases e1
    obtain ⟨k,tk',ek,_⟩:=zee dt (a:=a) (ep:=ep) (e:=e) (by rw [← Array.getElem?_toList] at e3;exact List.mem_of_getElem? e3)
    subst ek
    subst e4
    exact ⟨_,rfl⟩
  have hoL:(h'.push (seqObj "list" acc.toList.toArray 0)).get? h'.objs.size = some (seqObj "list" acc.toList.toArray 0):=Heap.get?_push_size _ rfl
  refine wpAny_bind (wpAny_holding (wpAny_call_entry slot_list_sort ⟨_,hoL,rfl⟩ entry_list_sort (list_sort_tree hoL hI (by omega) fun out ns' a1 a2 a3=>⟨_,rfl,?_⟩) (args_list_sort _)))
  have ens:ns' = hsh ks:=by
    refine zeG a3 ?_ (a2.trans ((yG.map (·.1)).trans (by rw [dt.keys])))
    unfold hsh
    rw [List.pairwise_map]
    exact (za3 6 ks dt.sub).1.imp fun h=>by omega
  subst ens
  obtain ⟨e,he⟩:=sortedHeap_at (out:=out) hoL
  have nf:=I.hok.fresh hsz
  have hla':h'.objs.size ≠ a:=fun e=>by rw [e,ha] at nf;cases nf
  have eH:qA (upd H h'.objs.size (.lst ((hsh ks).map V.int))) a = upd (qA H a) h'.objs.size (.lst ((hsh ks).map V.int)):=by
    funext z
    unfold qA upd
    by_cases e:z = h'.objs.size
    · subst e
      rw [if_pos rfl,if_neg hla',if_pos rfl]
    · rw [if_neg e,if_neg e]
  refine wpAny_pure ⟨_,rfl,?_⟩
  refine ⟨.ref h'.objs.size,_,Inv.letEq (e:=a) (H:=upd H h'.objs.size (.lst ((hsh ks).map V.int))) (I.laid (t':=tk) (fun b o e=>?_) hsz (show ObjOk X.prog X.w _ _ _ (.lst ((hsh ks).map V.int)) from ⟨?_,out.toList,e,zc6 a1,?_⟩)) (by rw [qd (Ne.symm hla')];exact ha) eH,rfl,q _ nf⟩
  · have hb:=Heap.lt_size (hk b o e)
    show (sortedHeap _ _ _ _).get? b = some o
    rw [sortedHeap_old (Nat.ne_of_lt hb) (by rw [size_push'];exact Nat.lt_succ_of_lt hb),Heap.get?_push_ne _ _ _ (Nat.ne_of_lt hb)]
    exact hk b o e
  · have:=a2.length_eq
    rw [List.length_map]
    unfold hsh
    rw [List.length_map]
    exact Nat.le_trans h6 (by decide)
  · rw [Array.toArray_toList];exact he
end
end L2
namespace FT
open PySem PySem.Spec PyProof.Rows L2
noncomputable def zbX:List Key->Option (List Nat)
  | []=>some []
  | .inl i :: ks=>if 0<=i/\i < 6 then (zbX ks).map (i.toNat :: ·) else none
  | _ :: _=>none
theorem zdU:∀ {ks:List Key} {ns:List Nat},zbX ks = some ns->ks = (hsh ns).map Sum.inl/\∀ n ∈ ns,n < 6
  | [],ns,h=>by cases h;exact ⟨rfl,fun _ h=>by cases h⟩
  | .inr _ :: _,_,h=>by cases h
  | .inl i :: ks,ns,h=>by
    unfold zbX at h
    split at h
    · rename_i hi
      cases q:zbX ks with
      | none=>rw [q] at h;cases h
      | some ms=>
        rw [q] at h
        cases h
        obtain ⟨e,sm⟩:=zdU q
        refine ⟨?_,fun n hn=>?_⟩
        · rw [e]
          show _ = Sum.inl ((i.toNat:Nat):Int) :: (hsh ms).map Sum.inl
          rw [Int.toNat_of_nonneg hi.1]
        · rcases List.mem_cons.mp hn with rfl | hn
          · omega
          · exact sm n hn
    · cases h
noncomputable def zcC (a b:List Nat):List Nat:=(List.range 6).filter fun k=>decide (k ∈ a\/k ∈ b)
theorem zj2 {a b kc:List Nat} (h:kc ∈ subs 6) (m:∀ x,x ∈ kc ↔ x ∈ a\/x ∈ b):kc = zcC a b:=by
  have:((subs 6).all fun kc=>kc == (List.range 6).filter fun k=>decide (k ∈ kc)) = true:=by decide +kernel
  have e:=eq_of_beq (List.all_eq_true.mp this kc h)
  rw [e]
  unfold zcC
  refine List.filter_congr fun k _=>?_
  exact decide_eq_decide.mpr (m k)
noncomputable def zeY (t u:T) (M:Mem):Out (List T):=match qU t M,qU u M with
  | some ka,some kb=>match zbX (ka.map (·.1)),zbX (kb.map (·.1)) with
    | some na,some nb=>if na.length<=6/\nb.length<=6 then .ok ((hsh (zcC na nb)).map .int) M else .bad
    | _,_=>.bad
  | _,_=>.bad
noncomputable def zdT (i j:Nat):Ev->Mem->Out (List T):=fun σ M=>(yb i σ M).bind fun t M1=>(yb j σ M1).bind fun u M2=>zeY t u M2
section
variable {X:Cx} {XE:XK}
theorem zlq {H:Hp} {p c:Addr} {o o':HO} (h:Rd H p o) (hc:H c = none):Rd (upd H c o') p o:=by
  have hne:p ≠ c:=by
    rintro rfl
    rcases h with h | ⟨_,h⟩ <;> (rw [hc] at h;cases h)
  rcases h with h | ⟨x,h⟩
  · exact .inl (by rw [qd hne];exact h)
  · exact .inr ⟨x,by rw [qd hne];exact h⟩
theorem yO {H:Hp} {c z:Addr} {o:HO} (h:upd H c o z = none):z ≠ c/\H z = none:=by
  unfold upd at h
  split at h
  · cases h
  · rename_i e;exact ⟨e,h⟩
theorem ziL {H:Hp} {c1 c2 c3:Addr} {o1 o2 o3:HO} (h1:H c1 = none) (h2:upd H c1 o1 c2 = none) (h3:upd (upd H c1 o1) c2 o2 c3 = none):qA (upd (qA (qA (upd (upd H c1 o1) c2 o2) c1) c2) c3 o3) c3 = H:=by
  obtain ⟨n2,h2⟩:=yO h2
  obtain ⟨n3,h3⟩:=yO h3
  obtain ⟨n4,h3⟩:=yO h3
  funext z
  unfold qA upd
  by_cases e3:z = c3
  · rw [if_pos e3,e3,h3]
  · rw [if_neg e3,if_neg e3]
    dsimp only
    by_cases e2:z = c2
    · rw [if_pos e2,e2,h2]
    · rw [if_neg e2]
      by_cases e1:z = c1
      · rw [if_pos e1,e1,h1]
      · rw [if_neg e1,if_neg e2,if_neg e1]
theorem zmv {i j:Nat} {a b:Expr} {p1 p2 p3 q1 q2 q3 q4:Pos} (hc:X.calm = true) (ha:PE X a (zbF i)) (hb:PE X b (zbF j)) (hgs:Gl X "sorted") (hms:X.mg "sorted" = none) (hgt:Gl X "set") (hmt:X.mg "set" = none)
    (na:noStar a = true:=by rfl) (nb:noStar b = true:=by rfl) :
    GL X XE (.Call (.Name "sorted" p1) [.BinOp (.Call (.Name "set" p2) [a] [] q1) .BitOr (.Call (.Name "set" p3) [b] [] q2) q3] [] q4) (zdT i j):=by
  have bs:bootBuiltins "sorted" = some (.builtin "sorted"):=by decide +kernel
  have bt:bootBuiltins "set" = some (.type "set"):=by decide +kernel
  have P:=zfi (x:="sorted") (p:=p1) (pos:=q4) (ziE hc) hgs hms bs (zch (zhj (pos:=q3) zlQ (zaP (x:="set") (p:=p2) (pos:=q1) zet hgt hmt bt (zch ha zdb (yn na)) (by decide) (by decide) (yn na) rfl) (zaP (x:="set") (p:=p3) (pos:=q2) zet hgt hmt bt (zch hb zdb (yn nb)) (by decide) (by decide) (yn nb) rfl)) zdb) (by decide) (by decide)
  refine PE.imp P fun σ H Q hh=>?_
  obtain ⟨S,στ,eS,m,ev,fin⟩:=hh
  subst eS
  replace fin:FinL XE X.K S (zdT i j στ S.M) Q:=fin
  unfold zdT yb at fin
  cases qi:στ[i]? with
  | none=>rw [qi] at fin;exact fin.elim
  | some oi=>
    cases oi with
    | none=>rw [qi] at fin;exact fin.elim
    | some t=>
      rw [qi] at fin
      cases qj:στ[j]? with
      | none=>rw [qj] at fin;exact fin.elim
      | some oj=>
        cases oj with
        | none=>rw [qj] at fin;exact fin.elim
        | some u=>
          rw [qj] at fin
          replace fin:FinL XE X.K S (zeY t u S.M) Q:=fin
          obtain ⟨v1,e1,r1⟩:=ev.2 i t qi
          obtain ⟨v2,e2,r2⟩:=ev.2 j u qj
          unfold zeY at fin
          split at fin
          · rename_i ka kb da db
            split at fin
            · rename_i na nb qa qb
              split at fin
              · rename_i hl
                obtain ⟨p1,us1,rfl,rd1,rk1⟩:=yK m r1 da
                obtain ⟨p2,us2,rfl,rd2,rk2⟩:=yK m r2 db
                obtain ⟨ea,sa⟩:=zdU qa
                obtain ⟨eb,sb⟩:=zdU qb
                refine ⟨.ref p1,e1,p1,us1,na,rfl,rd1,by rw [← rk1.1];exact ea,sa,hl.1,fun c1 hc1=>⟨.ref p2,e2,p2,us2,nb,rfl,zlq rd2 hc1,by rw [← rk2.1];exact eb,sb,hl.2,fun c2 hc2=>
                  ⟨c1,c2,_,_,rfl,rfl,(yO hc2).1.symm,by rw [qd (yO hc2).1.symm];exact qf,qf,fun c3 kc hc3 hsub hmem=>⟨c3,kc,rfl,qf,fun l hl=>?_⟩⟩⟩⟩
                rw [ziL hc1 hc2 hc3]
                have hn:S.H l = none:=by
                  have:=ziL (o3:=zaf X.w c3 kc) hc1 hc2 hc3
                  by_cases e:l = c3
                  · subst e;exact (yO (yO hc3).2).2
                  · rw [← this,qQ e];exact hl
                have ek:kc = zcC na nb:=zj2 hsub fun x=>by rw [hmem,zbq,zbq];simp
                subst ek
                exact zfn m fin (.ints _) l hn
              · exact fin.elim
            · exact fin.elim
          · exact fin.elim
end
end FT
namespace FT
open PySem PySem.Spec PyProof.Rows L2
noncomputable def zdV (f:List T->Mem->Out T):List T->Mem->Out T:=fun ts M=>match f ts M with
  | .ok (.ref a) M'=>match M'[a]? with
    | some (.lst xs)=>@ite _ (M'.take M.length = M/\M.length<=a/\∀ x ∈ xs,T.lt 0 x) (Classical.propDecidable _) (.ok (.lst xs) M) .bad
    | _=>.bad
  | _=>.bad
theorem zk0 (f:List T->Mem->Out T):zeb (zdV f) f:=by
  intro ts M t' M1 _ e
  unfold zdV at e
  split at e
  · rename_i a M' q
    split at e
    · rename_i xs qa
      split at e
      · rename_i hc
        cases e
        have hl:M.length<=M'.length:=by
          have:=congrArg List.length hc.1
          rw [List.length_take] at this
          omega
        refine ⟨_,_,q,Nat.le_refl _,hl,hc.1.symm,fun i c e=>.inl e,.ref qa hc.2.1 rfl fun i t u e1 e2=>?_⟩
        rw [e1] at e2
        cases e2
        exact .same ((hc.2.2 t (List.mem_of_getElem? e1)).mono (Nat.zero_le _))
      · cases e
    · cases e
  · cases e
theorem zk1 (f:List T->Mem->Out T):∀ ts M C fs M',zdV f ts M ≠ .exn C fs M':=by
  intro ts M C fs M' e
  unfold zdV at e
  split at e
  · split at e
    · split at e <;> cases e
    · cases e
  · cases e
end FT
namespace FT
open PySem PySem.Spec PyProof.Rows L2
noncomputable def zdg:T->Mem->Out T:=fun t M=>match t with
  | .tup xs=>match zcT xs with
    | some ns=>if ns = [] then .bad else .ok (.int (mnI ns)) M
    | none=>.bad
  | _=>.bad
section
variable {X:Cx} {XE:XK}
theorem zhG (hc:X.calm = true):CallR X (.builtin "min") (fun xs H Q=>∃ (p:Addr) (ns:List Int),xs = [.ref p]/\SqT X.K H p (ns.map V.int)/\ns ≠ []/\Q (.int (mnI ns)) H):=by
  intro pins s σ H xs us Q I r h
  obtain ⟨p,ns,rfl,hq,hne,q⟩:=h
  obtain ⟨u,rfl,rx⟩:=vals1 r
  cases rx
  obtain ⟨its,r',pl,hz⟩:=I.tuple hq
  have hlen:=r'.length
  rw [List.length_map] at hlen
  have hpos:=List.length_pos_iff.mpr hne
  refine call_min_walkS (wpAny_pyIter_tuple pl ?_)
  have hlt:p < s.heap.objs.size:=by
    obtain ⟨o,ho,_⟩:=pl
    exact Heap.lt_size ho
  have hsz:its.toArray.size = ns.length:=by simp [hlen]
  refine ⟨s.heap.objs.size,_,_,_,_,_,_,_,rfl,(Walks.tuple (by exact I.ok.hd hc) _ p (Nat.ne_of_lt hlt) its.toArray).toS,⟨⟨_,Heap.get?_push_size _ rfl,rfl,rfl⟩,?_⟩,?_,by rw [hsz];exact hpos,CmpOf.ints_lt (fun i=>ns.getD i 0) (fun i v e=>ints_get r' (show its[i]? = some v by simpa using e)),fun v s' hP hm=>?_⟩
  · obtain ⟨o,ho,c⟩:=pl
    exact ⟨o,Heap.get?_push_of_some _ ho,c⟩
  · intro b hb
    rw [show ({ s with heap:=s.heap.push _ }:Shared).heap.objs.size = s.heap.objs.size + 1 from Heap.size_push ..]
    rcases List.mem_cons.mp hb with rfl | hb
    · exact Nat.lt_succ_self _
    · rw [List.mem_singleton.mp hb];exact Nat.lt_succ_of_lt hlt
  · have hP':its.toArray[argBest (fun i j=>decide (ns.getD i 0 < ns.getD j 0)) (its.toArray.size - 1)]? = some v:=hP
    rw [hsz,List.getElem?_toArray] at hP'
    obtain ⟨t,rfl⟩:=ints_get r' hP'
    obtain ⟨h',g',d',tk,o'⟩:=s'
    have e1:g' = s.gens:=hm.gens
    have e2:d' = s.drawn:=hm.drawn
    have e3:o' = s.os:=hm.os
    subst e1;subst e2;subst e3
    refine ⟨.int (mnI ns),H,I.kept (t':=tk) (fun b o eb=>hm.heap b o (fun z=>?_) (Heap.get?_push_of_some _ eb)),⟨t,rfl⟩,q⟩
    have z':b = s.heap.objs.size:=by simpa using z
    exact absurd (Heap.lt_size eb) (by rw [z'];exact Nat.lt_irrefl _)
theorem zhF (hc:X.calm = true):CallR X (.builtin "min") (lRN XE X.K (zq zdg)):=zaF fun pins s σ S t x v Q I rx m r fin=>by
  unfold zdg at fin
  split at fin
  · rename_i xs
    split at fin
    · rename_i bs q2
      split at fin
      · exact fin.elim
      · rename_i hne
        cases r with
        | @tup ts p vs h l r=>
          rw [zfw q2 ⟨l,r⟩] at h
          exact zhG hc pins s σ S.H _ _ Q I (.cons rx .nil) ⟨p,bs,rfl,h,hne,fin S _ rfl (.refl m) (.int _)⟩
    · exact fin.elim
  · exact fin.elim
end
end FT
namespace FT
open PySem PySem.Spec PyProof.Rows L2
structure WE (X:Cx) (XE:XK) (e:Expr) (f:Ev->Mem->Out T):Prop where
  pe:GE X XE e f
structure WT (X:Cx) (XE:XK) (e:Expr) (f:Ev->Mem->Out Bool):Prop where
  pe:GT X XE e f
structure WW (X:Cx) (XE:XK) (e:Expr) (f:Ev->Mem->Out Bool):Prop where
  pe:GW X XE e f
structure WA (X:Cx) (XE:XK) (e:List Expr) (f:Ev->Mem->Out (List T)):Prop where
  pe:GA X XE e f
structure WSs (X:Cx) (XE:XK) (e:List Stmt) (f:Ev->Mem->Out Fl):Prop where
  pe:GSs X XE e f
structure WS (X:Cx) (XE:XK) (e:Stmt) (f:Ev->Mem->Out Fl):Prop where
  pe:GS X XE e f
structure WL (X:Cx) (XE:XK) (e:Expr) (f:Ev->Mem->Out (List T)):Prop where
  pe:GL X XE e f
structure WGs (X:Cx) (XE:XK) (e:List Expr) (f:List T->Ev->Mem->Out Ev):Prop where
  pe:GGs X XE e f
structure WG (X:Cx) (XE:XK) (e:Expr) (f:T->Ev->Mem->Out Ev):Prop where
  pe:GG X XE e f
structure WO (X:Cx) (XE:XK) (e:Option Expr) (f:Ev->Mem->Out (Option Int)):Prop where
  pe:GO X XE e f
structure WI (X:Cx) (XE:XK) (tg iter:Expr) (f:Ev->Mem->Out (List T)):Prop where
  pe:GI X XE tg iter f
structure WX (X:Cx) (e:List Stmt) (f:Ev->Mem->Out Fl):Prop where
  pe:GX X e f
structure WIG (X:Cx) (XE:XK) (tg iter:Expr) (f:Ev->Mem->Out (List T × Gd)):Prop where
  pe:GIG X XE tg iter f
section
variable {X:Cx} {XE:XK} {a b c e:Expr} {es:List Expr} {f g h:Ev->Mem->Out T} {pos:Pos} {ga:Ev->Mem->Out (List T)}
theorem ya {i:Nat} (h:PE X e (zbF i)):WE X XE e (yb i):=⟨zmB h⟩
theorem zc {i j}:WE X XE (.Constant (.int i) j pos) (eC (.int i)):=⟨ge_int ⟩
theorem zeW {i j}:WE X XE (.Constant (.bool i) j pos) (eC (.bl i)):=⟨znu ⟩
theorem yV {j}:WE X XE (.Constant .none j pos) (eC .non):=⟨zmE ⟩
theorem ziQ {x:Str} {n:String} (hg:Gl X x) (hm:X.mg x = none) (hv:bootBuiltins x = some (.type n)) (hn:x ≠ "__name__":=by decide) (hd:(x == ("__debug__":Str)) = false:=by decide):WE X XE (.Name x pos) (eC (.ty n)):=⟨zkY hg hm hv hn hd⟩
theorem yg {op:Operator} {o:T->T->Mem->Out T} (ho:OpR X (binaryOp op) (lR2 XE X.K o)) (ha:WE X XE a f) (hb:WE X XE b g):WE X XE (.BinOp a op b pos) (eOp o f g):=⟨znr ho ha.pe hb.pe⟩
theorem zcd {op:CmpOp} {o:T->T->Mem->Out T} (ho:OpR X (compareOp op) (lR2 XE X.K o)) (ha:WE X XE a f) (hb:WE X XE b g) (hm:behindInMarks op b = false):WE X XE (.Compare a [op] [b] pos) (eOp o f g):=⟨zmF ho ha.pe hb.pe hm⟩
theorem qe {o:T->T->Mem->Out T} (ho:IxR X (lR2 XE X.K o)) (ha:WE X XE a f) (hb:WE X XE b g) (hs:zec b):WE X XE (.Subscript a b pos) (eOp o f g):=⟨zns ho ha.pe hb.pe hs⟩
theorem zdz (ha:WE X XE e f) (he:∀ whole,isTrue e X.env whole = (do let v ← whole;standAt e.pos;holding [v] (truthy v)):=by intro _;rfl):WT X XE e (qB f):=⟨zmm ha.pe he⟩
theorem qw {op:CmpOp} {o:T->T->Mem->Out T} (ho:OpR X (compareOp op) (lR2 XE X.K o)) (ha:WE X XE a f) (hb:WE X XE b g) (hm:behindInMarks op b = false):WT X XE (.Compare a [op] [b] pos) (qB (eOp o f g)):=⟨zmo ho ha.pe hb.pe hm⟩
variable {tf tg:Ev->Mem->Out Bool} {rest:List Expr}
theorem zdy (ha:WT X XE a tf):WW X XE (.BoolOp .Or [a] pos) tf:=⟨zml ha.pe⟩
theorem zc3 (ha:WT X XE a tf) (hb:WW X XE (.BoolOp .Or (b :: rest) pos) tg):WW X XE (.BoolOp .Or (a :: b :: rest) pos) (zdC tf tg):=⟨znn ha.pe hb.pe⟩
theorem WW.gt (h:WW X XE e tf):WT X XE e tf:=⟨GW.gt h.pe⟩
theorem zjT (ha:WT X XE a tf):WT X XE (.UnaryOp .Not a pos) (zg7 tf):=⟨zmn ha.pe⟩
theorem zjY {op} (h:WE X XE a f):WE X XE (.BoolOp op [a] pos) f:=⟨zmD h.pe⟩
theorem zjZ (ha:WE X XE a f) (hb:WE X XE (.BoolOp .And (b :: rest) pos) g):WE X XE (.BoolOp .And (a :: b :: rest) pos) (zjE f g):=⟨zmH ha.pe hb.pe⟩
theorem yc :WA X XE [] yd:=⟨zmI ⟩
theorem za (ha:WE X XE e f) (hr:WA X XE es ga) (hs:noStar e = true:=by rfl):WA X XE (e :: es) (zb f ga):=⟨zkZ ha.pe hr.pe hs⟩
theorem zV {x1} (h:WA X XE es ga):WE X XE (.Tuple es x1 pos) (zaZ ga):=⟨zmC h.pe⟩
theorem ym (h:WA X XE es ga):WL X XE (.List es pos) (qr ga):=⟨zkS h.pe⟩
theorem yq (h:WL X XE e ga):WE X XE e (eFz ga):=⟨znt h.pe⟩
theorem z3 (h:WL X XE e ga):WE X XE e (eTk ga):=⟨znp h.pe⟩
end
section
variable {X:Cx} {XE:XK} {a b c e iter tg:Expr} {es:List Expr} {f g h:Ev->Mem->Out T} {pos:Pos} {ga:Ev->Mem->Out (List T)} {st:Stmt} {sts rest:List Stmt} {p q r:Ev->Mem->Out Fl} {tf:Ev->Mem->Out Bool}
theorem yt :WSs X XE [] qP:=⟨zkM ⟩
theorem qc (h1:WS X XE st p) (h2:WSs X XE rest q):WSs X XE (st :: rest) (zg p q):=⟨zjs h1.pe h2.pe⟩
theorem ye (h1:WS X XE st p):WSs X XE [st] p:=⟨zkL h1.pe⟩
theorem zhP :WS X XE (.Break pos) zfc:=⟨zjt ⟩
theorem yk (he:WE X XE e f):WS X XE (.Return (some e) pos) (qv f):=⟨zmr he.pe⟩
theorem zca (he:WE X XE e f) (hs:swapsWith e none pos.line X.env = pure false:=by rfl):WS X XE (.Expr e pos) (zdG f):=⟨zmt he.pe hs⟩
theorem yD (hc:WT X XE c tf) (ha:WSs X XE sts p) (hb:WSs X XE rest q):WS X XE (.If c sts rest pos) (sIf tf p q):=⟨zno hc.pe ha.pe hb.pe⟩
theorem yf {i:Nat} {x:Str} {pos':Pos} (hN:X.N.Nodup) (hi:X.N[i]? = some x) (hx:Loc X.env.scope x) (he:WE X XE e f) (hs:swapsWith e (some (.Name x pos')) pos.line X.env = pure false:=by rfl) (hf:X.fn x = true\/X.env.scope.names.lookup x = some .local:=by first | exact .inl rfl | exact .inr rfl | assumption):WS X XE (.Assign [.Name x pos'] e pos) (yj i f):=⟨zmq hN hi hx he.pe hs hf⟩
theorem qg {i:Nat} (h:PG X tg (zeQ i)):WG X XE tg (zh i):=⟨zkV h⟩
theorem qE :WGs X XE [] zN:=⟨zkU ⟩
theorem yi {bd:T->Ev->Mem->Out Ev} {bs:List T->Ev->Mem->Out Ev} (h:PGs X (e :: es) (zhw (lG XE X.K bd) (lGs XE X.K bs))):WGs X XE (e :: es) (zm bd bs):=⟨zjw h⟩
theorem yL {n:Nat} {bs:List T->Ev->Mem->Out Ev} (h:PG X tg (zjz X.K n (lGs XE X.K bs))):WG X XE tg (qM n bs):=⟨zmy h⟩
theorem zcb {bd:T->Ev->Mem->Out Ev} (he:WE X XE e f) (hg:WG X XE tg bd) (hs:swapsWithSole [tg] e pos.line X.env = pure false:=by rfl) (hw:swappedStores [tg] e X.env = pure none:=by rfl) (h1:(assignEach [tg] X.env).map (·.2) = [assign tg X.env]:=by rfl):WS X XE (.Assign [tg] e pos) (zdH f bd):=⟨zmu he.pe hg.pe hs hw h1⟩
theorem qD {bd:T->Ev->Mem->Out Ev} (hp:PassesOwn (model X.prog X.w) X.A X.env X.xe) (hc:X.calm = true) (hi:WI X XE tg iter ga) (hg:WG X XE tg bd) (hb:WSs X XE sts p) (hs:∀ x,foldedSetIterable iter X.env x = pure x:=by intro _;rfl):WS X XE (.For tg iter sts [] pos) (qW ga bd p):=⟨zms hp hc hi.pe hg.pe hb.pe hs⟩
end
section
variable {X:Cx} {XE:XK} {k:Nat} {ps:List Str} {x:Str} {p pos:Pos} {e:Expr} {es:List Expr} {ga:Ev->Mem->Out (List T)} {F:List T->Mem->Out T}
theorem zf (C:CalT X.prog X.w X.K X.mg X.base k x ps F) (hr:Room k X.A) (hg:Gl X x) (ha:WA X XE (e :: es) ga) (hdb:(x == ("__debug__":Str)) = false:=by decide) (he:noStar e = true:=by rfl) (hpl:es.all noStar = true:=by rfl):WE X XE (.Call (.Name x p) (e :: es) [] pos) (ze F ga):=⟨zmG C hr hg ha.pe hdb he hpl⟩
theorem yy {id:String} (hc:CallR X (.builtin id) (lRN XE X.K F)) (hg:Gl X x) (hm:X.mg x = none) (hv:bootBuiltins x = some (.builtin id)) (ha:WA X XE (e :: es) ga) (hn:x ≠ "__name__":=by decide) (hdb:(x == ("__debug__":Str)) = false:=by decide) (he:noStar e = true:=by rfl) (hpl:es.all noStar = true:=by rfl):WE X XE (.Call (.Name x p) (e :: es) [] pos) (ze F ga):=⟨zjy hc hg hm hv ha.pe hn hdb he hpl⟩
theorem zu {id:String} (hc:CallR X (.type id) (lRN XE X.K F)) (hg:Gl X x) (hm:X.mg x = none) (hv:bootBuiltins x = some (.type id)) (ha:WA X XE (e :: es) ga) (hn:x ≠ "__name__":=by decide) (hdb:(x == ("__debug__":Str)) = false:=by decide) (he:noStar e = true:=by rfl) (hpl:es.all noStar = true:=by rfl):WE X XE (.Call (.Name x p) (e :: es) [] pos) (ze F ga):=⟨ziq hc hg hm hv ha.pe hn hdb he hpl⟩
end
section
variable {X:Cx} {XE:XK} {a b c e iter tg:Expr} {es:List Expr} {f g h:Ev->Mem->Out T} {pos p:Pos} {ga:Ev->Mem->Out (List T)}
theorem qK (he:WE X XE e f):WI X XE tg e (zaz f):=⟨zmx he.pe⟩
theorem zL (hg:Gl X "range") (hm:X.mg "range" = none) (ha:WA X XE [a] ga) (hs:starEach [a] X.env = [(false,eval a X.env)]:=by rfl):WI X XE tg (.Call (.Name "range" p) [a] [] pos) (yR ga):=⟨zio hg hm ha.pe hs⟩
end
section
variable {X:Cx} {XE:XK}
theorem zam {tg elt iter:Expr} {ifs:List Expr} {scope:Scope} {cl:List (Str × Addr)} {pos:Pos} {tgs:List Str} {caps:List (Str × Nat)} {ga:Ev->Mem->Out (List T)} {bd:T->Ev->Mem->Out Ev} {cond:Ev->Mem->Out Bool} {f:Ev->Mem->Out T} (hi:WI X XE tg iter ga) (cb:CB X scope cl caps) (hg:∀ ex s0 H0,WG (X.block scope cl (tgs ++ caps.map (·.1)) ex s0 H0) XE tg bd) (hif:∀ ex s0 H0,PTs (X.block scope cl (tgs ++ caps.map (·.1)) ex s0 H0) ifs (lT XE X.K cond)) (hel:∀ ex s0 H0,WE (X.block scope cl (tgs ++ caps.map (·.1)) ex s0 H0) XE elt f) (hs:∀ x,foldedSetIterable iter X.env x = pure x:=by intro _;rfl):WL X XE (.ListComp elt [⟨tg,iter,ifs,0⟩] scope pos) (zaQ ga bd cond f tgs caps):=⟨zkT hi.pe cb (fun ex s0 H0=>(hg ex s0 H0).pe) hif (fun ex s0 H0=>(hel ex s0 H0).pe) hs⟩
theorem zal :PTs X [] (lT XE X.K qO):=zkK 
end
section
variable {X:Cx} {XE:XK} {a b e:Expr} {es:List Expr} {f g:Ev->Mem->Out T} {pos p:Pos} {ga:Ev->Mem->Out (List T)} {x:Str}
theorem zc5 {id:String} {F:List T->Mem->Out (List T)} (hc:CallR X (.type id) (zjl XE X.K F)) (hg:Gl X x) (hm:X.mg x = none) (hv:bootBuiltins x = some (.type id)) (ha:WA X XE (e :: es) ga) (hn:x ≠ "__name__":=by decide) (hdb:(x == ("__debug__":Str)) = false:=by decide) (he:noStar e = true:=by rfl) (hpl:es.all noStar = true:=by rfl):WL X XE (.Call (.Name x p) (e :: es) [] pos) (zeP F ga):=⟨zin hc hg hm hv ha.pe hn hdb he hpl⟩
end
section
variable {X:Cx} {XE:XK}
theorem zcc {o i:Expr} {f g:Ev->Mem->Out T} {pos:Pos} {st:T->T->T->Mem->Out Unit} (ho:WE X XE o f) (hi:WE X XE i g) (hs:zb9 X (zfu XE X.K st)) (ha:∀ v,assign (.Subscript o i pos) X.env v = (do
      let ov ← holding [v] (eval o X.env)
      let iv ← holding [v,ov] (eval i X.env)
      standAt pos
      holding [v,ov,iv] (setItem ov iv v)
      release [v,ov,iv] []):=by intro _;rfl):WG X XE (.Subscript o i pos) (zd5 st f g):=⟨zmz ho.pe hi.pe hs ha⟩
theorem zce {o e:Expr} {f:Ev->Mem->Out T} {ga:Ev->Mem->Out (List T)} {apos cpos:Pos} (h:PE X (.Call (.Attribute o "append" apos) [e] [] cpos) (tBM X.K "list" zdL (lE XE X.K f) (lA XE X.K ga))):WE X XE (.Call (.Attribute o "append" apos) [e] [] cpos) (zcn z0 (eUn yJ f) ga):=⟨ge_app h⟩
end
section
variable {X:Cx} {XE:XK}
theorem zeU :WO X XE none zeO:=⟨zkR ⟩
theorem zeT {e:Expr} {f:Ev->Mem->Out T} (h:WE X XE e f):WO X XE (some e) (zeN f):=⟨zkQ h.pe⟩
theorem zhS {e:Expr} {lo hi:Option Expr} {f:Ev->Mem->Out T} {p q:Ev->Mem->Out (Option Int)} {p2 pos:Pos} (he:WE X XE e f) (hl:WO X XE lo p) (hu:WO X XE hi q):WE X XE (.Subscript e (.Slice lo hi none p2) pos) (eSl f p q):=⟨znq he.pe hl.pe hu.pe⟩
end
section
variable {X:Cx} {XE:XK}
theorem zcz {o i e:Expr} {f g h:Ev->Mem->Out T} {get op:T->T->Mem->Out T} {st:T->T->T->Mem->Out Unit} {bop:Operator} {tpos pos:Pos} (ho:WE X XE o f) (hi:WE X XE i g) (hg:zf8 X (lR2 XE X.K get)) (he:WE X XE e h) (hp:PIp X bop (lR2 XE X.K op)) (hs:zb9 X (zfu XE X.K st)) (ha:∀ ov iv new,augStore i ov iv new = (do holding [new,ov,iv] (setItem ov iv new);release [new,ov,iv] [];pure .next):=by intros;rfl):WS X XE (.AugAssign (.Subscript o i tpos) bop e pos) (zaO get op st f g h):=⟨zkP ho.pe hi.pe hg he.pe hp hs ha⟩
end
section
variable {X:Cx} {XE:XK}
theorem zeV {o e:Expr} {es:List Expr} {n:Str} {Ty:String} {f:Ev->Mem->Out T} {ga:Ev->Mem->Out (List T)} {chk:T->Mem->Bool} {F:T->List T->Mem->Out T} {apos cpos:Pos} (hc:∀ {K:PySem.W.Frag} {S:Sit},MemOk K S->∀ {t:T} {x:V},Rep K S t x->chk t S.M = true->tyV K Ty x S.H) (h:PE X (.Call (.Attribute o n apos) (e :: es) [] cpos) (tBM X.K Ty (lMt XE X.K F) (lE XE X.K f) (lA XE X.K ga))):WE X XE (.Call (.Attribute o n apos) (e :: es) [] cpos) (zaD chk F f ga):=⟨zkX hc h⟩
end
section
variable {X:Cx} {XE:XK}
theorem zjW {a b:Expr} {f:Ev->Mem->Out (List T)} {g:Ev->Mem->Out T} {pos:Pos} (ha:WL X XE a f) (hb:WE X XE b g):WL X XE (.BinOp a .Mult b pos) (zhq f g):=⟨zmw ha.pe hb.pe⟩
end
section
variable {X:Cx} {XE:XK}
theorem zhR {l:Expr} {f:Ev->Mem->Out T} {elts:List Expr} {x1} {tp p pos:Pos} (hg:Gl X "enumerate") (hm:X.mg "enumerate" = none) (he:WE X XE l f) (hs:noStar l = true:=by rfl):WI X XE (.Tuple elts x1 tp) (.Call (.Name "enumerate" p) [l] [] pos) (zdk f):=⟨zjv hg hm he.pe hs⟩
end
section
variable {X:Cx} {XE:XK} {a b c e iter tg:Expr} {es:List Expr} {pos pp:Pos} {sts:List Stmt} {p:Ev->Mem->Out Fl} {ga:Ev->Mem->Out (List T × Gd)}
theorem ziP {bd:T->Ev->Mem->Out Ev} (hp:PassesOwn (model X.prog X.w) X.A X.env X.xe) (hc:X.calm = true) (hi:WIG X XE tg iter ga) (hg:WG X XE tg bd) (hb:WSs X XE sts p) (hs:∀ x,foldedSetIterable iter X.env x = pure x:=by intro _;rfl):WS X XE (.For tg iter sts [] pos) (zc9 ga bd p):=⟨zkO hp hc hi.pe hg.pe hb.pe hs⟩
end
section
variable {X:Cx} {XE:XK}
theorem zhQ {l:Expr} {f:Ev->Mem->Out T} {elts:List Expr} {x1} {tp p pos:Pos} (hg:Gl X "enumerate") (hm:X.mg "enumerate" = none) (he:WE X XE l f) (hs:noStar l = true:=by rfl):WIG X XE (.Tuple elts x1 tp) (.Call (.Name "enumerate" p) [l] [] pos) (zbZ f):=⟨zju hg hm he.pe hs⟩
end
section
variable {X:Cx} {XE:XK} {k i j:Nat} {ps:List Str} {x y v nm:Str} {p pos pos2 np hp tp vp cpos:Pos} {e:Expr} {es:List Expr} {ga:Ev->Mem->Out (List T)} {F:List T->Mem->Out T} {C:Addr} {b0:Stmt} {suite sts:List Stmt} {g gs:Ev->Mem->Out Fl}
theorem zc4 (O:XcF X.prog X.w X.K X.mg X.base x C) (hr:Room 2 X.A) (hg:Gl X x) (hst:X.stack = X.env :: X.outer) (hf:X.env.frame = some X.env.locals) (hex:X.ex = []) (hxe:X.xe = fun ev s'=>wpAny (model X.prog X.w) X.A (leaving X.env ev) (fun _ s''=>CXX X.prog X.w X.outer X.H₀ X.s₀ XE ev s'') (fun e' s''=>CXX X.prog X.w X.outer X.H₀ X.s₀ XE e' s'') s') (ha:WA X XE [e] ga) (hd:(x == ("__debug__":Str)) = false:=by decide) (he:noStar e = true:=by rfl):WS X XE (.Raise (some (.Call (.Name x np) [e] [] cpos)) none pos) (za4 (zT C) ga):=⟨zim O hr hg hst hf hex hxe ha.pe hd he⟩
theorem zgm (hN:X.N.Nodup) (hi:X.N[i]? = some v) (hv:X.env.scope.names.lookup v = some .local) (c:CalX X.prog X.w X.K X.mg X.base k x ps F) (hr:Room k X.A) (hg:Gl X x) (ha:∀ E1 XE,WA (X.wish E1) XE (e :: es) ga) (hdb:(x == ("__debug__":Str)) = false:=by decide) (he:noStar e = true:=by rfl) (hpl:es.all noStar = true:=by rfl) (hsw:swapsWith (.Call (.Name x p) (e :: es) [] pos) (some (.Name v vp)) pos2.line X.env = pure false:=by rfl):WX X [.Assign [.Name v vp] (.Call (.Name x p) (e :: es) [] pos) pos2] (yj i (ze F ga)):=⟨zmk hN hi hv c hr hg (fun E1 XE=>(ha E1 XE).pe) hdb he hpl hsw⟩
theorem zjU {cs:List Addr} (hb:WX X sts g) (hS:∀ C' ∈ cs,Sup X.K X.mg y C C') (hgy:Gl X y) (hst:X.stack = X.env :: X.outer) (hf:X.env.frame = some X.env.locals) (hex:X.ex = []) (hs:∀ ev,WSs (X.suite ev) E0 (b0 :: suite) gs) (hdy:(y == ("__debug__":Str)) = false:=by decide):WS X XE (.Try sts [.ExceptHandler (some (.Name y np)) none (b0 :: suite) hp] [] [] tp) (zfa cs g gs):=⟨zmp hb.pe hS hgy hst hf hex (fun ev=>(hs ev).pe) hdy⟩
theorem ziO {cs:List Addr} (hb:WX X sts g) (hS:∀ C' ∈ cs,Sup X.K X.mg y C C') (hgy:Gl X y) (hst:X.stack = X.env :: X.outer) (hf:X.env.frame = some X.env.locals) (hex:X.ex = []) (hN:X.N.Nodup) (hj:X.N[j]? = some nm) (hk:X.env.scope.names.lookup nm = some .local) (hs:∀ ev,WSs (X.suite ev) E0 (b0 :: suite) gs) (hdy:(y == ("__debug__":Str)) = false:=by decide):WS X XE (.Try sts [.ExceptHandler (some (.Name y np)) (some nm) (b0 :: suite) hp] [] [] tp) (zc8 j cs g gs):=⟨zkN hb.pe hS hgy hst hf hex hN hj hk (fun ev=>(hs ev).pe) hdy⟩
theorem zjX {cs:List Addr} {f:Ev->Mem->Out T} (hS:∀ C' ∈ cs,∃ nm fI,XcAt X.K X.mg nm C' fI) (h:WE X XE e f) (hb:attributeBase e "at" X.env (eval e X.env) = eval e X.env:=by rfl):WE X XE (.Attribute e "at" pos) (eUn (xat cs) f):=⟨zmA hS h.pe hb⟩
end
section
variable {X:Cx} {XE:XK}
theorem zjV {i j:Nat} {a b:Expr} {p1 p2 p3 q1 q2 q3 q4:Pos} (hc:X.calm = true) (ha:PE X a (zbF i)) (hb:PE X b (zbF j)) (hgs:Gl X "sorted") (hms:X.mg "sorted" = none) (hgt:Gl X "set") (hmt:X.mg "set" = none) (na:noStar a = true:=by rfl) (nb:noStar b = true:=by rfl):WL X XE (.Call (.Name "sorted" p1) [.BinOp (.Call (.Name "set" p2) [a] [] q1) .BitOr (.Call (.Name "set" p3) [b] [] q2) q3] [] q4) (zdT i j):=⟨zmv hc ha hb hgs hms hgt hmt na nb⟩
end
section
variable {P:Program} {w:World} {K:PySem.W.Frag} {mg:Str->Option Value} {base:Heap}
theorem zx {x:Str} {st:Stmt} {N ps:List Str} {k p n:Nat} {g:Ev->Mem->Out Fl} (D:Df K mg x st ps) (Sc:FnScope N ps (zd st)) (hp:ps.length = p) (hn:N.length = n)
    (hb:∀ (f:Addr) (cdv:Value) (A:Around) (outer:List PySem.Env) (s:Shared) (H:Hp) (E:XK),Room k (A.deeper (envOfC x (zd st) s.heap.objs.size f cdv))->WSs (qY CX0 P w K mg base N x (zd st) f cdv A outer s H E).nox E0 (zn st) g) :
    CalT P w K mg base (k + 1) x ps (zl p n g):=zmQ D Sc hp hn fun f cdv A outer s H E hr=>(hb f cdv A outer s H E hr).pe
theorem zeX {x:Str} {st:Stmt} {N ps:List Str} {k p n:Nat} {g:Ev->Mem->Out Fl} (D:Df K mg x st ps) (Sc:FnScope N ps (zd st)) (hp:ps.length = p) (hn:N.length = n)
    (hb:∀ (f:Addr) (cdv:Value) (A:Around) (outer:List PySem.Env) (s:Shared) (H:Hp) (E:XK),Room k (A.deeper (envOfC x (zd st) s.heap.objs.size f cdv))->WSs (qY (CXX P w) P w K mg base N x (zd st) f cdv A outer s H E) E (zn st) g) :
    CalX P w K mg base (k + 1) x ps (qG p n g):=zk9 D Sc hp hn fun f cdv A outer s H E hr=>(hb f cdv A outer s H E hr).pe
theorem zjS {st:Stmt} {N ps:List Str} {x qual:Str} {f:Addr} {fd:FuncData} {k p n:Nat} {g:Ev->Mem->Out Fl} (F:Fun K x qual st f fd) (Sc:FnScope N ps (zd st)) (hp:ps.length = p) (hn:N.length = n)
    (hb:∀ (cdv:Value) (A:Around) (outer:List PySem.Env) (s:Shared) (H:Hp) (E:XK),Room k (A.deeper (envOfC qual (zd st) s.heap.objs.size f cdv))->WSs (qY CX0 P w K mg base N qual (zd st) f cdv A outer s H E).nox E0 (zn st) g) :
    FnOk P w K mg base CX0 (k + 1) f fd ps (spT K (zl p n g)):=zl3 F Sc hp hn fun cdv A outer s H E hr=>(hb cdv A outer s H E hr).pe
end
end FT
namespace FT
open PySem L2
noncomputable def Ok {β:Type} (o:Out β) (Q:β->Mem->Prop):Prop:=∃ b M,o = .ok b M/\Q b M
theorem Ok.ret {β:Type} {b:β} {M:Mem} {Q:β->Mem->Prop} (h:Q b M):Ok (.ok b M) Q:=⟨b,M,rfl,h⟩
theorem Ok.of {β:Type} {o:Out β} {b:β} {M:Mem} {Q:β->Mem->Prop} (e:o = .ok b M) (h:Q b M):Ok o Q:=⟨b,M,e,h⟩
theorem Ok.bind {β γ:Type} {o:Out β} {k:β->Mem->Out γ} {P:β->Mem->Prop} {Q:γ->Mem->Prop} (h:Ok o P) (g:∀ b M,P b M->Ok (k b M) Q):Ok (o.bind k) Q:=by
  obtain ⟨b,M,e,p⟩:=h
  rw [e]
  exact g b M p
theorem Ok.mono {β:Type} {o:Out β} {P Q:β->Mem->Prop} (h:Ok o P) (g:∀ b M,P b M->Q b M):Ok o Q:=by
  obtain ⟨b,M,e,p⟩:=h
  exact ⟨b,M,e,g b M p⟩
theorem zod {β γ δ:Type} {o:Out β} {k:β->Mem->Out γ} {l:γ->Mem->Out δ}:(o.bind k).bind l = o.bind fun b M=>(k b M).bind l:=by cases o <;> rfl
theorem zob {β γ:Type} {p:Prop} [Decidable p] {x y:Out β} {k:β->Mem->Out γ}:(if p then x else y).bind k = if p then x.bind k else y.bind k:=by split <;> rfl
theorem zoa {β γ:Type} {t:T} {M:Mem} {k:Bool->Mem->Out β} {l:β->Mem->Out γ}:(blT t M k).bind l = blT t M fun b M=>(k b M).bind l:=by cases t <;> rfl
noncomputable def zhd (fl:Fl) (M:Mem):Out T:=match fl with
  | .rt t=>.ok t M
  | .nx _=>.ok .non M
  | _=>.bad
theorem zoi {t:T} {M:Mem}:zhd (.rt t) M = .ok t M:=rfl
theorem zoj {σ:Ev} {M:Mem}:zhd (.nx σ) M = .ok .non M:=rfl
theorem zw {p n:Nat} {g:Ev->Mem->Out Fl} {ts:List T} {M:Mem} {Q:T->Mem->Prop} (h:ts.length = p) (k:Ok ((g (startT n ts) M).bind zhd) Q):Ok (zl p n g ts M) Q:=by
  obtain ⟨b,M1,e,q⟩:=k
  refine ⟨b,M1,?_,q⟩
  rw [zh4 h]
  cases r:g (startT n ts) M with
  | bad=>rw [r] at e;cases e
  | exn C fs M'=>rw [r] at e;cases e
  | ok fl M'=>
    rw [r] at e
    cases fl with
    | rt t=>exact e
    | nx σ=>exact e
    | bk σ=>cases e
    | ct σ=>cases e
noncomputable def Fr (S:List Nat) (M M':Mem):Prop:=M.length<=M'.length/\∀ i,i < M.length->i ∉ S->M'[i]? = M[i]?
theorem Fr.refl (S:List Nat) (M:Mem):Fr S M M:=⟨Nat.le_refl _,fun _ _ _=>rfl⟩
theorem Fr.trans {S:List Nat} {A B C:Mem} (h:Fr S A B) (g:Fr S B C):Fr S A C:=⟨Nat.le_trans h.1 g.1,fun i hi hs=>by rw [g.2 i (Nat.lt_of_lt_of_le hi h.1) hs,h.2 i hi hs]⟩
theorem Fr.tr {S S':List Nat} {A B C:Mem} (h:Fr S A B) (g:Fr S' B C) (s:∀ i ∈ S',i ∈ S\/A.length<=i):Fr S A C:=⟨Nat.le_trans h.1 g.1,fun i hi hs=>by
  rw [g.2 i (Nat.lt_of_lt_of_le hi h.1) (fun z=>by rcases s i z with a | a;exact hs a;omega),h.2 i hi hs]⟩
theorem Fr.get {S:List Nat} {M M':Mem} (h:Fr S M M') {i:Nat} {c:Cell} (e:M[i]? = some c) (hs:i ∉ S):M'[i]? = some c:=by
  rw [h.2 i (List.getElem?_eq_some_iff.mp e).1 hs];exact e
theorem Fr.sub {S S':List Nat} {M M':Mem} (h:Fr S M M') (s:∀ i ∈ S,i ∈ S'\/M.length<=i):Fr S' M M':=⟨h.1,fun i hi hs=>h.2 i hi fun z=>by
  rcases s i z with a | a
  · exact hs a
  · omega⟩
theorem Fr.app (M:Mem) (l:List Cell):Fr [] M (M ++ l):=⟨by simp,fun i hi _=>by rw [List.getElem?_append_left hi]⟩
theorem Fr.set (M:Mem) (a:Nat) (c:Cell):Fr [a] M (M.set a c):=⟨by simp,fun i _ hs=>by rw [List.getElem?_set,if_neg (by simp at hs;omega)]⟩
theorem Fr.mono {S:List Nat} {M M':Mem} (h:Fr [] M M'):Fr S M M':=h.sub (fun i hi=>by simp at hi)
theorem zaA {M:Mem} {i:Nat} {c:Cell} (e:M[i]? = some c):i < M.length:=(List.getElem?_eq_some_iff.mp e).1
theorem qR {M:Mem} {c:Cell}:(M ++ [c])[M.length]? = some c:=List.getElem?_concat_length
theorem get_set {M:Mem} {a:Nat} {c c':Cell} (e:M[a]? = some c):(M.set a c')[a]? = some c':=by
  rw [List.getElem?_set,if_pos rfl,if_pos (zaA e)]
theorem Ok.loop {bd:T->Ev->Mem->Out Ev} {body:Ev->Mem->Out Fl} {α:Type} {r:α->T} (P:Nat->Ev->Mem->Prop) {R:T->Mem->Prop}:∀ (xs:List α) (i:Nat) {σ:Ev} {M:Mem},
    P i σ M->(∀ (k:Nat) x σ M,xs[k]? = some x->P (i + k) σ M->Ok ((bd (r x) σ M).bind fun σ1 M1=>body σ1 M1) fun fl M'=>(∃ σ',(fl = .nx σ'\/fl = .ct σ')/\P (i + k + 1) σ' M')\/(∃ σ',fl = .bk σ'/\P (i + xs.length) σ' M')\/∃ t,fl = .rt t/\R t M')->
    Ok (forL bd body (xs.map r) σ M) fun fl M'=>(∃ σ',fl = .nx σ'/\P (i + xs.length) σ' M')\/∃ t,fl = .rt t/\R t M'
  | [],i,σ,M,h,_=>⟨.nx σ,M,rfl,.inl ⟨σ,rfl,h⟩⟩
  | x :: xs,i,σ,M,h,t=>by
    obtain ⟨fl,M1,e1,h1⟩:=t 0 x σ M rfl h
    rw [List.map_cons,zaR]
    cases q:bd (r x) σ M with
    | bad=>rw [q] at e1;cases e1
    | exn C fs M'=>rw [q] at e1;cases e1
    | ok σ3 M3=>
      rw [q] at e1
      replace e1:body σ3 M3 = .ok fl M1:=e1
      show Ok ((body σ3 M3).bind (zy (forL bd body (xs.map r)))) _
      rw [e1]
      have go:∀ σ1,P (i + 1) σ1 M1->Ok (forL bd body (xs.map r) σ1 M1) fun fl M'=>(∃ σ',fl = .nx σ'/\P (i + (x :: xs).length) σ' M')\/∃ t,fl = .rt t/\R t M':=fun σ1 h1=>by
        have ih:=Ok.loop (R:=R) P xs (i + 1) (bd:=bd) (body:=body) h1 (fun k y σ M hk hp=>by
          have:=t (k + 1) y σ M (by simpa using hk) (by rw [show i + (k + 1) = i + 1 + k by omega];exact hp)
          rw [show i + (k + 1) + 1 = i + 1 + k + 1 by omega,List.length_cons,show i + (xs.length + 1) = i + 1 + xs.length by omega] at this
          exact this)
        rw [List.length_cons,show i + (xs.length + 1) = i + 1 + xs.length by omega]
        exact ih
      rcases h1 with ⟨σ1,h1 | h1,h2⟩ | ⟨σ1,h1,h2⟩ | ⟨u,h1,h2⟩
      · rw [h1];exact go σ1 h2
      · rw [h1];exact go σ1 h2
      · rw [h1];exact ⟨.nx σ1,M1,rfl,.inl ⟨σ1,rfl,h2⟩⟩
      · rw [h1];exact ⟨.rt u,M1,rfl,.inr ⟨u,rfl,h2⟩⟩
theorem Ok.for {bd:T->Ev->Mem->Out Ev} {body:Ev->Mem->Out Fl} {α:Type} {r:α->T} (P:Nat->Ev->Mem->Prop) {xs:List α} {σ:Ev} {M:Mem}
    (h:P 0 σ M) (t:∀ (k:Nat) x σ M,xs[k]? = some x->P k σ M->Ok ((bd (r x) σ M).bind fun σ1 M1=>body σ1 M1) fun fl M'=>∃ σ',fl = .nx σ'/\P (k + 1) σ' M') :
    Ok (forL bd body (xs.map r) σ M) fun fl M'=>∃ σ',fl = .nx σ'/\P xs.length σ' M':=by
  refine (Ok.loop (R:=fun _ _=>False) P xs 0 h (fun k x σ M hk hp=>?_)).mono ?_
  · rw [Nat.zero_add] at hp
    refine (t k x σ M hk hp).mono ?_
    rintro fl M' ⟨σ',e,q⟩
    exact .inl ⟨σ',.inl e,by rw [Nat.zero_add];exact q⟩
  · rintro fl M' (⟨σ',e,q⟩ | ⟨t,_,f⟩)
    · exact ⟨σ',e,by rw [Nat.zero_add] at q;exact q⟩
    · exact f.elim
theorem Ok.comp {bd:T->Ev->Mem->Out Ev} {cond:Ev->Mem->Out Bool} {el:Ev->Mem->Out T} {α:Type} {r:α->T} (P:Nat->List T->Ev->Mem->Prop):∀ (xs:List α) {σ:Ev} {M:Mem} (i:Nat) (acc:List T),
    P i acc σ M->acc.length + xs.length<=sizeLine->(∀ (k:Nat) x σ M acc,xs[k]? = some x->P (i + k) acc σ M->Ok ((bd (r x) σ M).bind fun σ1 M1=>(cond σ1 M1).bind fun b M2=>if b = true then (el σ1 M2).bind fun t M3=>.ok (some t,σ1) M3 else .ok (none,σ1) M2) fun o M'=>P (i + k + 1) (match o.1 with | some t=>acc ++ [t] | none=>acc) o.2 M')->
    Ok (ql bd cond el (xs.map r) σ M acc) fun ts M'=>∃ σ',P (i + xs.length) ts σ' M'
  | [],σ,M,i,acc,h,_,_=>⟨acc,M,by simp [ql],σ,h⟩
  | x :: xs,σ,M,i,acc,h,hl,t=>by
    obtain ⟨o,M1,e1,h1⟩:=t 0 x σ M acc rfl h
    rw [List.length_cons] at hl
    rw [List.map_cons]
    unfold ql
    have go:∀ acc σ1 M1,acc.length + xs.length<=sizeLine->P (i + 1) acc σ1 M1->Ok (ql bd cond el (xs.map r) σ1 M1 acc) fun ts M'=>∃ σ',P (i + (x :: xs).length) ts σ' M':=fun acc σ1 M1 hl h1=>by
      have ih:=Ok.comp P xs (i + 1) acc (bd:=bd) (cond:=cond) (el:=el) h1 hl (fun k y σ M acc hk hp=>by
        have:=t (k + 1) y σ M acc (by simpa using hk) (by rw [show i + (k + 1) = i + 1 + k by omega];exact hp)
        rw [show i + (k + 1) + 1 = i + 1 + k + 1 by omega] at this
        exact this)
      rw [List.length_cons,show i + (xs.length + 1) = i + 1 + xs.length by omega]
      exact ih
    cases q:bd (r x) σ M with
    | bad=>rw [q] at e1;cases e1
    | exn C fs M'=>rw [q] at e1;cases e1
    | ok σ3 M3=>
      rw [q] at e1
      replace e1:((cond σ3 M3).bind fun b M2=>if b = true then (el σ3 M2).bind fun t M3=>.ok (some t,σ3) M3 else .ok (none,σ3) M2) = .ok o M1:=e1
      show Ok ((cond σ3 M3).bind _) _
      cases q2:cond σ3 M3 with
      | bad=>rw [q2] at e1;cases e1
      | exn C fs M'=>rw [q2] at e1;cases e1
      | ok b M4=>
        rw [q2] at e1
        cases b with
        | false=>
          replace e1:(Out.ok (none,σ3) M4:Out (Option T × Ev)) = .ok o M1:=e1
          cases e1
          exact go acc σ3 _ (by omega) h1
        | true=>
          replace e1:((el σ3 M4).bind fun t M3=>.ok (some t,σ3) M3) = .ok o M1:=e1
          show Ok ((el σ3 M4).bind _) _
          cases q3:el σ3 M4 with
          | bad=>rw [q3] at e1;cases e1
          | exn C fs M'=>rw [q3] at e1;cases e1
          | ok u M5=>
            rw [q3] at e1
            replace e1:(Out.ok (some u,σ3) M5:Out (Option T × Ev)) = .ok o M1:=e1
            cases e1
            show Ok (if acc.length < sizeLine then _ else _) _
            rw [if_pos (by omega)]
            exact go (acc ++ [u]) σ3 _ (by rw [List.length_append,List.length_cons,List.length_nil];omega) h1
end FT
namespace FT
open PySem L2
theorem Ok.whileN {c:Ev->Mem->Out Bool} {body:Ev->Mem->Out Fl} (P:Ev->Mem->Prop) (μ:Ev->Mem->Nat) {Q:Ev->Mem->Prop} {R:T->Mem->Prop}
    (t:∀ σ M,P σ M->Ok (c σ M) fun b M1=>(b = true/\Ok (body σ M1) fun fl M2=>(∃ σ',(fl = .nx σ'\/fl = .ct σ')/\P σ' M2/\μ σ' M2 < μ σ M)\/(∃ σ',fl = .bk σ'/\Q σ' M2)\/∃ t,fl = .rt t/\R t M2)\/(b = false/\Q σ M1)) :
    ∀ (n:Nat) (σ:Ev) (M:Mem),μ σ M < n->P σ M->Ok (whileN c body n σ M) fun fl M'=>(∃ σ',fl = .nx σ'/\Q σ' M')\/∃ t,fl = .rt t/\R t M'
  | 0,_,_,hn,_=>absurd hn (by omega)
  | n + 1,σ,M,hn,h=>by
    obtain ⟨b,M1,e,r⟩:=t σ M h
    unfold FT.whileN
    rw [e]
    rcases r with ⟨rfl,fl,M2,e2,r⟩ | ⟨rfl,q⟩
    · show Ok ((body σ M1).bind _) _
      rw [e2]
      rcases r with ⟨σ1,h1 | h1,h2,h3⟩ | ⟨σ1,h1,h2⟩ | ⟨u,h1,h2⟩
      · rw [h1];exact Ok.whileN P μ t n σ1 M2 (by omega) h2
      · rw [h1];exact Ok.whileN P μ t n σ1 M2 (by omega) h2
      · rw [h1];exact ⟨.nx σ1,M2,rfl,.inl ⟨σ1,rfl,h2⟩⟩
      · rw [h1];exact ⟨.rt u,M2,rfl,.inr ⟨u,rfl,h2⟩⟩
    · exact ⟨.nx σ,M1,rfl,.inl ⟨σ,rfl,q⟩⟩
theorem Ok.while {c:Ev->Mem->Out Bool} {body:Ev->Mem->Out Fl} {σ:Ev} {M:Mem} (P:Ev->Mem->Prop) (μ:Ev->Mem->Nat) {Q:Ev->Mem->Prop} {R:T->Mem->Prop} (h:P σ M)
    (t:∀ σ M,P σ M->Ok (c σ M) fun b M1=>(b = true/\Ok (body σ M1) fun fl M2=>(∃ σ',(fl = .nx σ'\/fl = .ct σ')/\P σ' M2/\μ σ' M2 < μ σ M)\/(∃ σ',fl = .bk σ'/\Q σ' M2)\/∃ t,fl = .rt t/\R t M2)\/(b = false/\Q σ M1)) :
    Ok (ze9 c body σ M) fun fl M'=>(∃ σ',fl = .nx σ'/\Q σ' M')\/∃ t,fl = .rt t/\R t M':=by
  obtain ⟨fl,M',e,r⟩:=Ok.whileN P μ t (μ σ M + 1) σ M (by omega) h
  exact ⟨fl,M',zh3 _ e (by simp),r⟩
end FT
namespace FT
open PySem L2
noncomputable def rgI (n:Nat):List Int:=(List.range n).map fun (k:Nat)=>(k:Int)
theorem za6 {n:Nat} {x:Int}:x ∈ rgI n ↔ 0<=x/\x < n:=by
  unfold rgI
  rw [List.mem_map]
  constructor
  · rintro ⟨k,hk,rfl⟩
    have:=List.mem_range.mp hk
    omega
  · rintro ⟨h1,h2⟩
    exact ⟨x.toNat,List.mem_range.mpr (by omega),by omega⟩
theorem zH (n:Nat):(rgI n).length = n:=by simp [rgI]
theorem za7 {n k:Nat} {x:Int} (h:(rgI n)[k]? = some x):k < n/\x = k:=by
  unfold rgI at h
  rw [List.getElem?_map] at h
  cases q:(List.range n)[k]? with
  | none=>rw [q] at h;cases h
  | some j=>
    rw [q] at h
    have hk:k < n:=by have:=(List.getElem?_eq_some_iff.mp q).1;simpa using this
    rw [List.getElem?_range hk] at q
    cases q
    exact ⟨hk,(Option.some.inj h).symm⟩
theorem ziZ (n:Nat):zbN 0 n = (rgI n).map .int:=by
  unfold zbN rgI
  rw [List.map_map]
  congr 1
  funext k
  simp
theorem za5 {j:Int} {M:Mem} (h:-(2 ^ 62)<=j/\j < 2 ^ 62):zdI [.int j] M = .ok ((rgI j.toNat).map .int) M:=by rw [zlp h,ziZ]
noncomputable def atZ (ws:List Int) (x:Int):Int:=(ws[x.toNat]?).getD 0
theorem zae {ws:List Int} {x:Int} (h:0<=x/\x < ws.length):atI (ws.map T.int) x = some (.int (atZ ws x)):=by
  obtain ⟨n,rfl⟩:=Int.eq_ofNat_of_zero_le h.1
  have hn:n < ws.length:=by omega
  rw [yM]
  simp [atZ,hn]
theorem zbY {n:Nat} {x:Int} (h:0<=x/\x < n):ixN n x = some x.toNat:=by
  unfold ixN
  rw [if_pos (by omega)]
  simp
  try omega
theorem zgW {ws:List Int} {x y v:Int} (hx:0<=x) (hy:0<=y) (h:x < ws.length):atZ (ws.set x.toNat v) y = if y = x then v else atZ ws y:=by
  unfold atZ
  rw [List.getElem?_set]
  by_cases e:y = x
  · rw [if_pos e,if_pos (by omega),if_pos (by omega)];rfl
  · rw [if_neg e,if_neg (by omega)]
theorem yN (ws:List Int) (k:Nat) (v:Int):(ws.map T.int).set k (.int v) = (ws.set k v).map .int:=by rw [List.map_set]
theorem Ok.filt {bd:T->Ev->Mem->Out Ev} {cond:Ev->Mem->Out Bool} {el:Ev->Mem->Out T} {M:Mem} {α:Type} {r:α->T} (I:Ev->Prop) (c:α->Bool) (f:α->T) {xs:List α} {σ:Ev} (h:I σ) (hl:xs.length<=1000000)
    (t:∀ x σ,x ∈ xs->I σ->∃ σ1,bd (r x) σ M = .ok σ1 M/\I σ1/\cond σ1 M = .ok (c x) M/\(c x = true->el σ1 M = .ok (f x) M)):ql bd cond el (xs.map r) σ M [] = .ok ((xs.filter c).map f) M:=by
  have key:∀ (xs:List α) (σ:Ev) (acc:List T),(∀ x σ,x ∈ xs->I σ->∃ σ1,bd (r x) σ M = .ok σ1 M/\I σ1/\cond σ1 M = .ok (c x) M/\(c x = true->el σ1 M = .ok (f x) M))->I σ->acc.length + xs.length<=sizeLine->ql bd cond el (xs.map r) σ M acc = .ok (acc ++ (xs.filter c).map f) M:=by
    intro xs
    induction xs with
    | nil=>intro σ acc _ _ _;simp [ql]
    | cons x xs ih=>
      intro σ acc t h hl
      obtain ⟨σ1,e1,h1,e2,e3⟩:=t x σ (.head _) h
      rw [List.length_cons] at hl
      rw [List.map_cons]
      unfold ql
      rw [e1]
      show ((cond σ1 M).bind _) = _
      rw [e2]
      cases hc:c x with
      | true=>
        have ih:=ih σ1 (acc ++ [f x]) (fun y σ hy=>t y σ (.tail _ hy)) h1 (by rw [List.length_append,List.length_cons,List.length_nil];omega)
        show ((el σ1 M).bind _) = _
        rw [e3 hc]
        show (if acc.length < sizeLine then ql bd cond el (xs.map r) σ1 M (acc ++ [f x]) else .bad) = _
        rw [if_pos (by omega),ih,List.filter_cons_of_pos hc]
        simp
      | false=>
        have ih:=ih σ1 acc (fun y σ hy=>t y σ (.tail _ hy)) h1 (by omega)
        show ql bd cond el (xs.map r) σ1 M acc = _
        rw [ih,List.filter_cons_of_neg (by rw [hc];exact Bool.false_ne_true)]
  have:=key xs σ [] t h (by rw [List.length_nil,Nat.zero_add];exact Nat.le_trans hl (by decide))
  rw [this,List.nil_append]
theorem Ok.mapc {bd:T->Ev->Mem->Out Ev} {el:Ev->Mem->Out T} {M:Mem} {α:Type} {r:α->T} (I:Ev->Prop) (f:α->T) {xs:List α} {σ:Ev} (h:I σ) (hl:xs.length<=1000000)
    (t:∀ x σ,x ∈ xs->I σ->∃ σ1,bd (r x) σ M = .ok σ1 M/\I σ1/\el σ1 M = .ok (f x) M):ql bd qO el (xs.map r) σ M [] = .ok (xs.map f) M:=by
  have:=Ok.filt (cond:=qO) I (fun _=>true) f h hl (fun x σ hx hs=>by
    obtain ⟨σ1,a,b,c⟩:=t x σ hx hs
    exact ⟨σ1,a,b,rfl,fun _=>c⟩)
  rw [this,List.filter_eq_self.mpr (fun _ _=>rfl)]
theorem zdB (M:Mem) (d:Nat):∀ (xs ys:List Int),eqL (eqD M (d + 1)) (xs.map .int) (ys.map .int) = some (decide (xs = ys))
  | [],[]=>by simp [eqL]
  | [],y :: ys=>by simp [eqL]
  | x :: xs,[]=>by simp [eqL]
  | x :: xs,y :: ys=>by
    have ih:=zdB M d xs ys
    rw [List.map_cons,List.map_cons]
    unfold eqL
    rw [show eqD M (d + 1) (.int x) (.int y) = some (x == y) from rfl]
    by_cases e:x = y
    · simp [e,ih]
    · simp [e,ih]
theorem zbT {a:Nat} {xs:List T} {M:Mem} (e:M[a]? = some (.lst xs)):yu (.ref a) M = some xs:=by
  unfold yu
  simp only [e]
end FT
namespace FT
open PySem L2
theorem zdW {G:Gd} {bd:T->Ev->Mem->Out Ev} {body:Ev->Mem->Out Fl}:∀ {xs:List T} {σ:Ev} {M:Mem},G = []->qJ G bd body xs σ M = forL bd body xs σ M
  | [],σ,M,e=>by subst e;unfold qJ forL;exact zb1 (zfy M)
  | x :: xs,σ,M,e=>by
    subst e
    rw [zaR]
    unfold qJ
    rw [zb1 (zfy M)]
    have:qJ [] bd body xs = forL bd body xs:=by funext σ M;exact zdW rfl
    rw [this]
theorem Ok.loopG {G:Gd} {bd:T->Ev->Mem->Out Ev} {body:Ev->Mem->Out Fl} {α:Type} {r:α->T} (P:Nat->Ev->Mem->Prop) {R:T->Mem->Prop} (hG:∀ i σ M,P i σ M->zbt G M):∀ (xs:List α) (i:Nat) {σ:Ev} {M:Mem},
    P i σ M->(∀ (k:Nat) x σ M,xs[k]? = some x->P (i + k) σ M->Ok ((bd (r x) σ M).bind fun σ1 M1=>body σ1 M1) fun fl M'=>(∃ σ',(fl = .nx σ'\/fl = .ct σ')/\P (i + k + 1) σ' M')\/(∃ σ',fl = .bk σ'/\P (i + xs.length) σ' M')\/∃ t,fl = .rt t/\R t M')->
    Ok (qJ G bd body (xs.map r) σ M) fun fl M'=>(∃ σ',fl = .nx σ'/\P (i + xs.length) σ' M')\/∃ t,fl = .rt t/\R t M'
  | [],i,σ,M,h,_=>⟨.nx σ,M,by rw [List.map_nil];unfold qJ;exact zb1 (hG _ _ _ h),.inl ⟨σ,rfl,h⟩⟩
  | x :: xs,i,σ,M,h,t=>by
    obtain ⟨fl,M1,e1,h1⟩:=t 0 x σ M rfl h
    rw [List.map_cons]
    unfold qJ
    rw [zb1 (hG _ _ _ h)]
    cases q:bd (r x) σ M with
    | bad=>rw [q] at e1;cases e1
    | exn C fs M'=>rw [q] at e1;cases e1
    | ok σ3 M3=>
      rw [q] at e1
      replace e1:body σ3 M3 = .ok fl M1:=e1
      show Ok ((body σ3 M3).bind (zy (qJ G bd body (xs.map r)))) _
      rw [e1]
      have go:∀ σ1,P (i + 1) σ1 M1->Ok (qJ G bd body (xs.map r) σ1 M1) fun fl M'=>(∃ σ',fl = .nx σ'/\P (i + (x :: xs).length) σ' M')\/∃ t,fl = .rt t/\R t M':=fun σ1 h1=>by
        have ih:=Ok.loopG (R:=R) P hG xs (i + 1) (bd:=bd) (body:=body) h1 (fun k y σ M hk hp=>by
          have:=t (k + 1) y σ M (by simpa using hk) (by rw [show i + (k + 1) = i + 1 + k by omega];exact hp)
          rw [show i + (k + 1) + 1 = i + 1 + k + 1 by omega,List.length_cons,show i + (xs.length + 1) = i + 1 + xs.length by omega] at this
          exact this)
        rw [List.length_cons,show i + (xs.length + 1) = i + 1 + xs.length by omega]
        exact ih
      rcases h1 with ⟨σ1,h1 | h1,h2⟩ | ⟨σ1,h1,h2⟩ | ⟨u,h1,h2⟩
      · rw [h1];exact go σ1 h2
      · rw [h1];exact go σ1 h2
      · rw [h1];exact ⟨.nx σ1,M1,rfl,.inl ⟨σ1,rfl,h2⟩⟩
      · rw [h1];exact ⟨.rt u,M1,rfl,.inr ⟨u,rfl,h2⟩⟩
noncomputable def OkX {β:Type} (o:Out β) (Q:β->Mem->Prop) (E:Addr->List (Str × T)->Mem->Prop):Prop:=match o with
  | .ok b M=>Q b M
  | .exn C fs M=>E C fs M
  | .bad=>False
theorem OkX.ok {β:Type} {o:Out β} {Q:β->Mem->Prop} {E:Addr->List (Str × T)->Mem->Prop} (h:Ok o Q):OkX o Q E:=by
  obtain ⟨b,M,rfl,q⟩:=h
  exact q
theorem OkX.bind {β γ:Type} {o:Out β} {k:β->Mem->Out γ} {P:β->Mem->Prop} {Q:γ->Mem->Prop} {E:Addr->List (Str × T)->Mem->Prop} (h:OkX o P E) (g:∀ b M,P b M->OkX (k b M) Q E):OkX (o.bind k) Q E:=by
  cases o with
  | ok b M=>exact g b M h
  | exn C fs M=>exact h
  | bad=>exact h.elim
theorem OkX.bindO {β γ:Type} {o:Out β} {k:β->Mem->Out γ} {P:β->Mem->Prop} {Q:γ->Mem->Prop} {E:Addr->List (Str × T)->Mem->Prop} (h:Ok o P) (g:∀ b M,P b M->OkX (k b M) Q E):OkX (o.bind k) Q E:=OkX.bind (OkX.ok h) g
theorem OkX.mono {β:Type} {o:Out β} {P Q:β->Mem->Prop} {D E:Addr->List (Str × T)->Mem->Prop} (h:OkX o P D) (g:∀ b M,P b M->Q b M) (g':∀ C fs M,D C fs M->E C fs M):OkX o Q E:=by
  cases o with
  | ok b M=>exact g b M h
  | exn C fs M=>exact g' C fs M h
  | bad=>exact h.elim
theorem zda {p n:Nat} {g:Ev->Mem->Out Fl} {ts:List T} {M:Mem} {Q:T->Mem->Prop} {E:Addr->List (Str × T)->Mem->Prop} (h:ts.length = p) (k:OkX ((g (startT n ts) M).bind zhd) Q E):OkX (qG p n g ts M) Q E:=by
  unfold qG
  rw [if_pos h]
  cases r:g (startT n ts) M with
  | bad=>rw [r] at k;exact k.elim
  | exn C fs M'=>rw [r] at k;exact k
  | ok fl M'=>
    rw [r] at k
    cases fl with
    | rt t=>exact k
    | nx σ=>exact k
    | bk σ=>exact k.elim
    | ct σ=>exact k.elim
theorem Ok.tryN {j:Nat} {cs:List Addr} {g gs:Ev->Mem->Out Fl} {σ:Ev} {M:Mem} {Q:Fl->Mem->Prop} (h:OkX (g σ M) Q fun C fs M'=>cs.contains C = true/\Ok ((gs (σ.set j (some (.exc C fs))) M').bind (clr j)) Q):Ok (zc8 j cs g gs σ M) Q:=by
  unfold zc8
  cases r:g σ M with
  | ok b M1=>rw [r] at h;exact ⟨b,M1,rfl,h⟩
  | bad=>rw [r] at h;exact h.elim
  | exn C fs M1=>
    rw [r] at h
    obtain ⟨hc,h⟩:=h
    show Ok (if cs.contains C = true then _ else _) _
    rw [if_pos hc]
    cases q:gs (σ.set j (some (.exc C fs))) M1 with
    | ok b M2=>rw [q] at h;exact h
    | bad=>rw [q] at h;obtain ⟨_,_,h,_⟩:=h;cases h
    | exn _ _ _=>rw [q] at h;obtain ⟨_,_,h,_⟩:=h;cases h
theorem Ok.try {cs:List Addr} {g gs:Ev->Mem->Out Fl} {σ:Ev} {M:Mem} {Q:Fl->Mem->Prop} (h:OkX (g σ M) Q fun C _ M'=>cs.contains C = true/\Ok (gs σ M') Q):Ok (zfa cs g gs σ M) Q:=by
  unfold zfa
  cases r:g σ M with
  | ok b M1=>rw [r] at h;exact ⟨b,M1,rfl,h⟩
  | bad=>rw [r] at h;exact h.elim
  | exn C fs M1=>
    rw [r] at h
    obtain ⟨hc,b,M2,e,h⟩:=h
    show Ok (if cs.contains C = true then _ else _) _
    rw [if_pos hc,e]
    exact ⟨b,M2,rfl,h⟩
end FT
namespace My
open PySem L2 FT
noncomputable def top (i:Nat):Stmt:=PySem.Challenge.pw_tryweir_k08_whole_rows_walked.main.body.getD i (.Pass ⟨0,0,0,0⟩)
noncomputable abbrev zeI:Stmt:=inClass (top 2) 0
noncomputable abbrev zcK:Stmt:=top 12
noncomputable abbrev zcG:Stmt:=top 13
noncomputable abbrev zcF:Stmt:=top 14
noncomputable abbrev zbK:Stmt:=top 17
noncomputable abbrev zcI:Stmt:=top 11
noncomputable abbrev zbL:Stmt:=top 15
noncomputable abbrev zcH:Stmt:=top 16
noncomputable abbrev zdF:Stmt:=top 6
noncomputable abbrev zbJ:Stmt:=top 7
noncomputable abbrev zcE:Stmt:=top 8
noncomputable abbrev zbM:Stmt:=top 21
noncomputable abbrev ze8:Stmt:=top 4
noncomputable abbrev zcJ:Stmt:=top 18
noncomputable abbrev zdE:Stmt:=top 19
noncomputable abbrev yW:Stmt:=top 20
noncomputable abbrev zcL:Stmt:=top 10
noncomputable abbrev zhb:Stmt:=top 22
structure Txt (mg:Str->Option Value):Prop where
  n_range:mg "range" = none
  n_tuple:mg "tuple" = none
  n_max:mg "max" = none
  n_len:mg "len" = none
  n_dict:mg "dict" = none
  n_sorted:mg "sorted" = none
  n_set:mg "set" = none
  n_list:mg "list" = none
  n_enumerate:mg "enumerate" = none
  n_any:mg "any" = none
  n_min:mg "min" = none
  n_isinstance:mg "isinstance" = none
theorem boot_range:bootBuiltins "range" = some (.type "range"):=by decide +kernel
theorem boot_tuple:bootBuiltins "tuple" = some (.type "tuple"):=by decide +kernel
theorem boot_max:bootBuiltins "max" = some (.builtin "max"):=by decide +kernel
theorem boot_len:bootBuiltins "len" = some (.builtin "len"):=by decide +kernel
theorem boot_dict:bootBuiltins "dict" = some (.type "dict"):=by decide +kernel
theorem boot_list:bootBuiltins "list" = some (.type "list"):=by decide +kernel
theorem boot_any:bootBuiltins "any" = some (.builtin "any"):=by decide +kernel
theorem boot_min:bootBuiltins "min" = some (.builtin "min"):=by decide +kernel
theorem boot_isinstance:bootBuiltins "isinstance" = some (.builtin "isinstance"):=by decide +kernel
end My
theorem FT.nc_l {k:PySem.NameKind} {P:Prop} (e:(k == .cell || k == .free) = false) (h:k = .cell\/k = .free):P:=by
  rcases h with rfl | rfl
  · exact absurd e (by decide)
  · exact absurd e (by decide)
open PySem L2 FT in
local macro_rules | `(tactic| bv_omega) => `(tactic| exact ⟨rfl, rfl, by decide +kernel, rfl, by decide +kernel, by first | exact (fun _ _ h => h) | exact zft (by repeat (first | exact True.intro | refine ⟨rfl, ?_⟩)), fun _ => zmj (by repeat (first | exact True.intro | (refine ⟨?_, ?_⟩; first | exact (fun _ => ⟨_, rfl⟩) | exact nc_l rfl | exact (fun h => h.elim (fun h => nomatch h) (fun h => nomatch h))))), by repeat (first | exact List.forall_mem_nil _ | refine List.forall_mem_cons.mpr ⟨⟨rfl, rfl, by first | exact .inl rfl | exact .inr rfl⟩, ?_⟩)⟩)
namespace My
open PySem L2 FT
noncomputable def zfF:Ev->Mem->Out Fl:=
  (zg (sIf (qB (eOp gtI (eOp ixT (yb 0) (eC (.int 0))) (eC (.int 0)))) (zg (yj 2 (eOp zbm (eOp ixT (yb 0) (eC (.int 0))) (yb 1)))
  (zg (zdH (eOp zdZ (eOp ixT (yb 0) (eC (.int 0))) (yb 1)) (zd5 zaX (yb 0) (eC (.int 0))))
  (qv (yb 2)))) qP)
  (zg (zdH (eOp qC (eOp ixT (yb 0) (eC (.int 2))) (eC (.int 1))) (zd5 zaX (yb 0) (eC (.int 2))))
  (zg (yj 3 (eOp zbm (eOp qC (eOp ixT (yb 0) (eC (.int 1))) (eOp zC (eC (.int 7919)) (eOp ixT (yb 0) (eC (.int 2))))) (eC (.int 1000000007))))
  (zg (yj 4 (eOp zbm (eOp zC (eOp qC (yb 3) (eC (.int 11))) (eOp qC (yb 3) (eC (.int 48271)))) (eC (.int 998244353))))
  (qv (eOp zbm (eOp zdZ (eOp zbm (eOp zC (yb 4) (yb 4)) (eC (.int 2147483647))) (eC (.int 8))) (yb 1)))))))
noncomputable def zi:List FT.T->Mem->Out FT.T:=zl 2 5 (zfF)
section
variable {P:Program} {w:World} {K:PySem.W.Frag} {mg:Str->Option Value} {base:Heap}
theorem zaN:FnScope ["pool","base","digit","mixed","stir"] ["pool","base"] (zd zcK):=⟨rfl,rfl,rfl,by decide +kernel,rfl,by decide +kernel,by decide +kernel⟩
theorem yh (D:Df K mg "_law_next" zcK ["pool","base"]) (T:Txt mg)  :CalT P w K mg base 1 "_law_next" ["pool","base"] zi:=
  zx D zaN rfl rfl (fun f cdv A outer s H E hr=>(qc (yD (qw zfj (qe zj (ya (pv 0)) zc (fun _ _=>rfl)) zc (zt _)) (qc (yf (i:=2) zaN.nd rfl (Or.inl rfl) (yg zai (qe zj (ya (pv 0)) zc (fun _ _=>rfl)) (ya (pv 1))))
    (qc (zcb (yg zgy (qe zj (ya (pv 0)) zc (fun _ _=>rfl)) (ya (pv 1))) (zcc (ya (pv 0)) zc zbh))
    (ye (yk (ya (pv 2)))))) yt)
    (qc (zcb (yg zB (qe zj (ya (pv 0)) zc (fun _ _=>rfl)) zc) (zcc (ya (pv 0)) zc zbh))
    (qc (yf (i:=3) zaN.nd rfl (Or.inl rfl) (yg zai (yg zB (qe zj (ya (pv 0)) zc (fun _ _=>rfl)) (yg qX zc (qe zj (ya (pv 0)) zc (fun _ _=>rfl)))) zc))
    (qc (yf (i:=4) zaN.nd rfl (Or.inl rfl) (yg zai (yg qX (yg zB (ya (pv 3)) zc) (yg zB (ya (pv 3)) zc)) zc))
    (ye (yk (yg zai (yg zgy (yg zai (yg qX (ya (pv 4)) (ya (pv 4))) zc) zc) (ya (pv 1))))))))))
end
end My
namespace My
open PySem L2 FT
noncomputable def zeC:Ev->Mem->Out Fl:=
  (sIf (qB (eOp eqA (ze zi (zb (yb 0) (zb (eC (.int 3)) yd))) (eC (.int 0)))) (zdG (zcn z0 (eUn yJ (yb 2)) (zb (zaZ (zb (yb 3) (zb (eOp qC (eC (.int 1)) (ze zi (zb (yb 0) (zb (eOp ixT (eFz (qr (zb (eC (.int 3)) (zb (eC (.int 3)) (zb (eC (.int 3)) (zb (eC (.int 99)) yd)))))) (ze zi (zb (yb 0) (zb (eC (.int 4)) yd)))) yd)))) yd))) yd))) qP)
noncomputable def zfB:Ev->Mem->Out Fl:=
  (zg (yj 2 (eTk (qr yd)))
  (zg (qW (yR (zb (yb 1) yd)) (zh 3) zeC)
  (qv (ze (zq zE) (zb (yb 2) yd)))))
noncomputable def zaB:List FT.T->Mem->Out FT.T:=zl 2 4 (zfB)
section
variable {P:Program} {w:World} {K:PySem.W.Frag} {mg:Str->Option Value} {base:Heap}
theorem zbI:FnScope ["pool","many","side","place"] ["pool","many"] (zd zcG):=⟨rfl,rfl,rfl,by decide +kernel,rfl,by decide +kernel,by decide +kernel⟩
theorem zZ (D:Df K mg "_law_side" zcG ["pool","many"]) (T:Txt mg)  (yh:CalT P w K mg base 1 "_law_next" ["pool","base"] zi):CalT P w K mg base 2 "_law_side" ["pool","many"] zaB:=
  zx D zbI rfl rfl (fun f cdv A outer s H E hr=>(qc (yf (i:=2) zbI.nd rfl (Or.inl rfl) (z3 (ym yc)))
    (qc (qD PassesOwn.never rfl (zL rfl T.n_range (za (ya (pv 1)) yc)) (qg (qh (i:=3) zbI.nd rfl (by first | exact Or.inl rfl | exact Or.inr rfl))) (ye (yD (qw (zfk hr.units) (zf yh (hr.mono (by decide)) rfl (za (ya (pv 0)) (za zc yc))) zc (zt _)) (ye (zca (zce (zcg PySem.F.plainAttrs_list PySem.F.slot_list_append PySem.F.type_list_append y3 (WE.pe (ya (pv 2))) (WA.pe (za (zV (za (ya (pv 3)) (za (yg zB zc (zf yh (hr.mono (by decide)) rfl (za (ya (pv 0)) (za (qe zj (yq (ym (za zc (za zc (za zc (za zc yc)))))) (zf yh (hr.mono (by decide)) rfl (za (ya (pv 0)) (za zc yc))) (fun _ _=>rfl)) yc)))) yc))) yc)))))) yt)))
    (ye (yk (zu yz rfl T.n_tuple boot_tuple (za (ya (pv 2)) yc)))))))
end
end My
namespace My
open PySem L2 FT
noncomputable def zeB:Ev->Mem->Out Fl:=
  (zg (yj 4 (ze zaB (zb (yb 0) (zb (yb 1) yd))))
  (zg (yj 5 (ze zaB (zb (yb 0) (zb (yb 1) yd))))
  (zg (yj 6 (ze zi (zb (yb 0) (zb (eOp ixT (eFz (qr (zb (eC (.int 5)) (zb (eC (.int 5)) (zb (eC (.int 5)) (zb (eC (.int 1000)) yd)))))) (ze zi (zb (yb 0) (zb (eC (.int 4)) yd)))) yd))))
  (zdG (zcn z0 (eUn yJ (yb 2)) (zb (zaZ (zb (yb 4) (zb (yb 5) (zb (yb 6) (zb (ze zi (zb (yb 0) (zb (eOp ixT (eFz (qr (zb (eC (.int 2)) (zb (eC (.int 4)) (zb (eC (.int 4)) (zb (eC (.int 1000)) yd)))))) (ze zi (zb (yb 0) (zb (eC (.int 4)) yd)))) yd))) yd))))) yd))))))
noncomputable def zfA:Ev->Mem->Out Fl:=
  (zg (yj 1 (eOp ixT (eFz (qr (zb (eC (.int 0)) (zb (eC (.int 1)) (zb (eC (.int 2)) (zb (eC (.int 2)) (zb (eC (.int 3)) (zb (eC (.int 4)) (zb (eC (.int 5)) (zb (eC (.int 6)) yd)))))))))) (ze zi (zb (yb 0) (zb (eC (.int 8)) yd)))))
  (zg (yj 2 (eTk (qr yd)))
  (zg (qW (yR (zb (eOp ixT (eFz (qr (zb (eC (.int 0)) (zb (eC (.int 1)) (zb (eC (.int 2)) (zb (eC (.int 3)) (zb (eC (.int 4)) (zb (eC (.int 5)) (zb (eC (.int 7)) (zb (eC (.int 9)) yd)))))))))) (ze zi (zb (yb 0) (zb (eC (.int 8)) yd)))) yd)) (zh 3) zeB)
  (qv (zaZ (zb (yb 1) (zb (ze (zq zE) (zb (yb 2) yd)) yd)))))))
noncomputable def zbv:List FT.T->Mem->Out FT.T:=zl 1 7 (zfA)
section
variable {P:Program} {w:World} {K:PySem.W.Frag} {mg:Str->Option Value} {base:Heap}
theorem zJ:FnScope ["pool","many","deeds","k","takes","gives","load"] ["pool"] (zd zcF):=⟨rfl,rfl,rfl,by decide +kernel,rfl,by decide +kernel,by decide +kernel⟩
theorem zaH (D:Df K mg "_law_yard" zcF ["pool"]) (T:Txt mg)  (yh:CalT P w K mg base 1 "_law_next" ["pool","base"] zi) (zZ:CalT P w K mg base 2 "_law_side" ["pool","many"] zaB):CalT P w K mg base 3 "_law_yard" ["pool"] zbv:=
  zx D zJ rfl rfl (fun f cdv A outer s H E hr=>(qc (yf (i:=1) zJ.nd rfl (Or.inl rfl) (qe zj (yq (ym (za zc (za zc (za zc (za zc (za zc (za zc (za zc (za zc yc)))))))))) (zf yh (hr.mono (by decide)) rfl (za (ya (pv 0)) (za zc yc))) (fun _ _=>rfl)))
    (qc (yf (i:=2) zJ.nd rfl (Or.inl rfl) (z3 (ym yc)))
    (qc (qD PassesOwn.never rfl (zL rfl T.n_range (za (qe zj (yq (ym (za zc (za zc (za zc (za zc (za zc (za zc (za zc (za zc yc)))))))))) (zf yh (hr.mono (by decide)) rfl (za (ya (pv 0)) (za zc yc))) (fun _ _=>rfl)) yc)) (qg (qh (i:=3) zJ.nd rfl (by first | exact Or.inl rfl | exact Or.inr rfl))) (qc (yf (i:=4) zJ.nd rfl (Or.inl rfl) (zf zZ (hr.mono (by decide)) rfl (za (ya (pv 0)) (za (ya (pv 1)) yc))))
    (qc (yf (i:=5) zJ.nd rfl (Or.inl rfl) (zf zZ (hr.mono (by decide)) rfl (za (ya (pv 0)) (za (ya (pv 1)) yc))))
    (qc (yf (i:=6) zJ.nd rfl (Or.inl rfl) (zf yh (hr.mono (by decide)) rfl (za (ya (pv 0)) (za (qe zj (yq (ym (za zc (za zc (za zc (za zc yc)))))) (zf yh (hr.mono (by decide)) rfl (za (ya (pv 0)) (za zc yc))) (fun _ _=>rfl)) yc))))
    (ye (zca (zce (zcg PySem.F.plainAttrs_list PySem.F.slot_list_append PySem.F.type_list_append y3 (WE.pe (ya (pv 2))) (WA.pe (za (zV (za (ya (pv 4)) (za (ya (pv 5)) (za (ya (pv 6)) (za (zf yh (hr.mono (by decide)) rfl (za (ya (pv 0)) (za (qe zj (yq (ym (za zc (za zc (za zc (za zc yc)))))) (zf yh (hr.mono (by decide)) rfl (za (ya (pv 0)) (za zc yc))) (fun _ _=>rfl)) yc))) yc))))) yc))))))))))
    (ye (yk (zV (za (ya (pv 1)) (za (zu yz rfl T.n_tuple boot_tuple (za (ya (pv 2)) yc)) yc)))))))))
end
end My
namespace My
open PySem L2 FT
noncomputable def zdu:Ev->Mem->Out Fl:=
  (zdG (zcn z0 (eUn yJ (yb 2)) (zb (ze zi (zb (yb 1) (zb (eOp ixT (eFz (qr (zb (eC (.int 2)) (zb (eC (.int 4)) (zb (eC (.int 9)) (zb (eC (.int 200)) (zb (eOp zbP (eC (.int 10)) (eC (.int 7))) (zb (eOp zbP (eC (.int 10)) (eC (.int 32))) yd)))))))) (ze zi (zb (yb 1) (zb (eC (.int 6)) yd)))) yd))) yd)))
noncomputable def zen:Ev->Mem->Out Fl:=
  (zg (yj 2 (eTk (qr yd)))
  (zg (qW (yR (zb (eOp ixT (yb 0) (eC (.int 0))) yd)) (zh 3) zdu)
  (qv (ze (zq zE) (zb (yb 2) yd)))))
noncomputable def zaS:List FT.T->Mem->Out FT.T:=zl 2 4 (zen)
section
variable {P:Program} {w:World} {K:PySem.W.Frag} {mg:Str->Option Value} {base:Heap}
theorem zbj:FnScope ["yard","pool","stand","place"] ["yard","pool"] (zd zbK):=⟨rfl,rfl,rfl,by decide +kernel,rfl,by decide +kernel,by decide +kernel⟩
theorem y4 (D:Df K mg "_law_stand" zbK ["yard","pool"]) (T:Txt mg)  (yh:CalT P w K mg base 1 "_law_next" ["pool","base"] zi):CalT P w K mg base 2 "_law_stand" ["yard","pool"] zaS:=
  zx D zbj rfl rfl (fun f cdv A outer s H E hr=>(qc (yf (i:=2) zbj.nd rfl (Or.inl rfl) (z3 (ym yc)))
    (qc (qD PassesOwn.never rfl (zL rfl T.n_range (za (qe zj (ya (pv 0)) zc (fun _ _=>rfl)) yc)) (qg (qh (i:=3) zbj.nd rfl (by first | exact Or.inl rfl | exact Or.inr rfl))) (ye (zca (zce (zcg PySem.F.plainAttrs_list PySem.F.slot_list_append PySem.F.type_list_append y3 (WE.pe (ya (pv 2))) (WA.pe (za (zf yh (hr.mono (by decide)) rfl (za (ya (pv 1)) (za (qe zj (yq (ym (za zc (za zc (za zc (za zc (za (yg zah zc zc) (za (yg zah zc zc) yc)))))))) (zf yh (hr.mono (by decide)) rfl (za (ya (pv 1)) (za zc yc))) (fun _ _=>rfl)) yc))) yc)))))))
    (ye (yk (zu yz rfl T.n_tuple boot_tuple (za (ya (pv 2)) yc)))))))
end
end My
namespace My
open PySem L2 FT
noncomputable def zfD:Ev->Mem->Out Fl:=
  (qv (eTk (qr (zb (ze (call2 zfs) (zb (eC (.int 0)) (zb (eOp qV (yb 0) (eOp zbP (eC (.int 10)) (eC (.int 18)))) yd))) (zb (eOp zbm (yb 0) (eOp zbP (eC (.int 10)) (eC (.int 18)))) (zb (eC (.int 0)) yd))))))
noncomputable def zK:List FT.T->Mem->Out FT.T:=zl 1 1 (zfD)
section
variable {P:Program} {w:World} {K:PySem.W.Frag} {mg:Str->Option Value} {base:Heap}
theorem zh1:FnScope ["cell"] ["cell"] (zd zcI):=⟨rfl,rfl,rfl,by decide +kernel,rfl,by decide +kernel,by decide +kernel⟩
theorem qF (D:Df K mg "_law_pool" zcI ["cell"]) (T:Txt mg)  :CalT P w K mg base 1 "_law_pool" ["cell"] zK:=
  zx D zh1 rfl rfl (fun f cdv A outer s H E hr=>(ye (yk (z3 (ym (za (yy (zeu rfl) rfl T.n_max boot_max (za zc (za (yg zag (ya (pv 0)) (yg zah zc zc)) yc))) (za (yg zai (ya (pv 0)) (yg zah zc zc)) (za zc yc))))))))
end
end My
namespace My
open PySem L2 FT
noncomputable def zeo:Ev->Mem->Out Fl:=
  (qv (eOp qC (eC (.int 1)) (ze zi (zb (yb 0) (zb (eOp ixT (eFz (qr (zb (eC (.int 2)) (zb (eC (.int 3)) (zb (eC (.int 4)) (zb (eOp zbP (eC (.int 10)) (eC (.int 6))) (zb (eOp zbP (eC (.int 10)) (eC (.int 30))) yd))))))) (ze zi (zb (yb 0) (zb (eC (.int 5)) yd)))) yd)))))
noncomputable def zaT:List FT.T->Mem->Out FT.T:=zl 1 1 (zeo)
section
variable {P:Program} {w:World} {K:PySem.W.Frag} {mg:Str->Option Value} {base:Heap}
theorem zha:FnScope ["pool"] ["pool"] (zd zbL):=⟨rfl,rfl,rfl,by decide +kernel,rfl,by decide +kernel,by decide +kernel⟩
theorem z5 (D:Df K mg "_law_often" zbL ["pool"]) (T:Txt mg)  (yh:CalT P w K mg base 1 "_law_next" ["pool","base"] zi):CalT P w K mg base 2 "_law_often" ["pool"] zaT:=
  zx D zha rfl rfl (fun f cdv A outer s H E hr=>(ye (yk (yg zB zc (zf yh (hr.mono (by decide)) rfl (za (ya (pv 0)) (za (qe zj (yq (ym (za zc (za zc (za zc (za (yg zah zc zc) (za (yg zah zc zc) yc))))))) (zf yh (hr.mono (by decide)) rfl (za (ya (pv 0)) (za zc yc))) (fun _ _=>rfl)) yc)))))))
end
end My
namespace My
open PySem L2 FT
noncomputable def zeD:Ev->Mem->Out Fl:=
  (zg (yj 4 (ze zK (zb (yb 3) yd)))
  (sIf (qB (eOp gtI (ze (zq zcR) (zb (eOp ixT (yb 0) (eC (.int 1))) yd)) (eC (.int 0)))) (zdG (zcn z0 (eUn yJ (yb 2)) (zb (zaZ (zb (ze zi (zb (yb 4) (zb (ze (zq zcR) (zb (eOp ixT (yb 0) (eC (.int 1))) yd)) yd))) (zb (ze zaT (zb (yb 4) yd)) yd))) yd))) qP))
noncomputable def zfC:Ev->Mem->Out Fl:=
  (zg (yj 2 (eTk (qr yd)))
  (zg (qW (zaz (yb 1)) (zh 3) zeD)
  (qv (yb 2))))
noncomputable def zcU:List FT.T->Mem->Out FT.T:=zl 2 5 (zfC)
noncomputable def zbk:List FT.T->Mem->Out FT.T:=zdV (zcU)
section
variable {P:Program} {w:World} {K:PySem.W.Frag} {mg:Str->Option Value} {base:Heap}
theorem zaL:FnScope ["yard","cells","row","cell","pool"] ["yard","cells"] (zd zcH):=⟨rfl,rfl,rfl,by decide +kernel,rfl,by decide +kernel,by decide +kernel⟩
theorem yQ (D:Df K mg "_law_rows" zcH ["yard","cells"]) (T:Txt mg)  (qF:CalT P w K mg base 1 "_law_pool" ["cell"] zK) (yh:CalT P w K mg base 1 "_law_next" ["pool","base"] zi) (z5:CalT P w K mg base 2 "_law_often" ["pool"] zaT):CalT P w K mg base 3 "_law_rows" ["yard","cells"] zcU:=
  zx D zaL rfl rfl (fun f cdv A outer s H E hr=>(qc (yf (i:=2) zaL.nd rfl (Or.inl rfl) (z3 (ym yc)))
    (qc (qD PassesOwn.never rfl (qK (ya (pv 1))) (qg (qh (i:=3) zaL.nd rfl (by first | exact Or.inl rfl | exact Or.inr rfl))) (qc (yf (i:=4) zaL.nd rfl (Or.inl rfl) (zf qF (hr.mono (by decide)) rfl (za (ya (pv 3)) yc)))
    (ye (yD (qw zfj (yy zb5 rfl T.n_len boot_len (za (qe zj (ya (pv 0)) zc (fun _ _=>rfl)) yc)) zc (zt _)) (ye (zca (zce (zcg PySem.F.plainAttrs_list PySem.F.slot_list_append PySem.F.type_list_append y3 (WE.pe (ya (pv 2))) (WA.pe (za (zV (za (zf yh (hr.mono (by decide)) rfl (za (ya (pv 4)) (za (yy zb5 rfl T.n_len boot_len (za (qe zj (ya (pv 0)) zc (fun _ _=>rfl)) yc)) yc))) (za (zf z5 (hr.mono (by decide)) rfl (za (ya (pv 4)) yc)) yc))) yc)))))) yt))))
    (ye (yk (ya (pv 2)))))))
end
end My
namespace My
open PySem L2 FT
noncomputable def zgJ:Ev->Mem->Out Fl:=
  (zg (yj 2 (eOp ixD (eOp ixD (yb 0) (eC (.int 1))) (yb 1)))
  (zg (yj 3 (ze (zq zcp) (zb (eOp ixD (yb 2) (eC (.int 0))) yd)))
  (zg (yj 4 (ze (zq zcp) (zb (eOp ixD (yb 2) (eC (.int 1))) yd)))
  (zg (yj 5 (eFz (zdT 3 4)))
  (qv (eFz (zaQ (zaz (yb 5)) (zh 0) qO (zaZ (zb (yb 0) (zb (zaD zbp zad (yb 1) (zb (yb 0) (zb (eC (.int 0)) yd))) (zb (zaD zbp zad (yb 2) (zb (yb 0) (zb (eC (.int 0)) yd))) yd)))) ["place"] [("taken",3),("given",4)])))))))
noncomputable def zbc:List FT.T->Mem->Out FT.T:=zl 2 6 (zgJ)
section
variable {P:Program} {w:World} {K:PySem.W.Frag} {mg:Str->Option Value} {base:Heap}
theorem zar:FnScope ["yard","number","deed","taken","given","places"] ["yard","number"] (zd zdF):=⟨rfl,rfl,rfl,by decide +kernel,rfl,by decide +kernel,by decide +kernel⟩
theorem zbe (D:Df K mg "flows" zdF ["yard","number"]) (T:Txt mg)  :CalT P w K mg base 1 "flows" ["yard","number"] zbc:=
  zx D zar rfl rfl (fun f cdv A outer s H E hr=>(qc (yf (i:=2) zar.nd rfl (Or.inl rfl) (qe (zhs hr.units) (qe (zhs hr.units) (ya (pv 0)) zc (fun _ _=>rfl)) (ya (pv 1)) (fun _ _=>rfl)))
    (qc (yf (i:=3) zar.nd rfl (Or.inr rfl) (zu (zdt rfl) rfl T.n_dict boot_dict (za (qe (zhs hr.units) (ya (pv 2)) zc (fun _ _=>rfl)) yc)))
    (qc (yf (i:=4) zar.nd rfl (Or.inr rfl) (zu (zdt rfl) rfl T.n_dict boot_dict (za (qe (zhs hr.units) (ya (pv 2)) zc (fun _ _=>rfl)) yc)))
    (qc (yf (i:=5) zar.nd rfl (Or.inl rfl) (yq (zjV rfl (pv 3) (pv 4) rfl T.n_sorted rfl T.n_set)))
    (ye (yk (yq (zam (tgs:=["place"]) (caps:=[("taken",3),("given",4)]) (qK (ya (pv 5))) (by bv_omega) (fun _ _ _=>(qg (qh (i:=0) (show (["place","taken","given"]:List Str).Nodup by decide +kernel) rfl (by first | exact Or.inl rfl | exact Or.inr rfl)))) (fun _ _ _=>zal) (fun _ _ _=>(zV (za (ya (pv 0)) (za (zeV zhV (zcg PySem.F.plainAttrs_dict PySem.F.slot_dict_get PySem.F.type_dict_get (zgB hr.units) (WE.pe (ya (pv 1))) (WA.pe (za (ya (pv 0)) (za zc yc))))) (za (zeV zhV (zcg PySem.F.plainAttrs_dict PySem.F.slot_dict_get PySem.F.type_dict_get (zgB hr.units) (WE.pe (ya (pv 2))) (WA.pe (za (ya (pv 0)) (za zc yc))))) yc))))))))))))))
end
end My
namespace My
open PySem L2 FT
noncomputable def zem:Ev->Mem->Out Fl:=
  (qv (eOp qC (yb 0) (eOp zC (eOp qV (yb 2) (eC (.int 1))) (ze (call2 zfs) (zb (eC (.int 0)) (zb (eOp qV (yb 0) (yb 1)) yd))))))
noncomputable def zS:List FT.T->Mem->Out FT.T:=zl 3 3 (zem)
section
variable {P:Program} {w:World} {K:PySem.W.Frag} {mg:Str->Option Value} {base:Heap}
theorem zg9:FnScope ["taken","given","times"] ["taken","given","times"] (zd zbJ):=⟨rfl,rfl,rfl,by decide +kernel,rfl,by decide +kernel,by decide +kernel⟩
theorem z4 (D:Df K mg "need_at" zbJ ["taken","given","times"]) (T:Txt mg)  :CalT P w K mg base 1 "need_at" ["taken","given","times"] zS:=
  zx D zg9 rfl rfl (fun f cdv A outer s H E hr=>(ye (yk (yg zB (ya (pv 0)) (yg qX (yg zag (ya (pv 2)) zc) (yy (zeu rfl) rfl T.n_max boot_max (za zc (za (yg zag (ya (pv 0)) (ya (pv 1))) yc))))))))
end
end My
namespace My
open PySem L2 FT
noncomputable def zeA (k_NoDeed:Addr):Ev->Mem->Out Fl:=
  (zaO getL zc2 zaX (yb 3) (yb 7) (eOp zC (eOp ixT (yb 5) (eC (.int 1))) (eOp qV (yb 9) (yb 8))))
noncomputable def zb8 (k_NoDeed:Addr):Ev->Mem->Out Fl:=
  (zg (yj 6 (ze zbc (zb (yb 0) (zb (eOp ixT (yb 5) (eC (.int 0))) yd))))
  (zg (sIf (qB (ze (zq zd7) (zb (eFz (zaQ (zaz (yb 6)) (qM 3 (zm (zh 0) (zm (zh 1) (zm (zh 2) zN)))) qO (eOp ltI (eOp ixT (yb 3) (yb 0)) (ze zS (zb (yb 1) (zb (yb 2) (zb (eOp ixT (yb 4) (eC (.int 1))) yd))))) ["place","taken","given"] [("now",3),("step",5)])) yd))) (za4 (zT k_NoDeed) (zb (yb 4) yd)) qP)
  (qW (zaz (yb 6)) (qM 3 (zm (zh 7) (zm (zh 8) (zm (zh 9) zN)))) (zeA k_NoDeed))))
noncomputable def zfz (k_NoDeed:Addr):Ev->Mem->Out Fl:=
  (zg (yj 3 (eTk (zeP zbn (zb (yb 1) yd))))
  (zg (zc9 (zbZ (yb 2)) (qM 2 (zm (zh 4) (zm (zh 5) zN))) (zb8 k_NoDeed))
  (qv (ze (zq zE) (zb (yb 3) yd)))))
noncomputable def zbu (k_NoDeed:Addr):List FT.T->Mem->Out FT.T:=qG 3 10 (zfz k_NoDeed)
section
variable {P:Program} {w:World} {K:PySem.W.Frag} {mg:Str->Option Value} {base:Heap} {k_NoDeed:Addr}
theorem yE:FnScope ["yard","stand","row","now","at","step","moved","place","taken","given"] ["yard","stand","row"] (zd zcE):=⟨rfl,rfl,rfl,by decide +kernel,rfl,by decide +kernel,by decide +kernel⟩
theorem zaG (D:Df K mg "walked" zcE ["yard","stand","row"]) (T:Txt mg) (x_NoDeed:XcF P w K mg base "NoDeed" k_NoDeed) (zbe:CalT P w K mg base 1 "flows" ["yard","number"] zbc) (z4:CalT P w K mg base 1 "need_at" ["taken","given","times"] zS):CalX P w K mg base 3 "walked" ["yard","stand","row"] (zbu k_NoDeed):=
  zeX D yE rfl rfl (fun f cdv A outer s H E hr=>(qc (yf (i:=3) yE.nd rfl (Or.inr rfl) (z3 (zc5 zdr rfl T.n_list boot_list (za (ya (pv 1)) yc))))
    (qc (ziP PassesOwn.leaving rfl (zhQ rfl T.n_enumerate (ya (pv 2))) (yL (yT rfl (WGs.pe (yi (qm (WG.pe (qg (qh (i:=4) yE.nd rfl (by first | exact Or.inl rfl | exact Or.inr rfl)))) (WGs.pe (yi (qm (WG.pe (qg (qh (i:=5) yE.nd rfl (by first | exact Or.inl rfl | exact Or.inr rfl)))) (WGs.pe qE))))))))) (qc (yf (i:=6) yE.nd rfl (Or.inl rfl) (zf zbe (hr.mono (by decide)) rfl (za (ya (pv 0)) (za (qe zj (ya (pv 5)) zc (fun _ _=>rfl)) yc))))
    (qc (yD (zdz (yy (zev rfl) rfl T.n_any boot_any (za (yq (zam (tgs:=["place","taken","given"]) (caps:=[("now",3),("step",5)]) (qK (ya (pv 6))) (by bv_omega) (fun _ _ _=>(yL (yT rfl (WGs.pe (yi (qm (WG.pe (qg (qh (i:=0) (show (["place","taken","given","now","step"]:List Str).Nodup by decide +kernel) rfl (by first | exact Or.inl rfl | exact Or.inr rfl)))) (WGs.pe (yi (qm (WG.pe (qg (qh (i:=1) (show (["place","taken","given","now","step"]:List Str).Nodup by decide +kernel) rfl (by first | exact Or.inl rfl | exact Or.inr rfl)))) (WGs.pe (yi (qm (WG.pe (qg (qh (i:=2) (show (["place","taken","given","now","step"]:List Str).Nodup by decide +kernel) rfl (by first | exact Or.inl rfl | exact Or.inr rfl)))) (WGs.pe qE))))))))))))) (fun _ _ _=>zal) (fun _ _ _=>(zcd zdc (qe zj (ya (pv 3)) (ya (pv 0)) (fun _ _=>rfl)) (zf z4 (hr.mono (by decide)) rfl (za (ya (pv 1)) (za (ya (pv 2)) (za (qe zj (ya (pv 4)) zc (fun _ _=>rfl)) yc)))) (zt _))))) yc))) (ye (zc4 x_NoDeed (hr.mono (by decide)) rfl rfl rfl rfl rfl (za (ya (pv 4)) yc))) yt)
    (ye (qD PassesOwn.leaving rfl (qK (ya (pv 6))) (yL (yT rfl (WGs.pe (yi (qm (WG.pe (qg (qh (i:=7) yE.nd rfl (by first | exact Or.inl rfl | exact Or.inr rfl)))) (WGs.pe (yi (qm (WG.pe (qg (qh (i:=8) yE.nd rfl (by first | exact Or.inl rfl | exact Or.inr rfl)))) (WGs.pe (yi (qm (WG.pe (qg (qh (i:=9) yE.nd rfl (by first | exact Or.inl rfl | exact Or.inr rfl)))) (WGs.pe qE)))))))))))) (ye (zcz (ya (pv 3)) (ya (pv 7)) zhu (yg qX (qe zj (ya (pv 5)) zc (fun _ _=>rfl)) (yg zag (ya (pv 9)) (ya (pv 8)))) zgH zbh)))))))
    (ye (yk (zu yz rfl T.n_tuple boot_tuple (za (ya (pv 3)) yc)))))))
end
end My
namespace My
open PySem L2 FT
noncomputable def zb2 (k_NoDeed:Addr):Ev->Mem->Out Fl:=
  (zg (yj 3 (eC .non))
  (zg (zc8 4 [k_NoDeed] (yj 3 (ze (zbu k_NoDeed) (zb (yb 0) (zb (yb 1) (zb (yb 2) yd))))) (yj 3 (eFz (qr (zb (eUn (xat [k_NoDeed]) (yb 4)) yd)))))
  (qv (yb 3))))
noncomputable def zep (k_NoDeed:Addr):List FT.T->Mem->Out FT.T:=zl 3 5 (zb2 k_NoDeed)
noncomputable def zz (k_NoDeed:Addr):List FT.T->Mem->Out FT.T:=y0 (zep k_NoDeed)
section
variable {P:Program} {w:World} {K:PySem.W.Frag} {mg:Str->Option Value} {base:Heap} {k_NoDeed:Addr}
theorem qS:FnScope ["yard","stand","row","found","e"] ["yard","stand","row"] (zd zbM):=⟨rfl,rfl,rfl,by decide +kernel,rfl,by decide +kernel,by decide +kernel⟩
theorem zr (D:Df K mg "_law_asked" zbM ["yard","stand","row"]) (T:Txt mg) (x_NoDeed:XcF P w K mg base "NoDeed" k_NoDeed) (zaG:CalX P w K mg base 3 "walked" ["yard","stand","row"] (zbu k_NoDeed)):CalT P w K mg base 4 "_law_asked" ["yard","stand","row"] (zep k_NoDeed):=
  zx D qS rfl rfl (fun f cdv A outer s H E hr=>(qc (yf (i:=3) qS.nd rfl (Or.inl rfl) yV)
    (qc (ziO (cs:=[k_NoDeed]) (j:=4) (zgm (i:=3) qS.nd rfl rfl zaG (hr.mono (by decide)) rfl (fun _ _=>(za (ya (pv 0)) (za (ya (pv 1)) (za (ya (pv 2)) yc))))) (List.forall_mem_cons.mpr ⟨x_NoDeed.sup,List.forall_mem_nil _⟩) rfl rfl rfl rfl qS.nd rfl rfl (fun _=>(ye (yf (i:=3) qS.nd rfl (Or.inl rfl) (yq (ym (za (zjX (List.forall_mem_cons.mpr ⟨x_NoDeed.at,List.forall_mem_nil _⟩) (ya (pv 4))) yc)))))))
    (ye (yk (ya (pv 3)))))))
end
end My
namespace My
open PySem L2 FT
noncomputable def zgV (k_NoDeed:Addr):Ev->Mem->Out Fl:=
  (zaO getL qV zaX (yb 5) (yb 6) (yb 7))
noncomputable def zgU (k_NoDeed:Addr):Ev->Mem->Out Fl:=
  (zaO getL zc2 zaX (yb 5) (yb 6) (yb 7))
noncomputable def zir (k_NoDeed:Addr):Ev->Mem->Out Fl:=
  (zg (yj 3 (eOp ixT (eOp ixT (eOp ixT (yb 0) (eC (.int 1))) (yb 2)) (eC (.int 0))))
  (zg (yj 4 (eOp ixT (eOp ixT (eOp ixT (yb 0) (eC (.int 1))) (yb 2)) (eC (.int 1))))
  (zg (sIf (qB (ze (zq zd7) (zb (eFz (zaQ (zaz (yb 3)) (qM 2 (zm (zh 0) (zm (zh 1) zN))) qO (eOp ltI (eOp ixT (yb 2) (yb 0)) (yb 1)) ["place","number"] [("stand",1)])) yd))) (za4 (zT k_NoDeed) (zb (eC (.int 0)) yd)) qP)
  (zg (yj 5 (eTk (zeP zbn (zb (yb 1) yd))))
  (zg (qW (zaz (yb 3)) (qM 2 (zm (zh 6) (zm (zh 7) zN))) (zgV k_NoDeed))
  (zg (qW (zaz (yb 4)) (qM 2 (zm (zh 6) (zm (zh 7) zN))) (zgU k_NoDeed))
  (qv (ze (zq zE) (zb (yb 5) yd)))))))))
noncomputable def zdl (k_NoDeed:Addr):List FT.T->Mem->Out FT.T:=qG 3 8 (zir k_NoDeed)
section
variable {P:Program} {w:World} {K:PySem.W.Frag} {mg:Str->Option Value} {base:Heap} {k_NoDeed:Addr}
theorem zR:FnScope ["yard","stand","deed","takes","gives","behind","place","number"] ["yard","stand","deed"] (zd ze8):=⟨rfl,rfl,rfl,by decide +kernel,rfl,by decide +kernel,by decide +kernel⟩
theorem zb6 (D:Df K mg "done" ze8 ["yard","stand","deed"]) (T:Txt mg) (x_NoDeed:XcF P w K mg base "NoDeed" k_NoDeed) :CalX P w K mg base 3 "done" ["yard","stand","deed"] (zdl k_NoDeed):=
  zeX D zR rfl rfl (fun f cdv A outer s H E hr=>(qc (yf (i:=3) zR.nd rfl (Or.inl rfl) (qe zj (qe zj (qe zj (ya (pv 0)) zc (fun _ _=>rfl)) (ya (pv 2)) (fun _ _=>rfl)) zc (fun _ _=>rfl)))
    (qc (yf (i:=4) zR.nd rfl (Or.inl rfl) (qe zj (qe zj (qe zj (ya (pv 0)) zc (fun _ _=>rfl)) (ya (pv 2)) (fun _ _=>rfl)) zc (fun _ _=>rfl)))
    (qc (yD (zdz (yy (zev rfl) rfl T.n_any boot_any (za (yq (zam (tgs:=["place","number"]) (caps:=[("stand",1)]) (qK (ya (pv 3))) (by bv_omega) (fun _ _ _=>(yL (yT rfl (WGs.pe (yi (qm (WG.pe (qg (qh (i:=0) (show (["place","number","stand"]:List Str).Nodup by decide +kernel) rfl (by first | exact Or.inl rfl | exact Or.inr rfl)))) (WGs.pe (yi (qm (WG.pe (qg (qh (i:=1) (show (["place","number","stand"]:List Str).Nodup by decide +kernel) rfl (by first | exact Or.inl rfl | exact Or.inr rfl)))) (WGs.pe qE)))))))))) (fun _ _ _=>zal) (fun _ _ _=>(zcd zdc (qe zj (ya (pv 2)) (ya (pv 0)) (fun _ _=>rfl)) (ya (pv 1)) (zt _))))) yc))) (ye (zc4 x_NoDeed (hr.mono (by decide)) rfl rfl rfl rfl rfl (za zc yc))) yt)
    (qc (yf (i:=5) zR.nd rfl (Or.inl rfl) (z3 (zc5 zdr rfl T.n_list boot_list (za (ya (pv 1)) yc))))
    (qc (qD PassesOwn.leaving rfl (qK (ya (pv 3))) (yL (yT rfl (WGs.pe (yi (qm (WG.pe (qg (qh (i:=6) zR.nd rfl (by first | exact Or.inl rfl | exact Or.inr rfl)))) (WGs.pe (yi (qm (WG.pe (qg (qh (i:=7) zR.nd rfl (by first | exact Or.inl rfl | exact Or.inr rfl)))) (WGs.pe qE))))))))) (ye (zcz (ya (pv 5)) (ya (pv 6)) zhu (ya (pv 7)) zkH zbh)))
    (qc (qD PassesOwn.leaving rfl (qK (ya (pv 4))) (yL (yT rfl (WGs.pe (yi (qm (WG.pe (qg (qh (i:=6) zR.nd rfl (by first | exact Or.inl rfl | exact Or.inr rfl)))) (WGs.pe (yi (qm (WG.pe (qg (qh (i:=7) zR.nd rfl (by first | exact Or.inl rfl | exact Or.inr rfl)))) (WGs.pe qE))))))))) (ye (zcz (ya (pv 5)) (ya (pv 6)) zhu (ya (pv 7)) zgH zbh)))
    (ye (yk (zu yz rfl T.n_tuple boot_tuple (za (ya (pv 5)) yc)))))))))))
end
end My
namespace My
open PySem L2 FT
noncomputable def zfE (k_NoDeed:Addr):Ev->Mem->Out Fl:=
  (zg (yj 3 (eC .non))
  (zg (zfa [k_NoDeed] (yj 3 (ze (zdl k_NoDeed) (zb (yb 0) (zb (yb 1) (zb (yb 2) yd))))) (yj 3 (eC .non)))
  (qv (yb 3))))
noncomputable def zfI (k_NoDeed:Addr):List FT.T->Mem->Out FT.T:=zl 3 4 (zfE k_NoDeed)
noncomputable def zas (k_NoDeed:Addr):List FT.T->Mem->Out FT.T:=y0 (zfI k_NoDeed)
section
variable {P:Program} {w:World} {K:PySem.W.Frag} {mg:Str->Option Value} {base:Heap} {k_NoDeed:Addr}
theorem zaM:FnScope ["yard","stand","deed","found"] ["yard","stand","deed"] (zd zcJ):=⟨rfl,rfl,rfl,by decide +kernel,rfl,by decide +kernel,by decide +kernel⟩
theorem yC (D:Df K mg "_law_once" zcJ ["yard","stand","deed"]) (T:Txt mg) (x_NoDeed:XcF P w K mg base "NoDeed" k_NoDeed) (zb6:CalX P w K mg base 3 "done" ["yard","stand","deed"] (zdl k_NoDeed)):CalT P w K mg base 4 "_law_once" ["yard","stand","deed"] (zfI k_NoDeed):=
  zx D zaM rfl rfl (fun f cdv A outer s H E hr=>(qc (yf (i:=3) zaM.nd rfl (Or.inl rfl) yV)
    (qc (zjU (cs:=[k_NoDeed]) (zgm (i:=3) zaM.nd rfl rfl zb6 (hr.mono (by decide)) rfl (fun _ _=>(za (ya (pv 0)) (za (ya (pv 1)) (za (ya (pv 2)) yc))))) (List.forall_mem_cons.mpr ⟨x_NoDeed.sup,List.forall_mem_nil _⟩) rfl rfl rfl rfl (fun _=>(ye (yf (i:=3) zaM.nd rfl (Or.inl rfl) yV))))
    (ye (yk (ya (pv 3)))))))
end
end My
namespace My
open PySem L2 FT
noncomputable def zf6 (k_NoDeed:Addr):Ev->Mem->Out Fl:=
  (zdH (eOp qV (eOp ixT (yb 4) (yb 5)) (yb 6)) (zd5 zaX (yb 4) (yb 5)))
noncomputable def zf5 (k_NoDeed:Addr):Ev->Mem->Out Fl:=
  (zdH (eOp qC (eOp ixT (yb 4) (yb 5)) (yb 6)) (zd5 zaX (yb 4) (yb 5)))
noncomputable def zgI (k_NoDeed:Addr):Ev->Mem->Out Fl:=
  (zg (yj 4 (eTk (zhq (qr (zb (eC (.int 0)) yd)) (eOp ixT (yb 0) (eC (.int 0))))))
  (zg (qW (zaz (eOp ixT (eOp ixT (eOp ixT (yb 0) (eC (.int 1))) (yb 2)) (eC (.int 0)))) (qM 2 (zm (zh 5) (zm (zh 6) zN))) (zf6 k_NoDeed))
  (zg (qW (zaz (eOp ixT (eOp ixT (eOp ixT (yb 0) (eC (.int 1))) (yb 2)) (eC (.int 1)))) (qM 2 (zm (zh 5) (zm (zh 6) zN))) (zf5 k_NoDeed))
  (zg (yj 7 (ze (zq zE) (zb (eFz (zaQ (yR (zb (eOp ixT (yb 0) (eC (.int 0))) yd)) (zh 0) qO (eOp qC (eOp ixT (yb 1) (yb 0)) (ze (call2 zfq) (zb (eC (.int 0)) (zb (eOp zC (eOp qV (yb 2) (eC (.int 1))) (eOp ixT (yb 3) (yb 0))) yd)))) ["k"] [("stand",1),("often",3),("change",4)])) yd)))
  (zg (sIf (zdC (qB (eOp ltI (ze (zq zdg) (zb (eOp qC (yb 7) (zaZ (zb (eC (.int 0)) yd))) yd)) (eC (.int 0)))) (qB (eOp isN (ze (zas k_NoDeed) (zb (yb 0) (zb (yb 7) (zb (yb 2) yd)))) (eC .non)))) (qv (eC .non)) qP)
  (qv (ze (zq zE) (zb (eFz (zaQ (yR (zb (eOp ixT (yb 0) (eC (.int 0))) yd)) (zh 0) qO (eOp qC (eOp ixT (yb 1) (yb 0)) (eOp zC (yb 2) (eOp ixT (yb 3) (yb 0)))) ["k"] [("stand",1),("often",3),("change",4)])) yd))))))))
noncomputable def zgM (k_NoDeed:Addr):List FT.T->Mem->Out FT.T:=zl 4 8 (zgI k_NoDeed)
noncomputable def zdK (k_NoDeed:Addr):List FT.T->Mem->Out FT.T:=y0 (zgM k_NoDeed)
section
variable {P:Program} {w:World} {K:PySem.W.Frag} {mg:Str->Option Value} {base:Heap} {k_NoDeed:Addr}
theorem yP:FnScope ["yard","stand","deed","often","change","place","number","ahead"] ["yard","stand","deed","often"] (zd zdE):=⟨rfl,rfl,rfl,by decide +kernel,rfl,by decide +kernel,by decide +kernel⟩
theorem yZ (D:Df K mg "_law_far" zdE ["yard","stand","deed","often"]) (T:Txt mg)  (yC:CalT P w K mg base 4 "_law_once" ["yard","stand","deed"] (zas k_NoDeed)):CalT P w K mg base 5 "_law_far" ["yard","stand","deed","often"] (zgM k_NoDeed):=
  zx D yP rfl rfl (fun f cdv A outer s H E hr=>(qc (yf (i:=4) yP.nd rfl (Or.inr rfl) (z3 (zjW (ym (za zc yc)) (qe zj (ya (pv 0)) zc (fun _ _=>rfl)))))
    (qc (qD PassesOwn.never rfl (qK (qe zj (qe zj (qe zj (ya (pv 0)) zc (fun _ _=>rfl)) (ya (pv 2)) (fun _ _=>rfl)) zc (fun _ _=>rfl))) (yL (yT rfl (WGs.pe (yi (qm (WG.pe (qg (qh (i:=5) yP.nd rfl (by first | exact Or.inl rfl | exact Or.inr rfl)))) (WGs.pe (yi (qm (WG.pe (qg (qh (i:=6) yP.nd rfl (by first | exact Or.inl rfl | exact Or.inr rfl)))) (WGs.pe qE))))))))) (ye (zcb (yg zag (qe zj (ya (pv 4)) (ya (pv 5)) (fun _ _=>rfl)) (ya (pv 6))) (zcc (ya (pv 4)) (ya (pv 5)) zbh))))
    (qc (qD PassesOwn.never rfl (qK (qe zj (qe zj (qe zj (ya (pv 0)) zc (fun _ _=>rfl)) (ya (pv 2)) (fun _ _=>rfl)) zc (fun _ _=>rfl))) (yL (yT rfl (WGs.pe (yi (qm (WG.pe (qg (qh (i:=5) yP.nd rfl (by first | exact Or.inl rfl | exact Or.inr rfl)))) (WGs.pe (yi (qm (WG.pe (qg (qh (i:=6) yP.nd rfl (by first | exact Or.inl rfl | exact Or.inr rfl)))) (WGs.pe qE))))))))) (ye (zcb (yg zB (qe zj (ya (pv 4)) (ya (pv 5)) (fun _ _=>rfl)) (ya (pv 6))) (zcc (ya (pv 4)) (ya (pv 5)) zbh))))
    (qc (yf (i:=7) yP.nd rfl (Or.inl rfl) (zu yz rfl T.n_tuple boot_tuple (za (yq (zam (tgs:=["k"]) (caps:=[("stand",1),("often",3),("change",4)]) (zL rfl T.n_range (za (qe zj (ya (pv 0)) zc (fun _ _=>rfl)) yc)) (by bv_omega) (fun _ _ _=>(qg (qh (i:=0) (show (["k","stand","often","change"]:List Str).Nodup by decide +kernel) rfl (by first | exact Or.inl rfl | exact Or.inr rfl)))) (fun _ _ _=>zal) (fun _ _ _=>(yg zB (qe zj (ya (pv 1)) (ya (pv 0)) (fun _ _=>rfl)) (yy (ziG rfl) rfl T.n_min boot_min (za zc (za (yg qX (yg zag (ya (pv 2)) zc) (qe zj (ya (pv 3)) (ya (pv 0)) (fun _ _=>rfl))) yc))))))) yc)))
    (qc (yD (WW.gt (zc3 (qw zdc (yy (zhF rfl) rfl T.n_min boot_min (za (yg zB (ya (pv 7)) (zV (za zc yc))) yc)) zc (zt _)) (zdy (qw zgx (zf yC (hr.mono (by decide)) rfl (za (ya (pv 0)) (za (ya (pv 7)) (za (ya (pv 2)) yc)))) yV (zt _))))) (ye (yk yV)) yt)
    (ye (yk (zu yz rfl T.n_tuple boot_tuple (za (yq (zam (tgs:=["k"]) (caps:=[("stand",1),("often",3),("change",4)]) (zL rfl T.n_range (za (qe zj (ya (pv 0)) zc (fun _ _=>rfl)) yc)) (by bv_omega) (fun _ _ _=>(qg (qh (i:=0) (show (["k","stand","often","change"]:List Str).Nodup by decide +kernel) rfl (by first | exact Or.inl rfl | exact Or.inr rfl)))) (fun _ _ _=>zal) (fun _ _ _=>(yg zB (qe zj (ya (pv 1)) (ya (pv 0)) (fun _ _=>rfl)) (yg qX (ya (pv 2)) (qe zj (ya (pv 3)) (ya (pv 0)) (fun _ _=>rfl))))))) yc))))))))))
end
end My
namespace My
open PySem L2 FT
noncomputable def zaU (k_NoDeed:Addr):Ev->Mem->Out Fl:=
  (sIf (qB (eOp zck (yb 1) (eC .non))) (yj 1 (ze (zas k_NoDeed) (zb (yb 0) (zb (yb 1) (zb (yb 2) yd))))) qP)
noncomputable def zba (k_NoDeed:Addr):Ev->Mem->Out Fl:=
  (zg (sIf (qB (eOp gtI (yb 3) (eC (.int 4)))) (qv (ze (zdK k_NoDeed) (zb (yb 0) (zb (yb 1) (zb (yb 2) (zb (yb 3) yd)))))) qP)
  (zg (qW (yR (zb (yb 3) yd)) (zh 4) (zaU k_NoDeed))
  (qv (yb 1))))
noncomputable def zbb (k_NoDeed:Addr):List FT.T->Mem->Out FT.T:=zl 4 5 (zba k_NoDeed)
noncomputable def zX (k_NoDeed:Addr):List FT.T->Mem->Out FT.T:=y0 (zbb k_NoDeed)
section
variable {P:Program} {w:World} {K:PySem.W.Frag} {mg:Str->Option Value} {base:Heap} {k_NoDeed:Addr}
theorem yS:FnScope ["yard","stand","deed","often","k"] ["yard","stand","deed","often"] (zd yW):=⟨rfl,rfl,rfl,by decide +kernel,rfl,by decide +kernel,by decide +kernel⟩
theorem qt (D:Df K mg "_law_next_stand" yW ["yard","stand","deed","often"]) (T:Txt mg)  (yZ:CalT P w K mg base 5 "_law_far" ["yard","stand","deed","often"] (zdK k_NoDeed)) (yC:CalT P w K mg base 4 "_law_once" ["yard","stand","deed"] (zas k_NoDeed)):CalT P w K mg base 6 "_law_next_stand" ["yard","stand","deed","often"] (zbb k_NoDeed):=
  zx D yS rfl rfl (fun f cdv A outer s H E hr=>(qc (yD (qw zfj (ya (pv 3)) zc (zt _)) (ye (yk (zf yZ (hr.mono (by decide)) rfl (za (ya (pv 0)) (za (ya (pv 1)) (za (ya (pv 2)) (za (ya (pv 3)) yc))))))) yt)
    (qc (qD PassesOwn.never rfl (zL rfl T.n_range (za (ya (pv 3)) yc)) (qg (qh (i:=4) yS.nd rfl (by first | exact Or.inl rfl | exact Or.inr rfl))) (ye (yD (qw zia (ya (pv 1)) yV (zt _)) (ye (yf (i:=1) yS.nd rfl (Or.inl rfl) (zf yC (hr.mono (by decide)) rfl (za (ya (pv 0)) (za (ya (pv 1)) (za (ya (pv 2)) yc)))))) yt)))
    (ye (yk (ya (pv 1)))))))
end
end My
namespace My
open PySem L2 FT
noncomputable def zfG:Ev->Mem->Out Fl:=
  (zg (sIf (qB (eOp ltI (yb 1) (ze (zq zcR) (zb (yb 0) yd)))) (qv (eOp ixT (yb 0) (yb 1))) qP)
  (qv (eC (.int 0))))
noncomputable def yY:List FT.T->Mem->Out FT.T:=zl 2 2 (zfG)
section
variable {P:Program} {w:World} {K:PySem.W.Frag} {mg:Str->Option Value} {base:Heap}
theorem zh2:FnScope ["script","k"] ["script","k"] (zd zcL):=⟨rfl,rfl,rfl,by decide +kernel,rfl,by decide +kernel,by decide +kernel⟩
theorem qZ (D:Df K mg "_law_cell" zcL ["script","k"]) (T:Txt mg)  :CalT P w K mg base 1 "_law_cell" ["script","k"] yY:=
  zx D zh2 rfl rfl (fun f cdv A outer s H E hr=>(qc (yD (qw zdc (ya (pv 1)) (yy zb5 rfl T.n_len boot_len (za (ya (pv 0)) yc)) (zt _)) (ye (yk (qe zj (ya (pv 0)) (ya (pv 1)) (fun _ _=>rfl)))) yt)
    (ye (yk zc))))
end
end My
namespace My
open PySem L2 FT
noncomputable def ziM (k_NoDeed:Addr):Ev->Mem->Out Fl:=
  (zg (yj 7 (ze (zX k_NoDeed) (zb (yb 1) (zb (yb 4) (zb (eOp ixT (yb 6) (eC (.int 0))) (zb (eOp ixT (yb 6) (eC (.int 1))) yd))))))
  (zg (sIf (qB (eOp isN (yb 7) (eC .non))) (zg (sIf (zdC (qB (eOp neA (ze (zz k_NoDeed) (zb (yb 1) (zb (yb 4) (zb (eFz (qr (zb (yb 6) yd))) yd)))) (eFz (qr (zb (eC (.int 0)) yd))))) (qB (eOp neA (ze (zz k_NoDeed) (zb (yb 1) (zb (yb 2) (zb (yb 3) yd)))) (eFz (qr (zb (yb 5) yd)))))) (qv (eC (.bl false))) qP)
  (zg (yj 3 (eSl (yb 3) zeO (zeN (yb 5))))
  zfc)) qP)
  (zg (sIf (qB (eOp neA (ze (zz k_NoDeed) (zb (yb 1) (zb (yb 4) (zb (eFz (qr (zb (yb 6) yd))) yd)))) (yb 7))) (qv (eC (.bl false))) qP)
  (yj 4 (yb 7)))))
noncomputable def zjN (k_NoDeed:Addr):Ev->Mem->Out Fl:=
  (zg (yj 1 (ze zbv (zb (ze zK (zb (ze yY (zb (yb 0) (zb (eC (.int 0)) yd))) yd)) yd)))
  (zg (yj 2 (ze zaS (zb (yb 1) (zb (ze zK (zb (ze yY (zb (yb 0) (zb (eC (.int 1)) yd))) yd)) yd))))
  (zg (yj 3 (ze zbk (zb (yb 1) (zb (eOp qC (eFz (qr (zb (eC (.int 0)) yd))) (eSl (yb 0) (zeN (eC (.int 2))) zeO)) yd))))
  (zg (yj 4 (yb 2))
  (zg (qW (zdk (yb 3)) (qM 2 (zm (zh 5) (zm (zh 6) zN))) (ziM k_NoDeed))
  (zg (yj 8 (ze (zz k_NoDeed) (zb (yb 1) (zb (yb 2) (zb (yb 3) yd)))))
  (zg (sIf (zdC (qB (eOp neA (yb 8) (yb 4))) (zdC (zg7 (qB (ze (call2 zcl) (zb (yb 8) (zb (eC (.ty "tuple")) yd))))) (qB (eOp neA (ze (zz k_NoDeed) (zb (yb 1) (zb (yb 2) (zb (ze (zq zE) (zb (yb 3) yd)) yd)))) (yb 4))))) (qv (eC (.bl false))) qP)
  (qv (zjE (eOp eqA (ze (zz k_NoDeed) (zb (yb 1) (zb (yb 2) (zb (eFz (qr yd)) yd)))) (yb 2)) (eOp eqA (ze (zz k_NoDeed) (zb (yb 1) (zb (yb 2) (zb (zaZ yd) yd)))) (yb 2)))))))))))
noncomputable def zeR (k_NoDeed:Addr):List FT.T->Mem->Out FT.T:=zl 1 9 (zjN k_NoDeed)
section
variable {P:Program} {w:World} {K:PySem.W.Frag} {mg:Str->Option Value} {base:Heap} {k_NoDeed:Addr}
theorem qI:FnScope ["script","yard","first","row","stand","at","pair","behind","found"] ["script"] (zd zhb):=⟨rfl,rfl,rfl,by decide +kernel,rfl,by decide +kernel,by decide +kernel⟩
theorem zlW {f:Addr} {fd:FuncData} (D:Fun K "law" "law" zhb f fd) (T:Txt mg)  (zaH:CalT P w K mg base 3 "_law_yard" ["pool"] zbv) (y4:CalT P w K mg base 2 "_law_stand" ["yard","pool"] zaS) (yQ:CalT P w K mg base 3 "_law_rows" ["yard","cells"] zbk) (zr:CalT P w K mg base 4 "_law_asked" ["yard","stand","row"] (zz k_NoDeed)) (qF:CalT P w K mg base 1 "_law_pool" ["cell"] zK) (qt:CalT P w K mg base 6 "_law_next_stand" ["yard","stand","deed","often"] (zX k_NoDeed)) (qZ:CalT P w K mg base 1 "_law_cell" ["script","k"] yY):FnOk P w K mg base CX0 7 f fd ["script"] (spT K (zeR k_NoDeed)):=
  zjS D qI rfl rfl (fun cdv A outer s H E hr=>(qc (yf (i:=1) qI.nd rfl (Or.inl rfl) (zf zaH (hr.mono (by decide)) rfl (za (zf qF (hr.mono (by decide)) rfl (za (zf qZ (hr.mono (by decide)) rfl (za (ya (pv 0)) (za zc yc))) yc)) yc)))
    (qc (yf (i:=2) qI.nd rfl (Or.inl rfl) (zf y4 (hr.mono (by decide)) rfl (za (ya (pv 1)) (za (zf qF (hr.mono (by decide)) rfl (za (zf qZ (hr.mono (by decide)) rfl (za (ya (pv 0)) (za zc yc))) yc)) yc))))
    (qc (yf (i:=3) qI.nd rfl (Or.inl rfl) (zf yQ (hr.mono (by decide)) rfl (za (ya (pv 1)) (za (yg zB (yq (ym (za zc yc))) (zhS (ya (pv 0)) (zeT zc) zeU)) yc))))
    (qc (yf (i:=4) qI.nd rfl (Or.inl rfl) (ya (pv 2)))
    (qc (qD PassesOwn.never rfl (zhR rfl T.n_enumerate (ya (pv 3))) (yL (yT rfl (WGs.pe (yi (qm (WG.pe (qg (qh (i:=5) qI.nd rfl (by first | exact Or.inl rfl | exact Or.inr rfl)))) (WGs.pe (yi (qm (WG.pe (qg (qh (i:=6) qI.nd rfl (by first | exact Or.inl rfl | exact Or.inr rfl)))) (WGs.pe qE))))))))) (qc (yf (i:=7) qI.nd rfl (Or.inl rfl) (zf qt (hr.mono (by decide)) rfl (za (ya (pv 1)) (za (ya (pv 4)) (za (qe zj (ya (pv 6)) zc (fun _ _=>rfl)) (za (qe zj (ya (pv 6)) zc (fun _ _=>rfl)) yc))))))
    (qc (yD (qw zgx (ya (pv 7)) yV (zt _)) (qc (yD (WW.gt (zc3 (qw (zbR hr.units) (zf zr (hr.mono (by decide)) rfl (za (ya (pv 1)) (za (ya (pv 4)) (za (yq (ym (za (ya (pv 6)) yc))) yc)))) (yq (ym (za zc yc))) (zt _)) (zdy (qw (zbR hr.units) (zf zr (hr.mono (by decide)) rfl (za (ya (pv 1)) (za (ya (pv 2)) (za (ya (pv 3)) yc)))) (yq (ym (za (ya (pv 5)) yc))) (zt _))))) (ye (yk zeW)) yt)
    (qc (yf (i:=3) qI.nd rfl (Or.inl rfl) (zhS (ya (pv 3)) zeU (zeT (ya (pv 5)))))
    (ye zhP))) yt)
    (qc (yD (qw (zbR hr.units) (zf zr (hr.mono (by decide)) rfl (za (ya (pv 1)) (za (ya (pv 4)) (za (yq (ym (za (ya (pv 6)) yc))) yc)))) (ya (pv 7)) (zt _)) (ye (yk zeW)) yt)
    (ye (yf (i:=4) qI.nd rfl (Or.inl rfl) (ya (pv 7))))))))
    (qc (yf (i:=8) qI.nd rfl (Or.inl rfl) (zf zr (hr.mono (by decide)) rfl (za (ya (pv 1)) (za (ya (pv 2)) (za (ya (pv 3)) yc)))))
    (qc (yD (WW.gt (zc3 (qw (zbR hr.units) (ya (pv 8)) (ya (pv 4)) (zt _)) (zc3 (zjT (zdz (yy zfY rfl T.n_isinstance boot_isinstance (za (ya (pv 8)) (za (ziQ rfl T.n_tuple boot_tuple) yc))))) (zdy (qw (zbR hr.units) (zf zr (hr.mono (by decide)) rfl (za (ya (pv 1)) (za (ya (pv 2)) (za (zu yz rfl T.n_tuple boot_tuple (za (ya (pv 3)) yc)) yc)))) (ya (pv 4)) (zt _)))))) (ye (yk zeW)) yt)
    (ye (yk (zjZ (zcd (zfk hr.units) (zf zr (hr.mono (by decide)) rfl (za (ya (pv 1)) (za (ya (pv 2)) (za (yq (ym yc)) yc)))) (ya (pv 2)) (zt _)) (zjY (zcd (zfk hr.units) (zf zr (hr.mono (by decide)) rfl (za (ya (pv 1)) (za (ya (pv 2)) (za (zV yc) yc)))) (ya (pv 2)) (zt _))))))))))))))
end
end My
open Lean in
local macro_rules | `(tactic| simp_arith [$xs,*]) => do
  let ids := ("FT.zh4 FT.zok FT.zol FT.startT FT.zg FT.qv FT.yj FT.sIf FT.zdG FT.zdH FT.qP FT.qW FT.yb FT.eC FT.eOp FT.eUn FT.zjE FT.eOr FT.zoV FT.eIf FT.ze FT.zaZ FT.eFz FT.eTk FT.qr FT.zeP FT.zoF FT.lOp FT.eSl FT.zeO FT.zeN FT.zjo FT.zd0 FT.zfc FT.zoK FT.zcn FT.yd FT.zb FT.qB FT.zoJ FT.zdC FT.zg7 FT.zoH FT.zor FT.zoc FT.znA FT.znz FT.znC FT.znB FT.znX FT.znW FT.znZ FT.znY FT.zh FT.zd5 FT.qM FT.zm FT.zN FT.zaz FT.yR FT.zoo FT.ze7 FT.ixT FT.zcN FT.zhv FT.zoT FT.zoS FT.zoR FT.zoQ FT.zaQ FT.zb4 FT.qO Option.join_some Option.join_none FT.zn0 FT.zn1 FT.zaX FT.zoN FT.zoM FT.zoL List.map_cons List.map_nil List.length_cons List.length_nil List.cons_append List.nil_append List.getElem?_cons_zero List.getElem?_cons_succ List.set_cons_zero List.set_cons_succ List.replicate Nat.zero_add Nat.reduceAdd Nat.reduceSub FT.zoq FT.zop FT.zot FT.zos Int.reduceBEq Int.reduceLT FT.zoh FT.zoz FT.zoA FT.zoC FT.zoD FT.zow FT.zon FT.zoE FT.zox FT.zoB FT.zn3 Bool.false_eq_true reduceIte Nat.reduceEqDiff Nat.succ.injEq Bool.not_true Bool.not_false FT.zkz FT.zom FT.zoG Int.reduceToNat Int.reducePow ne_eq Int.reduceEq not_false_eq_true Int.reduceNeg Bool.bne_true Bool.bne_false Bool.true_bne Bool.false_bne decide_true decide_false FT.zod FT.zob FT.zoa FT.zoi FT.zoj".splitOn " ").toArray.map fun s => Lean.mkIdent s.toName
  `(tactic| simp (config := {decide := true}) only [$[$ids:term],*, $xs,*])
namespace My
open PySem L2 FT
theorem zbU (c:Int) (M:Mem):zK [.int c] M = .ok (.ref M.length) (M ++ [(Po.new c).cell]):=by
  unfold zK zfD
  simp_arith [and_self]
  rw [show Po.new c = ⟨if c - 10 ^ 18 > 0 then c - 10 ^ 18 else 0,c % 10 ^ 18,0⟩ from rfl,Int.fmod_eq_emod_of_nonneg _ (by decide)]
  rfl
theorem zih (p:Po) (a:Nat) (base:Int) (M:Mem) (e:M[a]? = some p.cell) (h:0 < base) (hb:base.natAbs < 10 ^ 100):zi [.ref a,.int base] M = .ok (.int (p.dig base)) (M.set a (p.nxt base).cell):=by
  unfold zi zfF
  have ha:a < M.length:=(List.getElem?_eq_some_iff.mp e).1
  have hd:∀ i M,zdZ (.int i) (.int base) M = .ok (.int (i.fdiv base)) M:=fun i M=>zgN (znw 100 (by decide) (by omega) hb)
  have hm:∀ i M,zbm (.int i) (.int base) M = .ok (.int (i.fmod base)) M:=fun i M=>zkz (by omega)
  by_cases hp:0 < p.a
  · simp_arith [e,Po.cell,hd,hm,decide_eq_true hp]
    unfold Po.dig Po.nxt
    rw [if_pos hp,if_pos hp,Int.fmod_eq_emod_of_nonneg _ (by omega),Int.fdiv_eq_ediv_of_nonneg _ (by omega)]
  · have hs:∀ c:Cell,(M.set a c)[a]? = some c:=fun c=>by rw [List.getElem?_set,if_pos rfl,if_pos ha]
    have h1:∀ j M,zC (.int 7919) (.int j) M = .ok (.int (7919 * j)) M:=fun j M=>zfp (by decide)
    have hx:∀ x:Int,0<=x.fmod 1000000007/\x.fmod 1000000007 < 1000000007:=fun x=>by rw [Int.fmod_eq_emod_of_nonneg _ (by decide)];omega
    have hy:∀ x:Int,0<=x.fmod 998244353/\x.fmod 998244353 < 998244353:=fun x=>by rw [Int.fmod_eq_emod_of_nonneg _ (by decide)];omega
    have h2:∀ (x y:Int) M,zC (.int (x.fmod 1000000007 + 11)) (.int y) M = .ok (.int ((x.fmod 1000000007 + 11) * y)) M:=fun x y M=>zfp (by have:=hx x;omega)
    have h3:∀ (x y:Int) M,zC (.int (x.fmod 998244353)) (.int y) M = .ok (.int (x.fmod 998244353 * y)) M:=fun x y M=>zfp (by have:=hy x;omega)
    simp_arith [e,Po.cell,hd,hm,decide_eq_false hp,hs,h1,h2,h3]
    unfold Po.dig Po.nxt
    rw [if_neg hp,if_neg hp]
    simp only [Int.fmod_eq_emod_of_nonneg _ (show (0:Int)<=1000000007 by decide),Int.fmod_eq_emod_of_nonneg _ (show (0:Int)<=998244353 by decide),Int.fmod_eq_emod_of_nonneg _ (show (0:Int)<=2147483647 by decide),Int.fdiv_eq_ediv_of_nonneg _ (show (0:Int)<=8 by decide),Int.fmod_eq_emod_of_nonneg _ (show (0:Int)<=base by omega)]
noncomputable def PO (a:Nat) (M:Mem):Prop:=∃ p:Po,M[a]? = some p.cell
theorem PO.fr {a:Nat} {M M':Mem} (h:PO a M) {S:List Nat} (f:Fr S M M') (hs:a ∉ S):PO a M':=by
  obtain ⟨p,e⟩:=h
  exact ⟨p,f.get e hs⟩
theorem qx {a:Nat} {base:Int} {M:Mem} (e:PO a M) (h:0 < base) (hb:base.natAbs < 10 ^ 100) :
    Ok (zi [.ref a,.int base] M) fun t M'=>∃ d:Int,t = .int d/\0<=d/\d < base/\PO a M'/\Fr [a] M M':=by
  obtain ⟨p,e⟩:=e
  exact Ok.of (zih p a base M e h hb) ⟨_,rfl,p.dig_lo h,p.dig_hi h,⟨_,get_set e⟩,Fr.set _ _ _⟩
theorem PO.app {M:Mem} {c:Int}:PO M.length (M ++ [(Po.new c).cell]):=⟨_,qR⟩
theorem zgP (ns:List Int) (n:Nat) (M:Mem):∃ c,yY [.lst (ns.map .int),.int (n:Int)] M = .ok (.int c) M:=by
  unfold yY zfG
  by_cases h:n < ns.length
  · refine ⟨ns[n],?_⟩
    have a:atI (ns.map FT.T.int) (n:Int) = some (.int ns[n]):=by rw [FT.yM];simp [h]
    have d:decide ((n:Int) < ((ns.map FT.T.int).length:Int)) = true:=decide_eq_true (by rw [List.length_map];omega)
    simp_arith [d,a]
  · have d:decide ((n:Int) < ((ns.map FT.T.int).length:Int)) = false:=decide_eq_false (by rw [List.length_map];omega)
    exact ⟨0,by simp_arith [d]⟩
theorem pick {xs:List Int} {d:Int} (h0:0<=d) (h1:d < xs.length):∃ v ∈ xs,atI (xs.map FT.T.int) d = some (.int v):=by
  obtain ⟨x,h1,h2⟩:=zmR (xs:=xs.map FT.T.int) h0 (by simpa using h1)
  obtain ⟨v,hv,rfl⟩:=List.mem_map.mp h2
  exact ⟨v,hv,h1⟩
theorem yX {xs:List Int} {d:Int} (lo hi:Int) (h0:0<=d) (h1:d < xs.length) (h:xs.all (fun v=>decide (lo<=v/\v<=hi)) = true):∃ v:Int,atI (xs.map FT.T.int) d = some (.int v)/\lo<=v/\v<=hi:=by
  obtain ⟨v,hv,e⟩:=pick h0 h1
  have:=List.all_eq_true.mp h v hv
  exact ⟨v,e,of_decide_eq_true this⟩
theorem zcs {b:Int} (h0:0 < b) (h:b<=10 ^ 40):b.natAbs < 10 ^ 100:=by
  refine Nat.lt_of_le_of_lt (show b.natAbs<=10 ^ 40 from ?_) (Nat.pow_lt_pow_right (by decide) (by decide))
  simp only [Int.reducePow] at h
  simp only [Nat.reducePow]
  omega
noncomputable def pT (p:Int × Int):FT.T:=.tup [.int p.1,.int p.2]
noncomputable def stT (ps:List (Int × Int)):List FT.T:=ps.map pT
structure De where
  tk:List (Int × Int)
  gv:List (Int × Int)
  ld:Int
  py:Int
noncomputable def deT (d:De):FT.T:=.tup [.tup (stT d.tk),.tup (stT d.gv),.int d.ld,.int d.py]
structure GS (m:Int) (s:List (Int × Int)):Prop where
  up:s.Pairwise (fun p q=>p.1 < q.1)
  at_:∀ p ∈ s,0<=p.1/\p.1 < m
  nm:∀ p ∈ s,1<=p.2/\p.2<=99
structure GD (m:Int) (d:De):Prop where
  tk:GS m d.tk
  gv:GS m d.gv
  ld:0<=d.ld/\d.ld<=1000
  py:0<=d.py/\d.py<=1000
theorem GS.nil (m:Int):GS m []:=⟨List.Pairwise.nil,fun _ h=>(by cases h),fun _ h=>(by cases h)⟩
theorem GS.snoc {m k:Int} {s:List (Int × Int)} (h:GS k s) {v:Int} (hk:0<=k) (hv:1<=v/\v<=99):GS (k + 1) (s ++ [(k,v)]):=by
  refine ⟨List.pairwise_append.mpr ⟨h.up,List.pairwise_singleton _ _,fun a ha b hb=>?_⟩,fun q hq=>?_,fun q hq=>?_⟩
  · rw [List.mem_singleton.mp hb];exact (h.at_ a ha).2
  · rcases List.mem_append.mp hq with hq | hq
    · have:=h.at_ q hq;omega
    · rw [List.mem_singleton.mp hq];show 0<=k/\k < k + 1;omega
  · rcases List.mem_append.mp hq with hq | hq
    · exact h.nm q hq
    · rw [List.mem_singleton.mp hq];exact hv
theorem GS.mono {m k:Int} {s:List (Int × Int)} (h:GS k s) (hk:k<=m):GS m s:=⟨h.up,fun p hp=>by have:=h.at_ p hp;omega,h.nm⟩
theorem GS.len {m:Int} {s:List (Int × Int)} (h:GS m s):s.length<=m.toNat:=by
  obtain ⟨u,a,_⟩:=h
  have:∀ (s:List (Int × Int)) (lo:Int),s.Pairwise (fun p q=>p.1 < q.1)->(∀ p ∈ s,lo<=p.1/\p.1 < m)->s.length<=(m - lo).toNat:=by
    intro s
    induction s with
    | nil=>intro lo _ _;simp
    | cons p s ih=>
      intro lo u a
      have b:=a p (List.mem_cons_self ..)
      have:=ih (p.1 + 1) (List.pairwise_cons.mp u).2 fun q hq=>by
        have:=(List.pairwise_cons.mp u).1 q hq
        have:=a q (List.mem_cons_of_mem _ hq)
        omega
      simp only [List.length_cons]
      omega
  have:=this s 0 u a
  rwa [Int.sub_zero] at this
theorem zgp {a:Nat} {m:Int} {M:Mem} (e:PO a M) (hm:0<=m) (hm2:m<=100) :
    Ok (zaB [.ref a,.int m] M) fun t M'=>∃ s,t = .tup (stT s)/\GS m s/\PO a M'/\Fr [a] M M':=by
  refine zw rfl ?_
  unfold zfB
  have ha:a < M.length:=by obtain ⟨p,e⟩:=e;exact zaA e
  simp_arith [za5 (show -(2 ^ 62)<=m/\m < 2 ^ 62 by omega)]
  refine Ok.bind (Ok.for (fun k σ M'=>∃ (s:List (Int × Int)) (o:Option FT.T),σ = [some (.ref a),some (.int m),some (.ref M.length),o]/\M'[M.length]? = some (.lst (stT s))/\s.length<=k/\GS (k:Int) s/\PO a M'/\Fr [a] M M') ⟨[],none,rfl,qR,Nat.le_refl _,GS.nil _,e.fr (Fr.app _ _) (by simp),(Fr.app _ _).mono⟩ ?_) ?_
  · rintro k x σ M1 hx ⟨s,o,rfl,h1,hl,h2,h3,h4⟩
    obtain ⟨hk,rfl⟩:=za7 hx
    unfold zeC
    simp_arith [and_self]
    refine Ok.bind (qx h3 (by decide) (by decide)) ?_
    rintro t M2 ⟨d,rfl,d1,d2,d3,d4⟩
    by_cases h0:d = 0
    · have g2:M2[M.length]? = some (.lst (stT s)):=d4.get h1 (by simp;omega)
      simp_arith [h0,zac g2]
      refine Ok.bind (qx d3 (by decide) (by decide)) ?_
      rintro t M3 ⟨d',rfl,e1,e2,e3,e4⟩
      obtain ⟨v,hv,v1,v2⟩:=yX (xs:=[3,3,3,99]) 1 99 e1 e2 rfl
      simp only [List.map_cons,List.map_nil] at hv
      simp_arith [hv]
      refine Ok.bind (qx e3 (by omega) (zcs (by omega) (by omega))) ?_
      rintro t M4 ⟨n,rfl,n1,n2,n3,n4⟩
      have g4:M4[M.length]? = some (.lst (stT s)):=n4.get (e4.get g2 (by simp;omega)) (by simp;omega)
      have ap:=zbA (t:=pT ((k:Int),1 + n)) g4 (zaI (by rw [stT,List.length_map];omega))
      rw [show stT s ++ [pT ((k:Int),1 + n)] = stT (s ++ [((k:Int),1 + n)]) from by simp [stT]] at ap
      rw [show pT ((k:Int),1 + n) = FT.T.tup [.int (k:Int),.int (1 + n)] from rfl] at ap
      simp_arith [ap]
      refine Ok.ret ⟨_,rfl,s ++ [((k:Int),1 + n)],_,rfl,get_set g4,by simp;omega,by rw [show ((k + 1:Nat):Int) = (k:Int) + 1 by omega];exact h2.snoc (m:=0) (by omega) (by omega),n3.fr (Fr.set _ _ _) (by simp;omega),?_⟩
      exact (((h4.trans d4).trans e4).trans n4).tr (Fr.set _ _ _) (by simp)
    · have hne:(d == 0) = false:=by simpa using h0
      simp_arith [hne]
      exact Ok.ret ⟨_,rfl,s,_,rfl,d4.get h1 (by simp;omega),by omega,h2.mono (by omega),d3,h4.trans d4⟩
  · rintro fl M1 ⟨σ,rfl,s,o,rfl,h1,hl,h2,h3,h4⟩
    simp_arith [zM h1]
    rw [zH] at h2
    exact Ok.ret ⟨s,rfl,h2.mono (by omega),h3,h4⟩
theorem zjR {a:Nat} {M:Mem} (e:PO a M) :
    Ok (zbv [.ref a] M) fun t M'=>∃ (m:Int) (ds:List De),t = .tup [.int m,.tup (ds.map deT)]/\0<=m/\m<=6/\ds.length<=9/\(∀ d ∈ ds,GD m d)/\PO a M'/\Fr [a] M M':=by
  refine zw rfl ?_
  unfold zfA
  have ha:a < M.length:=by obtain ⟨p,e⟩:=e;exact zaA e
  simp_arith [and_self]
  refine Ok.bind (qx e (by decide) (by decide)) ?_
  rintro t M1 ⟨d,rfl,d1,d2,d3,d4⟩
  obtain ⟨m,hm,m1,m2⟩:=yX (xs:=[0,1,2,2,3,4,5,6]) 0 6 d1 d2 rfl
  simp only [List.map_cons,List.map_nil] at hm
  simp_arith [hm]
  have f1:Fr [a] M (M1 ++ [.lst []]):=d4.tr (Fr.app _ _) (by simp)
  refine Ok.bind (qx (d3.fr (Fr.app _ [.lst []]) (by simp)) (by decide) (by decide)) ?_
  rintro t M2 ⟨d',rfl,e1,e2,e3,e4⟩
  obtain ⟨n,hn,n1,n2⟩:=yX (xs:=[0,1,2,3,4,5,7,9]) 0 9 e1 e2 rfl
  simp only [List.map_cons,List.map_nil] at hn
  have hl1:M.length<=M1.length:=d4.1
  simp_arith [hn,za5 (show -(2 ^ 62)<=n/\n < 2 ^ 62 by omega)]
  refine Ok.bind (Ok.for (fun k σ M'=>∃ (ds:List De) (o3 o4 o5 o6:Option FT.T),σ = [some (.ref a),some (.int m),some (.ref M1.length),o3,o4,o5,o6]/\M'[M1.length]? = some (.lst (ds.map deT))/\ds.length = k/\(∀ d ∈ ds,GD m d)/\PO a M'/\Fr [a] M M') ⟨[],none,none,none,none,rfl,e4.get qR (by simp;omega),rfl,(fun _ h=>by cases h),e3,f1.trans e4⟩ ?_) ?_
  · rintro k x σ M3 hx ⟨ds,o3,o4,o5,o6,rfl,h1,hl,h2,h3,h4⟩
    obtain ⟨hk,rfl⟩:=za7 hx
    unfold zeB
    simp_arith [and_self]
    refine Ok.bind (zgp h3 m1 (by omega)) ?_
    rintro t M4 ⟨s1,rfl,gs1,p1,q1⟩
    try simp_arith [and_self]
    refine Ok.bind (zgp p1 m1 (by omega)) ?_
    rintro t M5 ⟨s2,rfl,gs2,p2,q2⟩
    try simp_arith [and_self]
    refine Ok.bind (qx p2 (by decide) (by decide)) ?_
    rintro t M6 ⟨i3,rfl,i1,i2,p3,q3⟩
    obtain ⟨b1,hb1,b11,b12⟩:=yX (xs:=[5,5,5,1000]) 1 1000 i1 i2 rfl
    simp only [List.map_cons,List.map_nil] at hb1
    simp_arith [hb1]
    refine Ok.bind (qx p3 (by omega) (zcs (by omega) (by omega))) ?_
    rintro t M7 ⟨ld,rfl,l1,l2,p4,q4⟩
    have g7:M7[M1.length]? = some (.lst (ds.map deT)):=q4.get (q3.get (q2.get (q1.get h1 (by simp;omega)) (by simp;omega)) (by simp;omega)) (by simp;omega)
    simp_arith [zac g7]
    refine Ok.bind (qx p4 (by decide) (by decide)) ?_
    rintro t M8 ⟨i4,rfl,j1,j2,p5,q5⟩
    obtain ⟨b2,hb2,b21,b22⟩:=yX (xs:=[2,4,4,1000]) 1 1000 j1 j2 rfl
    simp only [List.map_cons,List.map_nil] at hb2
    simp_arith [hb2]
    refine Ok.bind (qx p5 (by omega) (zcs (by omega) (by omega))) ?_
    rintro t M9 ⟨py,rfl,y1,y2,p6,q6⟩
    have g9:M9[M1.length]? = some (.lst (ds.map deT)):=q6.get (q5.get g7 (by simp;omega)) (by simp;omega)
    have ap:=zbA (t:=deT ⟨s1,s2,ld,py⟩) g9 (zaI (by rw [List.length_map];omega))
    rw [show ds.map deT ++ [deT (De.mk s1 s2 ld py)] = (ds ++ [De.mk s1 s2 ld py]).map deT from by simp] at ap
    rw [show deT ⟨s1,s2,ld,py⟩ = FT.T.tup [.tup (stT s1),.tup (stT s2),.int ld,.int py] from rfl] at ap
    simp_arith [ap]
    refine Ok.ret ⟨_,rfl,ds ++ [⟨s1,s2,ld,py⟩],_,_,_,_,rfl,get_set g9,by simp;omega,?_,p6.fr (Fr.set _ _ _) (by simp;omega),?_⟩
    · intro d hd
      rcases List.mem_append.mp hd with hd | hd
      · exact h2 d hd
      · rw [List.mem_singleton.mp hd];exact ⟨gs1,gs2,⟨l1,by show ld<=1000;omega⟩,⟨y1,by show py<=1000;omega⟩⟩
    · exact ((((((h4.trans q1).trans q2).trans q3).trans q4).trans q5).trans q6).tr (Fr.set _ _ _) (fun i hi=>by simp at hi;omega)
  · rintro fl M3 ⟨σ,rfl,ds,o3,o4,o5,o6,rfl,h1,hl,h2,h3,h4⟩
    simp_arith [zM h1]
    rw [zH] at hl
    exact Ok.ret ⟨m,ds,rfl,m1,m2,by omega,h2,h3,h4⟩
end My
namespace My
open PySem L2 FT
noncomputable def sm:List (Int × Int)->Int->Int
  | [],_=>0
  | p :: s,x=>(if p.1 = x then p.2 else 0) + sm s x
theorem zW {x:Int}:∀ {s:List (Int × Int)},(∀ p ∈ s,p.1 ≠ x)->sm s x = 0
  | [],_=>rfl
  | p :: s,h=>by
    unfold sm
    rw [if_neg (h p (.head _)),zW fun q hq=>h q (.tail _ hq)]
    rfl
theorem zbG {x:Int}:∀ {s:List (Int × Int)},s.Pairwise (fun p q=>p.1 < q.1)->∀ {p:Int × Int},p ∈ s->p.1 = x->sm s x = p.2
  | [],_,p,hp,_=>by simp at hp
  | q :: s,h,p,hp,e=>by
    have hpw:=List.pairwise_cons.mp h
    unfold sm
    rcases List.mem_cons.mp hp with rfl | hp
    · rw [if_pos e,zW fun q hq=>by have:=hpw.1 q hq;omega]
      omega
    · have:=hpw.1 p hp
      rw [if_neg (by omega),zbG hpw.2 hp e]
      omega
noncomputable def upS (f:Int->Int->Int):List (Int × Int)->List Int->List Int
  | [],ws=>ws
  | p :: s,ws=>upS f s (ws.set p.1.toNat (f (atZ ws p.1) p.2))
theorem qL (f:Int->Int->Int):∀ (s:List (Int × Int)) (ws:List Int),(upS f s ws).length = ws.length
  | [],_=>rfl
  | p :: s,ws=>by unfold upS;rw [qL f s,List.length_set]
theorem za2 {c x:Int} (hx:0<=x):∀ (s:List (Int × Int)) (ws:List Int),(∀ p ∈ s,0<=p.1/\p.1 < ws.length)->atZ (upS (fun a y=>a + c * y) s ws) x = atZ ws x + c * sm s x
  | [],ws,_=>by simp [upS,sm]
  | p :: s,ws,h=>by
    have h1:=h p (.head _)
    unfold upS sm
    rw [za2 hx s _ (fun q hq=>by rw [List.length_set];exact h q (.tail _ hq)),zgW h1.1 hx h1.2,Int.mul_add]
    by_cases e:x = p.1
    · rw [if_pos e,if_pos e.symm,e];omega
    · rw [if_neg e,if_neg (Ne.symm e)];omega
theorem zcD {bd:FT.T->Ev->Mem->Out Ev} {body:Ev->Mem->Out Fl} {mk:Option FT.T->Option FT.T->Ev} {W:Nat} (f:Int->Int->Int)
    (hbd:∀ (p:Int × Int) o o' M,bd (pT p) (mk o o') M = .ok (mk (some (.int p.1)) (some (.int p.2))) M)
    (hb:∀ (ws:List Int) (x y:Int) (M:Mem),0<=x->x < ws.length->M[W]? = some (.lst (ws.map .int))->body (mk (some (.int x)) (some (.int y))) M = .ok (.nx (mk (some (.int x)) (some (.int y)))) (M.set W (.lst ((ws.set x.toNat (f (atZ ws x) y)).map .int)))) :
    ∀ (s:List (Int × Int)) (ws:List Int) (o o':Option FT.T) (M:Mem),(∀ p ∈ s,0<=p.1/\p.1 < ws.length)->M[W]? = some (.lst (ws.map .int))->
    Ok (forL bd body (stT s) (mk o o') M) fun fl M'=>∃ o o',fl = .nx (mk o o')/\M'[W]? = some (.lst ((upS f s ws).map .int))/\Fr [W] M M'
  | [],ws,o,o',M,_,e=>⟨_,M,rfl,o,o',rfl,e,Fr.refl _ _⟩
  | p :: s,ws,o,o',M,h,e=>by
    have h1:=h p (.head _)
    rw [show stT (p :: s) = pT p :: stT s from rfl,zaR,hbd]
    show Ok ((body _ M).bind _) _
    rw [hb ws p.1 p.2 M h1.1 h1.2 e]
    show Ok (forL _ _ _ _ _) _
    refine (zcD f hbd hb s (ws.set p.1.toNat (f (atZ ws p.1) p.2)) _ _ _ (fun q hq=>by rw [List.length_set];exact h q (.tail _ hq)) (get_set e)).mono ?_
    rintro fl M' ⟨o,o',e1,e2,fr⟩
    exact ⟨o,o',e1,e2,(Fr.set _ _ _).trans fr⟩
noncomputable def qT (mk:List (Int × Int)):List Int:=mk.map (·.1)
noncomputable def mT (mk:List (Int × Int)):List (Key × FT.T):=mk.map fun q=>(.inl q.1,.int q.2)
theorem zl0 {x:Int} {mk:List (Int × Int)} (hn:(qT mk).Nodup) {n:Int} (h:(x,n) ∈ mk):yp (mT mk) (.inl x) = some (.int n):=by
  induction mk with
  | nil=>simp at h
  | cons q mk ih=>
    have hn':=List.nodup_cons.mp (show (q.1 :: qT mk).Nodup from hn)
    rcases List.mem_cons.mp h with e | h
    · subst e
      simp [yp,mT,List.find?_cons]
    · have:q.1 ≠ x:=fun z=>hn'.1 (z ▸ List.mem_map.mpr ⟨_,h,rfl⟩)
      rw [show yp (mT (q :: mk)) (.inl x) = yp (mT mk) (.inl x) from by simp [yp,mT,List.find?_cons,this]]
      exact ih hn'.2 h
theorem zlZ {x n:Int} {mk:List (Int × Int)} (h:x ∉ qT mk):zcW (mT mk) (.inl x) (.int n) = mT (mk ++ [(x,n)]):=by
  unfold zcW
  have:((mT mk).any fun kv=>decide (kv.1 = .inl x)) = false:=by
    rw [List.any_eq_false]
    intro kv hk
    obtain ⟨q,hq,rfl⟩:=List.mem_map.mp hk
    simp only [decide_eq_true_eq]
    intro z
    cases z
    exact h (List.mem_map.mpr ⟨q,hq,rfl⟩)
  rw [if_neg (by rw [this];exact Bool.false_ne_true)]
  simp [mT]
theorem zgD (x:Int):∀ mk:List (Int × Int),(yp (mT mk) (.inl x)).isSome = decide (x ∈ qT mk)
  | []=>rfl
  | q :: mk=>by
    have ih:=zgD x mk
    by_cases h:q.1 = x
    · have:x ∈ qT (q :: mk):=by rw [← h];exact .head _
      simp [yp,mT,List.find?_cons,h,this]
    · have h2:x ≠ q.1:=fun z=>h z.symm
      rw [show yp (mT (q :: mk)) (.inl x) = yp (mT mk) (.inl x) from by simp [yp,mT,List.find?_cons,h],ih]
      show decide (x ∈ qT mk) = decide (x ∈ q.1 :: qT mk)
      simp [h2]
theorem zgw:∀ s:List (Int × Int),zbO (stT s) = some (mT s)
  | []=>rfl
  | p :: s=>by
    show zbO (FT.T.tup [.int p.1,.int p.2] :: stT s) = _
    unfold zbO
    rw [zgw s]
    rfl
theorem zfr:∀ (s mk:List (Int × Int)),(qT (mk ++ s)).Nodup->zbd (mT mk) (mT s) = mT (mk ++ s)
  | [],mk,_=>by rw [List.append_nil];rfl
  | p :: s,mk,h=>by
    have e:mk ++ p :: s = (mk ++ [p]) ++ s:=by simp
    show zbd (zcW (mT mk) (.inl p.1) (.int p.2)) (mT s) = _
    rw [e] at h ⊢
    have hx:p.1 ∉ qT mk:=fun z=>by
      have h':(qT mk ++ p.1 :: qT s).Nodup:=by
        simpa [qT] using h
      exact (List.nodup_append.mp h').2.2 _ z _ (.head _) rfl
    rw [zlZ hx,zfr s _ h]
theorem GS.nodup {m:Int} {s:List (Int × Int)} (h:GS m s):(qT s).Nodup:=by
  unfold qT List.Nodup
  rw [List.pairwise_map]
  exact h.up.imp fun hlt=>by omega
theorem zif {m:Int} {s:List (Int × Int)} (h:GS m s) (x:Int):(yp (mT s) (.inl x)).getD (.int 0) = .int (sm s x):=by
  by_cases hx:∃ p ∈ s,p.1 = x
  · obtain ⟨p,hp,rfl⟩:=hx
    rw [zl0 h.nodup (n:=p.2) hp,zbG h.up hp rfl]
    rfl
  · have hn:yp (mT s) (.inl x) = none:=by
      have:=zgD x s
      rw [decide_eq_false (fun hm=>hx (by obtain ⟨p,hp,e⟩:=List.mem_map.mp hm;exact ⟨p,hp,e⟩))] at this
      cases q:yp (mT s) (.inl x) with
      | none=>rfl
      | some v=>rw [q] at this;cases this
    rw [hn,zW fun p hp e=>hx ⟨p,hp,e⟩]
    rfl
theorem zdp {m:Int} {s:List (Int × Int)} (h:GS m s) (M:Mem):zcp (.tup (stT s)) M = .ok (.dct (mT s)) M:=by
  unfold zcp
  simp only [zgw]
  have:=zfr s [] (by simpa using h.nodup)
  rw [List.nil_append] at this
  rw [show ([]:List (Key × FT.T)) = mT [] from rfl,this]
theorem zdq {m:Int} {s:List (Int × Int)} (h:GS m s) (x:Int) (M:Mem):zad (.dct (mT s)) [.int x,.int 0] M = .ok (.int (sm s x)) M:=by
  unfold zad qU
  simp only [zcS,zif h]
end My
namespace My
open PySem L2 FT
noncomputable def ydT (m:Int) (ds:List De):FT.T:=.tup [.int m,.tup (ds.map deT)]
theorem zbf {xs:List FT.T} {M:Mem}:zE (.lst xs) M = .ok (.tup xs) M:=rfl
theorem zcq {ds:List De} {n:Nat} {d:De} (h:ds[n]? = some d):atI (ds.map deT) (n:Int) = some (.tup [.tup (stT d.tk),.tup (stT d.gv),.int d.ld,.int d.py]):=by
  rw [FT.yM,List.getElem?_map,h]
  rfl
theorem znj (xs:List FT.T) (i:Int) (M:Mem):ixD (.tup xs) (.int i) M = ixT (.tup xs) (.int i) M:=rfl
noncomputable def plN (s:List (Int × Int)):List Nat:=s.map fun p=>p.1.toNat
theorem zbW {m:Int} (hm:m<=6):∀ {s:List (Int × Int)},(∀ p ∈ s,0<=p.1/\p.1 < m)->zbX ((mT s).map (·.1)) = some (plN s)
  | [],_=>rfl
  | p :: s,h=>by
    have hp:=h p (.head _)
    show (if 0<=p.1/\p.1 < 6 then (zbX ((mT s).map (·.1))).map (p.1.toNat :: ·) else none) = _
    rw [if_pos (by omega),zbW hm fun q hq=>h q (.tail _ hq)]
    rfl
noncomputable def flX (d:De):List Int:=hsh (zcC (plN d.tk) (plN d.gv))
noncomputable def flT (d:De) (x:Int):FT.T:=.tup [.int x,.int (sm d.tk x),.int (sm d.gv x)]
theorem zdh {m:Int} {s:List (Int × Int)} (h:GS m s) {x:Int} (hx:0<=x):x.toNat ∈ plN s ↔ ∃ p ∈ s,p.1 = x:=by
  unfold plN
  rw [List.mem_map]
  constructor
  · rintro ⟨p,hp,e⟩
    have:=h.at_ p hp
    exact ⟨p,hp,by omega⟩
  · rintro ⟨p,hp,e⟩
    exact ⟨p,hp,by rw [e]⟩
theorem qH {m:Int} (hm:m<=6) {d:De} (g:GD m d) {x:Int}:x ∈ flX d ↔ (0<=x/\x < m)/\((∃ p ∈ d.tk,p.1 = x)\/∃ p ∈ d.gv,p.1 = x):=by
  unfold flX hsh zcC
  rw [List.mem_map]
  constructor
  · rintro ⟨k,hk,rfl⟩
    have:=List.mem_filter.mp hk
    have h2:=of_decide_eq_true this.2
    rw [← Int.toNat_natCast k,zdh g.tk (by omega),Int.toNat_natCast] at h2
    have h3:(∃ p ∈ d.tk,p.1 = (k:Int))\/k ∈ plN d.gv:=h2
    have h4:k ∈ plN d.gv ↔ ∃ p ∈ d.gv,p.1 = (k:Int):=by
      have:=zdh g.gv (x:=(k:Int)) (by omega)
      rw [Int.toNat_natCast] at this
      exact this
    rw [h4] at h3
    refine ⟨?_,h3⟩
    rcases h3 with ⟨p,hp,e⟩ | ⟨p,hp,e⟩
    · have:=g.tk.at_ p hp;omega
    · have:=g.gv.at_ p hp;omega
  · rintro ⟨hx,h⟩
    refine ⟨x.toNat,List.mem_filter.mpr ⟨List.mem_range.mpr (by omega),decide_eq_true ?_⟩,by omega⟩
    rcases h with h | h
    · exact .inl ((zdh g.tk hx.1).mpr h)
    · exact .inr ((zdh g.gv hx.1).mpr h)
theorem zit (d:De):(flX d).Nodup:=by
  unfold flX hsh
  rw [List.Nodup,List.pairwise_map]
  exact ((List.nodup_range (n:=6)).filter _).imp fun h e=>h (by omega)
theorem zgL (d:De):(flX d).length<=6:=by
  unfold flX hsh zcC
  rw [List.length_map]
  exact Nat.le_trans (List.length_filter_le _ _) (by simp)
theorem ze2 {m:Int} (hm:m<=6) {d:De} (g:GD m d) {x:Int} (hx:0<=x/\x < m) (h:x ∉ flX d):sm d.tk x = 0/\sm d.gv x = 0:=by
  rw [qH hm g] at h
  refine ⟨zW fun p hp e=>h ⟨hx,.inl ⟨p,hp,e⟩⟩,zW fun p hp e=>h ⟨hx,.inr ⟨p,hp,e⟩⟩⟩
theorem zO {m:Int} {s:List (Int × Int)} (h:GS m s) (x:Int):0<=sm s x/\sm s x<=99:=by
  by_cases hx:∃ p ∈ s,p.1 = x
  · obtain ⟨p,hp,e⟩:=hx
    rw [zbG h.up hp e]
    have:=h.nm p hp
    omega
  · rw [zW fun p hp e=>hx ⟨p,hp,e⟩]
    omega
theorem zjB {m:Int} (hm:m<=6) {ds:List De} {n:Nat} {d:De} (hd:ds[n]? = some d) (g:GD m d) (M:Mem):zbc [ydT m ds,.int (n:Int)] M = .ok (.lst ((flX d).map (flT d))) M:=by
  unfold zbc zgJ ydT
  have lt:=g.tk.len
  have lg:=g.gv.len
  have hu:zeY (.dct (mT d.tk)) (.dct (mT d.gv)) M = .ok ((flX d).map .int) M:=by
    unfold zeY qU
    simp only [zbW hm g.tk.at_,zbW hm g.gv.at_]
    rw [if_pos ⟨by unfold plN;rw [List.length_map];omega,by unfold plN;rw [List.length_map];omega⟩]
    rfl
  have c:ql (zh 0) qO (zaZ (zb (yb 0) (zb (zaD zbp zad (yb 1) (zb (yb 0) (zb (eC (.int 0)) yd))) (zb (zaD zbp zad (yb 2) (zb (yb 0) (zb (eC (.int 0)) yd))) yd)))) ((flX d).map .int) [none,some (.dct (mT d.tk)),some (.dct (mT d.gv))] M [] = .ok ((flX d).map (flT d)) M:=
    Ok.mapc (r:=FT.T.int) (fun σ=>∃ o,σ = [o,some (.dct (mT d.tk)),some (.dct (mT d.gv))]) _ ⟨_,rfl⟩ (Nat.le_trans (zgL d) (by decide)) (by
      rintro x σ hx ⟨o,rfl⟩
      refine ⟨[some (.int x),some (.dct (mT d.tk)),some (.dct (mT d.gv))],rfl,⟨_,rfl⟩,?_⟩
      simp_arith [zaD,zbp,zdq g.tk,zdq g.gv]
      rfl)
  simp_arith [znj,zcq hd,zdp g.tk,zdp g.gv,zdT,hu,c]
theorem zhl {tk gv t:Int} (h1:0<=tk/\tk<=99) (h2:0<=gv/\gv<=99) (M:Mem):zS [.int tk,.int gv,.int t] M = .ok (.int (tk + (t - 1) * (if tk - gv > 0 then tk - gv else 0))) M:=by
  unfold zS zem
  have hm:zC (.int (t - 1)) (.int (if tk - gv > 0 then tk - gv else 0)) M = .ok (.int ((t - 1) * (if tk - gv > 0 then tk - gv else 0))) M:=zfo (by split <;> omega)
  simp_arith [hm]
end My
namespace My
open PySem L2 FT
theorem zgo {M M':Mem} (f:Fr [] M M'):M'.take M.length = M:=by
  refine List.ext_getElem? fun i=>?_
  by_cases h:i < M.length
  · rw [List.getElem?_take_of_lt h];exact f.2 i h (by simp)
  · rw [List.getElem?_eq_none (by rw [List.length_take];omega),List.getElem?_eq_none (by omega)]
theorem drop_eq {f:List FT.T->Mem->Out FT.T} {ts:List FT.T} {M:Mem} {t:FT.T} (h:Ok (f ts M) fun v M'=>v = t/\Fr [] M M') (hl:FT.T.lt 0 t):y0 f ts M = .ok t M:=by
  obtain ⟨v,M',e,rfl,fr⟩:=h
  unfold y0
  rw [e]
  dsimp only
  rw [if_pos ⟨zgo fr,hl⟩]
theorem zgE (xs:List Int):FT.T.lt 0 (.tup (xs.map .int)):=.tup fun t ht=>by
  obtain ⟨x,_,rfl⟩:=List.mem_map.mp ht
  exact .int _
noncomputable def RowB (n:Nat) (row:List (Int × Int)):Prop:=∀ p ∈ row,(0<=p.1/\p.1 < n)/\1<=p.2/\p.2<=10 ^ 30
theorem zjd {a:Nat} {M:Mem} (e:PO a M):Ok (zaT [.ref a] M) fun t M'=>∃ v:Int,t = .int v/\1<=v/\v<=10 ^ 30/\PO a M'/\Fr [a] M M':=by
  refine zw rfl ?_
  unfold zeo
  simp_arith [and_self]
  refine Ok.bind (qx e (by decide) (by decide)) ?_
  rintro t M1 ⟨d,rfl,d1,d2,d3,d4⟩
  obtain ⟨v,hv,v1,v2⟩:=yX (xs:=[2,3,4,1000000,1000000000000000000000000000000]) 1 (10 ^ 30) d1 d2 (by decide)
  simp only [List.map_cons,List.map_nil] at hv
  simp_arith [hv]
  refine Ok.bind (qx d3 (by omega) (zcs (by omega) (Int.le_trans v2 (by decide)))) ?_
  rintro t M2 ⟨n,rfl,n1,n2,n3,n4⟩
  try simp_arith [and_self]
  exact Ok.ret ⟨_,rfl,by omega,by omega,n3,d4.trans n4⟩
theorem zj9 {m:Int} {ds:List De} (cells:List Int) (hc:cells.length<=100) (hl:ds.length<=100) (M:Mem) :
    ∃ row,zbk [ydT m ds,.lst (cells.map .int)] M = .ok (.lst (stT row)) M/\RowB ds.length row/\row.length<=100:=by
  have:Ok (zcU [ydT m ds,.lst (cells.map .int)] M) fun t M'=>∃ row,t = .ref M.length/\M'[M.length]? = some (.lst (stT row))/\RowB ds.length row/\row.length<=cells.length/\Fr [] M M':=by
    refine zw rfl ?_
    unfold zfC ydT
    simp_arith [and_self]
    refine Ok.bind (Ok.for (r:=FT.T.int) (xs:=cells) (fun k σ M'=>∃ (row:List (Int × Int)) (o3 o4:Option FT.T),σ = [some (.tup [.int m,.tup (ds.map deT)]),some (.lst (cells.map .int)),some (.ref M.length),o3,o4]/\M'[M.length]? = some (.lst (stT row))/\RowB ds.length row/\row.length<=k/\Fr [] M M') ⟨[],none,none,rfl,qR,(fun _ h=>by cases h),Nat.le_refl _,Fr.app _ _⟩ ?_) ?_
    · rintro k x σ M1 hx ⟨row,o3,o4,rfl,h1,hb,hk,f1⟩
      have hkl:k < cells.length:=(List.getElem?_eq_some_iff.mp hx).1
      unfold zeD
      simp_arith [zbU]
      have g1:(M1 ++ [(Po.new x).cell])[M.length]? = some (.lst (stT row)):=by rw [List.getElem?_append_left (zaA h1)];exact h1
      by_cases h0:(0:Int) < ((ds.map deT).length:Int)
      · have hml:M.length < M1.length:=zaA h1
        simp_arith [decide_eq_true h0,zac g1]
        rw [List.length_map] at h0 ⊢
        refine Ok.bind (qx (PO.app (M:=M1) (c:=x)) h0 (zcs h0 (by omega))) ?_
        rintro t M2 ⟨n,rfl,n1,n2,p2,f2⟩
        try simp_arith [and_self]
        refine Ok.bind (zjd p2) ?_
        rintro t M3 ⟨v,rfl,v1,v2,p3,f3⟩
        have g3:M3[M.length]? = some (.lst (stT row)):=f3.get (f2.get g1 (by simp;omega)) (by simp;omega)
        have ap:=zbA (t:=pT (n,v)) g3 (zaI (by rw [stT,List.length_map];omega))
        rw [show stT row ++ [pT (n,v)] = stT (row ++ [(n,v)]) from by simp [stT]] at ap
        rw [show pT (n,v) = FT.T.tup [.int n,.int v] from rfl] at ap
        simp_arith [ap]
        refine Ok.ret ⟨_,rfl,row ++ [(n,v)],_,_,rfl,get_set g3,fun p hp=>?_,by simp;omega,?_⟩
        · rcases List.mem_append.mp hp with hp | hp
          · exact hb p hp
          · rw [List.mem_singleton.mp hp];exact ⟨⟨n1,n2⟩,v1,v2⟩
        · exact (((f1.tr (Fr.app _ _) (by simp)).tr f2 (by simp;have:=f1.1;omega)).tr f3 (by simp;have:=f1.1;omega)).tr (Fr.set _ _ _) (by simp)
      · simp_arith [decide_eq_false h0]
        exact Ok.ret ⟨_,rfl,row,_,_,rfl,g1,hb,by omega,f1.tr (Fr.app _ _) (by simp)⟩
    · rintro fl M1 ⟨σ,rfl,row,o3,o4,rfl,h1,hb,hk,f1⟩
      simp_arith [and_self]
      exact Ok.ret ⟨row,rfl,h1,hb,hk,f1⟩
  obtain ⟨t,M',e,row,rfl,h1,hb,hk,f1⟩:=this
  refine ⟨row,?_,hb,by omega⟩
  unfold zbk zdV
  rw [e]
  dsimp only
  rw [h1]
  dsimp only
  rw [if_pos]
  refine ⟨?_,Nat.le_refl _,fun x hx=>?_⟩
  · exact zgo f1
  · obtain ⟨p,hp,rfl⟩:=List.mem_map.mp hx
    exact .tup fun y hy=>by
      rcases List.mem_cons.mp hy with rfl | hy
      · exact .int _
      · rw [List.mem_singleton.mp hy];exact .int _
end My
namespace My
open PySem L2 FT
noncomputable def upX (f:Int->Int->Int) (xs:List Int) (ws:List Int):List Int:=xs.foldl (fun ws x=>ws.set x.toNat (f (atZ ws x) x)) ws
theorem zdA (f:Int->Int->Int):∀ (xs ws:List Int),(upX f xs ws).length = ws.length
  | [],_=>rfl
  | x :: xs,ws=>by
    show (upX f xs (ws.set x.toNat _)).length = _
    rw [zdA f xs,List.length_set]
theorem ziU {f:Int->Int->Int} {xs ws:List Int} {k:Nat} {x:Int} (h:xs[k]? = some x):upX f (xs.take (k + 1)) ws = (upX f (xs.take k) ws).set x.toNat (f (atZ (upX f (xs.take k) ws) x) x):=by
  unfold upX
  rw [List.take_succ,h,List.foldl_append]
  rfl
theorem zhU {f:Int->Int->Int} {y:Int} (hy:0<=y):∀ (xs ws:List Int),xs.Nodup->(∀ x ∈ xs,0<=x/\x < ws.length)->atZ (upX f xs ws) y = if y ∈ xs then f (atZ ws y) y else atZ ws y
  | [],ws,_,_=>by simp [upX]
  | x :: xs,ws,hn,h=>by
    have hx:=h x (.head _)
    have hn2:=List.nodup_cons.mp hn
    show atZ (upX f xs (ws.set x.toNat (f (atZ ws x) x))) y = _
    rw [zhU hy xs _ hn2.2 (fun z hz=>by rw [List.length_set];exact h z (.tail _ hz)),zgW hx.1 hy hx.2]
    by_cases e:y = x
    · subst e
      rw [if_neg hn2.1,if_pos rfl,if_pos (.head _)]
    · rw [if_neg e]
      by_cases hm:y ∈ xs
      · rw [if_pos hm,if_pos (.tail _ hm)]
      · rw [if_neg hm,if_neg (fun z=>(List.mem_cons.mp z).elim e hm)]
theorem zjj (ws:List Int):(rgI ws.length).map (fun x=>atZ ws x) = ws:=by
  refine List.ext_getElem? fun k=>?_
  rw [List.getElem?_map]
  cases q:(rgI ws.length)[k]? with
  | none=>
    have:ws.length<=k:=by
      rw [List.getElem?_eq_none_iff,zH] at q
      exact q
    rw [List.getElem?_eq_none this]
    rfl
  | some x=>
    obtain ⟨hk,rfl⟩:=za7 q
    show some (atZ ws (k:Int)) = _
    unfold atZ
    rw [Int.toNat_natCast,List.getElem?_eq_getElem hk]
    rfl
theorem zdX {ws:List Int} {m:Nat} (hl:ws.length = m) {f:Int->Int} (h:∀ x:Int,0<=x->x < m->atZ ws x = f x):ws = (rgI m).map f:=by
  rw [← zjj ws,hl]
  refine List.map_congr_left fun x hx=>?_
  have:=za6.mp hx
  exact h x this.1 this.2
theorem zdv {m:Nat} {f:Int->Int} {x:Int} (h:0<=x/\x < m):atZ ((rgI m).map f) x = f x:=by
  unfold atZ
  have:(rgI m)[x.toNat]? = some x:=by
    have hx:x.toNat < (rgI m).length:=by rw [zH];omega
    rw [List.getElem?_eq_getElem hx]
    obtain ⟨_,e⟩:=za7 (List.getElem?_eq_getElem hx)
    rw [e]
    congr 1
    omega
  rw [List.getElem?_map,this]
  rfl
noncomputable def dg (ds:List De) (p:Int × Int):De:=ds.getD p.1.toNat ⟨[],[],0,0⟩
theorem zhz {ds:List De} {p:Int × Int} (h:0<=p.1/\p.1 < ds.length):∃ n:Nat,p.1 = (n:Int)/\ds[n]? = some (dg ds p):=by
  refine ⟨p.1.toNat,by omega,?_⟩
  unfold dg
  rw [List.getD_eq_getElem?_getD,List.getElem?_eq_getElem (show p.1.toNat < ds.length by omega)]
  rfl
noncomputable def zY (ds:List De) (row:List (Int × Int)) (x:Int):Int:=(row.map fun p=>p.2 * (sm (dg ds p).gv x - sm (dg ds p).tk x)).sum
theorem ze0 {α:Type} {f:α->Int} {xs:List α} {k:Nat} {x:α} (h:xs[k]? = some x):((xs.take (k + 1)).map f).sum = ((xs.take k).map f).sum + f x:=by
  rw [List.take_succ,h,List.map_append,List.sum_append]
  simp
theorem zfx:∀ xs:List Int,zcT (xs.map FT.T.int) = some xs
  | []=>rfl
  | x :: xs=>by
    show (zcT (xs.map FT.T.int)).map (x :: ·) = _
    rw [zfx xs];rfl
noncomputable def RS (t:FT.T) (row:List (Int × Int)):Prop:=t = .lst (stT row)\/t = .tup (stT row)
variable {m:Int} {ds:List De}
theorem ad (i j:Int) (M:Mem):zc2 (.int i) (.int j) M = .ok (.int (i + j)) M:=rfl
theorem zej (xs:List FT.T) (M:Mem):zbn [.tup xs] M = .ok xs M:=rfl
theorem zlf {n:Nat} {x:Int}:atZ (List.replicate n 0) x = 0:=by
  unfold atZ
  rw [List.getElem?_replicate]
  split <;> rfl
end My
namespace My
open PySem L2 FT
variable {m:Int} {ds:List De}
noncomputable def naD (d:De) (t x:Int):Int:=sm d.tk x + (t - 1) * (if sm d.tk x - sm d.gv x > 0 then sm d.tk x - sm d.gv x else 0)
end My
namespace FT
open PySem L2
theorem OkX.for {bd:T->Ev->Mem->Out Ev} {body:Ev->Mem->Out Fl} {α:Type} {r:α->T} (P:Nat->Ev->Mem->Prop) {E:Addr->List (Str × T)->Mem->Prop}:∀ (xs:List α) (i:Nat) {σ:Ev} {M:Mem},
    P i σ M->(∀ (k:Nat) x σ M,xs[k]? = some x->P (i + k) σ M->OkX ((bd (r x) σ M).bind fun σ1 M1=>body σ1 M1) (fun fl M'=>∃ σ',fl = .nx σ'/\P (i + k + 1) σ' M') E)->
    OkX (forL bd body (xs.map r) σ M) (fun fl M'=>∃ σ',fl = .nx σ'/\P (i + xs.length) σ' M') E
  | [],i,σ,M,h,_=>⟨σ,rfl,h⟩
  | x :: xs,i,σ,M,h,t=>by
    have h1:=t 0 x σ M rfl h
    rw [List.map_cons,zaR]
    cases q:bd (r x) σ M with
    | bad=>rw [q] at h1;exact h1.elim
    | exn C fs M'=>rw [q] at h1;exact h1
    | ok σ3 M3=>
      rw [q] at h1
      replace h1:OkX (body σ3 M3) _ _:=h1
      show OkX ((body σ3 M3).bind (zy (forL bd body (xs.map r)))) _ _
      refine OkX.bind h1 ?_
      rintro fl M1 ⟨σ1,rfl,h2⟩
      have ih:=OkX.for (E:=E) P xs (i + 1) (bd:=bd) (body:=body) h2 (fun k y σ M hk hp=>by
        have:=t (k + 1) y σ M (by simpa using hk) (by rw [show i + (k + 1) = i + 1 + k by omega];exact hp)
        rw [show i + (k + 1) + 1 = i + 1 + k + 1 by omega] at this
        exact this)
      rw [List.length_cons,show i + (xs.length + 1) = i + 1 + xs.length by omega]
      exact ih
end FT
namespace My
open PySem L2 FT
variable {m:Int} {ds:List De} (kD:Addr)
theorem zfM (row:List (Int × Int)):enT (stT row) = row.zipIdx.map fun q=>FT.T.tup [.int (q.2:Int),.tup [.int q.1.1,.int q.1.2]]:=by
  unfold enT stT
  refine List.ext_getElem? fun i=>?_
  rw [List.getElem?_mapIdx,List.getElem?_map,List.getElem?_map,List.getElem?_zipIdx]
  cases row[i]? <;> simp [pT]
theorem zhO {α:Type} {row:List α} {k:Nat} {q:α × Nat} (h:row.zipIdx[k]? = some q):row[k]? = some q.1/\q.2 = k:=by
  rw [List.getElem?_zipIdx] at h
  cases e:row[k]? with
  | none=>rw [e] at h;cases h
  | some p=>rw [e] at h;cases h;exact ⟨rfl,by simp⟩
noncomputable def zaa (ds:List De) (ws:List Int) (row:List (Int × Int)) (i:Nat):Prop:=∀ p,row[i]? = some p->∀ x ∈ flX (dg ds p),naD (dg ds p) p.2 x<=atZ ws x + zY ds (row.take i) x
noncomputable def Can (ds:List De) (ws:List Int) (row:List (Int × Int)):Prop:=∀ i,i < row.length->zaa ds ws row i
noncomputable def zA (m:Int) (ds:List De) (vs:List Int) (row:List (Int × Int)):List Int:=(rgI m.toNat).map fun x=>atZ vs x + zY ds row x
theorem zgn (hm:0<=m) (hm2:m<=6) (hg:∀ d ∈ ds,GD m d) {t:FT.T} {row:List (Int × Int)} (hr:RS t row) (hb:RowB ds.length row) {vs:List Int} (hv:vs.length = m.toNat) (M:Mem) :
    OkX (zbu kD [ydT m ds,.tup (vs.map .int),t] M) (fun v M'=>v = .tup ((zA m ds vs row).map .int)/\Can ds vs row/\Fr [] M M') (fun C fs M'=>C = kD/\∃ i:Nat,fs = [(("at":Str),FT.T.int (i:Int))]/\i < row.length/\(∀ j,j < i->zaa ds vs row j)/\¬ zaa ds vs row i/\Fr [] M M'):=by
  refine zda rfl ?_
  unfold zfz
  have loop:OkX (forL (qM 2 (zm (zh 4) (zm (zh 5) zN))) (zb8 kD) (row.zipIdx.map fun q=>FT.T.tup [.int (q.2:Int),.tup [.int q.1.1,.int q.1.2]]) [some (ydT m ds),some (.tup (vs.map .int)),some t,some (.ref M.length),none,none,none,none,none,none] (M ++ [.lst (vs.map .int)])) (fun fl M'=>∃ σ,fl = .nx σ/\∃ (o4 o5 o6 o7 o8 o9:Option FT.T),σ = [some (ydT m ds),some (.tup (vs.map .int)),some t,some (.ref M.length),o4,o5,o6,o7,o8,o9]/\M'[M.length]? = some (.lst ((zA m ds vs row).map .int))/\Can ds vs row/\Fr [] M M') (fun C fs M'=>C = kD/\∃ i:Nat,fs = [(("at":Str),FT.T.int (i:Int))]/\i < row.length/\(∀ j,j < i->zaa ds vs row j)/\¬ zaa ds vs row i/\Fr [] M M'):=by
    refine (OkX.for (fun k σ M'=>∃ (ws:List Int) (o4 o5 o6 o7 o8 o9:Option FT.T),σ = [some (ydT m ds),some (.tup (vs.map .int)),some t,some (.ref M.length),o4,o5,o6,o7,o8,o9]/\M'[M.length]? = some (.lst (ws.map .int))/\ws.length = m.toNat/\(∀ x,0<=x->x < m->atZ ws x = atZ vs x + zY ds (row.take k) x)/\(∀ j,j < k->zaa ds vs row j)/\Fr [] M M') row.zipIdx 0 ⟨_,none,none,none,none,none,none,rfl,qR,hv,fun x h1 h2=>by simp [zY],fun j hj=>absurd hj (by omega),Fr.app _ _⟩ ?_).mono ?_ (fun _ _ _ h=>h)
    · rintro i ⟨p,k⟩ σ M1 hp ⟨ws,o4,o5,o6,o7,o8,o9,rfl,h1,hw,hn,hcs,f1⟩
      obtain ⟨hp,rfl⟩:=zhO hp
      replace hp:row[k]? = some p:=hp
      dsimp only at hn hcs
      rw [Nat.zero_add] at hn hcs
      obtain ⟨n,e,hd⟩:=zhz (hb p (List.mem_of_getElem? hp)).1
      have g:=hg _ (List.mem_of_getElem? hd)
      have hx:∀ x ∈ flX (dg ds p),0<=x/\x < ws.length:=fun x hx=>by have:=((qH hm2 g).mp hx).1;omega
      have hn1:M.length < M1.length:=zaA h1
      have c:ql (qM 3 (zm (zh 0) (zm (zh 1) (zm (zh 2) zN)))) qO (eOp ltI (eOp ixT (yb 3) (yb 0)) (ze zS (zb (yb 1) (zb (yb 2) (zb (eOp ixT (yb 4) (eC (.int 1))) yd))))) ((flX (dg ds p)).map (flT (dg ds p))) [none,none,none,some (.ref M.length),some (.tup [.int (n:Int),.int p.2])] M1 [] = .ok ((flX (dg ds p)).map fun x=>.bl (decide (atZ ws x < naD (dg ds p) p.2 x))) M1:=
        Ok.mapc (r:=flT (dg ds p)) (fun σ=>∃ o o1 o2,σ = [o,o1,o2,some (.ref M.length),some (.tup [.int (n:Int),.int p.2])]) _ ⟨_,_,_,rfl⟩ (Nat.le_trans (zgL _) (by decide)) (by
          rintro x σ hxm ⟨o,o1,o2,rfl⟩
          refine ⟨[some (.int x),some (.int (sm (dg ds p).tk x)),some (.int (sm (dg ds p).gv x)),some (.ref M.length),some (.tup [.int (n:Int),.int p.2])],rfl,⟨_,_,_,rfl⟩,?_⟩
          have b1:=zO g.gv x
          have b2:=zO g.tk x
          simp_arith [h1,zae (hx x hxm),zhl b2 b1]
          rfl)
      unfold zb8
      rw [e]
      simp_arith [zjB hm2 hd g,c,zf7]
      by_cases hc:((flX (dg ds p)).any fun x=>decide (atZ ws x < naD (dg ds p) p.2 x)) = true
      · rw [hc]
        simp_arith [za4,zT]
        refine ⟨rfl,k,rfl,(List.getElem?_eq_some_iff.mp hp).1,hcs,fun hcan=>?_,f1⟩
        obtain ⟨x,hxm,hlt⟩:=List.any_eq_true.mp hc
        have hxr:=((qH hm2 g).mp hxm).1
        have h3:=hcan p hp x hxm
        rw [← hn x hxr.1 hxr.2] at h3
        have:=of_decide_eq_true hlt
        omega
      · rw [Bool.not_eq_true] at hc
        rw [hc]
        simp_arith [and_self]
        have hcan:zaa ds vs row k:=fun p' hp' x hxm=>by
          rw [hp] at hp'
          cases hp'
          have hxr:=((qH hm2 g).mp hxm).1
          rw [← hn x hxr.1 hxr.2]
          have:=List.any_eq_false.mp hc x hxm
          simp only [decide_eq_true_eq] at this
          omega
        refine OkX.ok ((Ok.for (r:=flT (dg ds p)) (xs:=flX (dg ds p)) (fun j σ M'=>∃ (o7 o8 o9:Option FT.T),σ = [some (ydT m ds),some (.tup (vs.map .int)),some t,some (.ref M.length),some (.int (k:Int)),some (.tup [.int (n:Int),.int p.2]),some (.lst ((flX (dg ds p)).map (flT (dg ds p)))),o7,o8,o9]/\M'[M.length]? = some (.lst ((upX (fun a x=>a + p.2 * (sm (dg ds p).gv x - sm (dg ds p).tk x)) ((flX (dg ds p)).take j) ws).map .int))/\Fr [] M M') ⟨_,_,_,rfl,h1,f1⟩ ?_).mono ?_)
        · rintro j x σ M2 hj ⟨o7,o8,o9,rfl,g1,f2⟩
          have hxx:=hx x (List.mem_of_getElem? hj)
          rw [ziU hj]
          generalize hW:upX (fun a x=>a + p.2 * (sm (dg ds p).gv x - sm (dg ds p).tk x)) ((flX (dg ds p)).take j) ws = W at g1 ⊢
          have hWl:W.length = ws.length:=by rw [← hW,zdA]
          have hix:ixN (W.map FT.T.int).length x = some x.toNat:=zbY (by rw [List.length_map];omega)
          have b1:=zO g.gv x
          have b2:=zO g.tk x
          have hmu:∀ M,zC (.int p.2) (.int (sm (dg ds p).gv x - sm (dg ds p).tk x)) M = .ok (.int (p.2 * (sm (dg ds p).gv x - sm (dg ds p).tk x))) M:=fun M=>zfo (by omega)
          unfold zeA zaO getL flT
          simp_arith [zbT g1,zae (ws:=W) (x:=x) (by omega),hmu,ad,g1,hix,yN]
          exact Ok.ret ⟨_,rfl,_,_,_,rfl,get_set g1,f2.tr (Fr.set _ _ _) (by simp)⟩
        · rintro fl M2 ⟨σ,rfl,o7,o8,o9,rfl,g1,f2⟩
          rw [List.take_length] at g1
          refine ⟨_,rfl,_,_,_,_,_,_,_,rfl,g1,by rw [zdA];exact hw,fun x h0 h2=>?_,fun j hj=>?_,f2⟩
          · show _ = atZ vs x + zY ds (row.take (k + 1)) x
            rw [zhU h0 _ _ (zit _) hx,hn x h0 h2]
            unfold zY
            rw [ze0 hp]
            by_cases hm':x ∈ flX (dg ds p)
            · rw [if_pos hm'];omega
            · rw [if_neg hm']
              have:=ze2 hm2 g ⟨h0,h2⟩ hm'
              rw [this.1,this.2]
              simp
          · replace hj:j < k + 1:=hj
            by_cases hjk:j = k
            · rw [hjk];exact hcan
            · exact hcs j (by omega)
    · rintro fl M' ⟨σ,rfl,ws,o4,o5,o6,o7,o8,o9,rfl,h1,hw,hn,hcs,f1⟩
      rw [List.length_zipIdx,Nat.zero_add] at hn hcs
      rw [List.take_length] at hn
      rw [zdX hw (f:=fun x=>atZ vs x + zY ds row x) fun x h0 h2=>hn x h0 (by omega)] at h1
      exact ⟨_,rfl,_,_,_,_,_,_,rfl,h1,hcs,f1⟩
  rcases hr with rfl | rfl
  · simp_arith [zej,zc9,zbZ,zbH,zdR,zfM,zdW]
    refine OkX.bind loop ?_
    rintro fl M' ⟨σ,rfl,o4,o5,o6,o7,o8,o9,rfl,h1,hc,f1⟩
    simp_arith [zM h1]
    exact ⟨rfl,hc,f1⟩
  · simp_arith [zej,zc9,zbZ,zbH,zdR,zfM,zdW]
    refine OkX.bind loop ?_
    rintro fl M' ⟨σ,rfl,o4,o5,o6,o7,o8,o9,rfl,h1,hc,f1⟩
    simp_arith [zM h1]
    exact ⟨rfl,hc,f1⟩
end My
namespace My
open PySem L2 FT
variable (kD:Addr)
noncomputable def WS (m:Int) (ws:List Int):Prop:=(ws.length:Int) = m
noncomputable def zdi (d:De) (ws:List Int):Bool:=d.tk.any fun p=>decide (atZ ws p.1 < p.2)
noncomputable def zd4 (d:De) (ws:List Int):List Int:=upS (fun a y=>a + 1 * y) d.gv (upS (fun a y=>a + -1 * y) d.tk ws)
theorem zk4 {m:Int} {ds:List De} {n:Nat} {d:De} (hd:ds[n]? = some d) (g:GD m d) (hm:0<=m) (hm2:m<=100) {ws:List Int} (hw:WS m ws) (M:Mem) :
    OkX (zdl kD [ydT m ds,.tup (ws.map .int),.int (n:Int)] M) (fun t M'=>zdi d ws = false/\t = .tup ((zd4 d ws).map .int)/\Fr [] M M') (fun C fs M'=>zdi d ws = true/\C = kD/\fs = [(("at":Str),FT.T.int 0)]/\Fr [] M M'):=by
  refine zda rfl ?_
  unfold zir ydT
  unfold WS at hw
  have lt:=g.tk.len
  have lg:=g.gv.len
  have ht:∀ p ∈ d.tk,0<=p.1/\p.1 < ws.length:=fun p hp=>by have:=g.tk.at_ p hp;omega
  have hg:∀ p ∈ d.gv,0<=p.1/\p.1 < ws.length:=fun p hp=>by have:=g.gv.at_ p hp;omega
  have c:ql (qM 2 (zm (zh 0) (zm (zh 1) zN))) qO (eOp ltI (eOp ixT (yb 2) (yb 0)) (yb 1)) (stT d.tk) [none,none,some (.tup (ws.map .int))] M [] = .ok (d.tk.map fun p=>.bl (decide (atZ ws p.1 < p.2))) M:=
    Ok.mapc (r:=pT) (fun σ=>∃ o o',σ = [o,o',some (.tup (ws.map .int))]) _ ⟨_,_,rfl⟩ (by omega) (by
      rintro p σ hp ⟨o,o',rfl⟩
      refine ⟨[some (.int p.1),some (.int p.2),some (.tup (ws.map .int))],rfl,⟨_,_,rfl⟩,?_⟩
      simp_arith [zae (ht p hp)])
  simp_arith [zcq hd,c,zf7]
  by_cases hl:zdi d ws = true
  · rw [show (d.tk.any fun p=>decide (atZ ws p.1 < p.2)) = true from hl]
    simp_arith [za4,zT]
    exact ⟨hl,rfl,rfl,Fr.refl _ _⟩
  · rw [Bool.not_eq_true] at hl
    rw [show (d.tk.any fun p=>decide (atZ ws p.1 < p.2)) = false from hl]
    simp_arith [zbn,zbi]
    have loop:∀ {body:Ev->Mem->Out Fl} (f:Int->Int->Int) (s:List (Int × Int)) (vs:List Int) (o o':Option FT.T) (M1:Mem),(∀ p ∈ s,0<=p.1/\p.1 < vs.length)->M1[M.length]? = some (.lst (vs.map .int))->
        (∀ (us:List Int) (x y:Int) (M2:Mem),0<=x->x < us.length->M2[M.length]? = some (.lst (us.map .int))->body [some (.tup [.int m,.tup (ds.map deT)]),some (.tup (ws.map .int)),some (.int (n:Int)),some (.tup (stT d.tk)),some (.tup (stT d.gv)),some (.ref M.length),some (.int x),some (.int y)] M2 = .ok (.nx [some (.tup [.int m,.tup (ds.map deT)]),some (.tup (ws.map .int)),some (.int (n:Int)),some (.tup (stT d.tk)),some (.tup (stT d.gv)),some (.ref M.length),some (.int x),some (.int y)]) (M2.set M.length (.lst ((us.set x.toNat (f (atZ us x) y)).map .int))))->
        Ok (forL (qM 2 (zm (zh 6) (zm (zh 7) zN))) body (stT s) [some (.tup [.int m,.tup (ds.map deT)]),some (.tup (ws.map .int)),some (.int (n:Int)),some (.tup (stT d.tk)),some (.tup (stT d.gv)),some (.ref M.length),o,o'] M1) fun fl M'=>∃ o o',fl = .nx [some (.tup [.int m,.tup (ds.map deT)]),some (.tup (ws.map .int)),some (.int (n:Int)),some (.tup (stT d.tk)),some (.tup (stT d.gv)),some (.ref M.length),o,o']/\M'[M.length]? = some (.lst ((upS f s vs).map .int))/\Fr [M.length] M1 M':=fun f s vs o o' M1 h e hb=>
      zcD (mk:=fun o o'=>[some (.tup [.int m,.tup (ds.map deT)]),some (.tup (ws.map .int)),some (.int (n:Int)),some (.tup (stT d.tk)),some (.tup (stT d.gv)),some (.ref M.length),o,o']) f (fun _ _ _ _=>rfl) (fun us x y M2 h0 h1 e2=>hb us x y M2 h0 h1 e2) s vs o o' M1 h e
    refine OkX.bindO (loop (fun a y=>a + -1 * y) d.tk ws none none (M ++ [.lst (ws.map .int)]) ht qR ?_) ?_
    · intro us x y M2 h0 h1 e2
      have hx:ixN (us.map FT.T.int).length x = some x.toNat:=zbY (by rw [List.length_map];omega)
      unfold zgV zaO getL
      simp_arith [zbT e2,zae ⟨h0,h1⟩,e2,hx,yN]
      rw [show atZ us x - y = atZ us x + -1 * y by omega]
    · rintro fl M1 ⟨o,o',rfl,h1,f1⟩
      simp_arith [and_self]
      refine OkX.bindO (loop (fun a y=>a + 1 * y) d.gv _ o o' M1 (fun p hp=>by rw [qL];exact hg p hp) h1 ?_) ?_
      · intro us x y M2 h0 h1 e2
        have hx:ixN (us.map FT.T.int).length x = some x.toNat:=zbY (by rw [List.length_map];omega)
        unfold zgU zaO getL
        have ad:∀ i j M,zc2 (.int i) (.int j) M = .ok (.int (i + j)) M:=fun _ _ _=>rfl
        simp_arith [ad,zbT e2,zae ⟨h0,h1⟩,e2,hx,yN]
        rw [show atZ us x + y = atZ us x + 1 * y by omega]
      · rintro fl M2 ⟨o,o',rfl,h2,f2⟩
        simp_arith [zM h2]
        exact ⟨hl,rfl,((Fr.app M _).tr f1 (by simp)).tr f2 (by simp)⟩
theorem zld {m:Int} {d:De} (g:GD m d) {ws:List Int} (hw:WS m ws) {x:Int} (hx:0<=x):atZ (zd4 d ws) x = atZ ws x - sm d.tk x + sm d.gv x:=by
  unfold WS at hw
  unfold zd4
  rw [za2 hx _ _ (fun p hp=>by rw [qL];have:=g.gv.at_ p hp;omega),za2 hx _ _ (fun p hp=>by have:=g.tk.at_ p hp;omega)]
  omega
end My
namespace My
open PySem L2 FT
variable {m:Int} {ds:List De} (kD:Addr)
theorem zky {d:De} (g:GD m d) {t x:Int} (ht:1<=t):0<=naD d t x + t * (sm d.gv x - sm d.tk x):=by
  have b1:=zO g.gv x
  have b2:=zO g.tk x
  unfold naD
  split
  · simp only [Int.sub_mul,Int.mul_sub,Int.one_mul]
    omega
  · rw [Int.mul_zero]
    have:0<=t * (sm d.gv x - sm d.tk x):=Int.mul_nonneg (by omega) (by omega)
    omega
noncomputable def zQ (d:De) (t:Int) (ws:List Int):Prop:=∀ x ∈ flX d,naD d t x<=atZ ws x
noncomputable def Pos (m:Int) (ws:List Int):Prop:=∀ x,0<=x->x < m->0<=atZ ws x
noncomputable def stp (m:Int) (d:De) (t:Int) (ws:List Int):List Int:=(rgI m.toNat).map fun x=>atZ ws x + t * (sm d.gv x - sm d.tk x)
theorem zj5 (m:Int) (d:De) (t:Int) (ws:List Int):(stp m d t ws).length = m.toNat:=by unfold stp;rw [List.length_map,zH]
theorem ze1 {d:De} {t x:Int} {ws:List Int} (hx:0<=x/\x < m):atZ (stp m d t ws) x = atZ ws x + t * (sm d.gv x - sm d.tk x):=by unfold stp;rw [zdv (by omega)]
theorem zcr (hm2:m<=6) {d:De} (g:GD m d) {t:Int} {ws:List Int} (hp:Pos m ws) (ht:1<=t):zQ d t ws ↔ ∀ p ∈ d.tk,naD d t p.1<=atZ ws p.1:=by
  constructor
  · intro h p hpm
    exact h p.1 ((qH hm2 g).mpr ⟨g.tk.at_ p hpm,.inl ⟨p,hpm,rfl⟩⟩)
  · intro h x hx
    obtain ⟨hr,_⟩:=(qH hm2 g).mp hx
    by_cases ht:∃ p ∈ d.tk,p.1 = x
    · obtain ⟨p,hpm,rfl⟩:=ht
      exact h p hpm
    · have h0:sm d.tk x = 0:=zW fun p hpm e=>ht ⟨p,hpm,e⟩
      have b:=zO g.gv x
      unfold naD
      rw [h0,if_neg (by omega),Int.mul_zero]
      have:=hp x hr.1 hr.2
      omega
theorem zdD (hm2:m<=6) {d:De} (g:GD m d) {t:Int} {ws:List Int} (hp:Pos m ws) (ht:1<=t) (hc:zQ d t ws):Pos m (stp m d t ws):=by
  intro x h0 h1
  rw [ze1 ⟨h0,h1⟩]
  by_cases hx:x ∈ flX d
  · have:=hc x hx
    have:=zky g (t:=t) (x:=x) ht
    omega
  · have:=ze2 hm2 g ⟨h0,h1⟩ hx
    rw [this.1,this.2]
    simp
    exact hp x h0 h1
theorem zbS {d:De} {x:Int}:naD d 1 x = sm d.tk x:=by
  unfold naD
  rw [show (1:Int) - 1 = 0 from rfl,Int.zero_mul,Int.add_zero]
theorem zfU (hm2:m<=6) {d:De} (g:GD m d) {ws:List Int} (hp:Pos m ws):zdi d ws = false ↔ zQ d 1 ws:=by
  rw [zcr hm2 g hp (Int.le_refl _)]
  unfold zdi
  rw [List.any_eq_false]
  constructor
  · intro h p hpm
    have:=h p hpm
    rw [zbS,zbG g.tk.up hpm rfl]
    simp only [decide_eq_true_eq] at this
    omega
  · intro h p hpm
    have:=h p hpm
    rw [zbS,zbG g.tk.up hpm rfl] at this
    simp only [decide_eq_true_eq]
    omega
theorem zjH {d:De} (g:GD m d) (hm:0<=m) {ws:List Int} (hw:WS m ws):zd4 d ws = stp m d 1 ws:=by
  have hl:(zd4 d ws).length = m.toNat:=by unfold zd4;rw [qL,qL];unfold WS at hw;omega
  refine zdX hl fun x h0 h1=>?_
  rw [zld g hw h0]
  omega
theorem zes (hm2:m<=6) {d:De} (g:GD m d) {ws:List Int} (hp:Pos m ws) {t:Int} (ht:1<=t) (hc:zQ d t ws):zQ d 1 (stp m d t ws) ↔ zQ d (t + 1) ws:=by
  rw [zcr hm2 g (zdD hm2 g hp ht hc) (Int.le_refl _),zcr hm2 g hp (by omega)]
  have hc':=(zcr hm2 g hp ht).mp hc
  refine forall_congr' fun p=>imp_congr_right fun hpm=>?_
  have h1:=hc' p hpm
  have b1:=zO g.gv p.1
  have b2:=zO g.tk p.1
  rw [zbS,ze1 (g.tk.at_ p hpm)]
  unfold naD at h1 ⊢
  split at h1
  · rename_i hd
    rw [if_pos hd]
    simp only [Int.sub_mul,Int.mul_sub,Int.one_mul,Int.add_mul] at h1 ⊢
    omega
  · rename_i hd
    rw [if_neg hd]
    have:0<=t * (sm d.gv p.1 - sm d.tk p.1):=Int.mul_nonneg (by omega) (by omega)
    omega
theorem ziW {d:De} {t:Int} {ws:List Int}:stp m d 1 (stp m d t ws) = stp m d (t + 1) ws:=by
  refine List.map_congr_left fun x hx=>?_
  have:=za6.mp hx
  rw [ze1 (by omega),Int.add_mul]
  omega
open Classical in
noncomputable def yw (m:Int) (d:De) (t:Int) (ws:List Int):FT.T:=if zQ d t ws then .tup ((stp m d t ws).map .int) else .non
theorem zd8 (d:De) (t:Int) (ws:List Int):FT.T.lt 0 (yw m d t ws):=by
  unfold yw
  split
  · exact zgE _
  · exact .non
theorem zdO {n:Nat} {d:De} (hd:ds[n]? = some d) (g:GD m d) (hm:0<=m) (hm2:m<=6) {ws:List Int} (hw:WS m ws) (hp:Pos m ws) (M:Mem):zas kD [ydT m ds,.tup (ws.map .int),.int (n:Int)] M = .ok (yw m d 1 ws) M:=by
  refine drop_eq ?_ (zd8 _ _ _)
  refine zw rfl ?_
  unfold zfE
  simp_arith [and_self]
  refine Ok.bind (Ok.try (Q:=fun fl M'=>fl = .nx [some (ydT m ds),some (.tup (ws.map .int)),some (.int (n:Int)),some (yw m d 1 ws)]/\Fr [] M M') ?_) ?_
  · simp_arith [and_self]
    refine OkX.bind (P:=fun t M'=>t = yw m d 1 ws/\Fr [] M M') ((zk4 kD hd g hm (by omega) hw M).mono ?_ ?_) ?_
    · rintro t M' ⟨hl,rfl,f⟩
      refine ⟨?_,f⟩
      unfold yw
      rw [if_pos ((zfU hm2 g hp).mp hl),zjH g hm hw]
    · rintro C fs M' ⟨hl,rfl,rfl,f⟩
      refine ⟨by simp,?_⟩
      have:yw m d 1 ws = .non:=by
        unfold yw
        rw [if_neg fun h=>by have:=(zfU hm2 g hp).mpr h;rw [hl] at this;cases this]
      rw [this]
      try simp_arith [and_self]
      exact Ok.ret ⟨rfl,f⟩
    · rintro t M' ⟨rfl,f⟩
      try simp_arith [and_self]
      exact ⟨rfl,f⟩
  · rintro fl M' ⟨rfl,f⟩
    simp_arith [and_self]
    exact Ok.ret ⟨rfl,f⟩
theorem zh5 {el:Ev->Mem->Out FT.T} {caps:Ev} (M:Mem) (hm:0<=m) (hm2:m<=6) (f:Int->Int) (h:∀ x,0<=x->x < m->el (some (.int x) :: caps) M = .ok (.int (f x)) M):ql (zh 0) qO el ((rgI m.toNat).map .int) (none :: caps) M [] = .ok (((rgI m.toNat).map f).map .int) M:=by
  rw [List.map_map]
  refine Ok.mapc (r:=FT.T.int) (fun σ=>∃ o,σ = o :: caps) _ ⟨_,rfl⟩ (by rw [zH];omega) ?_
  rintro x σ hx ⟨o,rfl⟩
  have:=za6.mp hx
  exact ⟨some (.int x) :: caps,rfl,⟨_,rfl⟩,h x this.1 (by omega)⟩
theorem ziY {m:Int} (hm:0<=m) (hm2:m<=100) (v:Int) (M:Mem):rpL [.int v] (.int m) M = .ok ((List.replicate m.toNat v).map .int) M:=by
  unfold rpL
  simp only []
  rw [if_pos ⟨by omega,Nat.le_trans (show 1 * m.toNat<=100 by omega) (by decide)⟩]
  congr 1
  induction m.toNat with
  | zero=>rfl
  | succ n ih=>rw [List.replicate_succ,List.flatten_cons,ih,List.replicate_succ];rfl
noncomputable def ahd (m:Int) (d:De) (t:Int) (ws:List Int):List Int:=(rgI m.toNat).map fun x=>atZ ws x + (if (t - 1) * (sm d.gv x - sm d.tk x) < 0 then (t - 1) * (sm d.gv x - sm d.tk x) else 0)
theorem ziN {d:De} {t x:Int} {ws:List Int} (hx:0<=x/\x < m) (ht:2<=t):atZ (ahd m d t ws) x = atZ ws x - (t - 1) * (if sm d.tk x - sm d.gv x > 0 then sm d.tk x - sm d.gv x else 0):=by
  unfold ahd
  rw [zdv (by omega)]
  by_cases h:sm d.tk x - sm d.gv x > 0
  · rw [if_pos h]
    have:0 < (t - 1) * (sm d.tk x - sm d.gv x):=Int.mul_pos (by omega) h
    have e:(t - 1) * (sm d.gv x - sm d.tk x) = -((t - 1) * (sm d.tk x - sm d.gv x)):=by
      rw [show sm d.gv x - sm d.tk x = -(sm d.tk x - sm d.gv x) by omega,Int.mul_neg]
    rw [e,if_pos (by omega)]
    omega
  · rw [if_neg h,Int.mul_zero]
    have:0<=(t - 1) * (sm d.gv x - sm d.tk x):=Int.mul_nonneg (by omega) (by omega)
    rw [if_neg (by omega)]
    omega
theorem zd9 (hm2:m<=6) {d:De} (g:GD m d) {t:Int} {ws:List Int} (hp:Pos m ws) (ht:2<=t):(Pos m (ahd m d t ws)/\zQ d 1 (ahd m d t ws)) ↔ zQ d t ws:=by
  have key:∀ x,0<=x->x < m->(naD d t x<=atZ ws x ↔ sm d.tk x<=atZ (ahd m d t ws) x):=fun x h0 h1=>by
    rw [ziN ⟨h0,h1⟩ ht]
    unfold naD
    omega
  constructor
  · rintro ⟨hq,hc⟩ x hx
    have hr:=((qH hm2 g).mp hx).1
    rw [key x hr.1 hr.2]
    have:=hc x hx
    rwa [zbS] at this
  · intro h
    have hq:Pos m (ahd m d t ws):=fun x h0 h1=>by
      by_cases hx:x ∈ flX d
      · have:=(key x h0 h1).mp (h x hx)
        have:=zO g.tk x
        omega
      · have:=ze2 hm2 g ⟨h0,h1⟩ hx
        rw [ziN ⟨h0,h1⟩ ht,this.1,this.2]
        simp
        exact hp x h0 h1
    refine ⟨hq,fun x hx=>?_⟩
    have hr:=((qH hm2 g).mp hx).1
    rw [zbS]
    exact (key x hr.1 hr.2).mp (h x hx)
theorem zji {xs:List Int} (h:xs ≠ []) (M:Mem):zdg (.tup (xs.map .int)) M = .ok (.int (mnI xs)) M:=by
  unfold zdg
  simp only [zfx]
  rw [if_neg h]
theorem zmK {n:Nat} {d:De} (hd:ds[n]? = some d) (g:GD m d) (hm:0<=m) (hm2:m<=6) {ws:List Int} (hw:WS m ws) (hp:Pos m ws) {t:Int} (ht:2<=t) (ht2:t<=10 ^ 30) (M:Mem):zdK kD [ydT m ds,.tup (ws.map .int),.int (n:Int),.int t] M = .ok (yw m d t ws) M:=by
  refine drop_eq ?_ (zd8 _ _ _)
  refine zw rfl ?_
  unfold zgI ydT
  have hw':=hw
  unfold WS at hw'
  have z:=ziY hm (show m<=100 by omega) 0 M
  have hlr:(List.replicate m.toNat (0:Int)).length = m.toNat:=List.length_replicate
  simp_arith [zhq,z,zcq hd]
  have loop:∀ {body:Ev->Mem->Out Fl} (c:Int) (s:List (Int × Int)) (vs:List Int) (o o':Option FT.T) (M1:Mem),(∀ p ∈ s,0<=p.1/\p.1 < vs.length)->M1[M.length]? = some (.lst (vs.map .int))->
      (∀ (us:List Int) (x y:Int) (M2:Mem),0<=x->x < us.length->M2[M.length]? = some (.lst (us.map .int))->body [some (.tup [.int m,.tup (ds.map deT)]),some (.tup (ws.map .int)),some (.int (n:Int)),some (.int t),some (.ref M.length),some (.int x),some (.int y),none] M2 = .ok (.nx [some (.tup [.int m,.tup (ds.map deT)]),some (.tup (ws.map .int)),some (.int (n:Int)),some (.int t),some (.ref M.length),some (.int x),some (.int y),none]) (M2.set M.length (.lst ((us.set x.toNat (atZ us x + c * y)).map .int))))->
      Ok (forL (qM 2 (zm (zh 5) (zm (zh 6) zN))) body (stT s) [some (.tup [.int m,.tup (ds.map deT)]),some (.tup (ws.map .int)),some (.int (n:Int)),some (.int t),some (.ref M.length),o,o',none] M1) fun fl M'=>∃ o o',fl = .nx [some (.tup [.int m,.tup (ds.map deT)]),some (.tup (ws.map .int)),some (.int (n:Int)),some (.int t),some (.ref M.length),o,o',none]/\M'[M.length]? = some (.lst ((upS (fun a y=>a + c * y) s vs).map .int))/\Fr [M.length] M1 M':=fun c s vs o o' M1 h e hb=>
    zcD (mk:=fun o o'=>[some (.tup [.int m,.tup (ds.map deT)]),some (.tup (ws.map .int)),some (.int (n:Int)),some (.int t),some (.ref M.length),o,o',none]) (fun a y=>a + c * y) (fun _ _ _ _=>rfl) (fun us x y M2 h0 h1 e2=>hb us x y M2 h0 h1 e2) s vs o o' M1 h e
  refine Ok.bind (loop (-1) d.tk (List.replicate m.toNat 0) none none (M ++ [.lst ((List.replicate m.toNat 0).map .int)]) (fun p hpm=>by rw [hlr];have:=g.tk.at_ p hpm;omega) qR ?_) ?_
  · intro us x y M2 h0 h1 e2
    have hx:ixN (us.map FT.T.int).length x = some x.toNat:=zbY (by rw [List.length_map];omega)
    unfold zf6
    simp_arith [zae (show 0<=x/\x < us.length from ⟨h0,h1⟩),e2,hx,yN]
    rw [show atZ us x - y = atZ us x + -1 * y by omega]
  · rintro fl M1 ⟨o,o',rfl,h1,f1⟩
    simp_arith [zcq hd]
    refine Ok.bind (loop 1 d.gv _ o o' M1 (fun p hpm=>by rw [qL,hlr];have:=g.gv.at_ p hpm;omega) h1 ?_) ?_
    · intro us x y M2 h0 h1 e2
      have hx:ixN (us.map FT.T.int).length x = some x.toNat:=zbY (by rw [List.length_map];omega)
      unfold zf5
      simp_arith [zae (show 0<=x/\x < us.length from ⟨h0,h1⟩),e2,hx,yN]
      rw [show atZ us x + y = atZ us x + 1 * y by omega]
    · rintro fl M2 ⟨o,o',rfl,h2,f2⟩
      have f3:Fr [] M M2:=((Fr.app M _).tr f1 (by simp)).tr f2 (by simp)
      generalize hC:upS (fun a y=>a + 1 * y) d.gv (upS (fun a y=>a + -1 * y) d.tk (List.replicate m.toNat 0)) = C at h2
      have hCl:C.length = m.toNat:=by rw [← hC,qL,qL,hlr]
      have hCa:∀ x,0<=x->x < m->atZ C x = sm d.gv x - sm d.tk x:=fun x h0 h1=>by
        rw [← hC,za2 h0 _ _ (fun p hpm=>by rw [qL,hlr];have:=g.gv.at_ p hpm;omega),za2 h0 _ _ (fun p hpm=>by rw [hlr];have:=g.tk.at_ p hpm;omega),zlf]
        omega
      have at1:∀ x,0<=x->x < m->atI (ws.map FT.T.int) x = some (.int (atZ ws x)):=fun x h0 h1=>zae (by omega)
      have at2:∀ x,0<=x->x < m->atI (C.map FT.T.int) x = some (.int (sm d.gv x - sm d.tk x)):=fun x h0 h1=>by rw [zae (by omega),hCa x h0 h1]
      have mu:∀ i x M,zC (.int i) (.int (sm d.gv x - sm d.tk x)) M = .ok (.int (i * (sm d.gv x - sm d.tk x))) M:=fun i x M=>zfo (by have:=zO g.gv x;have:=zO g.tk x;omega)
      have mn:∀ i j M,zfq (.int i) (.int j) M = .ok (.int (if j < i then j else i)) M:=fun _ _ _=>rfl
      have c1:ql (zh 0) qO (eOp qC (eOp ixT (yb 1) (yb 0)) (ze (call2 zfq) (zb (eC (.int 0)) (zb (eOp zC (eOp qV (yb 2) (eC (.int 1))) (eOp ixT (yb 3) (yb 0))) yd)))) ((rgI m.toNat).map .int) [none,some (.tup (ws.map .int)),some (.int t),some (.ref M.length)] M2 [] = .ok ((ahd m d t ws).map .int) M2:=
        zh5 M2 hm hm2 _ fun x h0 h1=>by simp_arith [at1 x h0 h1,h2,at2 x h0 h1,mu,mn]
      have c2:ql (zh 0) qO (eOp qC (eOp ixT (yb 1) (yb 0)) (eOp zC (yb 2) (eOp ixT (yb 3) (yb 0)))) ((rgI m.toNat).map .int) [none,some (.tup (ws.map .int)),some (.int t),some (.ref M.length)] M2 [] = .ok ((stp m d t ws).map .int) M2:=
        zh5 M2 hm hm2 _ fun x h0 h1=>by simp_arith [at1 x h0 h1,h2,at2 x h0 h1,mu]
      have hal:(ahd m d t ws).length = m.toNat:=by unfold ahd;rw [List.length_map,zH]
      have ap:∀ M,qC (.tup ((ahd m d t ws).map .int)) (.tup [.int 0]) M = .ok (.tup ((ahd m d t ws ++ [0]).map .int)) M:=fun M=>by
        rw [List.map_append]
        exact if_pos (Nat.le_trans (show ((ahd m d t ws).map FT.T.int).length + 1<=1000 by rw [List.length_map,hal];omega) (by decide))
      have rg:=za5 (M:=M2) (show -(2 ^ 62)<=m/\m < 2 ^ 62 by omega)
      simp_arith [rg,c1,zbf,ap,zji (show ahd m d t ws ++ [0] ≠ [] by simp)]
      have hps:Pos m (ahd m d t ws) ↔ ¬ mnI (ahd m d t ws ++ [0]) < 0:=by
        constructor
        · intro h hlt
          have:=zkA (show ahd m d t ws ++ [0] ≠ [] by simp)
          rcases List.mem_append.mp this with h1 | h1
          · obtain ⟨x,hx,e⟩:=List.mem_map.mp (show mnI (ahd m d t ws ++ [0]) ∈ (rgI m.toNat).map _ from h1)
            have hr:=za6.mp hx
            have:=h x hr.1 (by omega)
            unfold ahd at this
            rw [zdv (by omega)] at this
            omega
          · have:=List.mem_singleton.mp h1
            omega
        · intro h x h0 h1
          have:atZ (ahd m d t ws) x ∈ ahd m d t ws:=by
            unfold atZ
            rw [List.getElem?_eq_getElem (show x.toNat < (ahd m d t ws).length by omega)]
            exact List.getElem_mem _
          have:=zlY (List.mem_append_left [0] this)
          omega
      have no:∀ xs M,isN (.tup xs) .non M = .ok (.bl false) M:=fun _ _=>rfl
      have nn:∀ M,isN .non .non M = .ok (.bl true) M:=fun _=>rfl
      by_cases hq:mnI (ahd m d t ws ++ [0]) < 0
      · have:yw m d t ws = .non:=by
          unfold yw
          rw [if_neg fun h=>hps.mp ((zd9 hm2 g hp ht).mpr h).1 hq]
        simp_arith [decide_eq_true hq,this]
        exact Ok.ret ⟨rfl,f3⟩
      · have oe:=zdO kD hd g hm hm2 (ws:=ahd m d t ws) (by unfold WS;omega) (hps.mpr hq) M2
        rw [show ydT m ds = .tup [.int m,.tup (ds.map deT)] from rfl] at oe
        by_cases hc:zQ d t ws
        · have e1:yw m d 1 (ahd m d t ws) = .tup ((stp m d 1 (ahd m d t ws)).map .int):=if_pos ((zd9 hm2 g hp ht).mpr hc).2
          have e2:yw m d t ws = .tup ((stp m d t ws).map .int):=if_pos hc
          rw [e1] at oe
          simp_arith [decide_eq_false hq,oe,no,rg,c2,zbf,e2]
          exact Ok.ret ⟨rfl,f3⟩
        · have e1:yw m d 1 (ahd m d t ws) = .non:=if_neg fun h=>hc ((zd9 hm2 g hp ht).mp ⟨hps.mpr hq,h⟩)
          have e2:yw m d t ws = .non:=if_neg hc
          rw [e1] at oe
          simp_arith [decide_eq_false hq,oe,nn,e2]
          exact Ok.ret ⟨rfl,f3⟩
end My
namespace My
open PySem L2 FT
variable {m:Int} {ds:List De} (kD:Addr)
theorem zeJ {n:Nat} {d:De} (hd:ds[n]? = some d) (g:GD m d) (hm:0<=m) (hm2:m<=6) {ws:List Int} (hw:WS m ws) (hp:Pos m ws) {t:Int} (ht:1<=t) (ht2:t<=10 ^ 30) (M:Mem):zX kD [ydT m ds,.tup (ws.map .int),.int (n:Int),.int t] M = .ok (yw m d t ws) M:=by
  refine drop_eq ?_ (zd8 _ _ _)
  refine zw rfl ?_
  unfold zba
  by_cases h4:4 < t
  · simp_arith [decide_eq_true h4,zmK kD hd g hm hm2 hw hp (show 2<=t by omega) ht2]
    exact Ok.ret ⟨rfl,Fr.refl _ _⟩
  · simp_arith [decide_eq_false h4,za5 (M:=M) (show -(2 ^ 62)<=t/\t < 2 ^ 62 by omega)]
    refine Ok.bind (Ok.for (fun k σ M'=>∃ o4,σ = [some (ydT m ds),some (if k = 0 then .tup (ws.map .int) else yw m d (k:Int) ws),some (.int (n:Int)),some (.int t),o4]/\M' = M) ⟨none,rfl,rfl⟩ ?_) ?_
    · rintro k x σ M1 hx ⟨o4,rfl,rfl⟩
      unfold zaU
      have no:∀ xs M,zck (.tup xs) .non M = .ok (.bl true) M:=fun _ _=>rfl
      have nn:∀ M,zck .non .non M = .ok (.bl false) M:=fun _=>rfl
      by_cases hk:k = 0
      · subst hk
        simp_arith [no,zdO kD hd g hm hm2 hw hp]
        exact Ok.ret ⟨_,rfl,_,rfl,rfl⟩
      · rw [if_neg hk]
        by_cases hc:zQ d (k:Int) ws
        · have e1:yw m d (k:Int) ws = .tup ((stp m d (k:Int) ws).map .int):=if_pos hc
          have h1:(1:Int)<=k:=by omega
          have oe:=zdO kD hd g hm hm2 (ws:=stp m d (k:Int) ws) (by unfold WS;rw [zj5];omega) (zdD hm2 g hp h1 hc) M1
          have e2:yw m d 1 (stp m d (k:Int) ws) = yw m d ((k:Int) + 1) ws:=by
            unfold yw
            by_cases h2:zQ d ((k:Int) + 1) ws
            · rw [if_pos h2,if_pos ((zes hm2 g hp h1 hc).mpr h2),ziW]
            · rw [if_neg h2,if_neg fun h=>h2 ((zes hm2 g hp h1 hc).mp h)]
          rw [e2] at oe
          rw [e1]
          simp_arith [no,oe]
          exact Ok.ret ⟨_,rfl,_,rfl,rfl⟩
        · have e1:yw m d (k:Int) ws = .non:=if_neg hc
          have e2:yw m d ((k:Int) + 1) ws = .non:=if_neg fun h=>hc fun y hy=>by
            refine Int.le_trans ?_ (h y hy)
            unfold naD
            split
            · rename_i hlt
              have:((k:Int) - 1) * (sm d.tk y - sm d.gv y)<=((k:Int) + 1 - 1) * (sm d.tk y - sm d.gv y):=Int.mul_le_mul_of_nonneg_right (by omega) (by omega)
              omega
            · simp
          rw [e1]
          simp_arith [nn]
          refine Ok.ret ⟨_,rfl,some (.int x),?_,rfl⟩
          rw [show ((k + 1:Nat):Int) = (k:Int) + 1 by omega,e2]
    · rintro fl M1 ⟨σ,rfl,o4,rfl,rfl⟩
      rw [zH,if_neg (by omega),Int.toNat_of_nonneg (by omega)]
      simp_arith [and_self]
      exact Ok.ret ⟨rfl,Fr.refl _ _⟩
theorem z6 (hm:0<=m) (hm2:m<=6) (hg:∀ d ∈ ds,GD m d) {t:FT.T} {row:List (Int × Int)} (hr:RS t row) (hb:RowB ds.length row) {vs:List Int} (hv:vs.length = m.toNat) (hc:Can ds vs row) (M:Mem):zz kD [ydT m ds,.tup (vs.map .int),t] M = .ok (.tup ((zA m ds vs row).map .int)) M:=by
  refine drop_eq ?_ (zgE _)
  refine zw rfl ?_
  unfold zb2
  simp_arith [and_self]
  refine Ok.bind (Ok.tryN (Q:=fun fl M'=>fl = .nx [some (ydT m ds),some (.tup (vs.map .int)),some t,some (.tup ((zA m ds vs row).map .int)),none]/\Fr [] M M') ?_) ?_
  · simp_arith [and_self]
    refine OkX.bind (P:=fun v M'=>v = .tup ((zA m ds vs row).map .int)/\Fr [] M M') ((zgn kD hm hm2 hg hr hb hv M).mono (fun _ _ h=>⟨h.1,h.2.2⟩) ?_) ?_
    · rintro C fs M' ⟨rfl,i,rfl,hi,_,hn,f⟩
      exact absurd (hc i hi) hn
    · rintro v M' ⟨rfl,f⟩
      try simp_arith [and_self]
      exact ⟨rfl,f⟩
  · rintro fl M' ⟨rfl,f⟩
    simp_arith [and_self]
    exact Ok.ret ⟨rfl,f⟩
theorem zeE (hm:0<=m) (hm2:m<=6) (hg:∀ d ∈ ds,GD m d) {t:FT.T} {row:List (Int × Int)} (hr:RS t row) (hb:RowB ds.length row) {vs:List Int} (hv:vs.length = m.toNat) {i:Nat} (hi:i < row.length) (h1:∀ j,j < i->zaa ds vs row j) (h2:¬ zaa ds vs row i) (M:Mem):zz kD [ydT m ds,.tup (vs.map .int),t] M = .ok (.lst [.int (i:Int)]) M:=by
  refine drop_eq ?_ (.lst fun t ht=>by rw [List.mem_singleton.mp ht];exact .int _)
  refine zw rfl ?_
  unfold zb2
  simp_arith [and_self]
  refine Ok.bind (Ok.tryN (Q:=fun fl M'=>fl = .nx [some (ydT m ds),some (.tup (vs.map .int)),some t,some (.lst [.int (i:Int)]),none]/\Fr [] M M') ?_) ?_
  · simp_arith [and_self]
    refine OkX.bind (P:=fun v M'=>False) ((zgn kD hm hm2 hg hr hb hv M).mono (fun _ _ h=>h2 (h.2.1 i hi)) ?_) (fun _ _ h=>h.elim)
    rintro C fs M' ⟨rfl,j,rfl,hj,hb1,hb2,f⟩
    have e:j = i:=by
      by_cases h:j < i
      · exact absurd (h1 j h) hb2
      · by_cases h':i < j
        · exact absurd (hb1 i h') h2
        · omega
    subst e
    refine ⟨by simp,?_⟩
    have hx:∀ M,xat [C] (.exc C [(("at":Str),FT.T.int (j:Int))]) M = .ok (.int (j:Int)) M:=fun M=>by
      unfold xat
      simp
    simp_arith [hx,clr]
    exact Ok.ret ⟨rfl,f⟩
  · rintro fl M' ⟨rfl,f⟩
    simp_arith [and_self]
    exact Ok.ret ⟨rfl,f⟩
theorem ziX {a:Nat} {m:Int} (ds:List De) {M:Mem} (e:PO a M) (hm:0<=m) (hm2:m<=100) :
    Ok (zaS [ydT m ds,.ref a] M) fun t M'=>∃ ws:List Int,t = .tup (ws.map .int)/\ws.length = m.toNat/\(∀ w ∈ ws,0<=w)/\PO a M'/\Fr [a] M M':=by
  refine zw rfl ?_
  unfold zen ydT
  have ha:a < M.length:=by obtain ⟨p,e⟩:=e;exact zaA e
  simp_arith [za5 (show -(2 ^ 62)<=m/\m < 2 ^ 62 by omega)]
  refine Ok.bind (Ok.for (fun k σ M'=>∃ (ws:List Int) (o:Option FT.T),σ = [some (.tup [.int m,.tup (ds.map deT)]),some (.ref a),some (.ref M.length),o]/\M'[M.length]? = some (.lst (ws.map .int))/\ws.length = k/\(∀ w ∈ ws,0<=w)/\PO a M'/\Fr [a] M M') ⟨[],none,rfl,qR,rfl,(fun _ h=>by cases h),e.fr (Fr.app _ _) (by simp),(Fr.app _ _).mono⟩ ?_) ?_
  · rintro k x σ M1 hx ⟨s,o,rfl,h1,hl,hp,h3,h4⟩
    obtain ⟨hk,rfl⟩:=za7 hx
    unfold zdu
    simp_arith [zac h1]
    refine Ok.bind (qx h3 (by decide) (by decide)) ?_
    rintro t M2 ⟨d,rfl,d1,d2,d3,d4⟩
    obtain ⟨v,hv,v1,v2⟩:=yX (xs:=[2,4,9,200,10000000,100000000000000000000000000000000]) 1 (10 ^ 32) d1 d2 (by decide)
    simp only [List.map_cons,List.map_nil] at hv
    simp_arith [hv]
    refine Ok.bind (qx d3 (by omega) (zcs (by omega) (Int.le_trans v2 (by decide)))) ?_
    rintro t M3 ⟨n,rfl,n1,n2,n3,n4⟩
    have g3:M3[M.length]? = some (.lst (s.map .int)):=n4.get (d4.get h1 (by simp;omega)) (by simp;omega)
    have ap:=zbA (t:=.int n) g3 (zaI (by rw [List.length_map];omega))
    rw [show s.map FT.T.int ++ [.int n] = (s ++ [n]).map .int from by simp] at ap
    simp_arith [ap]
    refine Ok.ret ⟨_,rfl,s ++ [n],_,rfl,get_set g3,by simp;omega,fun w hw=>?_,n3.fr (Fr.set _ _ _) (by simp;omega),((h4.trans d4).trans n4).tr (Fr.set _ _ _) (by simp)⟩
    rcases List.mem_append.mp hw with hw | hw
    · exact hp w hw
    · rw [List.mem_singleton.mp hw];exact n1
  · rintro fl M1 ⟨σ,rfl,s,o,rfl,h1,hl,hp,h3,h4⟩
    simp_arith [zM h1]
    rw [zH] at hl
    exact Ok.ret ⟨s,rfl,hl,hp,h3,h4⟩
theorem ziD (xs:List FT.T) (n:Nat):z9 xs (some (n:Int)) none = xs.drop n:=by
  unfold z9
  rw [HT.zfb,HT.zgr]
  by_cases h:n<=xs.length
  · rw [Nat.min_eq_left h,List.take_of_length_le (by rw [List.length_drop];omega)]
  · rw [Nat.min_eq_right (by omega),List.drop_of_length_le (Nat.le_refl _),List.drop_of_length_le (by omega),List.take_nil]
theorem ziC (xs:List FT.T) (n:Nat):z9 xs none (some (n:Int)) = xs.take n:=by
  unfold z9
  rw [HT.zfb,HT.zgr,List.drop_zero,Nat.sub_zero]
  by_cases h:n<=xs.length
  · rw [Nat.min_eq_left h]
  · rw [Nat.min_eq_right (by omega),List.take_of_length_le (Nat.le_refl _),List.take_of_length_le (by omega)]
theorem zfJ (M:Mem) (xs ys:List Int):eqD M 20 (.tup (xs.map .int)) (.tup (ys.map .int)) = some (decide (xs = ys)):=zdB M 18 xs ys
theorem ne_is (M:Mem) {xs ys:List Int} (h:xs = ys):neA (.tup (xs.map .int)) (.tup (ys.map .int)) M = .ok (.bl false) M:=by
  subst h
  unfold neA
  rw [zfJ,decide_eq_true rfl]
  rfl
theorem znv (M:Mem) {xs ys:List Int} (h:xs = ys):eqA (.tup (xs.map .int)) (.tup (ys.map .int)) M = .ok (.bl true) M:=by
  subst h
  unfold eqA
  rw [zfJ,decide_eq_true rfl]
theorem zlX (M:Mem) (i:Int):neA (.lst [.int i]) (.lst [.int i]) M = .ok (.bl false) M:=by
  unfold neA
  rw [show eqD M 20 (.lst [.int i]) (.lst [.int i]) = some (decide (([i]:List Int) = [i])) from zdB M 18 [i] [i],decide_eq_true rfl]
  rfl
theorem RowB.sub {n:Nat} {a b:List (Int × Int)} (ha:RowB n a) (h:∀ p ∈ b,p ∈ a):RowB n b:=fun p hp=>ha p (h p hp)
theorem zc1 (m:Int) (ds:List De) (vs:List Int) (row:List (Int × Int)):(zA m ds vs row).length = m.toNat:=by unfold zA;rw [List.length_map,zH]
theorem zd3 {vs:List Int} {row:List (Int × Int)} {x:Int} (hx:0<=x/\x < m):atZ (zA m ds vs row) x = atZ vs x + zY ds row x:=by unfold zA;rw [zdv (by omega)]
theorem zc0 {vs:List Int} (hv:vs.length = m.toNat):zA m ds vs [] = vs:=by
  symm
  refine zdX hv fun x h0 h1=>?_
  simp [zY]
theorem zfT (hm2:m<=6) (hg:∀ d ∈ ds,GD m d) {row:List (Int × Int)} (hb:RowB ds.length row) {vs:List Int} {k:Nat} {p:Int × Int} (hp:row[k]? = some p):zQ (dg ds p) p.2 (zA m ds vs (row.take k)) ↔ zaa ds vs row k:=by
  obtain ⟨n,_,hd⟩:=zhz (hb p (List.mem_of_getElem? hp)).1
  have g:=hg _ (List.mem_of_getElem? hd)
  constructor
  · intro h q hq x hx
    rw [hp] at hq
    cases hq
    have:=h x hx
    rwa [zd3 ((qH hm2 g).mp hx).1] at this
  · intro h x hx
    rw [zd3 ((qH hm2 g).mp hx).1]
    exact h p hp x hx
theorem zgQ {ws:List Int} {p:Int × Int}:zQ (dg ds p) p.2 ws ↔ zaa ds ws [p] 0:=by
  constructor
  · intro h q hq x hx
    cases hq
    have:=h x hx
    simp [zY]
    exact this
  · intro h x hx
    have:=h p rfl x hx
    simp [zY] at this
    exact this
theorem zcZ {vs:List Int} {row:List (Int × Int)} {k:Nat} {p:Int × Int} (hp:row[k]? = some p):stp m (dg ds p) p.2 (zA m ds vs (row.take k)) = zA m ds vs (row.take (k + 1)):=by
  refine List.map_congr_left fun x hx=>?_
  have:=za6.mp hx
  rw [zd3 (by omega)]
  unfold zY
  rw [ze0 hp]
  omega
theorem zlc {ws:List Int} {p:Int × Int}:zA m ds ws [p] = stp m (dg ds p) p.2 ws:=by
  refine List.map_congr_left fun x hx=>?_
  simp [zY]
theorem law_true (ns:List Int) (hn:ns.length<=63):∃ M,zeR kD [.lst (ns.map .int)] [] = .ok (.bl true) M:=by
  have:Ok (zeR kD [.lst (ns.map .int)] []) fun t _=>t = .bl true:=by
    refine zw rfl ?_
    unfold zjN
    obtain ⟨c,hc⟩:=zgP ns 0 []
    rw [show ((0:Nat):Int) = 0 from rfl] at hc
    simp_arith [hc,zbU]
    refine Ok.bind (zjR (PO.app (M:=[]) (c:=c))) ?_
    rintro t M1 ⟨m,ds,rfl,m1,m2,hl,hg,p1,f1⟩
    obtain ⟨c1,hc1⟩:=zgP ns 1 M1
    rw [show ((1:Nat):Int) = 1 from rfl] at hc1
    simp_arith [hc1,zbU]
    refine Ok.bind (ziX ds (PO.app (M:=M1) (c:=c1)) m1 (by omega)) ?_
    rintro t M2 ⟨vs,rfl,hv,hvp,p2,f2⟩
    have hcut:∀ (xs:List Int),z9 (xs.map FT.T.int) (some 2) none = (xs.drop 2).map .int:=fun xs=>by
      rw [show (2:Int) = ((2:Nat):Int) from rfl,ziD,List.map_drop]
    have ad1:∀ M,qC (.lst [.int 0]) (.lst ((ns.drop 2).map .int)) M = .ok (.lst ((0 :: ns.drop 2).map .int)) M:=fun _=>if_pos (Nat.le_trans (show 1 + ((ns.drop 2).map FT.T.int).length<=1000 by rw [List.length_map,List.length_drop];omega) (by decide))
    obtain ⟨row,hr,hb,hrl⟩:=zj9 (m:=m) (ds:=ds) (0 :: ns.drop 2) (by rw [List.length_cons,List.length_drop];omega) (by omega) M2
    rw [List.map_cons] at hr
    have hpos:Pos m vs:=fun x h0 h1=>by
      unfold atZ
      rw [List.getElem?_eq_getElem (show x.toNat < vs.length by omega)]
      exact hvp _ (List.getElem_mem _)
    rw [show FT.T.tup [.int m,.tup (ds.map deT)] = ydT m ds from rfl]
    simp_arith [hcut,ad1,yu,hr,zdk,zfM]
    have no:∀ xs M,isN (.tup xs) .non M = .ok (.bl false) M:=fun _ _=>rfl
    have nn:∀ M,isN .non .non M = .ok (.bl true) M:=fun _=>rfl
    refine Ok.bind (Ok.loop (R:=fun _ _=>False) (fun k σ M'=>(∃ (o5 o6 o7:Option FT.T),σ = [some (.lst (ns.map .int)),some (ydT m ds),some (.tup (vs.map .int)),some (.lst (stT row)),some (.tup ((zA m ds vs (row.take k)).map .int)),o5,o6,o7,none]/\(∀ j,j < k->zaa ds vs row j)/\Pos m (zA m ds vs (row.take k)))\/(k = row.length/\∃ (row':List (Int × Int)) (o5 o6 o7:Option FT.T),σ = [some (.lst (ns.map .int)),some (ydT m ds),some (.tup (vs.map .int)),some (.lst (stT row')),some (.tup ((zA m ds vs row').map .int)),o5,o6,o7,none]/\RowB ds.length row'/\Can ds vs row')) row.zipIdx 0 (.inl ⟨none,none,none,by rw [List.take_zero,zc0 hv],fun j hj=>absurd hj (by omega),by rw [List.take_zero,zc0 hv];exact hpos⟩) ?_) ?_
    · rintro i ⟨p,k⟩ σ M3 hp hP
      obtain ⟨hp,rfl⟩:=zhO hp
      replace hp:row[k]? = some p:=hp
      have hk:k < row.length:=(List.getElem?_eq_some_iff.mp hp).1
      dsimp only at hP ⊢
      rw [Nat.zero_add] at hP ⊢
      rcases hP with ⟨o5,o6,o7,rfl,hcs,hps⟩ | ⟨hk2,_⟩
      · obtain ⟨n,e,hd⟩:=zhz (hb p (List.mem_of_getElem? hp)).1
        have hb2:=(hb p (List.mem_of_getElem? hp)).2
        have g:=hg _ (List.mem_of_getElem? hd)
        have hw:WS m (zA m ds vs (row.take k)):=by unfold WS;rw [zc1];omega
        have b1:RowB ds.length [p]:=fun q hq=>by rw [List.mem_singleton.mp hq];exact hb p (List.mem_of_getElem? hp)
        have st1:stT [p] = [.tup [.int (n:Int),.int p.2]]:=by rw [← e];rfl
        have nst:=fun M=>zeJ kD hd g m1 m2 hw hps hb2.1 hb2.2 M
        unfold ziM
        rw [e]
        by_cases hc:zQ (dg ds p) p.2 (zA m ds vs (row.take k))
        · have e1:yw m (dg ds p) p.2 (zA m ds vs (row.take k)) = .tup ((zA m ds vs (row.take (k + 1))).map .int):=by
            unfold yw
            rw [if_pos hc,zcZ hp]
          have a1:=fun M=>z6 kD m1 m2 hg (t:=.lst (stT [p])) (.inl rfl) b1 (zc1 m ds vs (row.take k)) (fun i hi=>by
            have:i = 0:=by simp at hi;exact hi
            rw [this];exact zgQ.mp hc) M
          rw [st1,zlc,zcZ hp] at a1
          simp only [e1] at nst
          simp_arith [nst,no,a1,ne_is M3 rfl]
          refine Ok.ret (.inl ⟨_,.inl rfl,.inl ⟨_,_,_,rfl,fun j hj=>?_,?_⟩⟩)
          · by_cases hjk:j = k
            · rw [hjk];exact (zfT m2 hg hb hp).mp hc
            · exact hcs j (by omega)
          · rw [← zcZ hp]
            exact zdD m2 g hps hb2.1 hc
        · have e1:yw m (dg ds p) p.2 (zA m ds vs (row.take k)) = .non:=if_neg hc
          have a1:=fun M=>zeE kD m1 m2 hg (t:=.lst (stT [p])) (.inl rfl) b1 (zc1 m ds vs (row.take k)) (i:=0) (by simp) (fun j hj=>absurd hj (by omega)) (fun h=>hc (zgQ.mpr h)) M
          have a2:=fun M=>zeE kD m1 m2 hg (t:=.lst (stT row)) (.inl rfl) hb hv hk hcs (fun h=>hc ((zfT m2 hg hb hp).mpr h)) M
          rw [st1] at a1
          rw [show ((0:Nat):Int) = 0 from rfl] at a1
          simp only [e1] at nst
          have k1:z9 (stT row) none (some (k:Int)) = stT (row.take k):=by rw [ziC];simp [stT]
          simp_arith [nst,nn,a1,a2,zlX,yu,k1]
          refine Ok.ret (.inr (.inl ⟨_,rfl,.inr ⟨by rw [List.length_zipIdx],row.take k,_,_,_,rfl,hb.sub fun q hq=>List.mem_of_mem_take hq,fun j hj q hq x hx=>?_⟩⟩))
          rw [List.length_take] at hj
          rw [List.getElem?_take,if_pos (by omega)] at hq
          rw [List.take_take,Nat.min_eq_left (by omega)]
          exact hcs j (by omega) q hq x hx
      · omega
    · rintro fl M3 (⟨σ,rfl,hP⟩ | ⟨_,_,hf⟩)
      · have hP2:∃ (row':List (Int × Int)) (o5 o6 o7:Option FT.T),σ = [some (.lst (ns.map .int)),some (ydT m ds),some (.tup (vs.map .int)),some (.lst (stT row')),some (.tup ((zA m ds vs row').map .int)),o5,o6,o7,none]/\RowB ds.length row'/\Can ds vs row':=by
          rw [List.length_zipIdx,Nat.zero_add] at hP
          rcases hP with ⟨o5,o6,o7,e,h1,h2⟩ | ⟨_,h⟩
          · rw [List.take_length] at e
            exact ⟨row,o5,o6,o7,e,hb,h1⟩
          · exact h
        clear hP
        obtain ⟨row',o5,o6,o7,rfl,hb',hc'⟩:=hP2
        have a1:=fun M=>z6 kD m1 m2 hg (t:=.lst (stT row')) (.inl rfl) hb' hv hc' M
        have a2:=fun M=>z6 kD m1 m2 hg (t:=.tup (stT row')) (.inr rfl) hb' hv hc' M
        have b0:RowB ds.length []:=fun q hq=>by cases hq
        have c0:Can ds vs []:=fun i hi=>absurd hi (by simp)
        have a3:=fun M=>z6 kD m1 m2 hg (t:=.lst []) (row:=[]) (.inl rfl) b0 hv c0 M
        have a4:=fun M=>z6 kD m1 m2 hg (t:=.tup []) (row:=[]) (.inr rfl) b0 hv c0 M
        rw [zc0 hv] at a3 a4
        have ii:∀ (xs:List FT.T) M,zcl (.tup xs) (.ty "tuple") M = .ok (.bl true) M:=fun _ _=>rfl
        simp_arith [a1,ne_is M3 rfl,ii,zbf,a2,a3,a4,znv M3 rfl]
        exact Ok.ret rfl
      · exact hf.elim
  obtain ⟨t,M,e,rfl⟩:=this
  exact ⟨M,e⟩
end My
namespace My
open PySem
noncomputable def zn4:Stmt->Bool
  | .Assign [.Name x _] _ _=>!(x == "__name__")
  | _=>true
noncomputable abbrev pg:Program:=PySem.Challenge.rw_tryweir_k08_whole_rows_walked.prog
noncomputable def vw:Program:={ pg with main:={ pg.main with body:=pg.main.body.filter zn4 } }
end My
open PySem PySem.W PyProof.Rows in
local macro_rules | `(tactic| o_head $H) => `(tactic| refine holds_open (q := My.vw) (loose := []) (Xt := fun s => xlAt My.vw [] s && recOk (RowW.records (OpenRow.toRowW (OpenLaw.row PySem.Challenge.rw_tryweir_k08_whole_rows_walked))) s) (XP := XL My.vw []) (Yf := Hook.obs $H) (Ya := Hook.val $H) (YP := Hook.says $H) (N := 40000) (by intro w; kernel_rfl) (Hook.of $H) (Hook.keeps $H) (fun s e => xl_of s (Bool.and_eq_true_iff.mp e).1) XL.keeps (by rfl) (by rfl) (by rfl) (fun s e => recFacts_of (Bool.and_eq_true_iff.mp e).2) (by rfl) (by first | assumption | decide +kernel) (by decide +kernel) ⟨rfl, rfl, rfl, rfl, rfl, by decide +kernel⟩ ?hw ?hc)
theorem My.e1 {α:Type} {P:List α->Prop} (h:∀ a,P [a]):∀ us:List α,us.length = 1->P us
  | [a],_=>h a
theorem My.e2 {α:Type} {P:List α->Prop} (h:∀ a b,P [a,b]):∀ us:List α,us.length = 2->P us
  | [a,b],_=>h a b
theorem My.e3 {α:Type} {P:List α->Prop} (h:∀ a b c,P [a,b,c]):∀ us:List α,us.length = 3->P us
  | [a,b,c],_=>h a b c
theorem My.e4 {α:Type} {P:List α->Prop} (h:∀ a b c d,P [a,b,c,d]):∀ us:List α,us.length = 4->P us
  | [a,b,c,d],_=>h a b c d
open PySem PySem.W PyProof.Rows
set_option maxRecDepth 100000 in
set_option maxHeartbeats 0 in
theorem PySem.Challenge.cw_tryweir_k08_whole_rows_walked_holds : PySem.Challenge.rw_tryweir_k08_whole_rows_walked.Holds := by
  w_on;o_law;k_head;(case hw=>w_witness2)
  k_fill
  refine L2.ziR (l:=PySem.Challenge.rw_tryweir_k08_whole_rows_walked) (n:=63) (k:=7) (x:="script") (CX:=L2.CX0) (sp:=fun K=>FT.spT K (My.zeR (FT.zd1 K "NoDeed"))) rfl (by decide) rfl ⟨rfl,by decide,by decide⟩ (fun w h Y=>PySem.W.kIn_of Y) ?F ?S ?C
  case F=>
    intro w mg fa h KX G hmg
    have D_l_next:L2.Df (L2.KOf KX) mg "_law_next" My.zcK ["pool","base"]:=by
      dsimp only [L2.KOf]
      refine' L2.zD KX G ?a1 ?l1 ?c1 ?k1 ?b1
      (case a1=>k_is);(case l1=>k_is);(case c1=>k_is);(case k1=>k_is)
      exact fun _ _ _ _ _ _=>My.e2 fun _ _=>rfl
    have D_l_side:L2.Df (L2.KOf KX) mg "_law_side" My.zcG ["pool","many"]:=by
      dsimp only [L2.KOf]
      refine' L2.zD KX G ?a2 ?l2 ?c2 ?k2 ?b2
      (case a2=>k_is);(case l2=>k_is);(case c2=>k_is);(case k2=>k_is)
      exact fun _ _ _ _ _ _=>My.e2 fun _ _=>rfl
    have D_l_yard:L2.Df (L2.KOf KX) mg "_law_yard" My.zcF ["pool"]:=by
      dsimp only [L2.KOf]
      refine' L2.zD KX G ?a3 ?l3 ?c3 ?k3 ?b3
      (case a3=>k_is);(case l3=>k_is);(case c3=>k_is);(case k3=>k_is)
      exact fun _ _ _ _ _ _=>My.e1 fun _=>rfl
    have D_l_stand:L2.Df (L2.KOf KX) mg "_law_stand" My.zbK ["yard","pool"]:=by
      dsimp only [L2.KOf]
      refine' L2.zD KX G ?a4 ?l4 ?c4 ?k4 ?b4
      (case a4=>k_is);(case l4=>k_is);(case c4=>k_is);(case k4=>k_is)
      exact fun _ _ _ _ _ _=>My.e2 fun _ _=>rfl
    have D_l_pool:L2.Df (L2.KOf KX) mg "_law_pool" My.zcI ["cell"]:=by
      dsimp only [L2.KOf]
      refine' L2.zD KX G ?a5 ?l5 ?c5 ?k5 ?b5
      (case a5=>k_is);(case l5=>k_is);(case c5=>k_is);(case k5=>k_is)
      exact fun _ _ _ _ _ _=>My.e1 fun _=>rfl
    have D_l_often:L2.Df (L2.KOf KX) mg "_law_often" My.zbL ["pool"]:=by
      dsimp only [L2.KOf]
      refine' L2.zD KX G ?a6 ?l6 ?c6 ?k6 ?b6
      (case a6=>k_is);(case l6=>k_is);(case c6=>k_is);(case k6=>k_is)
      exact fun _ _ _ _ _ _=>My.e1 fun _=>rfl
    have D_l_rows:L2.Df (L2.KOf KX) mg "_law_rows" My.zcH ["yard","cells"]:=by
      dsimp only [L2.KOf]
      refine' L2.zD KX G ?a7 ?l7 ?c7 ?k7 ?b7
      (case a7=>k_is);(case l7=>k_is);(case c7=>k_is);(case k7=>k_is)
      exact fun _ _ _ _ _ _=>My.e2 fun _ _=>rfl
    have D_flows:L2.Df (L2.KOf KX) mg "flows" My.zdF ["yard","number"]:=by
      dsimp only [L2.KOf]
      refine' L2.zD KX G ?a8 ?l8 ?c8 ?k8 ?b8
      (case a8=>k_is);(case l8=>k_is);(case c8=>k_is);(case k8=>k_is)
      exact fun _ _ _ _ _ _=>My.e2 fun _ _=>rfl
    have D_need_at:L2.Df (L2.KOf KX) mg "need_at" My.zbJ ["taken","given","times"]:=by
      dsimp only [L2.KOf]
      refine' L2.zD KX G ?a9 ?l9 ?c9 ?k9 ?b9
      (case a9=>k_is);(case l9=>k_is);(case c9=>k_is);(case k9=>k_is)
      exact fun _ _ _ _ _ _=>My.e3 fun _ _ _=>rfl
    have D_walked:L2.Df (L2.KOf KX) mg "walked" My.zcE ["yard","stand","row"]:=by
      dsimp only [L2.KOf]
      refine' L2.zD KX G ?a10 ?l10 ?c10 ?k10 ?b10
      (case a10=>k_is);(case l10=>k_is);(case c10=>k_is);(case k10=>k_is)
      exact fun _ _ _ _ _ _=>My.e3 fun _ _ _=>rfl
    have D_l_asked:L2.Df (L2.KOf KX) mg "_law_asked" My.zbM ["yard","stand","row"]:=by
      dsimp only [L2.KOf]
      refine' L2.zD KX G ?a11 ?l11 ?c11 ?k11 ?b11
      (case a11=>k_is);(case l11=>k_is);(case c11=>k_is);(case k11=>k_is)
      exact fun _ _ _ _ _ _=>My.e3 fun _ _ _=>rfl
    have D_done:L2.Df (L2.KOf KX) mg "done" My.ze8 ["yard","stand","deed"]:=by
      dsimp only [L2.KOf]
      refine' L2.zD KX G ?a12 ?l12 ?c12 ?k12 ?b12
      (case a12=>k_is);(case l12=>k_is);(case c12=>k_is);(case k12=>k_is)
      exact fun _ _ _ _ _ _=>My.e3 fun _ _ _=>rfl
    have D_l_once:L2.Df (L2.KOf KX) mg "_law_once" My.zcJ ["yard","stand","deed"]:=by
      dsimp only [L2.KOf]
      refine' L2.zD KX G ?a13 ?l13 ?c13 ?k13 ?b13
      (case a13=>k_is);(case l13=>k_is);(case c13=>k_is);(case k13=>k_is)
      exact fun _ _ _ _ _ _=>My.e3 fun _ _ _=>rfl
    have D_l_far:L2.Df (L2.KOf KX) mg "_law_far" My.zdE ["yard","stand","deed","often"]:=by
      dsimp only [L2.KOf]
      refine' L2.zD KX G ?a14 ?l14 ?c14 ?k14 ?b14
      (case a14=>k_is);(case l14=>k_is);(case c14=>k_is);(case k14=>k_is)
      exact fun _ _ _ _ _ _=>My.e4 fun _ _ _ _=>rfl
    have D_l_next_stand:L2.Df (L2.KOf KX) mg "_law_next_stand" My.yW ["yard","stand","deed","often"]:=by
      dsimp only [L2.KOf]
      refine' L2.zD KX G ?a15 ?l15 ?c15 ?k15 ?b15
      (case a15=>k_is);(case l15=>k_is);(case c15=>k_is);(case k15=>k_is)
      exact fun _ _ _ _ _ _=>My.e4 fun _ _ _ _=>rfl
    have D_l_cell:L2.Df (L2.KOf KX) mg "_law_cell" My.zcL ["script","k"]:=by
      dsimp only [L2.KOf]
      refine' L2.zD KX G ?a16 ?l16 ?c16 ?k16 ?b16
      (case a16=>k_is);(case l16=>k_is);(case c16=>k_is);(case k16=>k_is)
      exact fun _ _ _ _ _ _=>My.e2 fun _ _=>rfl
    have n_range:mg "range" = none:=by
      refine' PySem.W.mg_none_of KX G ?z17
      k_is
    have n_tuple:mg "tuple" = none:=by
      refine' PySem.W.mg_none_of KX G ?z18
      k_is
    have n_max:mg "max" = none:=by
      refine' PySem.W.mg_none_of KX G ?z19
      k_is
    have n_len:mg "len" = none:=by
      refine' PySem.W.mg_none_of KX G ?z20
      k_is
    have n_dict:mg "dict" = none:=by
      refine' PySem.W.mg_none_of KX G ?z21
      k_is
    have n_sorted:mg "sorted" = none:=by
      refine' PySem.W.mg_none_of KX G ?z22
      k_is
    have n_set:mg "set" = none:=by
      refine' PySem.W.mg_none_of KX G ?z23
      k_is
    have n_list:mg "list" = none:=by
      refine' PySem.W.mg_none_of KX G ?z24
      k_is
    have n_enumerate:mg "enumerate" = none:=by
      refine' PySem.W.mg_none_of KX G ?z25
      k_is
    have n_any:mg "any" = none:=by
      refine' PySem.W.mg_none_of KX G ?z26
      k_is
    have n_min:mg "min" = none:=by
      refine' PySem.W.mg_none_of KX G ?z27
      k_is
    have n_isinstance:mg "isinstance" = none:=by
      refine' PySem.W.mg_none_of KX G ?z28
      k_is
    have L:=by
      refine' L2.zl4 (st:=My.zhb) KX G ?la ?ll ?lc ?lk ?lb
      (case la=>k_is);(case ll=>k_is);(case lc=>k_is);(case lk=>k_is)
      exact fun _ _ _ _ _ _ s u=>.of_eq rfl
    obtain ⟨f,fd,F,g,hb⟩:=L
    have e:=hmg.symm.trans g
    cases e
    have T:My.Txt mg:=⟨n_range,n_tuple,n_max,n_len,n_dict,n_sorted,n_set,n_list,n_enumerate,n_any,n_min,n_isinstance⟩
    refine ⟨fd,hb,fun base _ _=>?_⟩
    have x_NoDeed:FT.XcF My.pg w (L2.KOf KX) mg base "NoDeed" (FT.zd1 (L2.KOf KX) "NoDeed"):=by
      dsimp only [L2.KOf]
      refine' FT.zmU (st:=My.zeI) KX G ?a29 ?l29 ?ln29 ?sk29 ?q29 ?no29 ?lw29 ?lwn29 ?sl29 ?ni29 ?lf29 ?cc29 ?kk29 ⟨rfl,rfl,rfl,by decide +kernel,rfl,by decide +kernel,by decide +kernel⟩ rfl rfl rfl ?bd29
      (case a29=>k_is);(case l29=>k_is);(case ln29=>k_is);(case sk29=>exact rfl);(case q29=>k_is);(case no29=>(refine FT.yB ?_ ?_;k_is);(refine FT.yB ?_ ?_;k_is);(refine FT.yB ?_ ?_;k_is);(refine FT.yB ?_ ?_;k_is);exact FT.zfl);(case lw29=>k_is);(case lwn29=>k_is);(case sl29=>exact rfl);(case ni29=>(refine FT.yB ?_ ?_;k_is);(refine FT.yB ?_ ?_;k_is);(refine FT.yB ?_ ?_;k_is);(refine FT.yB ?_ ?_;k_is);(refine FT.yB ?_ ?_;k_is);exact FT.zfl);(case lf29=>k_is);(case cc29=>k_is);(case kk29=>k_is)
      exact fun _ _ _ _ _ _=>My.e2 fun _ _=>rfl
    have yh:=My.yh (P:=My.pg) (w:=w) (base:=base) D_l_next T 
    have zZ:=My.zZ (P:=My.pg) (w:=w) (base:=base) D_l_side T yh
    have zaH:=My.zaH (P:=My.pg) (w:=w) (base:=base) D_l_yard T yh zZ
    have y4:=My.y4 (P:=My.pg) (w:=w) (base:=base) D_l_stand T yh
    have qF:=My.qF (P:=My.pg) (w:=w) (base:=base) D_l_pool T 
    have z5:=My.z5 (P:=My.pg) (w:=w) (base:=base) D_l_often T yh
    have yQ:=My.yQ (P:=My.pg) (w:=w) (base:=base) D_l_rows T qF yh z5
    replace yQ:=FT.CalT.refine yQ (FT.zk0 _) (FT.zk1 _)
    have zbe:=My.zbe (P:=My.pg) (w:=w) (base:=base) D_flows T 
    have z4:=My.z4 (P:=My.pg) (w:=w) (base:=base) D_need_at T 
    have zaG:=My.zaG (P:=My.pg) (w:=w) (base:=base) D_walked T x_NoDeed zbe z4
    have zr:=My.zr (P:=My.pg) (w:=w) (base:=base) D_l_asked T x_NoDeed zaG
    replace zr:=FT.CalT.refine zr (FT.zbx _) (FT.zby _)
    have zb6:=My.zb6 (P:=My.pg) (w:=w) (base:=base) D_done T x_NoDeed
    have yC:=My.yC (P:=My.pg) (w:=w) (base:=base) D_l_once T x_NoDeed zb6
    replace yC:=FT.CalT.refine yC (FT.zbx _) (FT.zby _)
    have yZ:=My.yZ (P:=My.pg) (w:=w) (base:=base) D_l_far T yC
    replace yZ:=FT.CalT.refine yZ (FT.zbx _) (FT.zby _)
    have qt:=My.qt (P:=My.pg) (w:=w) (base:=base) D_l_next_stand T yZ yC
    replace qt:=FT.CalT.refine qt (FT.zbx _) (FT.zby _)
    have qZ:=My.qZ (P:=My.pg) (w:=w) (base:=base) D_l_cell T 
    exact My.zlW F T zaH y4 yQ zr qF qt qZ
  case S=>
    intro K H a ns hl _ hS
    obtain ⟨M,h⟩:=My.law_true (FT.zd1 K "NoDeed") ns hl
    exact FT.zkD hS h
  case C=>exact fun _ _ _ _ z=>z